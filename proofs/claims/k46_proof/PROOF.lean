import PyProof.Rows.All
import Wide.All
import OpenK.AllK
import Wide.FinOn
import HandS.ForMost
import HandS.Evl
import HandS.IsInst
import HandS.FStr
import HandS.WideBits
import HandS.Wide
import HandS.EndBits
import HandS.Exc
import HandS.TupAny
import PyProof.StrOps2
import HandS.ExcOwn
import HandS.ExcIs
import HandS.ExcCtx
import HandS.SuiteRaise
import HandS.RaiseFrom
import HandS.ExcValue
import HandS.ExcValueFrom
import HandS.WordsExc
import HandS.Replace
import HandS.ReplaceLit
import HandS.NoneIn
import HandS.StrMore
import HandS.TupLe
import HandS.Sort
import HandS.SortKw
import HandS.Lambda
import HandS.EndTab
import KE.KNestM
import KE.SortKeyHeap
import KE.SortData
import HandS.Iter
import KE.GoesMore
import KE.GoesEnum
import HandS.SetTxt0
import HandS.Set
import HandS.Strs
import HandS.Star
import HandS.Zip
import KE.KDictZip
import HandS.ExcInit
import HandS.ExcField
import HandS.Nested
import KE.KExcSuper
import KE.KSuper
import KE.KExcIs
import HandS.Iter
import HandS.More
import HandS.Conv
import HandS.SortInts
import PySem.Challenge.RW_versiontables_k46_follow


set_option Elab.async false
set_option linter.all false
set_option maxRecDepth 100000
set_option maxHeartbeats 400000

namespace Vt
open PySem PySem.Spec PyProof.Rows L2 Evl

def topS (i : Nat) : Stmt := PySem.Challenge.pw_versiontables_k46_follow.main.body.getD i (.Pass ⟨0, 0, 0, 0⟩)

abbrev s_Book___init : Stmt := inClass (topS 31) 0

theorem sc_Book___init : FnScope ["self"] ["self"] (defScope s_Book___init) := ⟨rfl, rfl, rfl, by decide +kernel, rfl, by decide +kernel, by decide +kernel⟩

abbrev s_Chunks___init : Stmt := inClass (topS 33) 0

theorem sc_Chunks___init : FnScope ["self", "book"] ["self", "book"] (defScope s_Chunks___init) := ⟨rfl, rfl, rfl, by decide +kernel, rfl, by decide +kernel, by decide +kernel⟩

abbrev s_Chunks_drop : Stmt := inClass (topS 33) 4

theorem sc_Chunks_drop : FnScope ["self", "address"] ["self", "address"] (defScope s_Chunks_drop) := ⟨rfl, rfl, rfl, by decide +kernel, rfl, by decide +kernel, by decide +kernel⟩

abbrev s_law_cell : Stmt := topS 35

theorem sc_law_cell : FnScope ["script", "k"] ["script", "k"] (defScope s_law_cell) := ⟨rfl, rfl, rfl, by decide +kernel, rfl, by decide +kernel, by decide +kernel⟩

abbrev s_law_numbers : Stmt := topS 36

theorem sc_law_numbers : FnScope ["cell", "count", "numbers", "k", "mixed"] ["cell", "count"] (defScope s_law_numbers) := ⟨rfl, rfl, rfl, by decide +kernel, rfl, by decide +kernel, by decide +kernel⟩

abbrev s_Book_address : Stmt := inClass (topS 31) 1

theorem sc_Book_address : FnScope ["self", "text"] ["self", "text"] (defScope s_Book_address) := ⟨rfl, rfl, rfl, by decide +kernel, rfl, by decide +kernel, by decide +kernel⟩

abbrev s_Chunks_put : Stmt := inClass (topS 33) 1

theorem sc_Chunks_put : FnScope ["self", "text", "address"] ["self", "text"] (defScope s_Chunks_put) := ⟨rfl, rfl, rfl, by decide +kernel, rfl, by decide +kernel, by decide +kernel⟩

abbrev s_encode : Stmt := topS 12

theorem sc_encode : FnScope ["item", "part"] ["item"] (defScope s_encode) := ⟨rfl, rfl, rfl, by decide +kernel, rfl, by decide +kernel, by decide +kernel⟩

abbrev s_law_same : Stmt := topS 38

theorem sc_law_same : FnScope ["actual", "due", "k"] ["actual", "due"] (defScope s_law_same) := ⟨rfl, rfl, rfl, by decide +kernel, rfl, by decide +kernel, by decide +kernel⟩

abbrev s_Chunks_get : Stmt := inClass (topS 33) 2

theorem sc_Chunks_get : FnScope ["self", "address"] ["self", "address"] (defScope s_Chunks_get) := ⟨rfl, rfl, rfl, by decide +kernel, rfl, by decide +kernel, by decide +kernel⟩

abbrev s_sign_at : Stmt := topS 20

theorem sc_sign_at : FnScope ["text", "index"] ["text", "index"] (defScope s_sign_at) := ⟨rfl, rfl, rfl, by decide +kernel, rfl, by decide +kernel, by decide +kernel⟩

abbrev s_end_of_digits : Stmt := topS 19

theorem sc_end_of_digits : FnScope ["text", "first", "most", "closing", "index", "sign", "count"] ["text", "first", "most", "closing"] (defScope s_end_of_digits) := ⟨rfl, rfl, rfl, by decide +kernel, rfl, by decide +kernel, by decide +kernel⟩

abbrev s_read_integer : Stmt := topS 16

theorem sc_read_integer : FnScope ["text", "index", "first", "end"] ["text", "index"] (defScope s_read_integer) := ⟨rfl, rfl, rfl, by decide +kernel, rfl, by decide +kernel, by decide +kernel⟩

abbrev s_read_text : Stmt := topS 17

theorem sc_read_text : FnScope ["text", "index", "end", "start", "stop"] ["text", "index"] (defScope s_read_text) := ⟨rfl, rfl, rfl, by decide +kernel, rfl, by decide +kernel, by decide +kernel⟩

abbrev s_read_tuple : Stmt := topS 18

theorem sc_read_tuple : FnScope ["text", "index", "level", "parts", "part"] ["text", "index", "level"] (defScope s_read_tuple) := ⟨rfl, rfl, rfl, by decide +kernel, rfl, by decide +kernel, by decide +kernel⟩

abbrev s_read_item : Stmt := topS 15

theorem sc_read_item : FnScope ["text", "index", "level", "sign"] ["text", "index", "level"] (defScope s_read_item) := ⟨rfl, rfl, rfl, by decide +kernel, rfl, by decide +kernel, by decide +kernel⟩

abbrev s_decode_prefix : Stmt := topS 13

theorem sc_decode_prefix : FnScope ["text", "index"] ["text", "index"] (defScope s_decode_prefix) := ⟨rfl, rfl, rfl, by decide +kernel, rfl, by decide +kernel, by decide +kernel⟩

abbrev s_decode : Stmt := topS 14

theorem sc_decode : FnScope ["text", "item", "end"] ["text"] (defScope s_decode) := ⟨rfl, rfl, rfl, by decide +kernel, rfl, by decide +kernel, by decide +kernel⟩

abbrev s_write_state : Stmt := topS 22

theorem sc_write_state : FnScope ["chunks", "tables", "ordered"] ["chunks", "tables"] (defScope s_write_state) := ⟨rfl, rfl, rfl, by decide +kernel, rfl, by decide +kernel, by decide +kernel⟩

abbrev s_write_commit : Stmt := topS 24

theorem sc_write_commit : FnScope ["chunks", "state", "parents", "message"] ["chunks", "state", "parents", "message"] (defScope s_write_commit) := ⟨rfl, rfl, rfl, by decide +kernel, rfl, by decide +kernel, by decide +kernel⟩

abbrev s_root_commit : Stmt := topS 26

theorem sc_root_commit : FnScope ["chunks"] ["chunks"] (defScope s_root_commit) := ⟨rfl, rfl, rfl, by decide +kernel, rfl, by decide +kernel, by decide +kernel⟩

abbrev s_read_commit : Stmt := topS 25

theorem sc_read_commit : FnScope ["chunks", "commit"] ["chunks", "commit"] (defScope s_read_commit) := ⟨rfl, rfl, rfl, by decide +kernel, rfl, by decide +kernel, by decide +kernel⟩

abbrev s_follow : Stmt := topS 29

theorem sc_follow : FnScope ["chunks", "commit", "steps", "step", "parents", "place"] ["chunks", "commit", "steps"] (defScope s_follow) := ⟨rfl, rfl, rfl, by decide +kernel, rfl, by decide +kernel, by decide +kernel⟩

abbrev s_law_history : Stmt := topS 37

theorem sc_law_history : FnScope ["chunks", "script", "first", "count", "state", "root", "commits", "above", "k", "numbers", "reach", "parents", "other", "address"] ["chunks", "script", "first", "count", "state"] (defScope s_law_history) := ⟨rfl, rfl, rfl, by decide +kernel, rfl, by decide +kernel, by decide +kernel⟩

abbrev s_law_walk : Stmt := topS 39

theorem sc_law_walk : FnScope ["above", "tip", "steps", "step", "place"] ["above", "tip", "steps"] (defScope s_law_walk) := ⟨rfl, rfl, rfl, by decide +kernel, rfl, by decide +kernel, by decide +kernel⟩

abbrev s_law_told : Stmt := topS 40

theorem sc_law_told : FnScope ["chunks", "tip", "steps", "e"] ["chunks", "tip", "steps"] (defScope s_law_told) := ⟨rfl, rfl, rfl, by decide +kernel, rfl, by decide +kernel, by decide +kernel⟩

abbrev s_law : Stmt := topS 41

theorem sc_law : FnScope ["script", "chunks", "state", "commits", "above", "k", "numbers", "tip", "steps", "number", "due", "e"] ["script"] (defScope s_law) := ⟨rfl, rfl, rfl, by decide +kernel, rfl, by decide +kernel, by decide +kernel⟩

abbrev s_MissingChunk___init : Stmt := inClass (topS 5) 0

theorem sc_MissingChunk___init : NdefX.NScope ["self", "address", "__class__"] ["self", "address"] [Str.ofString "__class__"] (defScope s_MissingChunk___init) := NdefX.nscope_by (by decide +kernel)

/-! ### what is raised -/
theorem okN {P : Program} {w : World} {K : PySem.W.Frag} {mg : Str → Option Value} {base : Heap} {x qual : Str} {st : Stmt} {f : Addr} {fd : FuncData} {N ps : List Str} {k : Nat} {sp : Sp} (F : Fun K x qual st f fd) (S : FnScope N ps (defScope st)) (len : ∀ vs H Q E, sp vs H Q E → vs.length = ps.length)
    (hb : ∀ (cdv : Value) (A : Around) (outer : List Env) (s : Shared) (H : Hp) (vs : List V) (Q : VK) (E : XK), Room k (A.deeper (envOfC qual (defScope st) s.heap.objs.size f cdv)) → sp vs H Q E →
      ∃ t, PSs (cxOf (L2N.CX P w) P w K mg base N qual (defScope st) f cdv A outer s H E) (defBody st) t ∧ t { nx := fun _ H' => Q .non H', rt := Q } (start N vs) H) : FnOk P w K mg base (L2N.CX P w) (k + 1) f fd ps sp := by
  obtain ⟨oc, od, kV, doc, pm, an, cdv, ct, osl, rfl, lk, hcd⟩ := F.ex
  exact fn_of lk hcd S len fun A outer s H vs Q E hr h => hb cdv A outer s H vs Q E hr h
/-- a reading that holds where P does -/
theorem pss_given {X : Cx} {sts : List Stmt} {t : TS} {P : Prop} (h : P → PSs X sts t) : PSs X sts (fun D σ H => P ∧ t D σ H) := ⟨fun pins s σ H D I z => (h z.1).run pins s σ H D I z.2⟩
theorem zc_of {cls : Value} {d : Option Addr} {C : Addr} {oe : Obj} (p : cls = .ref C ∧ d = none) (h : Zc cls d oe) : Zc (.ref C) none oe := by
  obtain ⟨rfl, rfl⟩ := p
  exact h
theorem ev_isE {K : PySem.W.Frag} {D a : Addr} {σ : L2.St} {H : Hp} {te : TE} {c : V} {cv : Value} {b : Bool} (h : Ev te σ H (.ref a)) (hc : ∀ u, RelV c u → u = cv) (hk : PySem.W.kitOne K (.ref D) cv = some b) : Ev (tCB (rIsE K D a) (tCons te (tCons (tC c) tNil))) σ H (.bl b) := fun H1 e Q q =>
  h H1 e _ fun H2 e2 => ⟨c, cv, b, rfl, hc, hk, q H2 e2⟩
theorem s_callE {sp : Sp} {dvs vs : List V} {E : XK} {ta : TA} {σ : L2.St} {H : Hp} {D : Ends} (h : EvA ta σ H vs) (k : ∀ H1 Q, Ex H H1 → sp (vs ++ dvs) H1 Q E) : tRet (tCall sp dvs E ta) D σ H := h H (Ex.refl H) _ fun H1 e1 => k H1 _ e1
theorem q_callE {sp : Sp} {dvs vs : List V} {E : XK} {ta : TA} {σ : L2.St} {H : Hp} {tz : TS} {D : Ends} {i : Nat} (h : EvA ta σ H vs) (k : ∀ H1 Q, Ex H H1 → sp (vs ++ dvs) H1 Q E) : tSeq (tAsg (tCall sp dvs E ta) (gName i)) tz D σ H := h H (Ex.refl H) _ fun H1 e1 => k H1 _ e1
/-- in a try's body -/
theorem s_callT {sp : Sp} {vs : List V} {E : L2.St → XK} {ta : TA} {g : TG} {σ : L2.St} {H : Hp} {D : Ends} (h : EvA ta σ H vs) (k : ∀ H1 Q, Ex H H1 → sp vs H1 Q (E σ)) : tAsg (tCallS sp E ta) g D σ H := h H (Ex.refl H) _ fun H1 e1 => k H1 _ e1
theorem s_dropT {sp : Sp} {vs : List V} {E : L2.St → XK} {ta : TA} {σ : L2.St} {H : Hp} {D : Ends} (h : EvA ta σ H vs) (k : ∀ H1 Q, Ex H H1 → sp vs H1 Q (E σ)) : tDrop (tCallS sp E ta) D σ H := h H (Ex.refl H) _ fun H1 e1 => k H1 _ e1
/-- an own error class, as the text has it -/
structure XcC (K : PySem.W.Frag) (mg : Str → Option Value) (x : Str) (C : Addr) : Prop where
  g : mg x = some (.ref C)
  x : PySem.W.excIn K C [.type "ValueError", .type "Exception", .type "BaseException", .type "object"] "ValueError.__new__" = true
  kp : PySem.W.keepIn K (.ref C) = true
  b : PySem.W.subIn K (.ref C) (.type "BaseException") = some true
  t : PySem.W.typeIn K (.ref C) = some (.type "type")
  s : PySem.W.subIn K (.ref C) (.ref C) = some true
  is : ExcC K C
theorem XcC.self {K : PySem.W.Frag} {mg : Str → Option Value} {x : Str} {C : Addr} (T : XcC K mg x C) : PySem.W.exmOne K (.ref C) (.ref C) = some true := PySem.W.exm_ref T.b T.is.hd T.t T.s
/-! try .. except X as n: .. and further clauses; what is raised is X's -/
def wAs1 (K : PySem.W.Frag) (c : Value) (i : Nat) (ts : Addr → Value → Option Addr → TS) (D : Ends) : WX := fun cls d σ H =>
  PySem.W.exmOne K cls c = some true ∧ ∀ a, H a = none → ts a cls d { nx := fun _ _ => False, rt := D.rt, bk := fun _ _ => False, ct := fun _ _ => False } (σ.set i (some (.ref a))) H
theorem ps_try_as1 {X : Cx} {x n : Str} {c : Value} {i : Nat} {body suite : List Stmt} {b₀ : Stmt} {np pos pos' : Pos} {more : List ExceptHandler} {tb : WX → TS} {ts : Addr → Value → Option Addr → TS}
    (hs : X.stack = X.env :: X.outer) (hf : X.env.frame = some X.env.locals) (hN : X.N.Nodup) (hi : X.N[i]? = some n) (hln : X.env.kindOf n = some .local) (hc : Names X x c)
    (hb : ∀ (W : WX) (pn : List (Addr × Obj)) (xe : Value → Shared → Prop), L2N.Takes (X.tr pn xe) W → PSs (X.tr pn xe) body (tb W))
    (hsu : ∀ (a : Addr) (oe : Obj) (cls : Value) (d : Option Addr) (pn : List (Addr × Obj)), Zc cls d oe → (∃ vs, oe.data = .fields vs) → PSs (X.suite a ((a, oe) :: pn)) (b₀ :: suite) (ts a cls d)) :
    PS X (.Try body (.ExceptHandler (some (.Name x np)) (some n) (b₀ :: suite) pos' :: more) [] [] pos) (fun D σ H => tb (wAs1 X.K c i ts D) D σ H) := by
  refine ⟨fun pins s σ H D I h => ?_⟩
  have ok := I.ok
  have frames : X.A.frames = some (X.env :: X.outer) := by rw [ok.frames, hs]
  refine wpAny_Try_except (wpAny_mono ((hb (wAs1 X.K c i ts D) (X.pn ++ pins) _ fun u s' z => ?_).run [] s σ H D (I.toTry _) h) (fun f s1 q => ?_) fun e s1 z => z)
  · obtain ⟨a, B, sI, pins', σ', H', cls, d, rfl, J', nb, up, sky, na, os, ag, hx, hy⟩ := z
    have J : Inv X pins σ' H' sI := J'.ofTry ok
    have sky' : L2.Sky B (X.env :: X.outer) a (L2N.Zn cls d) X.env.locals s'.heap := by rw [← hs]; exact sky
    show wpAny (model X.prog X.w) X.A (noteFrame (.ref a) X.env) _ _ _
    refine L2N.Sky.land L2N.Zn.steady frames hf sky' fun h3 fl up3 => ?_
    have J3 : Inv X pins σ' H' { s' with heap := h3 } := J.landed nb fl.1 (up.trans up3) os ag
    obtain ⟨o3, v3, g3, z3, d3⟩ := fl.there
    have nfr : a ∉ frs (X.env :: X.outer) := fun hm => by
      obtain ⟨_, o', e', no⟩ := fl.2.2.1.mem hm
      rw [g3] at e'
      cases e'
      exact no _ d3
    have nL : a ≠ X.env.locals := fun y => nfr (List.mem_filterMap.mpr ⟨X.env, List.mem_cons_self, by rw [hf, y]⟩)
    have nF : a ∉ X.fs := fun hm => by
      obtain ⟨e, he, q⟩ := List.mem_filterMap.mp hm
      exact nfr (List.mem_filterMap.mpr ⟨e, List.mem_cons_of_mem _ he, q⟩)
    have S3 := J3.suite g3 d3 na nL nF
    have LT : PySem.W.Looks (model X.prog X.w) h3 (typeOf (.ref a)) cls := fun A Q E s k q => wpAny_typeOf_ref (k _ _ g3) (by rw [z3.1]; exact q)
    have LM := PySem.W.exm_one (M := model X.prog X.w) J3.kIn LT hx
    refine wpAny_handleBy_cons (codeAny_handlers_test ?_) (by intro q; cases q)
    have test : ∀ {Q : Value → Shared → Prop} {E : Value → Shared → Prop}, Q c { s' with heap := h3 } → wpAny (model X.prog X.w) (X.A.mark (some (.ref a))) (eval (.Name x np) X.env) Q E { s' with heap := h3 } := fun q => by
      obtain ⟨hg, hd, hm | ⟨hm, hv, hn⟩⟩ := hc
      · exact ld_glob (X := X.suite a ((a, o3) :: (X.pn ++ pins))) S3 hg hm q hd
      · exact ld_blt (X := X.suite a ((a, o3) :: (X.pn ++ pins))) S3 hg hm hv q hn hd
    refine test (LM.here (codeAny_handlers_suite_as (HandSPX.lands_againZ fl fun h4 fl4 up4 => ?_)))
    have J4 : Inv X pins σ' H' { s' with heap := h4 } := J.landed nb fl4.1 ((up.trans up3).trans up4) os ag
    obtain ⟨o4, v4, g4, z4, d4⟩ := fl4.there
    refine store_ok (X := X.suite a ((a, o4) :: (X.pn ++ pins))) (v := .ref a) (J4.suite g4 d4 na nL nF) hN hi (.inl hln) rfl (fun s5 S5 => ?_) (.inr hln)
    refine wpAny_mono ((hsu a o4 cls d (X.pn ++ pins) ⟨z4.1, z4.2.1⟩ ⟨_, d4⟩).run [] s5 _ H' _ S5 (hy a na)) (fun f s6 q => ?_) (fun _ _ z => z.elim)
    cases f with
    | next =>
      obtain ⟨_, _, _, z⟩ := q
      exact z.elim
    | brk =>
      obtain ⟨_, _, _, z⟩ := q
      exact z.elim
    | cont =>
      obtain ⟨_, _, _, z⟩ := q
      exact z.elim
    | ret u =>
      obtain ⟨v6, σ6, H6, S6, r6, q6⟩ := q
      exact gone_ok (S6.unsuite ok) hN hi hln fun s7 J7 => ⟨_, _, _, J7, r6, q6⟩
  · cases f with
    | next =>
      obtain ⟨σ', H', J', z⟩ := q
      exact wpAny_execs_nil ⟨σ', H', J'.ofTry ok, z⟩
    | brk =>
      obtain ⟨σ', H', J', z⟩ := q
      exact ⟨σ', H', J'.ofTry ok, z⟩
    | cont =>
      obtain ⟨σ', H', J', z⟩ := q
      exact ⟨σ', H', J'.ofTry ok, z⟩
    | ret u =>
      obtain ⟨v, σ', H', J', r, z⟩ := q
      exact ⟨v, σ', H', J'.ofTry ok, r, z⟩
/-- as ps_try_as1, for what was raised while another error was handled -/
theorem ps_try_as2 {X : Cx} {x n : Str} {c : Value} {i : Nat} {body suite : List Stmt} {b₀ : Stmt} {np pos pos' : Pos} {more : List ExceptHandler} {tb : WX → TS} {ts : Addr → Value → Option Addr → TS}
    (hs : X.stack = X.env :: X.outer) (hf : X.env.frame = some X.env.locals) (hN : X.N.Nodup) (hi : X.N[i]? = some n) (hln : X.env.kindOf n = some .local) (hc : Names X x c)
    (hb : ∀ (W : WX) (pn : List (Addr × Obj)) (xe : Value → Shared → Prop), L2.Takes (X.tr pn xe) W → PSs (X.tr pn xe) body (tb W))
    (hsu : ∀ (a : Addr) (oe : Obj) (cls : Value) (d : Option Addr) (pn : List (Addr × Obj)), Zc cls d oe → (∃ vs, oe.data = .fields vs) → PSs (X.suite a ((a, oe) :: pn)) (b₀ :: suite) (ts a cls d)) :
    PS X (.Try body (.ExceptHandler (some (.Name x np)) (some n) (b₀ :: suite) pos' :: more) [] [] pos) (fun D σ H => tb (wAs1 X.K c i ts D) D σ H) := by
  refine ⟨fun pins s σ H D I h => ?_⟩
  have ok := I.ok
  have frames : X.A.frames = some (X.env :: X.outer) := by rw [ok.frames, hs]
  refine wpAny_Try_except (wpAny_mono ((hb (wAs1 X.K c i ts D) (X.pn ++ pins) _ fun u s' z => ?_).run [] s σ H D (I.toTry _) h) (fun f s1 q => ?_) fun e s1 z => z)
  · obtain ⟨a, B, sI, pins', σ', H', cls, d, rfl, J', nb, up, sky, na, os, ag, hx, hy⟩ := z
    have J : Inv X pins σ' H' sI := J'.ofTry ok
    have sky' : L2.Sky B (X.env :: X.outer) a (Zc cls d) X.env.locals s'.heap := by rw [← hs]; exact sky
    show wpAny (model X.prog X.w) X.A (noteFrame (.ref a) X.env) _ _ _
    refine L2.Sky.land Zc.steady frames hf sky' fun h3 fl up3 => ?_
    have J3 : Inv X pins σ' H' { s' with heap := h3 } := J.landed nb fl.1 (up.trans up3) os ag
    obtain ⟨o3, v3, g3, z3, d3⟩ := fl.there
    have nfr : a ∉ frs (X.env :: X.outer) := fun hm => by
      obtain ⟨_, o', e', no⟩ := fl.2.2.1.mem hm
      rw [g3] at e'
      cases e'
      exact no _ d3
    have nL : a ≠ X.env.locals := fun y => nfr (List.mem_filterMap.mpr ⟨X.env, List.mem_cons_self, by rw [hf, y]⟩)
    have nF : a ∉ X.fs := fun hm => by
      obtain ⟨e, he, q⟩ := List.mem_filterMap.mp hm
      exact nfr (List.mem_filterMap.mpr ⟨e, List.mem_cons_of_mem _ he, q⟩)
    have S3 := J3.suite g3 d3 na nL nF
    have LT : PySem.W.Looks (model X.prog X.w) h3 (typeOf (.ref a)) cls := fun A Q E s k q => wpAny_typeOf_ref (k _ _ g3) (by rw [z3.1]; exact q)
    have LM := PySem.W.exm_one (M := model X.prog X.w) J3.kIn LT hx
    refine wpAny_handleBy_cons (codeAny_handlers_test ?_) (by intro q; cases q)
    have test : ∀ {Q : Value → Shared → Prop} {E : Value → Shared → Prop}, Q c { s' with heap := h3 } → wpAny (model X.prog X.w) (X.A.mark (some (.ref a))) (eval (.Name x np) X.env) Q E { s' with heap := h3 } := fun q => by
      obtain ⟨hg, hd, hm | ⟨hm, hv, hn⟩⟩ := hc
      · exact ld_glob (X := X.suite a ((a, o3) :: (X.pn ++ pins))) S3 hg hm q hd
      · exact ld_blt (X := X.suite a ((a, o3) :: (X.pn ++ pins))) S3 hg hm hv q hn hd
    refine test (LM.here (codeAny_handlers_suite_as (HandSPX.lands_againZ fl fun h4 fl4 up4 => ?_)))
    have J4 : Inv X pins σ' H' { s' with heap := h4 } := J.landed nb fl4.1 ((up.trans up3).trans up4) os ag
    obtain ⟨o4, v4, g4, z4, d4⟩ := fl4.there
    refine store_ok (X := X.suite a ((a, o4) :: (X.pn ++ pins))) (v := .ref a) (J4.suite g4 d4 na nL nF) hN hi (.inl hln) rfl (fun s5 S5 => ?_) (.inr hln)
    refine wpAny_mono ((hsu a o4 cls d (X.pn ++ pins) z4 ⟨_, d4⟩).run [] s5 _ H' _ S5 (hy a na)) (fun f s6 q => ?_) (fun _ _ z => z.elim)
    cases f with
    | next =>
      obtain ⟨_, _, _, z⟩ := q
      exact z.elim
    | brk =>
      obtain ⟨_, _, _, z⟩ := q
      exact z.elim
    | cont =>
      obtain ⟨_, _, _, z⟩ := q
      exact z.elim
    | ret u =>
      obtain ⟨v6, σ6, H6, S6, r6, q6⟩ := q
      exact gone_ok (S6.unsuite ok) hN hi hln fun s7 J7 => ⟨_, _, _, J7, r6, q6⟩
  · cases f with
    | next =>
      obtain ⟨σ', H', J', z⟩ := q
      exact wpAny_execs_nil ⟨σ', H', J'.ofTry ok, z⟩
    | brk =>
      obtain ⟨σ', H', J', z⟩ := q
      exact ⟨σ', H', J'.ofTry ok, z⟩
    | cont =>
      obtain ⟨σ', H', J', z⟩ := q
      exact ⟨σ', H', J'.ofTry ok, z⟩
    | ret u =>
      obtain ⟨v, σ', H', J', r, z⟩ := q
      exact ⟨v, σ', H', J'.ofTry ok, r, z⟩
/-- raise X('..') from None in an except suite -/
theorem ps_raiseFN {X : Cx} {W : WX} {x m : Str} {C : Addr} {j j2 : Nat} {p p2 pos cpos pos2 : Pos} (hot : L2H.HotC X) (tk : L2.Takes X W) (T : XcC X.K X.mg x C) (hx : X.ex = []) (hg : Gl X x) (hdb : (x == ("__debug__" : Str)) = false) :
    PS X (.Raise (some (.Call (.Name x p) [.Constant (.str m) j p2] [] pos)) (some (.Constant .none j2 cpos)) pos2) (fun _ σ H => Ex X.H_0 H ∧ W (.ref C) none σ H) := by
  refine ⟨fun pins s σ H D I h => (L2H.ps_raiseHN hot tk (pmk_ret5 hx (pe_exc1 PySem.F.excBase_ValueError T.x T.g T.kp hg pe_str (by rfl) hdb))).run pins s σ H D I ?_⟩
  exact fun a ha => ⟨a, _, rfl, upd_same, fr0_none (fresh_back h.1 ha), L2.raises_own T.b T.t, by rw [delH_new ha]; exact h.2⟩
theorem _root_.L2.FnOk.both {P : Program} {w : World} {K : PySem.W.Frag} {mg : Str → Option Value} {base : Heap} {CX : CXT} {k : Nat} {f : Addr} {fd : FuncData} {ps : List Str} {sp0 sp1 : Sp} (F0 : FnOk P w K mg base CX0 k f fd ps sp0) (F1 : FnOk P w K mg base CX k f fd ps sp1) : FnOk P w K mg base CX k f fd ps (fun vs H Q E => sp0 vs H Q E ∨ sp1 vs H Q E) :=
  ⟨fun vs H Q E h => h.elim (F0.len vs H Q E) (F1.len vs H Q E), fun A outer s H args us vs Q E hr e0 hb r h => h.elim (fun h => codeAny_mono (F0.run A outer s H args us vs Q E hr e0 hb r h) fun res s' z => by
    cases res with
    | error e => exact False.elim z
    | ok f => cases f <;> exact z) (fun h => F1.run A outer s H args us vs Q E hr e0 hb r h)⟩
theorem s_callEA {sp : Sp} {dvs vs : List V} {E : XK} {ta : TA} {g : TG} {σ : L2.St} {H : Hp} {D : Ends} (h : EvA ta σ H vs) (k : ∀ H1 Q, Ex H H1 → sp (vs ++ dvs) H1 Q E) : tAsg (tCall sp dvs E ta) g D σ H := h H (Ex.refl H) _ fun H1 e1 => k H1 _ e1
theorem s_ifX {sp : Sp} {dvs vs : List V} {E : XK} {ta : TA} {tb : TE} {r : R2} {tu tw : TS} {σ : L2.St} {H : Hp} {D : Ends} (h : EvA ta σ H vs) (k : ∀ H1 Q, Ex H H1 → sp (vs ++ dvs) H1 Q E) : tIfS (tTest (tOp r (tCall sp dvs E ta) tb)) tu tw D σ H := h H (Ex.refl H) _ fun H1 e1 => k H1 _ e1
theorem t_testX {sp : Sp} {dvs vs : List V} {E : XK} {ta : TA} {tb : TE} {r : R2} {σ : L2.St} {H : Hp} {Q : Bool → Hp → Prop} (h : EvA ta σ H vs) (k : ∀ H1 Q, Ex H H1 → sp (vs ++ dvs) H1 Q E) : tTest (tOp r (tCall sp dvs E ta) tb) σ H Q := h H (Ex.refl H) _ fun H1 e1 => k H1 _ e1
theorem q_whileX {t : TT} {tu tz : TS} {σ : L2.St} {H : Hp} {D : Ends} (W : Nat → L2.St → Hp → Prop) (m0 : Nat) (h0 : W m0 σ H)
    (hs : ∀ m σ' H', W m σ' H' → t σ' H' fun b H1 => if b = true then ∃ N : L2.St → Hp → Prop, (∀ σ2 H2, N σ2 H2 → ∃ m', m' < m ∧ W m' σ2 H2) ∧ tu { D with nx := N, ct := N, bk := tz D } σ' H1 else tz D σ' H1) : tSeq (tWhile t tu) tz D σ H := ⟨W, ⟨m0, h0⟩, hs⟩
theorem pre_le {xs ys t u : List Nat} (h : xs ++ ys = t ++ u) (hl : t.length ≤ xs.length) : ∃ rest, xs = t ++ rest := by
  have e := congrArg (List.take t.length) h
  rw [List.take_append_of_le_length hl, List.take_left] at e
  have z := (List.take_append_drop t.length xs).symm
  rw [e] at z
  exact ⟨_, z⟩
theorem pre_one {xs t r : List Nat} {y c : Nat} (h : xs ++ [y] = t ++ (c :: r)) : ∃ rest, xs = t ++ rest := by
  refine pre_le h ?_
  have := congrArg List.length h
  simp only [List.length_append, List.length_cons, List.length_nil] at this
  omega


/-! ### super().__init__(..) in an error class over ValueError -/
section
open PySem PySem.W PySem.Spec PyProof.Rows L2
variable {prog : Program} {w : World} {A : Around} {E : Value → Shared → Prop} {h : Heap} {g : Array GenState} {d : Drawn} {t : Nat} {os : OsState}
/-- the bound __init__ is called: the exception's args are laid anew -/
theorem sup_bw {nm q : Str} {C N : Addr} {bs bm : List Value} {hdct : Bool} {sn : List Str} {sub : List Value} {ab : Bool} {col : Option Bool} {dd : Option Addr} {k0 k1 k2 k3 k5 : Option Value} {u e t0 : Addr} {rest : List Value} {Q : Value → Shared → Prop}
    (hC : h.get? C = some (excClassObj nm q C N bs bm hdct sn sub ab col dd k0 k1 k2 k3 k5 "ValueError.__new__")) (he : h.get? e = some (HandSPX.excO C t0)) (hu : h.get? u = some (kxs_mw "ValueError.__init__" e)) (hrest : rest.length ≤ sizeLine)
    (hq : ∀ h' t1, (∀ b o, b ≠ e → h.get? b = some o → h'.get? b = some o) → h'.get? e = some (HandSPX.excO C t1) → Q .none ⟨h', g, d, t, os⟩) :
    wpAny (model prog w) A (call (.ref u) rest) Q E ⟨h, g, d, t, os⟩ := by
  refine wpAny_call (codeAny_of_tree (show wpAny _ A.in1 (callAny (.ref u) ⟨rest, []⟩) _ _ _ from ?_))
  simp only [callAny]
  refine wpAny_bind (m := load u) (wpAny_load hu ?_)
  simp only [show (Value.type "method-wrapper" == Value.type "method" || Value.type "method-wrapper" == Value.type "builtin_function_or_method" || Value.type "method-wrapper" == Value.type "method-wrapper") = true from by decide, if_true]
  refine KFB.if_so (by decide) (wpAny_bind (check_bound_init F.excBase_ValueError.toExcCallFacts hC he rfl (wpAny_bind (wpAny_pure (wpAny_pure ?_)))))
  refine ⟨plainId_quiet F.excBase_ValueError.init.plain _, codeAny_builtin F.excBase_ValueError.initEntry (exc_init_tree (cls := .ref C) (t0 := t0) (dv := none) (c2 := .none) (c3 := .none) (b4 := .bool false) he hrest fun h' k e' _ => ?_)⟩
  exact hq h' h.objs.size k e'
end
section
open PySem PySem.W PySem.Spec PyProof.Rows L2
/-- a body, from some statement on, in the activation that is known -/
def PSA (X : Cx) (body sts : List Stmt) (t : TS) : Prop := ∀ (pins : List (Addr × Obj)) (s : Shared) (σ : L2.St) (H : Hp) (D : Ends), Inv X pins σ H s → t D σ H → _root_.PySem.wpAt (model X.prog X.w) X.A (.func body X.env) (execs sts X.env) (SP X pins D) X.xe s
/-- what the written part says of such an __init__ -/
structure SupK (K : PySem.W.Frag) (prog : Program) (C f cc cda : Addr) : Prop where
  fn : ∃ oc od fd osl ar, K.lookup f = some ⟨oc, od, .func fd, osl⟩ ∧ (fd.params.posonlyargs ++ fd.params.args).head? = some ar ∧ ar.arg = Str.ofString "self"
  code : ∃ ccl cdd vs ccs file tf, K.lookup cda = some ⟨ccl, cdd, .fields vs, ccs⟩ ∧ vs[2]? = some (.str file tf) ∧ (prog.main.file == file) = true
  cell : ∃ cl cld csl, K.lookup cc = some ⟨cl, cld, .cell (some (.ref C)), csl⟩
  init : ks_superIn K C C "__init__" = some (some (.builtin "ValueError.__init__"))
  tp : nsIn K cStatics "thirdparty.any" = some none
  mro : mroIn K C (.ref C) = some true
  ve : subIn K (.ref C) (.type "ValueError") = some true
/-- super().__init__(e, ..) -/
def tSup (C : Addr) (ta : TA) : TS := fun D σ H => ∃ a : Addr, σ[0]? = some (some (.ref a)) ∧ H a = some (exo a C none) ∧ ta σ H fun vs H1 => vs.length ≤ 1000 ∧ H1 a = some (exo a C none) ∧ D.nx σ H1
theorem pssa_sup {X : Cx} {C f cc cda : Addr} {body rest : List Stmt} {e : Expr} {es : List Expr} {p0 p1 p2 p3 p4 : Pos} {ta : TA} {u : TS} (T : SupK X.K X.prog C f cc cda) (O : OexC X.K C) (hf : X.env.func = some f) (hco : X.env.code = .ref cda) (hcells : X.env.cells.lookup (Str.ofString "__class__") = some cc)
    (hks : X.env.kindOf "super" = some .globalImplicit) (hkc : X.env.kindOf "__class__" = some .free) (hm : X.mg "super" = none) (hself : X.N[0]? = some (Str.ofString "self")) (hkself : X.env.kindOf "self" = some .local) (htop : (X.prog.main.scope.names.lookup (Str.ofString "super")).isSome = false)
    (ha : PA X (e :: es) ta) (hu : PSs X rest u) (he : starEach (e :: es) X.env = (false, eval e X.env) :: starEach es X.env := by rfl) (hpl : (backTo p3 (starEach es X.env)).any (·.1) = false := by rfl)
    (hi : interactive X.env = false := by rfl) (hsw : swapsWith (.Call (.Attribute (.Call (.Name "super" p0) [] [] p1) "__init__" p2) (e :: es) [] p3) none p4.line X.env = pure false := by rfl)
    (hev : eval (.Call (.Attribute (.Call (.Name "super" p0) [] [] p1) "__init__" p2) (e :: es) [] p3) X.env = (do
      let ov ← attributeBase (.Call (.Name "super" p0) [] [] p1) "__init__" X.env (eval (.Call (.Name "super" p0) [] [] p1) X.env)
      standAt p2.atName
      let (f, first) ← holding [ov] (getMethod ov "__init__" (pure false))
      callWith p3 f first (backTo p3 (starEach (e :: es) X.env)) []) := by rfl) :
    PSA X body (.Expr (.Call (.Attribute (.Call (.Name "super" p0) [] [] p1) "__init__" p2) (e :: es) [] p3) p4 :: rest) (tSeq (tSup C ta) u) := by
  intro pins s σ H D I h
  obtain ⟨a, h0, hea, h⟩ := h
  obtain ⟨oc, od, fd, osl, ar, lkf, hhead, harg⟩ := T.fn
  obtain ⟨ccl, cdd, vs, ccs, file, tf, lkc, hvs, hfile⟩ := T.code
  obtain ⟨cl, cld, csl, lkl⟩ := T.cell
  obtain ⟨nm, q, N, bs, bm, sn, sub, ab, col, dd, k0, k1, k2, k3, k5, hC, hbm⟩ := O.cls
  have KX := I.kIn
  refine ks_wpAt_execs_cons (ks_wpAt_Expr_any (ks_wpAt_MethodCall (pl := pure false) ?_ hev) hi hsw)
  refine ks_wpAt_super_base hks hkc rfl hf (KX _ _ lkf) rfl hhead hco (KX _ _ lkc) rfl hvs hfile htop ?_
  obtain ⟨mb, b1, b2⟩ := I.mod.blt
  refine ks_loadName_global I.ok.kind hks (Calls.loadGlobal_builtin (by rw [I.ok.glob]; exact I.mod.glob.keeps I.bk) hm (by rw [I.ok.blt]; exact b1.keeps I.bk) ((b2 _ (by decide)).trans (by decide +kernel : bootBuiltins "super" = some (.type "super"))) ⟨rfl, ?_⟩)
  refine wpAny_loadName_free I.ok.kind hkc hcells ⟨_, KX _ _ lkl, rfl⟩ ?_
  obtain ⟨m, hn, hl⟩ := I.loc
  obtain ⟨w0, rw0, l⟩ := hl 0 _ (.ref a) hself h0 (.inl hkself)
  obtain rfl : w0 = Value.ref a := rw0
  have hma : m (Str.ofString "self") = some (Value.ref a) := by
    rcases l with ⟨_, z⟩ | ⟨z, _⟩
    · exact z
    · rcases z with z | z
      · have y := hkself.symm.trans z
        cases y
      · have y := hkself.symm.trans z
        cases y
  rw [harg]
  refine wpAny_loadName_local I.ok.kind hkself hn hma ?_
  refine ks_wpAny_isType_cls (KX _ _ hC) rfl ⟨rfl, ?_⟩
  obtain ⟨t1, ho⟩ := exo_at I.hok hea
  obtain ⟨hp, gs, dr, tk, os⟩ := s
  refine ks_wpAny_call_super (KX _ _ hC) rfl ho rfl (fun c e => by cases e) (looks_mroIn KX T.mro) fun h' hso k => ?_
  have I1 : Inv X pins σ H ⟨h', gs, dr, tk, os⟩ := I.kept (t' := tk) k
  have hcl : clsIn X.K C = some { name := nm, bases := bs, mro := .ref C :: bm, ns := N, qualname := q, hasDict := true, slotNames := sn, subclasses := sub, abstract := ab, collection := col, hasDel := false } := by unfold clsIn; rw [hC] <;> rfl
  have hin := T.init
  unfold ks_superIn at hin
  rw [hcl] at hin
  have ne : a ≠ C := fun z => by
    have y := ho
    rw [z, KX _ _ hC] at y
    have y2 := congrArg Obj.data (Option.some.inj y)
    cases y2
  have hI : Looks (model X.prog X.w) h' (isInstance (.ref a) (.type "ValueError")) true := (InstAt.type (od := none) ⟨k _ _ ho, rfl, rfl, trivial⟩).andThen (looks_subIn I1.kIn T.ve)
  refine kxs_getMethod kxs_ValueError hso (looks_opaque I1.kIn T.tp) (l₀ := .ref C :: bm) (fun A Q E s k q => wpAny_bind ((looks_clsIn I1.kIn hcl) A _ E s k (wpAny_pure q))) rfl I1.kIn hin hI ne rfl ?_
  have hsz : h'.objs.size ≤ h'.objs.size := Nat.le_refl _
  have I2 : Inv X pins σ H ⟨h'.push (kxs_mw "ValueError.__init__" a), gs, dr, tk + 1, os⟩ := I1.kept (t' := tk + 1) fun b o e => Heap.get?_push_of_some _ e
  have hmw : (h'.push (kxs_mw "ValueError.__init__" a)).get? h'.objs.size = some (kxs_mw "ValueError.__init__" a) := Heap.get?_push_size _ rfl
  have I3 : Inv X (pins ++ pinsAt [h'.objs.size] (h'.push (kxs_mw "ValueError.__init__" a))) σ H ⟨h'.push (kxs_mw "ValueError.__init__" a), gs, dr, tk + 1, os⟩ := I2.pinned (fun b hb => by
    rw [List.mem_singleton.mp hb]
    exact I1.fpOk (Nat.le_refl _) (I1.hok.fresh (Nat.le_refl _))) fun b hb => by
    rw [List.mem_singleton.mp hb]
    exact ⟨_, hmw, fun v z => by cases z⟩
  have hmem := mem_pinsAt (fp := [h'.objs.size]) (List.mem_singleton.mpr rfl) hmw
  refine kxs_callWith (i := "ValueError.__init__") (x := a) (by rw [he]; show (false || (backTo p3 (starEach es X.env)).any (·.1)) = false; rw [hpl] <;> rfl) ?_
  have hargs := ha.run p3 _ _ σ H _ I3 h
  rw [he] at hargs ⊢
  refine Calls.evalArgs_plain (thn hargs fun us s1 hh => ?_)
  obtain ⟨vs2, H1, I4, r1, hz, hea1, q1⟩ := hh
  have hu1 := (I4.pin _ (List.mem_append_right _ (List.mem_append_right _ hmem))).1
  refine ⟨hu1, ?_⟩
  have I5 : Inv X pins σ H1 s1 := I4.unpinned
  obtain ⟨t2, ho2⟩ := exo_at I5.hok hea1
  have hus : us.length ≤ sizeLine := by
    rw [← Paired.length r1, sizeLine_eq]
    omega
  obtain ⟨hp1, g1, d1, tk1, os1⟩ := s1
  refine sup_bw (I5.kIn _ _ hC) ho2 hu1 hus fun h2 t3 kk hx => ?_
  have J := I5.write (t' := tk1) (x := a) (e := a) (o := exo a C none) (by rw [hea1]; exact True.intro) (.inl rfl) kk ⟨_, hx⟩ (exo_ok hx)
  have eu : upd H1 a (exo a C none) = H1 := by
    funext b
    by_cases hb : b = a
    · rw [hb, upd_same, hea1]
    · rw [upd_ne hb]
  rw [eu] at J
  exact wpAt_of_wpAny (hu.run pins _ σ H1 D J q1)
theorem one_look {x y : Str} {c d : Addr} : ([(x, c)] : List (Str × Addr)).lookup y = some d ↔ y = x ∧ d = c := by
  by_cases h : y = x
  · subst h
    simp [List.lookup, eq_comm]
  · have e : (y == x) = false := by simpa using h
    simp [List.lookup, e, h]
/-- the def whose body begins so -/
theorem fn_sup {CX : CXT} {P : Program} {w : World} {K : PySem.W.Frag} {mg : Str → Option Value} {base : Heap} {k : Nat} {f cc cda : Addr} {name qual : Str} {params : Arguments} {body : List Stmt} {scope : Scope} {dV kV doc pm ct oc : Value} {an od : Option Addr} {osl : Array (Option Value)} {N ps : List Str} {sp : Sp}
    (lk : K.lookup f = some ⟨oc, od, .func (fnX name qual params body scope [(Str.ofString "__class__", cc)] dV kV doc pm an (.ref cda) ct), osl⟩) (hcd : codeIn K (.ref cda) qual = true) (S : NdefX.NScope N ps [Str.ofString "__class__"] scope)
    (hcell : ∃ cl cld v csl, K.lookup cc = some ⟨cl, cld, .cell (some v), csl⟩)
    (len : ∀ vs H Q E, sp vs H Q E → vs.length = ps.length)
    (hbody : ∀ (A : Around) (outer : List Env) (s : Shared) (H : Hp) (vs : List V) (Q : VK) (E : XK), Room k (A.deeper (NdefX.envF ⟨name, qual, params, body, scope, [(Str.ofString "__class__", cc)], cda⟩ f s.heap.objs.size)) → sp vs H Q E →
      ∃ t, PSA (NdefX.ncx CX P w K mg base N ⟨name, qual, params, body, scope, [(Str.ofString "__class__", cc)], cda⟩ f A outer s H E) body body t ∧ t { nx := fun _ H' => Q .non H', rt := Q } (NdefX.startF N vs [none]) H) :
    FnOk P w K mg base CX (k + 1) f (fnX name qual params body scope [(Str.ofString "__class__", cc)] dV kV doc pm an (.ref cda) ct) ps sp := by
  refine ⟨len, fun A outer s H args us vs Q E hr e0 hb r hsp => ?_⟩
  have hl := len _ _ _ _ hsp
  have KX : K.In s.heap := e0.mod.kin.keeps fun b o e => (e0.bs b o e).1
  have lim : s.heap.NoLimit := e0.mod.nolimit.keeps fun b o e => (e0.bs b o e).1
  obtain ⟨cl, cld, v0, csl, lkl⟩ := hcell
  have hloc : ∀ y ∈ ps.zip us, scope.names.lookup y.1 = some .local := fun ⟨n, v⟩ hy => S.par n (List.of_mem_zip hy).1
  refine ks_codeAny_call_defAt (fd := fnX name qual params body scope [(Str.ofString "__class__", cc)] dV kV doc pm an (.ref cda) ct) hr.depth (KX _ _ lk) rfl lim (codeRec_of KX hcd) rfl hb S.nocell hloc (fun h₀ hns kp => ?_) S.co S.gen S.kind
  obtain ⟨t, ht, hq⟩ := hbody A outer s H vs Q E (hr.deeper _) hsp
  have C : NdefX.CellsAt [(Str.ofString "__class__", cc)] [Str.ofString "__class__"] [none] s.heap H := {
    len := rfl
    all := fun y c e => by
      rw [(one_look.mp e).2]
      exact ⟨(e0.bs _ _ (e0.mod.kin _ _ lkl)).2, _, _, KX _ _ lkl, rfl⟩
    inj := fun x y c e1 e2 => (one_look.mp e1).1.trans (one_look.mp e2).1.symm
    has := fun i y hy => by
      have hi : i < 1 := (List.getElem?_eq_some_iff.mp hy).1
      obtain rfl : i = 0 := by omega
      have hy2 : Str.ofString "__class__" = y := Option.some.inj hy
      subst hy2
      exact ⟨cc, one_look.mpr ⟨rfl, rfl⟩, fun v hv => by
        have := Option.some.inj hv
        cases this⟩ }
  have I : Inv (NdefX.ncx CX P w K mg base N ⟨name, qual, params, body, scope, [(Str.ofString "__class__", cc)], cda⟩ f A outer s H E) [] (NdefX.startF N vs [none]) H { s with heap := h₀, toks := s.toks + (ps.zip us).length } := NdefX.inv_startN S hr.hd e0 hl r C hns kp
  refine ks_wpAt_mono (ht [] _ (NdefX.startF N vs [none]) H _ I hq) (fun fl s' hs => ?_) fun e s' hs => hs
  have fin : ∀ {σ' : L2.St} {H' : Hp} {v : V} {u : Value}, Inv (NdefX.ncx CX P w K mg base N ⟨name, qual, params, body, scope, [(Str.ofString "__class__", cc)], cda⟩ f A outer s H E) [] σ' H' s' → L2.RelV v u → Q v H' → CE outer P w H s Q u s' :=
    fun {σ' H' v u} J rv q => ⟨v, H', J.os, J.bare, J.base, J.hok, rv, q⟩
  cases fl with
  | ret u =>
    obtain ⟨v, σ', H', J, rv, q⟩ := hs
    exact fin J rv q
  | next =>
    obtain ⟨σ', H', J, q⟩ := hs
    exact fin (v := V.non) (u := Value.none) J rfl q
  | brk =>
    obtain ⟨_, _, _, q⟩ := hs
    exact False.elim q
  | cont =>
    obtain ⟨_, _, _, q⟩ := hs
    exact False.elim q
end


/-! ### an own error class with an own __init__ that begins with super().__init__(..) -/
section
open PySem PySem.W PySem.Spec PyProof.Rows L2
structure XiC (K : PySem.W.Frag) (mg : Str → Option Value) (x : Str) (C : Addr) : Prop where
  g : mg x = some (.ref C)
  o : OexC K C
  s : PySem.W.subIn K (.ref C) (.ref C) = some true
  is : ExcC K C
theorem XiC.self {K : PySem.W.Frag} {mg : Str → Option Value} {x : Str} {C : Addr} (T : XiC K mg x C) : PySem.W.exmOne K (.ref C) (.ref C) = some true := PySem.W.exm_ref T.is.hs T.is.hd T.o.tyC T.s
theorem XiC.xf {K : PySem.W.Frag} {mg : Str → Option Value} {x : Str} {C : Addr} (T : XiC K mg x C) : XfC K C := ⟨T.is.hg, T.is.hk, T.is.hs, T.is.hd⟩
def oexB (K : PySem.W.Frag) (C : Addr) : Bool := match K.lookup C with
  | some ⟨.type "type", _, .cls cd, sl⟩ => (match cd.mro, sl.toList with
    | .ref C' :: bm, [_, _, _, _, some (.builtin n), _] => C' == C && n == "ValueError.__new__" && !cd.hasDel && cd.hasDict && PySem.HandSPX.refsVE bm
    | _, _ => false)
  | _ => false
theorem oexB_ok {K : PySem.W.Frag} {C : Addr} (q : oexB K C = true) : ∃ nm q N bs bm sn sub ab col dd k0 k1 k2 k3 k5, K.lookup C = some (excClassObj nm q C N bs bm true sn sub ab col dd k0 k1 k2 k3 k5 "ValueError.__new__") ∧ PySem.HandSPX.refsVE bm = true := by
  unfold oexB at q
  split at q
  · rename_i dd cd sl ho
    split at q
    · rename_i C' bm k0 k1 k2 k3 n k5 hm hs
      simp only [Bool.and_eq_true, beq_iff_eq, Bool.not_eq_true'] at q
      obtain ⟨⟨⟨⟨rfl, rfl⟩, hdel⟩, hdct⟩, ht⟩ := q
      obtain ⟨nm, bs, mro, ns, qn, hd, sn, sub, ab, col, del⟩ := cd
      dsimp only at hm hdel hdct
      subst hm hdel hdct
      have hsl : sl = #[k0, k1, k2, k3, some (.builtin "ValueError.__new__"), k5] := by
        obtain ⟨l⟩ := sl
        simp only at hs
        rw [hs]
      subst hsl
      exact ⟨nm, qn, ns, bs, bm, sn, sub, ab, col, dd, k0, k1, k2, k3, k5, ho, ht⟩
    · cases q
  · cases q
def supB (K : PySem.W.Frag) (prog : Program) (C cc cda : Addr) : Bool :=
  (match K.lookup cda with
  | some ⟨_, _, .fields vs, _⟩ => (match (vs[2]? : Option Value) with | some (.str file _) => prog.main.file == file | _ => false)
  | _ => false) && (match K.lookup cc with
  | some ⟨_, _, .cell (some (.ref C')), _⟩ => C' == C
  | _ => false) && !(prog.main.scope.names.lookup (Str.ofString "super")).isSome
theorem supB_ok {K : PySem.W.Frag} {prog : Program} {C cc cda : Addr} (h : supB K prog C cc cda = true) : (∃ ccl cdd vs ccs file tf, K.lookup cda = some ⟨ccl, cdd, .fields vs, ccs⟩ ∧ vs[2]? = some (.str file tf) ∧ (prog.main.file == file) = true) ∧
    (∃ cl cld csl, K.lookup cc = some ⟨cl, cld, .cell (some (.ref C)), csl⟩) ∧ (prog.main.scope.names.lookup (Str.ofString "super")).isSome = false := by
  unfold supB at h
  simp only [Bool.and_eq_true, Bool.not_eq_true'] at h
  obtain ⟨⟨h1, h2⟩, h3⟩ := h
  refine ⟨?_, ?_, h3⟩
  · split at h1
    · rename_i a b vs c ho
      split at h1
      · rename_i file tf hf
        exact ⟨_, _, _, _, _, _, ho, hf, h1⟩
      · cases h1
    · cases h1
  · split at h2
    · rename_i a b C' c ho
      rw [beq_iff_eq] at h2
      subst h2
      exact ⟨_, _, _, ho⟩
    · cases h2
/-- the def __init__ of such a class -/
structure FunX (K : PySem.W.Frag) (prog : Program) (qual : Str) (st : Stmt) (C f : Addr) (fd : FuncData) : Prop where
  ex : ∃ (oc : Value) (od : Option Addr) (kV doc pm : Value) (an : Option Addr) (cc cda : Addr) (ct : Value) (osl : Array (Option Value)),
    fd = PySem.W.fnX "__init__" qual (defArgs st) (defBody st) (defScope st) [(Str.ofString "__class__", cc)] .none kV doc pm an (.ref cda) ct ∧ K.lookup f = some ⟨oc, od, .func fd, osl⟩ ∧ PySem.W.codeIn K (.ref cda) qual = true ∧ SupK K prog C f cc cda
  iC : PySem.W.findIn K (.ref C) "__init__" = some (some (.ref f))
  tI : PySem.W.typeIn K (.ref f) = some (.type "function")
  top : (prog.main.scope.names.lookup (Str.ofString "super")).isSome = false
theorem funX_mk {K : PySem.W.Frag} {prog : Program} {qual : Str} {st : Stmt} {C f cc cda : Addr} {oc : Value} {od an : Option Addr} {osl : Array (Option Value)} {kV doc pm ct : Value} {ar : Arg}
    (l : K.lookup f = some ⟨oc, od, .func (PySem.W.fnX "__init__" qual (defArgs st) (defBody st) (defScope st) [(Str.ofString "__class__", cc)] .none kV doc pm an (.ref cda) ct), osl⟩)
    (c : PySem.W.codeIn K (.ref cda) qual = true) (i : PySem.W.findIn K (.ref C) "__init__" = some (some (.ref f))) (t : PySem.W.typeIn K (.ref f) = some (.type "function")) (b : supB K prog C cc cda = true)
    (hi : PySem.W.ks_superIn K C C "__init__" = some (some (.builtin "ValueError.__init__"))) (tp : PySem.W.nsIn K cStatics "thirdparty.any" = some none) (hm : PySem.W.mroIn K C (.ref C) = some true) (ve : PySem.W.subIn K (.ref C) (.type "ValueError") = some true)
    (h1 : ((defArgs st).posonlyargs ++ (defArgs st).args).head? = some ar) (h2 : ar.arg = Str.ofString "self") : FunX K prog qual st C f (PySem.W.fnX "__init__" qual (defArgs st) (defBody st) (defScope st) [(Str.ofString "__class__", cc)] .none kV doc pm an (.ref cda) ct) := by
  obtain ⟨b1, b2, b3⟩ := supB_ok b
  exact ⟨⟨oc, od, kV, doc, pm, an, cc, cda, ct, osl, rfl, l, c, ⟨⟨oc, od, _, osl, ar, l, h1, h2⟩, b1, b2, hi, tp, hm, ve⟩⟩, i, t, b3⟩
/-- what such an __init__ leaves: one field, its argument -/
def spExI (C : Addr) (f : Str) : Sp := fun vs H Q _ => ∃ (a : Addr) (n : Int), vs = [.ref a, .int n] ∧ H a = some (exo a C none) ∧ n.natAbs.log2 < 1920 ∧ ∀ H1, Evl.Ex H H1 → ∀ dx, H1 dx = none → dx ≠ a → Q .non (upd (upd H1 dx (exd dx [(f, .int n)])) a (exo a C (some dx)))
/-- isinstance(e, c), e held by the suite, with or without fields -/
theorem call_isEi {X : Cx} {a D : Addr} {oe : Obj} {d : Option Addr} {pn : List (Addr × Obj)} (C : ExcC X.K D) (hz : Zc (.ref D) d oe) (hf : ∃ vs, oe.data = .fields vs) :
    CallR (X.suite a ((a, oe) :: pn)) (.builtin "isinstance") (fun xs H Q => (∀ dd, d = some dd → ∃ fs, H dd = some (.xd fs)) ∧ rIsE X.K D a xs H Q) := by
  intro pins s σ H xs us Q I r h
  obtain ⟨hx, c, cv, b, rfl, hcv, e, q⟩ := h
  cases r with
  | cons rx rr =>
    cases rr with
    | cons rt rr =>
      cases rr
      cases rx
      have ec := hcv _ rt
      subst ec
      obtain ⟨hget, _⟩ := I.pin (a, oe) (List.mem_append.mpr (.inl List.mem_cons_self))
      obtain ⟨vs, hv⟩ := hf
      have J : ∃ od, PySem.W.InstAt s.heap a oe D od := by
        obtain ⟨oc, od, oda, osl⟩ := oe
        obtain ⟨h1, h2⟩ := hz
        dsimp only at h1 h2 hv
        subst h1 h2 hv
        cases od with
        | none => exact ⟨none, hget, rfl, rfl, trivial⟩
        | some dd =>
          obtain ⟨fs, ea⟩ := hx dd rfl
          have hx : ObjOk X.prog X.w H s.heap dd (.xd fs) := I.hok dd _ ea
          obtain ⟨mA, hns, hr⟩ := hx
          obtain ⟨od, ho, hl⟩ := lookIn_ns hns
          exact ⟨some od, hget, rfl, rfl, ho⟩
      obtain ⟨od, J⟩ := J
      have hcl : (PySem.W.clsIn X.K D).isSome = true := by
        obtain ⟨cd, hc, _⟩ := PySem.W.any_some C.hd
        rw [hc] <;> rfl
      exact PySem.W.kia_one (PySem.W.kitx_exc hcl C.hg C.hk C.hs C.ha C.hn C.ht C.hm) I.kIn J e (fun z => nomatch z) fun tk => ⟨.bl b, H, I.kept (t' := tk) fun _ _ z => z, rfl, q⟩
theorem ev_isEi {K : PySem.W.Frag} {D a : Addr} {σ : L2.St} {H : Hp} {te : TE} {d : Option Addr} {c : V} {cv : Value} {b : Bool} (h : Evl.Ev te σ H (.ref a)) (hx : ∀ dd, d = some dd → ∃ fs, H dd = some (.xd fs)) (hc : ∀ u, RelV c u → u = cv) (hk : PySem.W.kitOne K (.ref D) cv = some b) :
    Evl.Ev (tCB (fun xs H Q => (∀ dd, d = some dd → ∃ fs, H dd = some (.xd fs)) ∧ rIsE K D a xs H Q) (tCons te (tCons (tC c) tNil))) σ H (.bl b) := fun H1 e Q q =>
  h H1 e _ fun H2 e2 => ⟨fun dd z => by
    obtain ⟨fs, ea⟩ := hx dd z
    exact ⟨fs, (e.trans e2) _ _ ea⟩, c, cv, b, rfl, hc, hk, q H2 e2⟩
/-- e.f of the caught exception -/
theorem ev_xf {a C dd : Addr} {cls : Value} {d : Option Addr} {f : Str} {te : TE} {σ : L2.St} {H : Hp} {fs : List (Str × V)} {v : V} (h : Evl.Ev te σ H (.ref a)) (hc : cls = .ref C) (hd : d = some dd) (hx : H dd = some (.xd fs)) (hf : fs.lookup f = some v) : Evl.Ev (tXf a cls d C f te) σ H v := fun H1 e Q q =>
  h H1 e _ fun H2 e2 => ⟨rfl, hc, dd, fs, v, hd, (e.trans e2) _ _ hx, hf, q H2 e2⟩
end
section
open PySem PySem.W PySem.Spec PyProof.Rows L2
/-- C(e, ..), C's own __init__ keeping sp: what is made has no context yet -/
theorem pmkN_oex {X : Cx} {CX : CXT} {x : Str} {e : Expr} {es : List Expr} {ta : TA} {p pos : Pos} {C fI : Addr} {k : Nat} {fd : FuncData} {ps : List Str} {sp : Sp} (T : OexC X.K C) (iC : PySem.W.findIn X.K (.ref C) "__init__" = some (some (.ref fI))) (tI : PySem.W.typeIn X.K (.ref fI) = some (.type "function"))
    (F1 : FnOk X.prog X.w X.K X.mg X.base CX k fI fd ps sp) (hr : Room (k + 1) X.A) (hb : Binds X.K fd ps []) (hx : Passes CX X (fun _ _ _ => False)) (hg : Gl X x) (hm : X.mg x = some (.ref C)) (ha : PA X (e :: es) ta)
    (hdb : (x == ("__debug__" : Str)) = false := by decide) (he : starEach (e :: es) X.env = (false, eval e X.env) :: starEach es X.env := by rfl) (hpl : (backTo pos (starEach es X.env)).any (·.1) = false := by rfl) :
    L2N.PMk X (.Call (.Name x p) (e :: es) [] pos) (tMkO C sp [] ta) := by
  intro pins s σ H Q I h
  obtain ⟨nm, q, N, bs, bm, sn, sub, ab, col, dd, k0, k1, k2, k3, k5, hC, hbm⟩ := T.cls
  refine wpAny_Call_Name_kw (ld_glob I hg hm ?_ hdb)
  refine PySem.W.callWith_K (h₀ := X.base) I.ok.mod.kin T.kC (thn (ha.run pos pins s σ H _ I h) fun us s1 ⟨vs, H1, I1, r1, hz, q1⟩ => ⟨I1.kIn, ?_⟩) he hpl
  show wpAny _ _ (call (.ref C) us) _ _ _
  obtain ⟨hp, g, dr, tk, os⟩ := s1
  have hsz : hp.objs.size ≤ hp.objs.size + 1 := Nat.le_succ _
  have hn : H1 (hp.objs.size + 1) = none := I1.hok.fresh hsz
  have hq := q1 (hp.objs.size + 1) hn
  have kk : ∀ b o, hp.get? b = some o → ((hp.push (PySem.W.kdv_tup us)).push (PySem.HandSPX.excO C hp.objs.size)).get? b = some o := fun b o e => Heap.get?_push_of_some _ (Heap.get?_push_of_some _ e)
  have hget : ((hp.push (PySem.W.kdv_tup us)).push (PySem.HandSPX.excO C hp.objs.size)).get? (hp.objs.size + 1) = some (PySem.HandSPX.excO C hp.objs.size) := by heap_get
  have I2 : Inv X pins σ (upd H1 (hp.objs.size + 1) (exo (hp.objs.size + 1) C none)) ⟨(hp.push (PySem.W.kdv_tup us)).push (PySem.HandSPX.excO C hp.objs.size), g, dr, tk, os⟩ :=
    I1.laid (t' := tk) (a := hp.objs.size + 1) (o := exo (hp.objs.size + 1) C none) (h' := (hp.push (PySem.W.kdv_tup us)).push (PySem.HandSPX.excO C hp.objs.size)) kk hsz (exo_ok hget)
  have r2 : Vals (V.ref (hp.objs.size + 1) :: (vs ++ [])) (Value.ref (hp.objs.size + 1) :: (us ++ [])) := .cons rfl (r1.append .nil)
  have b2 := hb _ (Value.ref (hp.objs.size + 1) :: us) I2.kIn (by have e := r2.length; rw [F1.len _ _ _ _ hq] at e; exact e.symm)
  rw [List.append_nil] at b2 r2 hq
  rw [List.append_nil] at r2
  have hus : us.length ≤ sizeLine := by
    rw [← Paired.length r1, sizeLine_eq]
    omega
  refine wpAny_call (PySem.HandSPX.call_own F.excBase_ValueError (fun Y => PySem.HandSPX.refsVE_contains Y bm hbm) (I1.kIn _ _ hC) (PySem.W.looks_findIn I1.kIn iC) (fun self => PySem.W.bind_fn I1.kIn self tI) hus
    (codeAny_mono (F1.run _ X.stack _ _ ⟨Value.ref (hp.objs.size + 1) :: us, []⟩ (Value.ref (hp.objs.size + 1) :: us) _ _ (fun _ _ _ => False) (hr.make C us []) (I2.env0.make C us []) b2 r2 hq) fun r s' hq' => ?_))
  cases r with
  | error er => exact hx pins σ _ _ er s' I2 hq'
  | ok fl =>
    cases fl with
    | ret u =>
      obtain ⟨v, H2, os2, bare2, un2, hok2, rv, ev, d, fs, ea, ed, hd1, q2⟩ := hq'
      subst ev
      obtain ⟨h2, g2, d2, t2, os'⟩ := s'
      obtain ⟨t0, G, J, kG, ge, hoe, na⟩ := mk_end0 (d2 := d2) (t2 := t2) I1 hsz kk un2 hok2 os2 bare2 ea ed hd1
      refine ⟨rv, hp.objs.size + 1, _, _, ⟨G, g2, d2, t2, os'⟩, _, .ref C, some d, rfl, J, kG, ge, hoe, ⟨rfl, rfl, fun vs hv => ?_⟩, rfl, rfl, na, rfl, bare2, raises_own T.exC T.tyC, q2⟩
      cases hv
      rfl
    | next => exact False.elim hq'
    | brk => exact False.elim hq'
    | cont => exact False.elim hq'
/-- what a suite holds, for calls within it -/
theorem hotS {X : Cx} {a : Addr} {oe : Obj} {cls : Value} {d : Option Addr} {pn : List (Addr × Obj)} (hz : L2N.Zn cls d oe) (hf : ∃ vs, oe.data = .fields vs) : L2H.HotC (X.suite a ((a, oe) :: pn)) := by
  obtain ⟨vs, hv⟩ := hf
  exact ⟨(a, oe), ⟨rfl, vs, hv, hz.2.2 vs hv⟩, List.mem_cons_self⟩
theorem zc1 {cls : Value} {d : Option Addr} {C : Addr} {oe : Obj} (p : cls = .ref C) (h : L2N.Zn cls d oe) : Zc (.ref C) d oe := by
  subst p
  exact ⟨h.1, h.2.1⟩
theorem takes0N {X : Cx} : L2N.Takes X (fun _ _ _ _ => False) := fun _ _ x => by
  obtain ⟨_, _, _, _, _, _, _, _, _, _, _, _, _, _, _, _, z⟩ := x
  exact z.elim
theorem roomS {k : Nat} {A : Around} (r : Room k A) (h : Option Value) : L2H.RoomH k (A.mark h) := ⟨r.dp, r.un⟩
theorem pass0H {X : Cx} : ∀ σ : L2.St, PassesAt CX0 X σ E0 := fun _ _ _ _ _ _ _ h => h.elim
/-- a def that is called while an exception is handled -/
theorem okH {P : Program} {w : World} {K : PySem.W.Frag} {mg : Str → Option Value} {base : Heap} {x qual : Str} {st : Stmt} {f : Addr} {fd : FuncData} {N ps : List Str} {k : Nat} {sp : Sp} (F : Fun K x qual st f fd) (S : FnScope N ps (defScope st)) (len : ∀ vs H Q E, sp vs H Q E → vs.length = ps.length)
    (hb : ∀ (cdv : Value) (A : Around) (outer : List Env) (s : Shared) (H : Hp) (vs : List V) (Q : VK) (E : XK) (p : Addr × Obj), L2H.RoomH k (A.deeper (envOfC qual (defScope st) s.heap.objs.size f cdv)) → sp vs H Q E →
      ∃ t, PSs (L2H.cxH CX0 P w K mg base N qual (defScope st) f cdv A outer s H E p) (defBody st) t ∧ t { nx := fun _ H' => Q .non H', rt := Q } (start N vs) H) : L2H.FnH P w K mg base CX0 (k + 1) f fd ps sp := by
  obtain ⟨oc, od, kV, doc, pm, an, cdv, ct, osl, rfl, lk, hcd⟩ := F.ex
  exact L2H.fn_ofH lk hcd S len fun A outer s H vs Q E p hot hr h => hb cdv A outer s H vs Q E p hr h
end


structure Txt (K : PySem.W.Frag) (mg : Str → Option Value) (base : Heap) (P : Program) where
  C_MissingChunk : Addr
  e_MissingChunk : XiC K mg "MissingChunk" C_MissingChunk
  kv_MissingChunk : PySem.W.kitOne K (.ref C_MissingChunk) (.type "ValueError") = some true
  f_MissingChunk___init : Addr
  d_MissingChunk___init : FuncData
  F_MissingChunk___init : FunX K P "MissingChunk.__init__" s_MissingChunk___init C_MissingChunk f_MissingChunk___init d_MissingChunk___init
  b_MissingChunk___init : Binds K d_MissingChunk___init ["self", "address"] []
  na_MissingChunk_address : PySem.W.findIn K (.ref C_MissingChunk) "address" = some none
  C_InvalidVersion : Addr
  e_InvalidVersion : XcC K mg "InvalidVersion" C_InvalidVersion
  kv_InvalidVersion : PySem.W.kitOne K (.ref C_InvalidVersion) (.type "ValueError") = some true
  C_UnknownVersion : Addr
  e_UnknownVersion : XcC K mg "UnknownVersion" C_UnknownVersion
  kv_UnknownVersion : PySem.W.kitOne K (.ref C_UnknownVersion) (.type "ValueError") = some true
  C_VersionError : Addr
  g_VersionError : mg "VersionError" = some (.ref C_VersionError)
  ku_InvalidVersion_VersionError : PySem.W.kitOne K (.ref C_InvalidVersion) (.ref C_VersionError) = some true
  ku_UnknownVersion_VersionError : PySem.W.kitOne K (.ref C_UnknownVersion) (.ref C_VersionError) = some true
  ku_MissingChunk_VersionError : PySem.W.kitOne K (.ref C_MissingChunk) (.ref C_VersionError) = some true
  kt_InvalidVersion_UnknownVersion : PySem.W.kitOne K (.ref C_InvalidVersion) (.ref C_UnknownVersion) = some false
  kt_InvalidVersion_MissingChunk : PySem.W.kitOne K (.ref C_InvalidVersion) (.ref C_MissingChunk) = some false
  kt_UnknownVersion_InvalidVersion : PySem.W.kitOne K (.ref C_UnknownVersion) (.ref C_InvalidVersion) = some false
  kt_UnknownVersion_MissingChunk : PySem.W.kitOne K (.ref C_UnknownVersion) (.ref C_MissingChunk) = some false
  kt_MissingChunk_InvalidVersion : PySem.W.kitOne K (.ref C_MissingChunk) (.ref C_InvalidVersion) = some false
  kt_MissingChunk_UnknownVersion : PySem.W.kitOne K (.ref C_MissingChunk) (.ref C_UnknownVersion) = some false
  C_Book : Addr
  g_Book : mg "Book" = some (.ref C_Book)
  cl_Book : Cls K C_Book
  na_Book__addresses : NoAttr K C_Book "_addresses"
  C_Chunks : Addr
  g_Chunks : mg "Chunks" = some (.ref C_Chunks)
  cl_Chunks : Cls K C_Chunks
  na_Chunks_book : NoAttr K C_Chunks "book"
  na_Chunks_reads : NoAttr K C_Chunks "reads"
  na_Chunks__texts : NoAttr K C_Chunks "_texts"
  f_Book___init : Addr
  d_Book___init : FuncData
  F_Book___init : Fun K "__init__" "Book.__init__" s_Book___init f_Book___init d_Book___init
  b_Book___init : Binds K d_Book___init ["self"] []
  mk_Book : Mk K C_Book f_Book___init
  f_Chunks___init : Addr
  d_Chunks___init : FuncData
  F_Chunks___init : Fun K "__init__" "Chunks.__init__" s_Chunks___init f_Chunks___init d_Chunks___init
  b_Chunks___init : Binds K d_Chunks___init ["self", "book"] []
  mk_Chunks : Mk K C_Chunks f_Chunks___init
  f_Chunks_drop : Addr
  d_Chunks_drop : FuncData
  F_Chunks_drop : Fun K "drop" "Chunks.drop" s_Chunks_drop f_Chunks_drop d_Chunks_drop
  b_Chunks_drop : Binds K d_Chunks_drop ["self", "address"] []
  me_Chunks_drop : Meth K C_Chunks "drop" f_Chunks_drop
  f_law_cell : Addr
  d_law_cell : FuncData
  F_law_cell : Fun K "_law_cell" "_law_cell" s_law_cell f_law_cell d_law_cell
  b_law_cell : Binds K d_law_cell ["script", "k"] []
  g_law_cell : mg "_law_cell" = some (.ref f_law_cell)
  f_law_numbers : Addr
  d_law_numbers : FuncData
  F_law_numbers : Fun K "_law_numbers" "_law_numbers" s_law_numbers f_law_numbers d_law_numbers
  b_law_numbers : Binds K d_law_numbers ["cell", "count"] []
  g_law_numbers : mg "_law_numbers" = some (.ref f_law_numbers)
  f_Book_address : Addr
  d_Book_address : FuncData
  F_Book_address : Fun K "address" "Book.address" s_Book_address f_Book_address d_Book_address
  b_Book_address : Binds K d_Book_address ["self", "text"] []
  me_Book_address : Meth K C_Book "address" f_Book_address
  f_Chunks_put : Addr
  d_Chunks_put : FuncData
  F_Chunks_put : Fun K "put" "Chunks.put" s_Chunks_put f_Chunks_put d_Chunks_put
  b_Chunks_put : Binds K d_Chunks_put ["self", "text"] []
  me_Chunks_put : Meth K C_Chunks "put" f_Chunks_put
  f_encode : Addr
  d_encode : FuncData
  F_encode : Fun K "encode" "encode" s_encode f_encode d_encode
  b_encode : Binds K d_encode ["item"] []
  g_encode : mg "encode" = some (.ref f_encode)
  f_law_same : Addr
  d_law_same : FuncData
  F_law_same : Fun K "_law_same" "_law_same" s_law_same f_law_same d_law_same
  b_law_same : Binds K d_law_same ["actual", "due"] []
  g_law_same : mg "_law_same" = some (.ref f_law_same)
  f_Chunks_get : Addr
  d_Chunks_get : FuncData
  F_Chunks_get : Fun K "get" "Chunks.get" s_Chunks_get f_Chunks_get d_Chunks_get
  b_Chunks_get : Binds K d_Chunks_get ["self", "address"] []
  me_Chunks_get : Meth K C_Chunks "get" f_Chunks_get
  f_sign_at : Addr
  d_sign_at : FuncData
  F_sign_at : Fun K "_sign_at" "_sign_at" s_sign_at f_sign_at d_sign_at
  b_sign_at : Binds K d_sign_at ["text", "index"] []
  g_sign_at : mg "_sign_at" = some (.ref f_sign_at)
  f_end_of_digits : Addr
  d_end_of_digits : FuncData
  F_end_of_digits : Fun K "_end_of_digits" "_end_of_digits" s_end_of_digits f_end_of_digits d_end_of_digits
  b_end_of_digits : Binds K d_end_of_digits ["text", "first", "most", "closing"] []
  g_end_of_digits : mg "_end_of_digits" = some (.ref f_end_of_digits)
  f_read_integer : Addr
  d_read_integer : FuncData
  F_read_integer : Fun K "_read_integer" "_read_integer" s_read_integer f_read_integer d_read_integer
  b_read_integer : Binds K d_read_integer ["text", "index"] []
  g_read_integer : mg "_read_integer" = some (.ref f_read_integer)
  f_read_text : Addr
  d_read_text : FuncData
  F_read_text : Fun K "_read_text" "_read_text" s_read_text f_read_text d_read_text
  b_read_text : Binds K d_read_text ["text", "index"] []
  g_read_text : mg "_read_text" = some (.ref f_read_text)
  f_read_tuple : Addr
  d_read_tuple : FuncData
  F_read_tuple : Fun K "_read_tuple" "_read_tuple" s_read_tuple f_read_tuple d_read_tuple
  b_read_tuple : Binds K d_read_tuple ["text", "index", "level"] []
  g_read_tuple : mg "_read_tuple" = some (.ref f_read_tuple)
  f_read_item : Addr
  d_read_item : FuncData
  F_read_item : Fun K "_read_item" "_read_item" s_read_item f_read_item d_read_item
  b_read_item : Binds K d_read_item ["text", "index", "level"] []
  g_read_item : mg "_read_item" = some (.ref f_read_item)
  f_decode_prefix : Addr
  d_decode_prefix : FuncData
  F_decode_prefix : Fun K "decode_prefix" "decode_prefix" s_decode_prefix f_decode_prefix d_decode_prefix
  b_decode_prefix : Binds K d_decode_prefix ["text", "index"] []
  g_decode_prefix : mg "decode_prefix" = some (.ref f_decode_prefix)
  f_decode : Addr
  d_decode : FuncData
  F_decode : Fun K "decode" "decode" s_decode f_decode d_decode
  b_decode : Binds K d_decode ["text"] []
  g_decode : mg "decode" = some (.ref f_decode)
  f_write_state : Addr
  d_write_state : FuncData
  F_write_state : Fun K "write_state" "write_state" s_write_state f_write_state d_write_state
  b_write_state : Binds K d_write_state ["chunks", "tables"] []
  g_write_state : mg "write_state" = some (.ref f_write_state)
  f_write_commit : Addr
  d_write_commit : FuncData
  F_write_commit : Fun K "write_commit" "write_commit" s_write_commit f_write_commit d_write_commit
  b_write_commit : Binds K d_write_commit ["chunks", "state", "parents", "message"] []
  g_write_commit : mg "write_commit" = some (.ref f_write_commit)
  f_root_commit : Addr
  d_root_commit : FuncData
  F_root_commit : Fun K "root_commit" "root_commit" s_root_commit f_root_commit d_root_commit
  b_root_commit : Binds K d_root_commit ["chunks"] []
  g_root_commit : mg "root_commit" = some (.ref f_root_commit)
  f_read_commit : Addr
  d_read_commit : FuncData
  F_read_commit : Fun K "read_commit" "read_commit" s_read_commit f_read_commit d_read_commit
  b_read_commit : Binds K d_read_commit ["chunks", "commit"] []
  g_read_commit : mg "read_commit" = some (.ref f_read_commit)
  f_follow : Addr
  d_follow : FuncData
  F_follow : Fun K "follow" "follow" s_follow f_follow d_follow
  b_follow : Binds K d_follow ["chunks", "commit", "steps"] []
  g_follow : mg "follow" = some (.ref f_follow)
  f_law_history : Addr
  d_law_history : FuncData
  F_law_history : Fun K "_law_history" "_law_history" s_law_history f_law_history d_law_history
  b_law_history : Binds K d_law_history ["chunks", "script", "first", "count", "state"] []
  g_law_history : mg "_law_history" = some (.ref f_law_history)
  f_law_walk : Addr
  d_law_walk : FuncData
  F_law_walk : Fun K "_law_walk" "_law_walk" s_law_walk f_law_walk d_law_walk
  b_law_walk : Binds K d_law_walk ["above", "tip", "steps"] []
  g_law_walk : mg "_law_walk" = some (.ref f_law_walk)
  f_law_told : Addr
  d_law_told : FuncData
  F_law_told : Fun K "_law_told" "_law_told" s_law_told f_law_told d_law_told
  b_law_told : Binds K d_law_told ["chunks", "tip", "steps"] []
  g_law_told : mg "_law_told" = some (.ref f_law_told)
  f_law : Addr
  d_law : FuncData
  F_law : Fun K "law" "law" s_law f_law d_law
  b_law : Binds K d_law ["script"] []
  g_law : mg "law" = some (.ref f_law)
  m_ValueError : mg "ValueError" = none
  m_bool : mg "bool" = none
  m_int : mg "int" = none
  m_isinstance : mg "isinstance" = none
  m_len : mg "len" = none
  m_list : mg "list" = none
  m_max : mg "max" = none
  m_min : mg "min" = none
  m_range : mg "range" = none
  m_sorted : mg "sorted" = none
  m_str : mg "str" = none
  m_super : mg "super" = none
  m_tuple : mg "tuple" = none
  cc_write_state : Addr
  P_write_state : Addr
  cd_write_state : d_write_state.code = .ref cc_write_state
  tb_write_state : LamX.TabB base mg cc_write_state P_write_state
  t_MOST_LEVELS : Tok
  k_MOST_LEVELS : mg "MOST_LEVELS" = some (.int 12 t_MOST_LEVELS)
  t_MOST_DIGITS : Tok
  k_MOST_DIGITS : mg "MOST_DIGITS" = some (.int 60 t_MOST_DIGITS)
  t_MOST_LENGTH_DIGITS : Tok
  k_MOST_LENGTH_DIGITS : mg "MOST_LENGTH_DIGITS" = some (.int 6 t_MOST_LENGTH_DIGITS)
  t_STEPS : Tok
  k_STEPS : mg "STEPS" = some (.str (Str.ofString "~^") t_STEPS)

/-! ### sizes of ints -/
/-- an int of at most some million bits -/
structure Wd (n : Int) : Prop where
  h : n.natAbs.log2 < 1100000
theorem log2_mono {a b : Nat} (h : a ≤ b) : a.log2 ≤ b.log2 := by
  by_cases ha : a = 0
  · subst ha
    exact Nat.le_trans (Nat.le_of_eq (by decide)) (Nat.zero_le _)
  · refine Nat.lt_succ_iff.mp ((Nat.log2_lt ha).mpr (Nat.lt_of_le_of_lt h Nat.lt_log2_self))
theorem Wd.le {n m : Int} (h : Wd n) (e : m.natAbs ≤ n.natAbs) : Wd m := ⟨Nat.lt_of_le_of_lt (log2_mono e) h.h⟩
theorem Wd.lt {n : Int} (h : n.natAbs < 2 ^ 9000) : Wd n := ⟨Nat.lt_trans (PySem.Flt.log2_lt_of (by decide) h) (by decide)⟩
theorem Wd.lit {n : Int} (h : n.natAbs < 2 ^ 256) : Wd n := ⟨Nat.lt_trans (PySem.Flt.log2_lt_of (by decide) h) (by decide)⟩
theorem Wd.bits {n : Int} (h : Builtin.Int.intBits n ≤ 1048576) : Wd n := by
  unfold Builtin.Int.intBits at h
  by_cases e : n = 0
  · subst e
    exact Wd.lit (by decide)
  · rw [if_neg (by simpa using e)] at h
    exact ⟨by omega⟩
theorem Wd.small {n : Int} (h1 : -(2 ^ 64) < n) (h2 : n < 2 ^ 64) : Wd n := Wd.lit (by
  have : n.natAbs < 2 ^ 64 := by omega
  exact Nat.lt_of_lt_of_le this (by decide))
theorem Wd.div {n b : Int} (h : Wd n) : Wd (n / b) := h.le (Int.natAbs_ediv_le_natAbs n b)
theorem Wd.mod {n b : Int} (hb : 0 < b) (h : Wd b) : Wd (n % b) := h.le (by
  have h1 := Int.emod_nonneg n (by omega : b ≠ 0)
  have h2 := Int.emod_lt_of_pos n hb
  omega)
theorem Wd.neg {n : Int} (h : Wd n) : Wd (-n) := h.le (by omega)
theorem bits_log (n : Int) : Builtin.Int.intBits n ≤ n.natAbs.log2 + 1 := by
  unfold Builtin.Int.intBits
  split <;> omega
theorem Wd.mul {i j : Int} (hi : Wd i) (hj : Wd j) : CMulX i j := by
  have a := bits_log i
  have b := bits_log j
  have c := hi.h
  have d := hj.h
  unfold CMulX
  omega
/-- what falls to a comparison of two ints -/
theorem dec_int {i j : Int} : decide (V.int i = V.int j) = decide (i = j) := by
  by_cases h : i = j
  · rw [decide_eq_true h, decide_eq_true (congrArg V.int h)]
  · rw [decide_eq_false h, decide_eq_false fun e => h (V.int.inj e)]
theorem dec_str {i j : Str} : decide (V.str i = V.str j) = decide (i = j) := by
  by_cases h : i = j
  · rw [decide_eq_true h, decide_eq_true (congrArg V.str h)]
  · rw [decide_eq_false h, decide_eq_false fun e => h (V.str.inj e)]
theorem dec_bl {i j : Bool} : decide (V.bl i = V.bl j) = decide (i = j) := by
  by_cases h : i = j
  · rw [decide_eq_true h, decide_eq_true (congrArg V.bl h)]
  · rw [decide_eq_false h, decide_eq_false fun e => h (V.bl.inj e)]
/-- len, tuple of a list or tuple -/
abbrev rLenQ (K : PySem.W.Frag) : List V → Hp → VK → Prop := fun xs H Q => ∃ p ys, xs = [V.ref p] ∧ (SqL K H p ys ∨ SqT K H p ys) ∧ Q (.int ys.length) H
abbrev rTupOf (K : PySem.W.Frag) : List V → Hp → VK → Prop := fun xs H Q => ∃ p ys, xs = [V.ref p] ∧ ((SqL K H p ys ∧ ∀ l, H l = none → Q (.ref l) (upd H l (.tup ys))) ∨ (SqT K H p ys ∧ Q (.ref p) H))
/-! ### more of what evaluates -/
section
variable {K : PySem.W.Frag} {σ : L2.St} {H : Hp} {ta tb te : TE}
theorem ev_eqI {i j : Int} (ha : Ev ta σ H (.int i)) (hb : Ev tb σ H (.int j)) : Ev (tOp rEq ta tb) σ H (.bl (decide (i = j))) := ev_is (ev_op ha hb (rv_eq rfl)) (congrArg V.bl dec_int)
theorem ev_neI {i j : Int} (ha : Ev ta σ H (.int i)) (hb : Ev tb σ H (.int j)) : Ev (tOp rNe ta tb) σ H (.bl (!decide (i = j))) := ev_is (ev_op ha hb (rv_ne rfl)) (congrArg (fun b => V.bl (!b)) dec_int)
theorem ev_eqS {i j : Str} (ha : Ev ta σ H (.str i)) (hb : Ev tb σ H (.str j)) : Ev (tOp rEq ta tb) σ H (.bl (decide (i = j))) := ev_is (ev_op ha hb (rv_eq rfl)) (congrArg V.bl dec_str)
theorem ev_neS {i j : Str} (ha : Ev ta σ H (.str i)) (hb : Ev tb σ H (.str j)) : Ev (tOp rNe ta tb) σ H (.bl (!decide (i = j))) := ev_is (ev_op ha hb (rv_ne rfl)) (congrArg (fun b => V.bl (!b)) dec_str)
theorem ev_eqB {i j : Bool} (ha : Ev ta σ H (.bl i)) (hb : Ev tb σ H (.bl j)) : Ev (tOp rEq ta tb) σ H (.bl (decide (i = j))) := ev_is (ev_op ha hb (rv_eq rfl)) (congrArg V.bl dec_bl)
theorem ev_neB {i j : Bool} (ha : Ev ta σ H (.bl i)) (hb : Ev tb σ H (.bl j)) : Ev (tOp rNe ta tb) σ H (.bl (!decide (i = j))) := ev_is (ev_op ha hb (rv_ne rfl)) (congrArg (fun b => V.bl (!b)) dec_bl)
theorem ev_bin {C : Int → Int → Prop} {g : Int → Int → V} {i j : Int} (ha : Ev ta σ H (.int i)) (hb : Ev tb σ H (.int j)) (hc : C i j) : Ev (tOp (rI C g) ta tb) σ H (g i j) := ev_op ha hb (rv_I hc)
theorem ev_bin0 {g : Int → Int → V} {i j : Int} (ha : Ev ta σ H (.int i)) (hb : Ev tb σ H (.int j)) : Ev (tOp (rI0 g) ta tb) σ H (g i j) := ev_op ha hb rv_I0
theorem ev_intI {i : Int} (h : Ev te σ H (.int i)) : Ev (tCB (fun xs H Q => (∃ i, xs = [V.int i] ∧ Q (.int i) H) ∨ ∃ k, xs = [V.bl k] ∧ Q (.int (if k = true then 1 else 0)) H) (tCons te tNil)) σ H (.int i) := fun H1 e Q q =>
  h H1 e _ fun H2 e2 => .inl ⟨i, rfl, q H2 e2⟩
theorem ev_lenS {z : Str} (h : Ev te σ H (.str z)) (hz : z.length ≤ 100000) : Ev (tCB (fun xs H Q => ∃ z, xs = [V.str z] ∧ z.length ≤ sizeLine ∧ Q (.int z.length) H) (tCons te tNil)) σ H (.int (z.length : Int)) := fun H1 e Q q =>
  h H1 e _ fun H2 e2 => ⟨z, rfl, sz_of hz, q H2 e2⟩
theorem ev_lenQ {p : Addr} {xs : List V} (ha : Ev ta σ H (.ref p)) (h : SqL K H p xs) : Ev (tCB (fun xs H Q => ∃ p ys, xs = [V.ref p] ∧ (SqL K H p ys ∨ SqT K H p ys) ∧ Q (.int ys.length) H) (tCons ta tNil)) σ H (.int (xs.length : Int)) := fun H1 e Q q =>
  ha H1 e _ fun H2 e2 => ⟨p, xs, rfl, Or.inl (ex_l (e.trans e2) h), q H2 e2⟩
theorem ev_lenT {p : Addr} {xs : List V} (ha : Ev ta σ H (.ref p)) (h : SqT K H p xs) : Ev (tCB (fun xs H Q => ∃ p ys, xs = [V.ref p] ∧ (SqL K H p ys ∨ SqT K H p ys) ∧ Q (.int ys.length) H) (tCons ta tNil)) σ H (.int (xs.length : Int)) := fun H1 e Q q =>
  ha H1 e _ fun H2 e2 => ⟨p, xs, rfl, Or.inr (ex_t (e.trans e2) h), q H2 e2⟩
theorem ev_ixL {p : Addr} {xs : List V} {i : Int} {v : V} (ha : Ev ta σ H (.ref p)) (hb : Ev tb σ H (.int i)) (h : SqL K H p xs) (hi : atI xs i = some v) : Ev (tOp (rIxL K) ta tb) σ H v := ev_op ha hb (rv_ixL h hi)
theorem ev_ixT {p : Addr} {xs : List V} {i : Int} {v : V} (ha : Ev ta σ H (.ref p)) (hb : Ev tb σ H (.int i)) (h : SqT K H p xs) (hi : atI xs i = some v) : Ev (tOp (rIxT K) ta tb) σ H v := ev_op ha hb (rv_ixT h hi)
/-- an item of a list that is written there -/
theorem ev_ixN {xs : List V} {i : Int} {v : V} (ha : EvL ta σ H xs) (hb : ∀ H1, Ex H H1 → Ev tb σ H1 (.int i)) (hi : atI xs i = some v) : Ev (tOp (rIxL K) ta tb) σ H v := ev_opL1 ha hb fun p H1 h1 _ => rv_ixL (sq_of h1) hi
theorem ev_ixS {z : Str} {i : Int} {c : Nat} (ha : Ev ta σ H (.str z)) (hb : Ev tb σ H (.int i)) (hz : z.length ≤ 100000) (hi : atI z.cps.toList i = some c) : Ev (tOp rIxS ta tb) σ H (.str ⟨#[c]⟩) := ev_op ha hb (rv_ixS hz hi)
theorem ev_addS {x y : Str} (ha : Ev ta σ H (.str x)) (hb : Ev tb σ H (.str y)) (hz : x.length + y.length ≤ 16777216) : Ev (tOp (fun x y H Q => ∃ i j, x = V.str i ∧ y = V.str j ∧ i.length + j.length ≤ sizeLine ∧ Q (.str (i ++ j)) H) ta tb) σ H (.str (x ++ y)) :=
  ev_op ha hb fun H1 _ Q q => ⟨x, y, rfl, rfl, by rw [sizeLine_eq]; exact hz, q H1 (Ex.refl H1)⟩
theorem ev_neg {i : Int} (h : Ev te σ H (.int i)) : Ev (tUn (rU fun i => .int (-i)) te) σ H (.int (-i)) := ev_un h ru_neg
theorem ev_isN {v : V} (h : Ev te σ H v) : Ev (tOp (fun x y H Q => y = .non ∧ Q (.bl (decide (x = .non))) H) te (tC .non)) σ H (.bl (decide (v = .non))) := fun H1 e Q q => h H1 e _ fun H2 e2 => ⟨rfl, q H2 e2⟩
end
section
variable {σ : L2.St} {H : Hp} {te : TE}
theorem ev_isNt (h : Ev te σ H .non) : Ev (tOp (fun x y H Q => y = .non ∧ Q (.bl (decide (x = .non))) H) te (tC .non)) σ H (.bl true) := ev_is (ev_isN h) (congrArg V.bl (decide_eq_true rfl))
theorem ev_isNf {v : V} (h : Ev te σ H v) (hv : v ≠ .non := by intro z; cases z) : Ev (tOp (fun x y H Q => y = .non ∧ Q (.bl (decide (x = .non))) H) te (tC .non)) σ H (.bl false) := ev_is (ev_isN h) (congrArg V.bl (decide_eq_false hv))
end
theorem at_nat {xs : List V} {j : Nat} {v : V} (h : xs[j]? = some v) : atI xs (j : Int) = some v := atI_nat h
theorem sizeOk {n : Nat} (h : n ≤ 16777216) : n ≤ sizeLine := by rw [sizeLine_eq]; exact h

/-! ### texts, joins, comprehensions -/
theorem str_ext {a b : Str} (h : a.cps.toList = b.cps.toList) : a = b := by
  obtain ⟨a⟩ := a
  obtain ⟨b⟩ := b
  exact congrArg Str.mk (Array.toList_inj.mp h)
/-- the join of one-sign texts -/
theorem join_signs (l : List Nat) : Txt.join (Str.ofString "") (l.map fun c => (⟨#[c]⟩ : Str)) = ⟨l.toArray⟩ := by
  rw [TL.join_eq]
  refine str_ext ?_
  have key : ∀ l : List Nat, TL.joinL [] (l.map fun c => [c]) = l := fun l => by
    induction l with
    | nil => rfl
    | cons a r ih =>
      cases r with
      | nil => rfl
      | cons b r =>
        show [a] ++ ([] ++ TL.joinL [] ((b :: r).map fun c => [c])) = a :: b :: r
        rw [ih] <;> rfl
  have h := TL.tl_join (Str.ofString "") (l.map fun c => (⟨#[c]⟩ : Str))
  have e1 : TL.tl (Str.ofString "") = [] := by decide +kernel
  rw [e1, List.map_map] at h
  exact h.trans (key l)
theorem sum_ones (l : List Nat) : ((l.map fun c => (⟨#[c]⟩ : Str)).map (·.length)).sum = l.length := by
  induction l with
  | nil => rfl
  | cons a r ih =>
    rw [List.map_cons, List.map_cons, List.sum_cons, ih, List.length_cons]
    show 1 + r.length = r.length + 1
    omega
/-- a join of a new list of texts -/
theorem ev_joinN {K : PySem.W.Frag} {σ : L2.St} {H : Hp} {to te : TE} {a : Str} {ys : List Str} (h0 : Ev to σ H (.str a)) (h : EvL te σ H (ys.map V.str)) (hz : (ys.map (·.length)).sum + ys.length * a.length ≤ 16777216) :
    Ev (tM1 (fun x xs H Q => ∃ a p, ∃ ys : List Str, x = .str a ∧ xs = [.ref p] ∧ (SqL K H p (ys.map V.str) ∨ SqT K H p (ys.map V.str)) ∧ (ys.map (·.length)).sum + ys.length * a.length ≤ 16777216 ∧ Q (.str (Txt.join a ys)) H) to te) σ H (.str (Txt.join a ys)) :=
  fun H1 e Q q => h0 H1 e _ fun H2 e2 => ⟨⟨a, rfl⟩, h H2 (e.trans e2) _ fun p H3 hp e3 hl => ⟨a, p, ys, rfl, rfl, .inl (sq_of hl), hz, q H3 (e2.trans e3)⟩⟩
theorem given_all {n : Nat} {v : Nat → V} {xs : List V} (hn : xs.length = n) (h : ∀ i, i < n → xs[i]? = some (v i)) : given n (fun _ => true) v = xs := by
  unfold given
  rw [List.filter_eq_self.mpr (fun _ _ => rfl)]
  refine List.ext_getElem? fun i => ?_
  rw [List.getElem?_map]
  by_cases hi : i < n
  · rw [List.getElem?_range hi, h i hi] <;> rfl
  · rw [List.getElem?_eq_none (by rw [List.length_range]; omega), List.getElem?_eq_none (by omega)] <;> rfl
/-- [f(x) for x in a new list of ints] -/
theorem el_mapN {K : PySem.W.Frag} {σ : L2.St} {H : Hp} {tl te : TE} {j : Nat} {vs : List Nat} {ns : List Int} {f : Int → V} (h : EvL tl σ H (ns.map V.int)) (hz : ns.length ≤ 40000) (hw : ∀ x, wipe ((wipe σ vs).set j (some x)) vs = wipe σ vs)
    (he : ∀ n ∈ ns, ∀ H1, Ex H H1 → Ev te ((wipe σ vs).set j (some (.int n))) H1 (f n)) : EvL (tLc (iList K tl) (gName j) tYes te vs) σ H (ns.map f) := by
  have g : given (ns.map V.int).length (fun _ => true) (fun i => f (ns.getD i 0)) = ns.map f := given_all (by rw [List.length_map, List.length_map]) fun i hi => by
    rw [List.length_map] at hi
    rw [List.getElem?_map, List.getElem?_eq_getElem hi, List.getD_eq_getElem?_getD, List.getElem?_eq_getElem hi] <;> rfl
  rw [← g]
  refine el_lcNL (fun _ => true) (fun i => f (ns.getD i 0)) h (by rw [List.length_map]; exact hz) hw (fun i x H1 e1 hx => ?_) (fun i x H1 e1 hx _ => ?_)
  · exact fun H2 e2 Q q => q H2 (Ex.refl H2)
  · rw [List.getElem?_map] at hx
    cases e : ns[i]? with
    | none =>
      rw [e] at hx
      cases hx
    | some n =>
      rw [e] at hx
      have ex : x = .int n := (Option.some.inj hx).symm
      rw [ex, List.getD_eq_getElem?_getD, e]
      exact he n (List.mem_of_getElem? e) H1 e1
theorem atI_of {xs : List V} {n : Int} {v : V} (h0 : 0 ≤ n) (h : xs[n.toNat]? = some v) : atI xs n = some v := by
  have e : n = ((n.toNat : Nat) : Int) := by omega
  rw [e]
  exact atI_nat (by simpa using h)
theorem at_cps {z : Str} {l : List Nat} (h : z.cps.toList = l) {n : Int} (h0 : 0 ≤ n) (h1 : n < l.length) : atI z.cps.toList n = some (l.getD n.toNat 0) := by
  rw [h]
  have e : n = ((n.toNat : Nat) : Int) := by omega
  have h3 : n.toNat < l.length := by omega
  have h4 : ixN l.length n = some n.toNat := by rw [e]; exact ixN_nat (by omega)
  unfold atI
  rw [h4]
  show l[n.toNat]? = some (l.getD n.toNat 0)
  rw [List.getElem?_eq_getElem h3, List.getD_eq_getElem?_getD, List.getElem?_eq_getElem h3]
  all_goals rfl

/-- the join of texts by their codes -/
theorem join_codes (l : List (List Nat)) : Txt.join (Str.ofString "") (l.map fun c => (⟨c.toArray⟩ : Str)) = ⟨l.flatten.toArray⟩ := by
  rw [TL.join_eq]
  refine str_ext ?_
  have key : ∀ l : List (List Nat), TL.joinL [] l = l.flatten := fun l => by
    induction l with
    | nil => rfl
    | cons a r ih =>
      cases r with
      | nil => simp [TL.joinL]
      | cons b r =>
        show a ++ ([] ++ TL.joinL [] (b :: r)) = (a :: b :: r).flatten
        rw [ih, List.nil_append]
        exact List.flatten_cons.symm
  have h := TL.tl_join (Str.ofString "") (l.map fun c => (⟨c.toArray⟩ : Str))
  have e1 : TL.tl (Str.ofString "") = [] := by decide +kernel
  have e2 : (l.map fun c => (⟨c.toArray⟩ : Str)).map TL.tl = l := by
    rw [List.map_map]
    exact List.map_id l
  rw [e1, e2] at h
  exact h.trans (key l)
theorem sum_codes (l : List (List Nat)) : ((l.map fun c => (⟨c.toArray⟩ : Str)).map (·.length)).sum = l.flatten.length := by
  induction l with
  | nil => rfl
  | cons a r ih =>
    rw [List.map_cons, List.map_cons, List.sum_cons, ih, List.flatten_cons, List.length_append] <;> rfl
/-- [f(x) for x in a tuple] -/
theorem el_mapT {K : PySem.W.Frag} {σ : L2.St} {H : Hp} {tl te : TE} {j : Nat} {vs : List Nat} {a : Addr} {xs ys : List V} (h : Ev tl σ H (.ref a)) (hx : SqT K H a xs) (hz : xs.length ≤ 40000) (hw : ∀ x, wipe ((wipe σ vs).set j (some x)) vs = wipe σ vs) (hl : ys.length = xs.length)
    (he : ∀ (i : Nat) (x y : V), xs[i]? = some x → ys[i]? = some y → ∀ H1, Ex H H1 → Ev te ((wipe σ vs).set j (some x)) H1 y) : EvL (tLc (iTup K tl) (gName j) tYes te vs) σ H ys := by
  intro H0 e Q q
  refine h H0 e _ fun H1 e1 => ⟨a, rfl, ⟨xs, ex_t (e.trans e1) hx⟩, fun Dl hD => ?_⟩
  refine lc_tup (xs := xs) (fun i H' => H1 Dl = none ∧ Ex H1 H' ∧ H' Dl = some (.lst (ys.take i))) ⟨hD, Ex.new hD, upd_same⟩ (fun i H' _ p => ex_t ((e.trans e1).trans p.2.1) hx) (fun i x H' hi p => ⟨hw x, ?_⟩) (fun H' p => ?_)
  · obtain ⟨p1, p2, p3⟩ := p
    have hi2 : i < ys.length := by
      have := (List.getElem?_eq_some_iff.mp hi).1
      omega
    have hy : ys[i]? = some ys[i] := List.getElem?_eq_getElem hi2
    show te ((wipe σ vs).set j (some x)) H' _
    refine he i x ys[i] hi hy H1 (e.trans e1) H' p2 _ fun H4 e4 => ⟨ys.take i, e4 Dl _ p3, sz_lt (by rw [List.length_take]; omega), p1, (p2.trans e4).mut p1, ?_⟩
    rw [upd_same, List.take_add_one, hy] <;> rfl
  · obtain ⟨p1, p2, p3⟩ := p
    rw [← hl, List.take_length] at p3
    exact q Dl H' (fresh_back e1 p1) (e1.trans p2) p3
/-- [f(x) for x in a list] -/
theorem el_mapL {K : PySem.W.Frag} {σ : L2.St} {H : Hp} {tl te : TE} {j : Nat} {vs : List Nat} {a : Addr} {xs ys : List V} (h : Ev tl σ H (.ref a)) (hx : SqL K H a xs) (hz : xs.length ≤ 40000) (hw : ∀ x, wipe ((wipe σ vs).set j (some x)) vs = wipe σ vs) (hl : ys.length = xs.length)
    (he : ∀ (i : Nat) (x y : V), xs[i]? = some x → ys[i]? = some y → ∀ H1, Ex H H1 → Ev te ((wipe σ vs).set j (some x)) H1 y) : EvL (tLc (iList K tl) (gName j) tYes te vs) σ H ys := by
  intro H0 e Q q
  refine h H0 e _ fun H1 e1 => ⟨a, rfl, ⟨xs, ex_l (e.trans e1) hx⟩, fun Dl hD => ?_⟩
  refine lc_list (xs := xs) (fun i H' => H1 Dl = none ∧ Ex H1 H' ∧ H' Dl = some (.lst (ys.take i))) ⟨hD, Ex.new hD, upd_same⟩ (fun i H' _ p => ex_l ((e.trans e1).trans p.2.1) hx) (fun i x H' hi p => ⟨hw x, ?_⟩) (fun H' p => ?_)
  · obtain ⟨p1, p2, p3⟩ := p
    have hi2 : i < ys.length := by
      have := (List.getElem?_eq_some_iff.mp hi).1
      omega
    have hy : ys[i]? = some ys[i] := List.getElem?_eq_getElem hi2
    show te ((wipe σ vs).set j (some x)) H' _
    refine he i x ys[i] hi hy H1 (e.trans e1) H' p2 _ fun H4 e4 => ⟨ys.take i, e4 Dl _ p3, sz_lt (by rw [List.length_take]; omega), p1, (p2.trans e4).mut p1, ?_⟩
    rw [upd_same, List.take_add_one, hy] <;> rfl
  · obtain ⟨p1, p2, p3⟩ := p
    rw [← hl, List.take_length] at p3
    exact q Dl H' (fresh_back e1 p1) (e1.trans p2) p3
/-- [f(k) for k in range(n)] -/
theorem el_mapR {σ : L2.St} {H : Hp} {ta : TA} {te : TE} {j : Nat} {vs : List Nat} {n : Nat} {ys : List V} (h : EvA ta σ H [.int (n : Int)]) (hz : n ≤ 40000) (hw : ∀ x, wipe ((wipe σ vs).set j (some x)) vs = wipe σ vs) (hl : ys.length = n)
    (he : ∀ (i : Nat) (y : V), i < n → ys[i]? = some y → ∀ H1, Ex H H1 → Ev te ((wipe σ vs).set j (some (.int (i : Int)))) H1 y) : EvL (tLc (iRng1 ta) (gName j) tYes te vs) σ H ys := by
  have g : given (n : Int).toNat (fun _ => true) (fun i => ys.getD i .non) = ys := given_all (by omega) fun i hi => by
    have hi2 : i < ys.length := by omega
    rw [List.getElem?_eq_getElem hi2, List.getD_eq_getElem?_getD, List.getElem?_eq_getElem hi2] <;> rfl
  rw [← g]
  refine el_lcR1 (fun _ => true) (fun i => ys.getD i .non) h (by omega) hw (fun i H1 e1 hi => ?_) (fun i H1 e1 hi _ => ?_)
  · exact fun H2 e2 Q q => q H2 (Ex.refl H2)
  · have hi2 : i < ys.length := by omega
    have hy : ys[i]? = some (ys.getD i .non) := by rw [List.getElem?_eq_getElem hi2, List.getD_eq_getElem?_getD, List.getElem?_eq_getElem hi2] <;> rfl
    exact he i _ (by omega) hy H1 e1
/-- for c in a text -/
theorem s_forS {σ : L2.St} {H : Hp} {te : TE} {tu : TS} {D : Ends} {j : Nat} {z : Str} (h : Ev te σ H (.str z)) (Pv : Nat → L2.St → Hp → Prop) (h0 : ∀ H1, Ex H H1 → Pv 0 σ H1)
    (hs : ∀ i c σ' H', z.cps.toList[i]? = some c → Pv i σ' H' → tu { D with nx := Pv (i + 1), ct := Pv (i + 1), bk := D.nx } (σ'.set j (some (.str ⟨#[c]⟩))) H') (hd : ∀ σ' H', Pv z.cps.toList.length σ' H' → D.nx σ' H') : tFor (iStr te) (gName j) tu D σ H := by
  refine h H (Ex.refl H) _ fun H1 e => ⟨z, rfl, fun i m σ' H' => m = z.cps.toList.length - i ∧ i ≤ z.cps.toList.length ∧ Pv i σ' H', ⟨_, rfl, Nat.zero_le _, h0 H1 e⟩, ?_⟩
  rintro i m σ' H' ⟨rfl, hi, p⟩
  by_cases hlt : i < z.cps.toList.length
  · refine .inr ⟨(by show i < z.cps.size; simpa using hlt), Pv (i + 1), fun σ2 H2 p2 => ⟨_, by omega, rfl, hlt, p2⟩, fun x H2 y => ?_⟩
    obtain ⟨rfl, c, hc, rfl⟩ := y
    exact hs i c σ' H2 (by simpa using hc) p
  · have ei : i = z.cps.toList.length := by omega
    subst ei
    exact .inl ⟨(by show z.cps.size ≤ z.cps.toList.length; simp), hd σ' H' p⟩
theorem q_forS {σ : L2.St} {H : Hp} {te : TE} {tu tz : TS} {D : Ends} {j : Nat} {z : Str} (h : Ev te σ H (.str z)) (Pv : Nat → L2.St → Hp → Prop) (h0 : ∀ H1, Ex H H1 → Pv 0 σ H1)
    (hs : ∀ i c σ' H', z.cps.toList[i]? = some c → Pv i σ' H' → tu { D with nx := Pv (i + 1), ct := Pv (i + 1), bk := tz D } (σ'.set j (some (.str ⟨#[c]⟩))) H') (hd : ∀ σ' H', Pv z.cps.toList.length σ' H' → tz D σ' H') : tSeq (tFor (iStr te) (gName j) tu) tz D σ H :=
  s_forS (D := { D with nx := tz D }) h Pv h0 hs hd
/-! ### isinstance against a built-in type; f-strings -/
theorem tyx_tup {K : PySem.W.Frag} {H : Hp} {a : Addr} {xs : List V} (h : SqT K H a xs) : TyX K H (.ref a) (.type "tuple") := by
  rcases h with (h | ⟨o, h⟩) | ⟨o, its, n, h, hc, _⟩
  · exact .base (.tup h)
  · exact .fTuple h
  · exact .kTuple h hc
theorem ev_isi {K : PySem.W.Frag} {σ : L2.St} {H : Hp} {te : TE} {x : V} {a b : String} {r : Bool} (h : Ev te σ H x) (ht : ∀ H1, Ex H H1 → TyX K H1 x (.type a)) (hk : kitB a b = some r) : Ev (tCB (rIsi K) (tCons te (tCons (tC (.ty b)) tNil))) σ H (.bl r) := fun H1 e Q q =>
  h H1 e _ fun H2 e2 => ⟨x, .ty b, .type a, .type b, r, rfl, .ty b, ht H2 (e.trans e2), kit_ty hk, q H2 e2⟩
/-- parts that evaluate to texts -/
inductive EvJ (σ : L2.St) (H : Hp) : List TE → List Str → Prop where
  | nil : EvJ σ H [] []
  | cons {t : TE} {ts : List TE} {y : Str} {ys : List Str} (h : Ev t σ H (.str y)) (r : EvJ σ H ts ys) : EvJ σ H (t :: ts) (y :: ys)
theorem evj_run {σ : L2.St} {H : Hp} {ts : List TE} {ys : List Str} (h : EvJ σ H ts ys) : ∀ (acc : Str) (H1 : Hp) (Q : Str → Hp → Prop), Ex H H1 → acc.length + (ys.map (·.length)).sum ≤ 16777216 → (∀ H2, Ex H1 H2 → Q (ys.foldl (· ++ ·) acc) H2) → tJs ts acc σ H1 Q := by
  induction h with
  | nil => exact fun acc H1 Q _ _ q => q H1 (Ex.refl H1)
  | @cons t ts y ys h r ih =>
    intro acc H1 Q e hz q
    rw [List.map_cons, List.sum_cons] at hz
    have el : (acc ++ y).length = acc.length + y.length := by
      show (acc.cps ++ y.cps).size = acc.cps.size + y.cps.size
      exact Array.size_append
    refine h H1 e _ fun H2 e2 => ⟨y, rfl, sizeOk (by rw [el]; omega), ih (acc ++ y) H2 Q (e.trans e2) (by rw [el]; omega) fun H3 e3 => q H3 (e2.trans e3)⟩
theorem ev_joined {σ : L2.St} {H : Hp} {ts : List TE} {ys : List Str} (h : EvJ σ H ts ys) (hz : (ys.map (·.length)).sum ≤ 16777216) : Ev (fun σ H Q => tJs ts Str.empty σ H fun out H1 => Q (.str out) H1) σ H (.str (ys.foldl (· ++ ·) Str.empty)) := fun H1 e Q q =>
  evj_run h Str.empty H1 _ e (by show 0 + _ ≤ _; omega) fun H2 e2 => q H2 e2
theorem ev_fmtS {σ : L2.St} {H : Hp} {te : TE} {y : Str} (h : Ev te σ H (.str y)) (hz : y.length ≤ 16777216) : Ev (tFmt te) σ H (.str y) := fun H1 e Q q => h H1 e _ fun H2 e2 => .inl ⟨y, rfl, sizeOk hz, q H2 e2⟩
theorem ev_fmtI {σ : L2.St} {H : Hp} {te : TE} {i : Int} (h : Ev te σ H (.int i)) (hz : i.natAbs.log2 < 1920) : Ev (tFmt te) σ H (.str (toString i)) := fun H1 e Q q => h H1 e _ fun H2 e2 => .inr ⟨i, rfl, hz, q H2 e2⟩
theorem ev_strI {σ : L2.St} {H : Hp} {te : TE} {i : Int} (h : Ev te σ H (.int i)) (hz : i.natAbs.log2 < 1920) : Ev (tCB (fun xs H Q => ∃ i : Int, xs = [V.int i] ∧ i.natAbs.log2 < 1920 ∧ Q (.str (toString i)) H) (tCons te tNil)) σ H (.str (toString i)) := fun H1 e Q q => h H1 e _ fun H2 e2 => ⟨i, rfl, hz, q H2 e2⟩
theorem ev_ordS {σ : L2.St} {H : Hp} {te : TE} {c : Nat} (h : Ev te σ H (.str ⟨#[c]⟩)) : Ev (tCB (fun xs H Q => ∃ x : Str, xs = [V.str x] ∧ x.length = 1 ∧ Q (.int (x.cps.getD 0 0 : Nat)) H) (tCons te tNil)) σ H (.int (c : Int)) := fun H1 e Q q => h H1 e _ fun H2 e2 => ⟨_, rfl, rfl, q H2 e2⟩
theorem ev_ends {σ : L2.St} {H : Hp} {to te : TE} {a b : Str} (h0 : Ev to σ H (.str a)) (h : Ev te σ H (.str b)) : Ev (tM1 (fun x xs H Q => ∃ a b, x = V.str a ∧ xs = [V.str b] ∧ Q (.bl (Txt.endswith a b)) H) to te) σ H (.bl (Txt.endswith a b)) := fun H1 e Q q =>
  h0 H1 e _ fun H2 e2 => ⟨⟨a, rfl⟩, h H2 (e.trans e2) _ fun H3 e3 => ⟨a, b, rfl, rfl, q H3 (e2.trans e3)⟩⟩
theorem ev_slS {σ : L2.St} {H : Hp} {te : TE} {tl th : TO} {z : Str} {lo hi : Option Int} (h : Ev te σ H (.str z)) (h1 : EvO tl σ H lo) (h2 : EvO th σ H hi) (hz : z.length ≤ 100000) : Ev (tSl rSlS te tl th) σ H (.str (cutS z lo hi)) := fun H1 e Q q =>
  h H1 e _ fun H2 e2 => h1 H2 (e.trans e2) _ fun H3 e3 => h2 H3 ((e.trans e2).trans e3) _ fun H4 e4 => ⟨z, rfl, sz_of hz, q H4 ((e2.trans e3).trans e4)⟩
/-- tuple(a new list) -/
theorem eu_ofN {K : PySem.W.Frag} {σ : L2.St} {H : Hp} {te : TE} {xs : List V} (h : EvL te σ H xs) : EvU (tCB (fun xs H Q => ∃ p ys, xs = [V.ref p] ∧ ((SqL K H p ys ∧ ∀ l, H l = none → Q (.ref l) (upd H l (.tup ys))) ∨ (SqT K H p ys ∧ Q (.ref p) H))) (tCons te tNil)) σ H xs := fun H1 e Q q =>
  h H1 e _ fun p H2 _ e2 hp => ⟨p, xs, rfl, .inl ⟨sq_of hp, fun l hl => q l _ (fresh_back e2 hl) (e2.trans (Ex.new hl)) upd_same⟩⟩
theorem eu_ofL {K : PySem.W.Frag} {σ : L2.St} {H : Hp} {te : TE} {p : Addr} {xs : List V} (h : Ev te σ H (.ref p)) (hx : SqL K H p xs) : EvU (tCB (fun xs H Q => ∃ p ys, xs = [V.ref p] ∧ ((SqL K H p ys ∧ ∀ l, H l = none → Q (.ref l) (upd H l (.tup ys))) ∨ (SqT K H p ys ∧ Q (.ref p) H))) (tCons te tNil)) σ H xs := fun H1 e Q q =>
  h H1 e _ fun H2 e2 => ⟨p, xs, rfl, .inl ⟨ex_l (e.trans e2) hx, fun l hl => q l _ (fresh_back e2 hl) (e2.trans (Ex.new hl)) upd_same⟩⟩
/-- a def that hands back a new tuple -/
def SpU (sp : Sp) (vs : List V) (H : Hp) (xs : List V) : Prop := ∀ H1, Ex H H1 → ∀ Q : VK, (∀ p H2, Ex H1 H2 → H2 p = some (.tup xs) → Q (.ref p) H2) → ∀ E : XK, sp vs H1 Q E
theorem q_callU {sp : Sp} {dvs vs xs : List V} {E : XK} {ta : TA} {σ : L2.St} {H : Hp} {tz : TS} {D : Ends} {i : Nat} (h : EvA ta σ H vs) (hs : SpU sp (vs ++ dvs) H xs) (k : ∀ p H1, Ex H H1 → H1 p = some (.tup xs) → tz D (σ.set i (some (.ref p))) H1) : tSeq (tAsg (tCall sp dvs E ta) (gName i)) tz D σ H :=
  h H (Ex.refl H) _ fun H2 e2 => hs H2 e2 _ (fun p H3 e3 hp => k p H3 (e2.trans e3) hp) E
theorem s_callU {sp : Sp} {dvs vs xs : List V} {E : XK} {ta : TA} {σ : L2.St} {H : Hp} {D : Ends} {i : Nat} (h : EvA ta σ H vs) (hs : SpU sp (vs ++ dvs) H xs) (k : ∀ p H1, Ex H H1 → H1 p = some (.tup xs) → D.nx (σ.set i (some (.ref p))) H1) : tAsg (tCall sp dvs E ta) (gName i) D σ H :=
  h H (Ex.refl H) _ fun H2 e2 => hs H2 e2 _ (fun p H3 e3 hp => k p H3 (e2.trans e3) hp) E
/-- a call whose one argument is a new tuple -/
theorem ev_callU {sp : Sp} {dvs xs : List V} {z : V} {E : XK} {te : TE} {σ : L2.St} {H : Hp} (h : EvU te σ H xs) (hs : ∀ p H1, H1 p = some (.tup xs) → Ex H H1 → SpV sp ([.ref p] ++ dvs) H1 z) : Ev (tCall sp dvs E (tCons te tNil)) σ H z := fun H1 e Q q =>
  h H1 e _ fun p H2 _ e2 hp => hs p H2 hp (e.trans e2) H2 (Ex.refl H2) Q (fun H3 e3 => q H3 (e2.trans e3)) E
/-- written tuples, one behind the other -/
def EvP (ta : TA) (σ : L2.St) (H : Hp) (xss : List (List V)) : Prop := ∀ H1, Ex H H1 → ∀ Q : List V → Hp → Prop, (∀ (ps : List Addr) H2, Ex H1 H2 → Paired (fun p xs => H2 p = some (.tup xs)) ps xss → Q (ps.map V.ref) H2) → ta σ H1 Q
theorem paired_mono {H H' : Hp} (e : Ex H H') : ∀ {ps : List Addr} {xss : List (List V)}, Paired (fun p xs => H p = some (.tup xs)) ps xss → Paired (fun p xs => H' p = some (.tup xs)) ps xss
  | _, _, .nil => .nil
  | _, _, .cons h r => .cons (e _ _ h) (paired_mono e r)
theorem ep_nil {σ : L2.St} {H : Hp} : EvP tNil σ H [] := fun H1 e Q q => q [] H1 (Ex.refl H1) .nil
theorem ep_cons {σ : L2.St} {H : Hp} {te : TE} {tr : TA} {xs : List V} {xss : List (List V)} (h : EvU te σ H xs) (r : EvP tr σ H xss) : EvP (tCons te tr) σ H (xs :: xss) := fun H1 e Q q =>
  h H1 e _ fun p H2 _ e2 hp => r H2 (e.trans e2) _ fun ps H3 e3 hr => q (p :: ps) H3 (e2.trans e3) (.cons (e3 p _ hp) hr)
theorem q_asgLP {ta : TA} {xss : List (List V)} {σ : L2.St} {H : Hp} {tz : TS} {D : Ends} {i : Nat} (h : EvP ta σ H xss) (hz : xss.length ≤ 100000) (k : ∀ p ps H1, Ex H H1 → H1 p = some (.lst (ps.map V.ref)) → Paired (fun p xs => H1 p = some (.tup xs)) ps xss → tz D (σ.set i (some (.ref p))) H1) :
    tSeq (tAsg (tLst ta) (gName i)) tz D σ H := h H (Ex.refl H) _ fun ps H1 e1 hps => by
  have el : ∀ {as : List Addr} {bs : List (List V)}, Paired (fun p xs => H1 p = some (.tup xs)) as bs → as.length = bs.length := fun h => by
    induction h with
    | nil => rfl
    | cons _ _ ih => exact congrArg (· + 1) ih
  exact ⟨sz_of (by rw [List.length_map, el hps]; exact hz), fun p hp => k p ps _ (e1.trans (Ex.new hp)) upd_same (paired_mono (Ex.new hp) hps)⟩
theorem paired_at {H : Hp} : ∀ {ps : List Addr} {xss : List (List V)}, Paired (fun p xs => H p = some (.tup xs)) ps xss → ∀ {i : Nat} {xs : List V}, xss[i]? = some xs → ∃ p, ps[i]? = some p ∧ H p = some (.tup xs)
  | _, _, .cons h _, 0, xs, e => by
    have e := Option.some.inj e
    subst e
    exact ⟨_, rfl, h⟩
  | _, _, .cons _ r, i + 1, xs, e => by
    obtain ⟨p, h1, h2⟩ := paired_at r (i := i) (by simpa using e)
    exact ⟨p, by simpa using h1, h2⟩
theorem paired_len {α β : Type} {R : α → β → Prop} : ∀ {as : List α} {bs : List β}, Paired R as bs → as.length = bs.length
  | _, _, .nil => rfl
  | _, _, .cons _ r => congrArg (· + 1) (paired_len r)
/-- a list that is tracked, and a new one behind it -/
theorem el_catV {K : PySem.W.Frag} {σ : L2.St} {H : Hp} {ta tb : TE} {p : Addr} {xs ys : List V} (ha : Ev ta σ H (.ref p)) (hp : H p = some (.lst xs)) (hb : EvL tb σ H ys) (hz : xs.length + ys.length ≤ 100000) : EvL (tOp rCat ta tb) σ H (xs ++ ys) := fun H1 e Q q =>
  ha H1 e _ fun H2 e2 => hb H2 (e.trans e2) _ fun r H3 hr e3 h3 => ⟨p, r, xs, ys, rfl, rfl, ((e.trans e2).trans e3) p _ hp, h3, sz_of hz, fun l hl => q l _ (fresh_back (e2.trans e3) hl) ((e2.trans e3).trans (Ex.new hl)) upd_same⟩
theorem codes_app {a b : Str} {x y : List Nat} (ha : a.cps.toList = x) (hb : b.cps.toList = y) : (a ++ b).cps.toList = x ++ y := by
  show (a.cps ++ b.cps).toList = x ++ y
  rw [Array.toList_append, ha, hb]
theorem str_len (z : Str) : z.length = z.cps.toList.length := by simp [Str.length]
theorem mk_of {z : Str} {l : List Nat} (h : z.cps.toList = l) : z = ⟨l.toArray⟩ := str_ext h
/-- long texts -/
theorem ev_lenB {σ : L2.St} {H : Hp} {te : TE} {z : Str} (h : Ev te σ H (.str z)) (hz : z.length ≤ 16777216) : Ev (tCB (fun xs H Q => ∃ z, xs = [V.str z] ∧ z.length ≤ sizeLine ∧ Q (.int z.length) H) (tCons te tNil)) σ H (.int (z.length : Int)) := fun H1 e Q q =>
  h H1 e _ fun H2 e2 => ⟨z, rfl, sizeOk hz, q H2 e2⟩
theorem ev_ixB {σ : L2.St} {H : Hp} {ta tb : TE} {z : Str} {i : Int} {c : Nat} (ha : Ev ta σ H (.str z)) (hb : Ev tb σ H (.int i)) (hz : z.length ≤ 16777216) (hi : atI z.cps.toList i = some c) : Ev (tOp rIxS ta tb) σ H (.str ⟨#[c]⟩) :=
  ev_op ha hb fun H1 _ _ q => ⟨z, i, c, rfl, rfl, sizeOk hz, hi, q H1 (Ex.refl H1)⟩
theorem ev_slB {σ : L2.St} {H : Hp} {te : TE} {tl th : TO} {z : Str} {lo hi : Option Int} (h : Ev te σ H (.str z)) (h1 : EvO tl σ H lo) (h2 : EvO th σ H hi) (hz : z.length ≤ 16777216) : Ev (tSl rSlS te tl th) σ H (.str (cutS z lo hi)) := fun H1 e Q q =>
  h H1 e _ fun H2 e2 => h1 H2 (e.trans e2) _ fun H3 e3 => h2 H3 ((e.trans e2).trans e3) _ fun H4 e4 => ⟨z, rfl, sizeOk hz, q H4 ((e2.trans e3).trans e4)⟩
theorem at_natS {l : List Nat} {j c : Nat} (h : l[j]? = some c) : atI l (j : Int) = some c := by
  have hj := (List.getElem?_eq_some_iff.mp h).1
  unfold atI
  rw [ixN_nat hj]
  exact h
theorem q_asgAug {σ : L2.St} {H : Hp} {te : TE} {tz : TS} {D : Ends} {i : Nat} {a b : Int} (hx : σ[i]? = some (some (.int a))) (h : Ev te σ H (.int b)) (k : ∀ H1, Ex H H1 → tz D (σ.set i (some (.int (a + b)))) H1) : tSeq (tAug i te (ipI fun i j => i + j)) tz D σ H := q_aug hx h k
theorem q_callV {sp : Sp} {dvs vs : List V} {E : XK} {ta : TA} {σ : L2.St} {H : Hp} {tz : TS} {D : Ends} {i : Nat} (h : EvA ta σ H vs) (k : ∀ H1, Ex H H1 → sp (vs ++ dvs) H1 (fun v H2 => tz D (σ.set i (some v)) H2) E) : tSeq (tAsg (tCall sp dvs E ta) (gName i)) tz D σ H := h H (Ex.refl H) _ fun H1 e1 => k H1 e1
/-! ### a small tactic: what an expression evaluates to -/
local macro_rules | `(tactic| walk_at "side") => `(tactic| first | assumption | decide | (show (0 : Int) < _; omega) | omega | (show CDivW _ _; exact ⟨by first | decide | omega, by decide⟩) | (show CPow _ _; exact ⟨by decide, by decide, by decide⟩) | (show CMulX _ _; (refine Wd.mul ?_ ?_ <;> walk_at "wd")))
local macro_rules | `(tactic| walk_at "wd") => `(tactic| first | assumption | exact Wd.lit (by decide) | exact Wd.small (by omega) (by omega) | (refine Wd.div ?_; walk_at "wd") | (refine Wd.mod ?_ ?_; (first | decide | omega); (walk_at "wd")) | (refine Wd.neg ?_; walk_at "wd"))
local macro_rules | `(tactic| walk_at "call") => `(tactic| fail "no call")
local macro_rules | `(tactic| walk_at "seq") => `(tactic| first | assumption | (refine ex_l ?_ ?_ <;> assumption) | exact sq_of (by assumption))
local macro_rules | `(tactic| walk_at "ev") => `(tactic| first
  | with_reducible exact ev_c
  | exact ev_var rfl
  | (refine ev_intI ?_; walk_at "ev")
  | (refine ev_bin0 ?_ ?_; (walk_at "ev"); (walk_at "ev"))
  | (refine ev_bin ?_ ?_ ?_; (walk_at "ev"); (walk_at "ev"); (walk_at "side"))
  | (refine ev_eqI ?_ ?_; (walk_at "ev"); (walk_at "ev"))
  | (refine ev_neI ?_ ?_; (walk_at "ev"); (walk_at "ev"))
  | (refine ev_eqS ?_ ?_; (walk_at "ev"); (walk_at "ev"))
  | (refine ev_neS ?_ ?_; (walk_at "ev"); (walk_at "ev"))
  | (refine ev_neg ?_; walk_at "ev")
  | walk_at "call")
local macro_rules | `(tactic| walk_at "et") => `(tactic| first
  | (refine et_test ?_; walk_at "ev")
  | (refine et_B ?_; walk_at "ev")
  | (refine et_not ?_; walk_at "et"))
local macro_rules | `(tactic| walk_at "ea") => `(tactic| first | exact ea_nil | (refine ea_cons ?_ ?_; (walk_at "ev"); (walk_at "ea")))


/-! ### a text times a number -/
theorem foldl_reps (a : Array Nat) : ∀ (m : Nat) (acc : Array Nat), ((List.replicate m a).foldl (· ++ ·) acc).toList = acc.toList ++ (List.replicate m a.toList).flatten
  | 0, acc => by simp
  | m + 1, acc => by
    rw [List.replicate_succ, List.replicate_succ, List.foldl_cons, foldl_reps a m (acc ++ a), Array.toList_append, List.flatten_cons, List.append_assoc]
def repC (z : Str) (n : Nat) : List Nat := (List.replicate n z.cps.toList).flatten
theorem op_repS {X : Cx} : OpR X (binaryOp .Mult) (fun x y H Q => ∃ (z : Str) (k : Int), x = V.str z ∧ y = V.int k ∧ 0 ≤ k ∧ z.length * k.toNat ≤ 16777216 ∧ k < 2 ^ 60 ∧ Q (.str ⟨(repC z k.toNat).toArray⟩) H) := by
  intro pins s σ H x y v u Q I rx ry h
  obtain ⟨z, k, rfl, rfl, h0, hz, hk, q⟩ := h
  obtain ⟨t, rfl⟩ := rx
  obtain ⟨t', rfl⟩ := ry
  have ez : z.length = z.cps.toList.length := by simp [Str.length]
  have hzi : (z.length : Int) * k ≤ 16777216 := by
    have e : ((z.length * k.toNat : Nat) : Int) = (z.length : Int) * k := by
      rw [Int.natCast_mul, Int.toNat_of_nonneg h0]
    omega
  refine PySem.P.mul_str ?_ (fun h1 _ z2 => ?_) (fun h1 _ => ?_) ?_
  · rw [decide_eq_false (by omega), decide_eq_false (by omega)] <;> rfl
  · have h3 : (z.length : Int) ≤ (2 ^ 63 - 1) / k := Int.le_ediv_of_mul_le (by omega) (by omega)
    omega
  · have : ¬ z.length * k.toNat > sizeLine := by
      rw [sizeLine_eq]
      omega
    unfold Builtin.Str.tooLong
    exact decide_eq_false this
  · have e1 : ∀ y : Str, y.cps.toList = repC z k.toNat → y = ⟨(repC z k.toNat).toArray⟩ := fun y hy => by
      obtain ⟨y⟩ := y
      exact congrArg Str.mk (Array.toList_inj.mp (hy.trans rfl))
    have er : (repC z k.toNat).length = k.toNat * z.length := by
      unfold repC
      rw [List.length_flatten, List.map_replicate, List.sum_replicate_nat, ez]
    split
    · have e2 : Str.empty = (⟨(repC z k.toNat).toArray⟩ : Str) := e1 _ (by
        have : k.toNat = 0 := by omega
        unfold repC
        rw [this] <;> rfl)
      refine ⟨by decide, ?_⟩
      rw [e2]
      exact ⟨.str ⟨(repC z k.toNat).toArray⟩, H, I.tok _, ⟨_, rfl⟩, q⟩
    · split
      · rename_i h1 h2
        have e2 : z = (⟨(repC z k.toNat).toArray⟩ : Str) := e1 _ (by
          unfold repC
          rw [Bool.or_eq_true, beq_iff_eq, beq_iff_eq] at h2
          rcases h2 with h2 | h2
          · rw [h2]
            show _ = (List.replicate 1 _).flatten
            simp
          · have : z.cps.toList = [] := List.length_eq_zero_iff.mp (by omega)
            rw [this]
            simp)
        show EP X pins σ Q _ _
        rw [← e2] at q
        exact ⟨.str z, H, I, ⟨t, rfl⟩, q⟩
      · have e2 : (⟨(List.replicate k.toNat z.cps).foldl (· ++ ·) #[]⟩ : Str) = ⟨(repC z k.toNat).toArray⟩ := e1 _ (by
          show ((List.replicate k.toNat z.cps).foldl (· ++ ·) #[]).toList = _
          rw [foldl_reps] <;> rfl)
        rw [e2]
        refine ⟨?_, ⟨.str ⟨(repC z k.toNat).toArray⟩, H, I.tok _, ⟨_, rfl⟩, q⟩⟩
        show (repC z k.toNat).toArray.size ≤ sizeLine
        rw [List.size_toArray, er, sizeLine_eq, Nat.mul_comm]
        exact hz
theorem ev_repS {σ : L2.St} {H : Hp} {ta tb : TE} {z : Str} {n : Nat} (ha : Ev ta σ H (.str z)) (hb : Ev tb σ H (.int (n : Int))) (hz : z.length * n ≤ 16777216) (hn : n ≤ 16777216) : Ev (tOp (fun x y H Q => ∃ (z : Str) (k : Int), x = V.str z ∧ y = V.int k ∧ 0 ≤ k ∧ z.length * k.toNat ≤ 16777216 ∧ k < 2 ^ 60 ∧ Q (.str ⟨(repC z k.toNat).toArray⟩) H) ta tb) σ H (.str ⟨(repC z n).toArray⟩) :=
  ev_op ha hb fun H1 _ Q q => ⟨z, n, rfl, rfl, by omega, hz, by omega, q H1 (Ex.refl H1)⟩


/-! ### len of an own object -/
theorem call_lenO {X : Cx} {C f : Addr} {fd : FuncData} {k : Nat} {sp : Sp} (ml : PySem.W.findIn X.K (.ref C) "__len__" = some (some (.ref f))) (mf : PySem.W.isFn X.K (.ref f) = true) (F : FnOk X.prog X.w X.K X.mg X.base CX0 k f fd ["self"] sp) (hr : Room (k + 1) X.A) (hb : Binds X.K fd ["self"] []) :
    CallR X (.builtin "len") (fun xs H Q => ∃ a dx fs, xs = [V.ref a] ∧ H a = some (.ins C dx fs) ∧ sp [.ref a] H (fun v H' => ∃ n : Int, v = .int n ∧ (0 ≤ n ∧ n < 2 ^ 63) ∧ Q (.int n) H') E0) := by
  intro pins s σ H xs us Q I r h
  obtain ⟨a, dx, fs, rfl, ha, q⟩ := h
  obtain ⟨u, rfl, rx⟩ := vals1 r
  cases (show u = Value.ref a from rx)
  obtain ⟨mA, O, _⟩ := ins_get I.hok ha
  obtain ⟨od, J, _⟩ := O.look
  refine Calls.call_function_entry PySem.kind_len PySem.plain_len PySem.entry_len (PySem.args_len1 _) ?_
  unfold Builtin.«len»
  refine wpAny_bind (wpAny_pure ?_)
  refine wpAny_bind (m := callSpecial? (.ref a) (Str.ofString "__len__")) (PySem.W.special_fn I.kIn J ml (beq_iff_eq.mp mf) ?_)
  refine wpAny_call (codeAny_mono (F.run X.A.in1 X.stack s H ⟨[.ref a], []⟩ [.ref a] [.ref a] _ E0 hr.in1 I.env0.in1 (hb s [.ref a] I.kIn rfl) (.cons rfl .nil) q) fun r s' hq => ?_)
  cases r with
  | error e => exact hq.elim
  | ok fl =>
    cases fl with
    | ret u =>
      obtain ⟨v, H', I', rv, n, rfl, ⟨h0, h1⟩, q⟩ := I.after hq
      obtain ⟨t, rfl⟩ := rv
      refine wpAny_bind (wpAny_holding (wpAny_pure ?_))
      refine wpAny_bind (wpAny_letGo ?_)
      show wpAny _ _ (if n < 0 then _ else _) _ _ _
      rw [if_neg (by omega)]
      show wpAny _ _ (if n ≥ 2 ^ 63 then _ else _) _ _ _
      rw [if_neg (by omega)]
      exact wpAny_bind (wpAny_mkInt (wpAny_pure ⟨_, rfl, ⟨.int n, H', I'.tok _, ⟨_, rfl⟩, q⟩⟩))
    | next => exact False.elim hq
    | brk => exact False.elim hq
    | cont => exact False.elim hq


/-! ### the book -/
abbrev aF (d : Addr) : List (Str × V) := [(("_addresses" : Str), V.ref d)]
theorem aF_get (d : Addr) : (aF d).lookup ("_addresses" : Str) = some (.ref d) := by simp [aF, List.lookup]
theorem aF_no (d : Addr) {m : Str} (h : (m == ("_addresses" : Str)) = false) : (aF d).lookup m = none := by simp [aF, List.lookup, h]
/-- a book stands at p, its dict at d -/
def BkAt (C : Addr) (H : Hp) (p d : Addr) (kvs : List (Key × V)) : Prop := (∃ dx, H p = some (.ins C dx (aF d))) ∧ H d = some (.dK kvs)
/-- what address leaves -/
def addK (kvs : List (Key × V)) (z : Str) : List (Key × V) := match valV kvs (Sum.inr z : Key) with
  | none => putK kvs (Sum.inr z : Key) (.int ((kvs.length : Int) + 1))
  | some _ => kvs
theorem addK_none {kvs : List (Key × V)} {z : Str} (h : valV kvs (Sum.inr z : Key) = none) : addK kvs z = putK kvs (Sum.inr z : Key) (.int ((kvs.length : Int) + 1)) := by
  unfold addK
  rw [h]
theorem addK_some {kvs : List (Key × V)} {z : Str} {v : V} (h : valV kvs (Sum.inr z : Key) = some v) : addK kvs z = kvs := by
  unfold addK
  rw [h]
theorem addK_len (kvs : List (Key × V)) (z : Str) : (addK kvs z).length ≤ kvs.length + 1 := by
  cases h : valV kvs (Sum.inr z : Key) with
  | none => rw [addK_none h, putK_new _ h, List.length_append]; exact Nat.le_refl _
  | some v => rw [addK_some h]; omega
/-- all values are ints -/
def Nums (kvs : List (Key × V)) : Prop := ∀ (k : Key) (v : V), valV kvs k = some v → ∃ i : Int, v = .int i
theorem nums_nil : Nums [] := fun k v h => by cases h
theorem nums_add {kvs : List (Key × V)} (h : Nums kvs) (z : Str) : Nums (addK kvs z) := by
  cases e : valV kvs (Sum.inr z : Key) with
  | none =>
    rw [addK_none e]
    intro k v hv
    rw [valV_put] at hv
    split at hv
    · exact ⟨_, (Option.some.inj hv).symm⟩
    · exact h k v hv
  | some v => rw [addK_some e]; exact h
theorem addK_val {kvs : List (Key × V)} (h : Nums kvs) (z : Str) : ∃ i : Int, valV (addK kvs z) (Sum.inr z : Key) = some (.int i) := by
  cases e : valV kvs (Sum.inr z : Key) with
  | none => exact ⟨_, by rw [addK_none e, valV_put, if_pos rfl]⟩
  | some v =>
    obtain ⟨i, rfl⟩ := h _ _ e
    exact ⟨i, by rw [addK_some e]; exact e⟩
def getK (kvs : List (Key × V)) (z : Str) : V := (valV kvs (Sum.inr z : Key)).getD (.int 0)
theorem getK_int {kvs : List (Key × V)} (h : Nums kvs) (z : Str) : ∃ i : Int, getK kvs z = .int i := by
  unfold getK
  cases e : valV kvs (Sum.inr z : Key) with
  | none => exact ⟨0, rfl⟩
  | some v => exact h _ _ e
theorem szk {n : Nat} (h : n ≤ 1000) : n < sizeLine := small1000 h


/-! ### items and their written form -/
inductive It where
  | non
  | int (i : Int)
  | str (z : Str)
  | tup (xs : List It)
def numC (i : Int) : List Nat := (toString i : Str).cps.toList
mutual
/-- the codes of the written item -/
def encC : It → List Nat
  | .non => [110]
  | .int i => 105 :: (numC i ++ [59])
  | .str z => 116 :: (numC (z.length : Int) ++ (58 :: z.cps.toList))
  | .tup xs => 40 :: (encL xs ++ [41])
def encL : List It → List Nat
  | [] => []
  | d :: ds => encC d ++ encL ds
end
theorem encL_flat : ∀ ds : List It, encL ds = (ds.map encC).flatten
  | [] => rfl
  | d :: ds => by
    show encC d ++ encL ds = _
    rw [encL_flat ds, List.map_cons, List.flatten_cons]
theorem encL_app : ∀ a b : List It, encL (a ++ b) = encL a ++ encL b
  | [], b => rfl
  | x :: a, b => by
    show encC x ++ encL (a ++ b) = encC x ++ encL a ++ encL b
    rw [encL_app a b, List.append_assoc]
theorem encC_pos (d : It) : 1 ≤ (encC d).length := by
  cases d with
  | non => exact Nat.le_refl 1
  | int i => show 1 ≤ (105 :: _).length; simp
  | str z => show 1 ≤ (116 :: _).length; simp
  | tup xs => show 1 ≤ (40 :: _).length; simp
theorem encL_mem : ∀ {ds : List It} {d : It}, d ∈ ds → (encC d).length ≤ (encL ds).length
  | d' :: ds, d, h => by
    show _ ≤ (encC d' ++ encL ds).length
    rw [List.length_append]
    rcases List.mem_cons.mp h with e | e
    · rw [e]; omega
    · have := encL_mem e; omega
mutual
/-- the value v of the heap is the item -/
inductive Dv (K : PySem.W.Frag) (H : Hp) : V → It → Prop
  | non : Dv K H .non .non
  | int (i : Int) : Dv K H (.int i) (.int i)
  | str (z : Str) : Dv K H (.str z) (.str z)
  | tup {a : Addr} {xs : List V} {ds : List It} (h : SqT K H a xs) (r : DvL K H xs ds) : Dv K H (.ref a) (.tup ds)
inductive DvL (K : PySem.W.Frag) (H : Hp) : List V → List It → Prop
  | nil : DvL K H [] []
  | cons {v : V} {vs : List V} {d : It} {ds : List It} (h : Dv K H v d) (r : DvL K H vs ds) : DvL K H (v :: vs) (d :: ds)
end
/-- all but lists stands as it stood -/
def ExN (H H' : Hp) : Prop := ∀ a o, H a = some o → (∀ xs, o ≠ .lst xs) → H' a = some o
theorem exN_t {K : PySem.W.Frag} {H H' : Hp} {a : Addr} {xs : List V} (e : ExN H H') (h : SqT K H a xs) : SqT K H' a xs := by
  rcases h with (h | ⟨o, h⟩) | h
  · exact .inl (.inl (e _ _ h fun _ z => nomatch z))
  · exact .inl (.inr ⟨o, e _ _ h fun _ z => nomatch z⟩)
  · exact .inr h
theorem Ex.n {H H' : Hp} (e : Ex H H') : ExN H H' := fun a o h _ => e a o h
theorem ExN.trans {H H1 H2 : Hp} (a : ExN H H1) (b : ExN H1 H2) : ExN H H2 := fun x o h n => b x o (a x o h n) n
theorem ExN.upd {H : Hp} {p : Addr} {xs : List V} {o : HO} (h : H p = some (.lst xs)) : ExN H (upd H p o) := fun a u e n => by
  rw [upd_ne (fun z => n xs (by rw [z, h] at e; exact (Option.some.inj e).symm))]
  exact e
mutual
theorem Dv.monoN {K : PySem.W.Frag} {H H' : Hp} (e : ExN H H') : ∀ {v : V} {d : It}, Dv K H v d → Dv K H' v d
  | _, _, .non => .non
  | _, _, .int i => .int i
  | _, _, .str z => .str z
  | _, _, .tup h r => .tup (exN_t e h) (DvL.monoN e r)
theorem DvL.monoN {K : PySem.W.Frag} {H H' : Hp} (e : ExN H H') : ∀ {vs : List V} {ds : List It}, DvL K H vs ds → DvL K H' vs ds
  | _, _, .nil => .nil
  | _, _, .cons h r => .cons (Dv.monoN e h) (DvL.monoN e r)
end
theorem Dv.mono {K : PySem.W.Frag} {H H' : Hp} (e : Ex H H') {v : V} {d : It} (h : Dv K H v d) : Dv K H' v d := h.monoN (Ex.n e)
theorem DvL.mono {K : PySem.W.Frag} {H H' : Hp} (e : Ex H H') {vs : List V} {ds : List It} (h : DvL K H vs ds) : DvL K H' vs ds := h.monoN (Ex.n e)
theorem DvL.app {K : PySem.W.Frag} {H : Hp} : ∀ {vs us : List V} {ds es : List It}, DvL K H vs ds → DvL K H us es → DvL K H (vs ++ us) (ds ++ es)
  | _, _, _, _, .nil, h => h
  | _, _, _, _, .cons a r, h => .cons a (r.app h)
theorem DvL.take {K : PySem.W.Frag} {H : Hp} : ∀ {vs : List V} {ds : List It} (n : Nat), DvL K H vs ds → DvL K H (vs.take n) (ds.take n)
  | _, _, 0, _ => .nil
  | _, _, _ + 1, .nil => .nil
  | _, _, n + 1, .cons a r => .cons a (r.take n)
theorem DvL.drop {K : PySem.W.Frag} {H : Hp} : ∀ {vs : List V} {ds : List It} (n : Nat), DvL K H vs ds → DvL K H (vs.drop n) (ds.drop n)
  | _, _, 0, h => h
  | _, _, _ + 1, .nil => .nil
  | _, _, n + 1, .cons _ r => r.drop n
theorem DvL.len {K : PySem.W.Frag} {H : Hp} : ∀ {vs : List V} {ds : List It}, DvL K H vs ds → vs.length = ds.length
  | _, _, .nil => rfl
  | _, _, .cons _ r => congrArg (· + 1) r.len
theorem DvL.at {K : PySem.W.Frag} {H : Hp} : ∀ {vs : List V} {ds : List It}, DvL K H vs ds → ∀ {i : Nat} {v : V} {d : It}, vs[i]? = some v → ds[i]? = some d → Dv K H v d
  | _, _, .cons h _, 0, v, d, e1, e2 => by
    have e1 := Option.some.inj e1
    have e2 := Option.some.inj e2
    subst e1 e2
    exact h
  | _, _, .cons _ r, i + 1, v, d, e1, e2 => r.at (i := i) (by simpa using e1) (by simpa using e2)
/-- depth, width and sizes -/
def It.fit : Nat → It → Prop
  | 0, x => match x with
    | .non => True
    | .int i => -(10 ^ 60) < i ∧ i < 10 ^ 60
    | .str z => z.length ≤ 999999
    | .tup _ => False
  | n + 1, x => match x with
    | .non => True
    | .int i => -(10 ^ 60) < i ∧ i < 10 ^ 60
    | .str z => z.length ≤ 999999
    | .tup xs => xs.length ≤ 1000 ∧ ∀ y ∈ xs, It.fit n y
theorem log60 {i : Int} (h : -(10 ^ 60) < i ∧ i < 10 ^ 60) : i.natAbs.log2 < 1920 := by
  have e60 : (10 : Int) ^ 60 = 1000000000000000000000000000000000000000000000000000000000000 := by decide
  rw [e60] at h
  exact Nat.lt_of_lt_of_le (PySem.Flt.log2_lt_of (k := 256) (by decide) (by omega)) (by decide)
theorem fit_int60 {n : Nat} {i : Int} (h : It.fit n (.int i)) : -(10 ^ 60) < i ∧ i < 10 ^ 60 := by cases n <;> exact h
theorem fit_int {n : Nat} {i : Int} (h : It.fit n (.int i)) : i.natAbs.log2 < 1920 := log60 (fit_int60 h)
theorem fit_str {n : Nat} {z : Str} (h : It.fit n (.str z)) : z.length ≤ 999999 := by cases n <;> exact h
theorem It.fit_mono : ∀ {n m : Nat} {d : It}, It.fit n d → n ≤ m → It.fit m d
  | n, m, .non, _, _ => by cases m <;> trivial
  | n, m, .int i, h, _ => by
    have := fit_int60 h
    cases m <;> exact this
  | n, m, .str z, h, _ => by
    have := fit_str h
    cases m <;> exact this
  | 0, m, .tup xs, h, _ => h.elim
  | n + 1, 0, .tup xs, h, e => by omega
  | n + 1, m + 1, .tup xs, h, e => ⟨h.1, fun y hy => It.fit_mono (h.2 y hy) (by omega)⟩
def spEnc (K : PySem.W.Frag) (n : Nat) : Sp := fun vs H Q _ => ∃ (v : V) (d : It), vs = [v] ∧ Dv K H v d ∧ d.fit n ∧ (encC d).length ≤ 16000000 ∧ ∀ H', Ex H H' → Q (.str ⟨(encC d).toArray⟩) H'
theorem cv_enc {K : PySem.W.Frag} {n : Nat} {v : V} {d : It} {H : Hp} (h : Dv K H v d) (hf : d.fit n) (hz : (encC d).length ≤ 16000000) : SpV (spEnc K n) [v] H (.str ⟨(encC d).toArray⟩) := fun H1 e Q q E => ⟨v, d, rfl, h.mono e, hf, hz, fun H2 e2 => q H2 e2⟩
/-- '(' + ''.join([f(part) for part in item]) + ')' -/
theorem ev_parts {K : PySem.W.Frag} {σ : L2.St} {H : Hp} {te tl : TE} {j : Nat} {vs : List Nat} {a : Addr} {xs : List V} {ds : List It} {n : Nat} (hl : Ev tl σ H (.ref a)) (h : SqT K H a xs) (r : DvL K H xs ds) (hf : It.fit (n + 1) (.tup ds)) (hz : (encC (.tup ds)).length ≤ 16000000)
    (hw : ∀ x, wipe ((wipe σ vs).set j (some x)) vs = wipe σ vs)
    (he : ∀ (x : V) (d : It) H1, Ex H H1 → Dv K H1 x d → d.fit n → (encC d).length ≤ 16000000 → Ev te ((wipe σ vs).set j (some x)) H1 (.str ⟨(encC d).toArray⟩)) :
    Ev (tOp (fun x y H Q => ∃ i j, x = V.str i ∧ y = V.str j ∧ i.length + j.length ≤ sizeLine ∧ Q (.str (i ++ j)) H) (tOp (fun x y H Q => ∃ i j, x = V.str i ∧ y = V.str j ∧ i.length + j.length ≤ sizeLine ∧ Q (.str (i ++ j)) H) (tC (.str (Str.ofString "(")))
      (tM1 (fun x xs H Q => ∃ a p, ∃ ys : List Str, x = .str a ∧ xs = [.ref p] ∧ (SqL K H p (ys.map V.str) ∨ SqT K H p (ys.map V.str)) ∧ (ys.map (·.length)).sum + ys.length * a.length ≤ 16777216 ∧ Q (.str (Txt.join a ys)) H) (tC (.str (Str.ofString ""))) (tLc (iTup K tl) (gName j) tYes te vs)))
      (tC (.str (Str.ofString ")")))) σ H (.str ⟨(encC (.tup ds)).toArray⟩) := by
  have ez : (encC (.tup ds)).length = (encL ds).length + 2 := by
    show (40 :: (encL ds ++ [41])).length = _
    rw [List.length_cons, List.length_append] <;> rfl
  have ef : (encL ds) = (ds.map encC).flatten := encL_flat ds
  have ej : Txt.join (Str.ofString "") ((ds.map encC).map fun c => (⟨c.toArray⟩ : Str)) = ⟨(encL ds).toArray⟩ := by rw [join_codes, ef]
  have e1 : (⟨(encC (.tup ds)).toArray⟩ : Str) = Str.ofString "(" ++ Txt.join (Str.ofString "") ((ds.map encC).map fun c => (⟨c.toArray⟩ : Str)) ++ Str.ofString ")" := by
    refine str_ext ?_
    rw [ej]
    have a1 : (Str.ofString "(").cps.toList = [40] := by decide +kernel
    have a2 : (Str.ofString ")").cps.toList = [41] := by decide +kernel
    rw [codes_app (codes_app a1 rfl) a2]
    show 40 :: (encL ds ++ [41]) = _
    simp
  rw [e1]
  have l1 : (Str.ofString "(").length = 1 := by decide +kernel
  have l2 : (Str.ofString ")").length = 1 := by decide +kernel
  have l3 : (Str.ofString "(" ++ Txt.join (Str.ofString "") ((ds.map encC).map fun c => (⟨c.toArray⟩ : Str))).length = 1 + (encL ds).length := by
    rw [ej, str_len, codes_app (x := [40]) (by decide +kernel) rfl, List.length_append]
    simp
  have l4 : (Txt.join (Str.ofString "") ((ds.map encC).map fun c => (⟨c.toArray⟩ : Str))).length = (encL ds).length := by
    rw [ej, str_len]
  refine ev_addS (ev_addS ev_c (ev_joinN (K := K) ev_c (el_mapT (K := K) hl h ?_ hw ?_ fun i x y hx hy H1 ex => ?_) ?_) ?_) ev_c ?_
  · have := hf.1
    rw [r.len]; omega
  · rw [List.length_map, List.length_map, List.length_map, r.len]
  · rw [List.getElem?_map, List.getElem?_map, List.getElem?_map] at hy
    cases e : ds[i]? with
    | none =>
      rw [e] at hy
      cases hy
    | some d =>
      rw [e] at hy
      have ey : y = .str ⟨(encC d).toArray⟩ := (Option.some.inj hy).symm
      have hm := List.mem_of_getElem? e
      rw [ey]
      have := encL_mem hm
      exact he x d H1 ex ((r.at hx e).mono ex) (hf.2 d hm) (by omega)
  · rw [sum_codes, ← ef]
    show _ + _ * 0 ≤ 16777216
    omega
  · rw [l1, l4]; omega
  · rw [l3, l2]; omega
/-- return f'i{item};' -/
theorem enc_int {n : Nat} {i : Int} {σ : L2.St} {H : Hp} {D : Ends} (hf : It.fit n (.int i)) (hz : (encC (.int i)).length ≤ 16000000) (q : ∀ H1, Ex H H1 → D.rt (.str ⟨(encC (.int i)).toArray⟩) H1) {te : TE} (he : Ev te σ H (.int i) := by exact ev_var rfl) :
    tRet (fun σ H Q => tJs [tC (.str (Str.ofString "i")), tFmt te, tC (.str (Str.ofString ";"))] Str.empty σ H fun out H1 => Q (.str out) H1) D σ H := by
  have a1 : (Str.ofString "i").cps.toList = [105] := by decide +kernel
  have a2 : (Str.ofString ";").cps.toList = [59] := by decide +kernel
  have a0 : (Str.empty).cps.toList = [] := by decide +kernel
  have ey : ([Str.ofString "i", (toString i : Str), Str.ofString ";"].foldl (· ++ ·) Str.empty : Str) = ⟨(encC (.int i)).toArray⟩ := mk_of (by
    show (((Str.empty ++ Str.ofString "i") ++ (toString i : Str)) ++ Str.ofString ";").cps.toList = _
    rw [codes_app (codes_app (codes_app a0 a1) rfl) a2]
    show _ = 105 :: (numC i ++ [59])
    simp [numC])
  refine s_ret (ev_is (ev_joined (.cons ev_c (.cons (ev_fmtI he (fit_int hf)) (.cons ev_c .nil))) ?_) (congrArg V.str ey)) q
  have e1 : (encC (.int i)).length = 2 + (numC i).length := by
    show (105 :: (numC i ++ [59])).length = _
    rw [List.length_cons, List.length_append, List.length_singleton]
    omega
  have e2 : ([Str.ofString "i", (toString i : Str), Str.ofString ";"].map (·.length)).sum = 1 + ((numC i).length + (1 + 0)) := by
    show (Str.ofString "i").length + ((toString i : Str).length + ((Str.ofString ";").length + 0)) = _
    rw [str_len, str_len, str_len, a1, a2] <;> rfl
  omega
/-- return f't{len(item)}:{item}' -/
theorem enc_str {n : Nat} {z : Str} {σ : L2.St} {H : Hp} {D : Ends} (hf : It.fit n (.str z)) (hz : (encC (.str z)).length ≤ 16000000) (q : ∀ H1, Ex H H1 → D.rt (.str ⟨(encC (.str z)).toArray⟩) H1) {te : TE} (he : Ev te σ H (.str z) := by exact ev_var rfl) :
    tRet (fun σ H Q => tJs [tC (.str (Str.ofString "t")), tFmt (tCB (fun xs H Q => ∃ z, xs = [V.str z] ∧ z.length ≤ sizeLine ∧ Q (.int z.length) H) (tCons te tNil)), tC (.str (Str.ofString ":")), tFmt te] Str.empty σ H fun out H1 => Q (.str out) H1) D σ H := by
  have a1 : (Str.ofString "t").cps.toList = [116] := by decide +kernel
  have a2 : (Str.ofString ":").cps.toList = [58] := by decide +kernel
  have a0 : (Str.empty).cps.toList = [] := by decide +kernel
  have hl := fit_str hf
  have hl2 : z.length ≤ sizeLine := sizeOk (by omega)
  have hs : ((z.length : Int)).natAbs.log2 < 1920 := Nat.lt_of_lt_of_le (PySem.Flt.log2_lt_of (k := 64) (by decide) (by omega)) (by decide)
  have ey : ([Str.ofString "t", (toString (z.length : Int) : Str), Str.ofString ":", z].foldl (· ++ ·) Str.empty : Str) = ⟨(encC (.str z)).toArray⟩ := mk_of (by
    show ((((Str.empty ++ Str.ofString "t") ++ (toString (z.length : Int) : Str)) ++ Str.ofString ":") ++ z).cps.toList = _
    rw [codes_app (codes_app (codes_app (codes_app a0 a1) rfl) a2) rfl]
    show _ = 116 :: (numC (z.length : Int) ++ (58 :: z.cps.toList))
    simp [numC])
  refine s_ret (ev_is (ev_joined (.cons ev_c (.cons (ev_fmtI (fun H1 e Q q => he H1 e _ fun H2 e2 => ⟨z, rfl, hl2, q H2 e2⟩) hs) (.cons ev_c (.cons (ev_fmtS he (by omega)) .nil)))) ?_) (congrArg V.str ey)) q
  have e1 : (encC (.str z)).length = 2 + (numC (z.length : Int)).length + z.cps.toList.length := by
    show (116 :: (numC (z.length : Int) ++ (58 :: z.cps.toList))).length = _
    rw [List.length_cons, List.length_append, List.length_cons]
    omega
  have e2 : ([Str.ofString "t", (toString (z.length : Int) : Str), Str.ofString ":", z].map (·.length)).sum = 1 + ((numC (z.length : Int)).length + (1 + (z.cps.toList.length + 0))) := by
    show (Str.ofString "t").length + ((toString (z.length : Int) : Str).length + ((Str.ofString ":").length + (z.length + 0))) = _
    rw [str_len, str_len (toString _ : Str), str_len (Str.ofString ":"), str_len z, a1, a2] <;> rfl
  omega

def rCatS' : R2 := fun x y H Q => ∃ i j, x = V.str i ∧ y = V.str j ∧ i.length + j.length ≤ sizeLine ∧ Q (.str (i ++ j)) H
/-- return 'i' + str(item) + ';' -/
theorem wr_int {n : Nat} {i : Int} {σ : L2.St} {H : Hp} {D : Ends} (hf : It.fit n (.int i)) (hz : (encC (.int i)).length ≤ 16000000) (q : ∀ H1, Ex H H1 → D.rt (.str ⟨(encC (.int i)).toArray⟩) H1) {te : TE} (he : Ev te σ H (.int i) := by exact ev_var rfl) :
    tRet (tOp rCatS' (tOp rCatS' (tC (.str (Str.ofString "i"))) (tCB (fun xs H Q => ∃ i : Int, xs = [V.int i] ∧ i.natAbs.log2 < 1920 ∧ Q (.str (toString i)) H) (tCons te tNil))) (tC (.str (Str.ofString ";")))) D σ H := by
  have a1 : (Str.ofString "i").cps.toList = [105] := by decide +kernel
  have a2 : (Str.ofString ";").cps.toList = [59] := by decide +kernel
  have ey : ((Str.ofString "i" ++ (toString i : Str)) ++ Str.ofString ";") = (⟨(encC (.int i)).toArray⟩ : Str) := mk_of (by
    rw [codes_app (codes_app a1 rfl) a2]
    show _ = 105 :: (numC i ++ [59])
    simp [numC])
  have e1 : (encC (.int i)).length = 2 + (numC i).length := by
    show (105 :: (numC i ++ [59])).length = _
    rw [List.length_cons, List.length_append, List.length_singleton]
    omega
  have e3 : (toString i : Str).length = (numC i).length := str_len _
  have e2 : (Str.ofString "i" ++ (toString i : Str)).length = 1 + (numC i).length := by
    rw [str_len, codes_app a1 rfl, List.length_append] <;> rfl
  have l1 : (Str.ofString "i").length = 1 := by decide +kernel
  have l2 : (Str.ofString ";").length = 1 := by decide +kernel
  refine s_ret (ev_is (ev_addS (ev_addS ev_c (ev_strI he (fit_int hf)) ?_) ev_c ?_) (congrArg V.str ey)) q
  · rw [l1, e3]; omega
  · rw [e2, l2]; omega
/-- return 't' + str(len(item)) + ':' + item -/
theorem wr_str {n : Nat} {z : Str} {σ : L2.St} {H : Hp} {D : Ends} (hf : It.fit n (.str z)) (hz : (encC (.str z)).length ≤ 16000000) (q : ∀ H1, Ex H H1 → D.rt (.str ⟨(encC (.str z)).toArray⟩) H1) {te : TE} (he : Ev te σ H (.str z) := by exact ev_var rfl) :
    tRet (tOp rCatS' (tOp rCatS' (tOp rCatS' (tC (.str (Str.ofString "t"))) (tCB (fun xs H Q => ∃ i : Int, xs = [V.int i] ∧ i.natAbs.log2 < 1920 ∧ Q (.str (toString i)) H) (tCons (tCB (fun xs H Q => ∃ z, xs = [V.str z] ∧ z.length ≤ sizeLine ∧ Q (.int z.length) H) (tCons te tNil)) tNil))) (tC (.str (Str.ofString ":")))) te) D σ H := by
  have a1 : (Str.ofString "t").cps.toList = [116] := by decide +kernel
  have a2 : (Str.ofString ":").cps.toList = [58] := by decide +kernel
  have hl := fit_str hf
  have hl2 : z.length ≤ sizeLine := sizeOk (by omega)
  have hs : ((z.length : Int)).natAbs.log2 < 1920 := Nat.lt_of_lt_of_le (PySem.Flt.log2_lt_of (k := 64) (by decide) (by omega)) (by decide)
  have ey : (((Str.ofString "t" ++ (toString (z.length : Int) : Str)) ++ Str.ofString ":") ++ z) = (⟨(encC (.str z)).toArray⟩ : Str) := mk_of (by
    rw [codes_app (codes_app (codes_app a1 rfl) a2) rfl]
    show _ = 116 :: (numC (z.length : Int) ++ (58 :: z.cps.toList))
    simp [numC])
  have e1 : (encC (.str z)).length = 2 + (numC (z.length : Int)).length + z.cps.toList.length := by
    show (116 :: (numC (z.length : Int) ++ (58 :: z.cps.toList))).length = _
    rw [List.length_cons, List.length_append, List.length_cons]
    omega
  have e3 : (toString (z.length : Int) : Str).length = (numC (z.length : Int)).length := str_len _
  have e2 : (Str.ofString "t" ++ (toString (z.length : Int) : Str)).length = 1 + (numC (z.length : Int)).length := by
    rw [str_len, codes_app a1 rfl, List.length_append] <;> rfl
  have e4 : ((Str.ofString "t" ++ (toString (z.length : Int) : Str)) ++ Str.ofString ":").length = 2 + (numC (z.length : Int)).length := by
    rw [str_len, codes_app (codes_app a1 rfl) a2, List.length_append, List.length_append]
    show 1 + _ + 1 = _
    unfold numC
    omega
  have l1 : (Str.ofString "t").length = 1 := by decide +kernel
  have l2 : (Str.ofString ":").length = 1 := by decide +kernel
  have l4 := str_len z
  refine s_ret (ev_is (ev_addS (ev_addS (ev_addS ev_c (ev_strI (fun H1 e Q q => he H1 e _ fun H2 e2 => ⟨z, rfl, hl2, q H2 e2⟩) hs) ?_) ev_c ?_) he ?_) (congrArg V.str ey)) q
  · rw [l1, e3]; omega
  · rw [e2, l2]; omega
  · rw [e4]; omega
/-! ### sizes -/
theorem numC_len {i : Int} (h : i.natAbs.log2 < 1920) : (numC i).length ≤ 1921 := by
  have e := int_text_length_le (k := 1920) (by decide) h
  have e2 : (numC i).length = (toString i : Str).length := (str_len _).symm
  rw [e2]
  show (Str.ofString (toString i)).length ≤ 1921
  rw [PySem.ofString_length]
  exact e
theorem enc_int_len {i : Int} (h : i.natAbs.log2 < 1920) : (encC (.int i)).length ≤ 1923 := by
  have := numC_len h
  show (105 :: (numC i ++ [59])).length ≤ _
  rw [List.length_cons, List.length_append, List.length_singleton]
  omega
theorem enc_str_len {z : Str} (h : z.length ≤ 1000000) : (encC (.str z)).length ≤ 1923 + z.length := by
  have hs : ((z.length : Int)).natAbs.log2 < 1920 := Nat.lt_of_lt_of_le (PySem.Flt.log2_lt_of (k := 64) (by decide) (by omega)) (by decide)
  have := numC_len hs
  have e := str_len z
  show (116 :: (numC (z.length : Int) ++ (58 :: z.cps.toList))).length ≤ _
  rw [List.length_cons, List.length_append, List.length_cons]
  omega
/-- a value of the document: None, an int below 10 ** 60, a text of some signs -/
def It.sc : It → Prop
  | .non => True
  | .int i => -(10 ^ 60) < i ∧ i < 10 ^ 60
  | .str z => z.length ≤ 200
  | .tup _ => False
def vz : It → V
  | .non => .non
  | .int i => .int i
  | .str z => .str z
  | .tup _ => .non
theorem It.sc_fit {d : It} (h : d.sc) (n : Nat) : d.fit n := by
  cases d with
  | non => cases n <;> trivial
  | int i => cases n <;> exact h
  | str z =>
    have h : z.length ≤ 200 := h
    cases n <;> (show z.length ≤ 999999; omega)
  | tup xs => exact h.elim
theorem It.sc_len {d : It} (h : d.sc) : (encC d).length ≤ 2200 := by
  cases d with
  | non => show 1 ≤ 2200; decide
  | int i => exact Nat.le_trans (enc_int_len (log60 h)) (by decide)
  | str z =>
    have h : z.length ≤ 200 := h
    have := enc_str_len (z := z) (by omega)
    omega
  | tup xs => exact h.elim
theorem Dv.sc {K : PySem.W.Frag} {H : Hp} {d : It} (h : d.sc) : Dv K H (vz d) d := by
  cases d with
  | non => exact .non
  | int i => exact .int i
  | str z => exact .str z
  | tup xs => exact h.elim
theorem DvL.sc {K : PySem.W.Frag} {H : Hp} : ∀ {ds : List It}, (∀ d ∈ ds, d.sc) → DvL K H (ds.map vz) ds
  | [], _ => .nil
  | d :: ds, h => .cons (.sc (h d (List.mem_cons_self ..))) (.sc fun x hx => h x (List.mem_cons_of_mem _ hx))
theorem encL_len : ∀ {ds : List It} {m : Nat}, (∀ d ∈ ds, (encC d).length ≤ m) → (encL ds).length ≤ ds.length * m
  | [], m, _ => Nat.zero_le _
  | d :: ds, m, h => by
    have h1 := h d (List.mem_cons_self ..)
    have h2 := encL_len (ds := ds) (m := m) fun x hx => h x (List.mem_cons_of_mem _ hx)
    show (encC d ++ encL ds).length ≤ (ds.length + 1) * m
    rw [List.length_append, Nat.add_mul]
    omega
theorem enc_tup_len (ds : List It) : (encC (.tup ds)).length = (encL ds).length + 2 := by
  show (40 :: (encL ds ++ [41])).length = _
  rw [List.length_cons, List.length_append] <;> rfl


/-- the digest -/
def digS (t : Int) (c : Nat) : Int := (31 * t + (c : Int)) % 1000003
def digZ (l : List Nat) : Int := l.foldl digS 7
theorem digZ_succ {l : List Nat} {i c : Nat} (h : l[i]? = some c) : digZ (l.take (i + 1)) = (31 * digZ (l.take i) + (c : Int)) % 1000003 := by
  unfold digZ
  rw [List.take_add_one, h]
  show ((l.take i) ++ [c]).foldl digS 7 = _
  rw [List.foldl_append] <;> rfl
theorem digZ_ge : ∀ (l : List Nat), 0 ≤ digZ l ∧ digZ l < 1000003 := by
  intro l
  unfold digZ
  have key : ∀ (l : List Nat) (t : Int), 0 ≤ t ∧ t < 1000003 → 0 ≤ l.foldl digS t ∧ l.foldl digS t < 1000003 := by
    intro l
    induction l with
    | nil => exact fun t h => h
    | cons a r ih => exact fun t _ => ih (digS t a) ⟨Int.emod_nonneg (31 * t + (a : Int)) (by decide : (1000003 : Int) ≠ 0), Int.emod_lt_of_pos (31 * t + (a : Int)) (by decide : (0 : Int) < 1000003)⟩
  exact key l 7 ⟨by decide, by decide⟩
def spDig : Sp := fun vs H Q _ => ∃ z : Str, vs = [.str z] ∧ ∀ H', Ex H H' → Q (.int (digZ z.cps.toList)) H'
theorem cv_dig {z : Str} {H : Hp} : SpV spDig [.str z] H (.int (digZ z.cps.toList)) := fun H1 e Q q E => ⟨z, rfl, fun H2 e2 => q H2 e2⟩


/-! ### what is read back -/
theorem numC_nat (n : Nat) : numC ((n : Nat) : Int) = TL.numL n := TL.tl_num n
theorem neg_text (n : Nat) : (toString (Int.negSucc n) : String) = "-" ++ toString ((n + 1 : Nat) : Int) := rfl
theorem ofString_app (a b : String) : Str.ofString (a ++ b) = Str.ofString a ++ Str.ofString b := by
  refine str_ext ?_
  rw [codes_app (signs_ofString a) (signs_ofString b), signs_ofString, String.toList_append, List.map_append]
theorem numC_neg (n : Nat) : numC (Int.negSucc n) = 45 :: TL.numL (n + 1) := by
  show (Str.ofString (toString (Int.negSucc n))).cps.toList = _
  rw [neg_text, ofString_app, codes_app (x := [45]) (by decide +kernel) rfl]
  exact congrArg (List.cons 45) (numC_nat (n + 1))
/-- digits without a leading zero -/
structure Digs (ds : List Nat) (most : Nat) : Prop where
  all : ∀ c ∈ ds, 48 ≤ c ∧ c ≤ 57
  ne : ds ≠ []
  len : ds.length ≤ most
  lead : ds.length = 1 ∨ ds.head? ≠ some 48
theorem numL_head : ∀ n : Nat, (TL.numL n).length = 1 ∨ (TL.numL n).head? ≠ some 48 := by
  intro n
  induction n using Nat.strongRecOn with
  | _ n ih =>
    by_cases h : n < 10
    · exact .inl (by rw [TL.numL_lt h] <;> rfl)
    · refine .inr ?_
      have h10 : 10 ≤ n := by omega
      rw [TL.numL_step h10]
      have hne := TL.numL_ne (n / 10)
      cases e : TL.numL (n / 10) with
      | nil => exact absurd e hne
      | cons c r =>
        show some c ≠ some 48
        rcases ih (n / 10) (by omega) with h1 | h1
        · rw [e] at h1
          have hr : r = [] := List.length_eq_zero_iff.mp (by simpa using h1)
          subst hr
          have hq : n / 10 < 10 := by
            by_cases hq : n / 10 < 10
            · exact hq
            · rw [TL.numL_step (by omega)] at e
              have := congrArg List.length e
              have h3 := List.length_pos_iff.mpr (TL.numL_ne (n / 10 / 10))
              rw [List.length_append, List.length_singleton, List.length_singleton] at this
              omega
          rw [TL.numL_lt hq] at e
          have e2 : 48 + n / 10 = c := by simpa using e
          intro z
          have := Option.some.inj z
          omega
        · rw [e] at h1
          exact h1
theorem digs_num {n most : Nat} (hm : 0 < most) (h : n < 10 ^ most) : Digs (TL.numL n) most := ⟨TL.numL_digits n, TL.numL_ne n, TL.numL_len hm h, numL_head n⟩
theorem slice_app {l a b c : List Nat} (h : l = a ++ (b ++ c)) : (l.drop a.length).take b.length = b := by
  rw [h, List.drop_left, List.take_left]
/-- text[i:j] of a text that is known there -/
theorem cutS_at {z : Str} {a b c : List Nat} (h : z.cps.toList = a ++ (b ++ c)) : cutS z (some (a.length : Int)) (some ((a.length + b.length : Nat) : Int)) = ⟨b.toArray⟩ := by
  have el : z.length = a.length + (b.length + c.length) := by rw [str_len, h, List.length_append, List.length_append]
  unfold cutS
  rw [HT.sIx_nat, HT.sIx_nat, Nat.min_eq_left (by omega), Nat.min_eq_left (by omega), Nat.add_sub_cancel_left, slice_app h]
theorem int_at {i : Int} (h : -(10 ^ 60) < i ∧ i < 10 ^ 60) : intText? (⟨(numC i).toArray⟩ : Str) = some i ∧ (⟨(numC i).toArray⟩ : Str).length ≤ 640 := by
  have e60 : (10 : Int) ^ 60 = 1000000000000000000000000000000000000000000000000000000000000 := by decide
  have n60 : (10 : Nat) ^ 60 = 1000000000000000000000000000000000000000000000000000000000000 := by decide
  rw [e60] at h
  cases i with
  | ofNat n =>
    have hn : n < 10 ^ 60 := by
      rw [n60]
      have := h.2
      simp at this
      omega
    have hl := TL.numL_len (by decide) hn
    have e : (⟨(numC (Int.ofNat n)).toArray⟩ : Str) = Str.ofString (toString ((n : Nat) : Int)) := str_ext rfl
    refine ⟨?_, ?_⟩
    · rw [e]
      exact TL.int_num (by omega)
    · rw [str_len]
      show (numC ((n : Nat) : Int)).length ≤ 640
      rw [numC_nat]
      omega
  | negSucc n =>
    have hn : n + 1 < 10 ^ 60 := by
      rw [n60]
      have := h.1
      omega
    have hl := TL.numL_len (by decide) hn
    have ec : (⟨(numC (Int.negSucc n)).toArray⟩ : Str).cps.toList = 45 :: TL.numL (n + 1) := numC_neg n
    have ln : (⟨(numC (Int.negSucc n)).toArray⟩ : Str).length = (TL.numL (n + 1)).length + 1 := by rw [str_len, ec] <;> rfl
    refine ⟨?_, by omega⟩
    have := PySem.intText_neg ec (TL.numL_digits _) (TL.numL_ne _) (by omega)
    rw [TL.numL_val] at this
    rw [this]
    exact congrArg some (by omega)
/-! ### a chain of two comparisons of texts -/
theorem le_str1 (a c : Nat) : (!decide ((⟨#[c]⟩ : Str).cps.toList < (⟨#[a]⟩ : Str).cps.toList)) = decide (a ≤ c) := by
  have e : ((⟨#[c]⟩ : Str).cps.toList < (⟨#[a]⟩ : Str).cps.toList) ↔ c < a := by
    show ([c] : List Nat) < [a] ↔ c < a
    constructor
    · intro h
      cases h with
      | rel h => exact h
      | cons h => cases h
    · intro h
      exact List.Lex.rel h
  by_cases h : c < a
  · rw [decide_eq_true (e.mpr h), decide_eq_false (by omega)] <;> rfl
  · rw [decide_eq_false (fun z => h (e.mp z)), decide_eq_true (by omega)] <;> rfl
abbrev rLeS : R2 := fun x y H Q => ∃ i j, x = .str i ∧ y = .str j ∧ Q (.bl (!decide (j.cps.toList < i.cps.toList))) H
theorem et_dig {σ : L2.St} {H : Hp} {tb : TE} {c : Nat} (hb : Ev tb σ H (.str ⟨#[c]⟩)) : EvT (tTest (tChain rLeS rLeS (tC (.str (Str.ofString "0"))) tb (tC (.str (Str.ofString "9"))))) σ H (decide (48 ≤ c ∧ c ≤ 57)) := fun H1 e Q q => by
  have e0 : (Str.ofString "0") = ⟨#[48]⟩ := by decide +kernel
  have e9 : (Str.ofString "9") = ⟨#[57]⟩ := by decide +kernel
  refine hb H1 e _ fun H2 e2 => ⟨_, _, rfl, rfl, decide (48 ≤ c), ?_, ?_⟩
  · rw [e0]
    exact congrArg V.bl (le_str1 48 c)
  · by_cases h : 48 ≤ c
    · rw [decide_eq_true h]
      refine iteT ⟨_, _, rfl, rfl, decide (c ≤ 57), ?_, ?_⟩
      · rw [e9]
        exact congrArg V.bl (le_str1 c 57)
      · have : decide (48 ≤ c ∧ c ≤ 57) = decide (c ≤ 57) := decide_eq_decide.mpr ⟨fun z => z.2, fun z => ⟨h, z⟩⟩
        rw [← this]
        exact q H2 e2
    · rw [decide_eq_false h]
      refine iteF ⟨false, rfl, ?_⟩
      have : decide (48 ≤ c ∧ c ≤ 57) = false := decide_eq_false fun z => h z.1
      rw [← this]
      exact q H2 e2
theorem str1_eq {a c : Nat} : decide ((⟨#[c]⟩ : Str) = ⟨#[a]⟩) = decide (c = a) := decide_eq_decide.mpr ⟨fun h => by
  have := congrArg (fun s : Str => s.cps.toList) h
  simpa using this, fun h => by rw [h]⟩
def spDec (K : PySem.W.Frag) : Sp := fun vs H Q _ => ∃ (z : Str) (d : It), vs = [.str z] ∧ z = ⟨(encC d).toArray⟩ ∧ d.fit 12 ∧ (encC d).length ≤ 16000000 ∧ ∀ v H', Ex H H' → Dv K H' v d → Q v H'


/-! ### kinds -/
def kIn (k : Str) (xs : List String) : Bool := inV (.str k) (xs.map fun x => V.str (Str.ofString x))
def baseT (k : Str) : Str := if kIn k ["int", "int?"] then Str.ofString "int" else Str.ofString "text"
theorem ev_kinU {K : PySem.W.Frag} {σ : L2.St} {H : Hp} {ta tb : TE} {k : Str} {xs : List String} (ha : Ev ta σ H (.str k)) (hb : EvU tb σ H (xs.map fun x => V.str (Str.ofString x))) (hf : (xs.map fun x => V.str (Str.ofString x)).all flatV = true := by rfl) : Ev (tOp (rIn K false) ta tb) σ H (.bl (kIn k xs)) := ev_inU ha hb rfl hf
theorem ev_kinL {K : PySem.W.Frag} {σ : L2.St} {H : Hp} {ta tb : TE} {k : Str} {xs : List String} (ha : Ev ta σ H (.str k)) (hb : EvL tb σ H (xs.map fun x => V.str (Str.ofString x))) (hf : (xs.map fun x => V.str (Str.ofString x)).all flatV = true := by rfl) : Ev (tOp (rIn K false) ta tb) σ H (.bl (kIn k xs)) := ev_opL ha hb fun _ _ h _ => rv_isL (sq_of h) rfl hf
/-- None, an integer or a text -/
inductive Sc : V → Prop
  | non : Sc .non
  | int (i : Int) : Sc (.int i)
  | str (z : Str) : Sc (.str z)
def accB (k : Str) : V → Bool
  | .non => kIn k ["int?", "text?"]
  | .int _ => decide (baseT k = Str.ofString "int")
  | _ => !decide (baseT k = Str.ofString "int")


/-! ### names: a comprehension over a text, all, chains -/
theorem el_lcS {σ : L2.St} {H : Hp} {te tl : TE} {z : Str} {j : Nat} {vs : List Nat} {ys : List V} (h : Ev te σ H (.str z)) (hz : z.cps.toList.length ≤ 40000) (hw : ∀ x, wipe ((wipe σ vs).set j (some x)) vs = wipe σ vs) (hl : ys.length = z.cps.toList.length)
    (he : ∀ (i c : Nat) (y : V), z.cps.toList[i]? = some c → ys[i]? = some y → ∀ H1, Ex H H1 → Ev tl ((wipe σ vs).set j (some (.str ⟨#[c]⟩))) H1 y) : EvL (tLc (iStr te) (gName j) tYes tl vs) σ H ys := fun H0 e Q q => h H0 e _ fun H1 e1 => ⟨z, rfl, fun D hD => by
  have g : given z.cps.toList.length (fun _ => true) (fun i => ys.getD i .non) = ys := given_all hl fun i hi => by
    have hi2 : i < ys.length := by omega
    rw [List.getElem?_eq_getElem hi2, List.getD_eq_getElem?_getD, List.getElem?_eq_getElem hi2] <;> rfl
  refine ⟨fun i m H' => m = z.cps.toList.length - i ∧ i ≤ z.cps.toList.length ∧ Cw H1 (fun _ => true) (fun i => ys.getD i .non) D i H', ⟨_, rfl, Nat.zero_le _, hD, Ex.new hD, upd_same⟩, ?_⟩
  rintro i m H' ⟨rfl, hi, p⟩
  by_cases hlt : i < z.cps.toList.length
  · refine .inr ⟨(by show i < z.cps.size; simpa using hlt), Cw H1 (fun _ => true) (fun i => ys.getD i .non) D (i + 1), fun H2 p2 => ⟨_, by omega, rfl, hlt, p2⟩, fun x H2 y => ?_⟩
    obtain ⟨rfl, c, hc, rfl⟩ := y
    have hc' : z.cps.toList[i]? = some c := by simpa using hc
    have hi2 : i < ys.length := by omega
    have hy : ys[i]? = some (ys.getD i .non) := by rw [List.getElem?_eq_getElem hi2, List.getD_eq_getElem?_getD, List.getElem?_eq_getElem hi2] <;> rfl
    exact ⟨hw _, cw_turn p (by omega) (fun H3 e3 Q q => q H3 (Ex.refl H3)) fun _ => (he i c _ hc' hy H1 (e.trans e1))⟩
  · have ei : i = z.cps.toList.length := by omega
    subst ei
    refine .inl ⟨(by show z.cps.size ≤ z.cps.toList.length; simp), ?_⟩
    have p2 := p.2.2
    rw [g] at p2
    exact q D H' (fresh_back e1 p.1) (e1.trans p.2.1) p2⟩
theorem ev_allN {K : PySem.W.Frag} {σ : L2.St} {H : Hp} {te : TE} {bs : List Bool} (h : EvL te σ H (bs.map V.bl)) : Ev (tCB (rAll K) (tCons te tNil)) σ H (.bl (bs.all id)) := fun H1 e Q q =>
  h H1 e _ fun p H2 _ e2 hp => ⟨p, bs, rfl, sq_of hp, q H2 e2⟩
theorem ev_chainI {f g : Int → Int → V} {σ : L2.St} {H : Hp} {tb : TE} {i j k : Int} {a b : Bool} (hb : Ev tb σ H (.int j)) (hf : f i j = .bl a) (hg : g j k = .bl b) : Ev (tChain (rI0 f) (rI0 g) (tC (.int i)) tb (tC (.int k))) σ H (.bl (a && b)) := fun H1 e Q q =>
  hb H1 e _ fun H2 e2 => ⟨i, j, rfl, rfl, a, hf, by
    cases a with
    | true => exact iteT ⟨j, k, rfl, rfl, by rw [hg]; exact q H2 e2⟩
    | false => exact iteF (q H2 e2)⟩
theorem ev_chainS {σ : L2.St} {H : Hp} {tb : TE} {x y c : Nat} {sx sy : Str} (hx : sx = ⟨#[x]⟩) (hy : sy = ⟨#[y]⟩) (hb : Ev tb σ H (.str ⟨#[c]⟩)) : Ev (tChain rLeS rLeS (tC (.str sx)) tb (tC (.str sy))) σ H (.bl (decide (x ≤ c ∧ c ≤ y))) := fun H1 e Q q => by
  subst hx hy
  refine hb H1 e _ fun H2 e2 => ⟨_, _, rfl, rfl, decide (x ≤ c), congrArg V.bl (le_str1 x c), ?_⟩
  by_cases h : x ≤ c
  · rw [decide_eq_true h]
    refine iteT ⟨_, _, rfl, rfl, ?_⟩
    rw [le_str1 c y]
    have : decide (x ≤ c ∧ c ≤ y) = decide (c ≤ y) := decide_eq_decide.mpr ⟨fun z => z.2, fun z => ⟨h, z⟩⟩
    rw [← this]
    exact q H2 e2
  · rw [decide_eq_false h]
    refine iteF ?_
    have : decide (x ≤ c ∧ c ≤ y) = false := decide_eq_false fun z => h z.1
    rw [← this]
    exact q H2 e2
def lowerC (c : Nat) : Bool := decide (97 ≤ c ∧ c ≤ 122)
def nameB (z : Str) : Bool := decide (1 ≤ z.length ∧ z.length ≤ 12) && z.cps.toList.all lowerC


/-! ### data of the heap -/
mutual
theorem dp_mono {K : PySem.W.Frag} {H H' : Hp} (e : Ex H H') : ∀ {v : V} {d : PyData}, Dp K H v d → Dp K H' v d
  | _, _, .non => .non
  | _, _, .bl b => .bl b
  | _, _, .int i => .int i
  | _, _, .str z => .str z
  | _, _, .lst h r => .lst (ex_l e h) (dpa_mono e r)
  | _, _, .tup h r => .tup (ex_t e h) (dpa_mono e r)
theorem dpa_mono {K : PySem.W.Frag} {H H' : Hp} (e : Ex H H') : ∀ {vs : List V} {ds : List PyData}, DpAll K H vs ds → DpAll K H' vs ds
  | _, _, .nil => .nil
  | _, _, .cons h r => .cons (dp_mono e h) (dpa_mono e r)
end
theorem dpa_len {K : PySem.W.Frag} {H : Hp} : ∀ {vs : List V} {ds : List PyData}, DpAll K H vs ds → vs.length = ds.length
  | _, _, .nil => rfl
  | _, _, .cons _ r => congrArg (· + 1) (dpa_len r)
theorem dpa_app {K : PySem.W.Frag} {H : Hp} : ∀ {vs us : List V} {ds es : List PyData}, DpAll K H vs ds → DpAll K H us es → DpAll K H (vs ++ us) (ds ++ es)
  | _, _, _, _, .nil, h => h
  | _, _, _, _, .cons a r, h => .cons a (dpa_app r h)
theorem dpa_at {K : PySem.W.Frag} {H : Hp} : ∀ {vs : List V} {ds : List PyData}, DpAll K H vs ds → ∀ {i : Nat} {v : V}, vs[i]? = some v → ∃ d, ds[i]? = some d ∧ Dp K H v d
  | _, _, .cons h _, 0, v, e => by
    cases Option.some.inj e
    exact ⟨_, rfl, h⟩
  | _, _, .cons _ r, i + 1, v, e => by
    obtain ⟨d, h1, h2⟩ := dpa_at r (i := i) (by simpa using e)
    exact ⟨d, by simpa using h1, h2⟩
theorem dpa_get {K : PySem.W.Frag} {H : Hp} : ∀ {vs : List V} {ds : List PyData}, DpAll K H vs ds → ∀ {i : Nat} {d : PyData}, ds[i]? = some d → ∃ v, vs[i]? = some v ∧ Dp K H v d
  | _, _, .cons h _, 0, d, e => by
    cases Option.some.inj e
    exact ⟨_, rfl, h⟩
  | _, _, .cons _ r, i + 1, d, e => by
    obtain ⟨v, h1, h2⟩ := dpa_get r (i := i) (by simpa using e)
    exact ⟨v, by simpa using h1, h2⟩
/-- data without lists, bools and dicts, of nesting at most n -/
inductive Fl : Nat → PyData → Prop
  | non (n : Nat) : Fl n .none
  | int (n : Nat) (i : Int) : Fl n (.int i)
  | str (n : Nat) {z : Str} (h : SeqAt.shaped (.str z) = true) : Fl n (.str z)
  | tup {n : Nat} {ds : List PyData} (h : ∀ d ∈ ds, Fl n d) (hl : ds.length ≤ 1000 := by first | decide | simp) : Fl (n + 1) (.tuple ds)
theorem Fl.mono : ∀ {n m : Nat} {d : PyData}, Fl n d → n ≤ m → Fl m d
  | _, _, _, .non _, _ => .non _
  | _, _, _, .int _ i, _ => .int _ i
  | _, _, _, .str _ h, _ => .str _ h
  | n + 1, m + 1, _, .tup h l, e => .tup (fun d hd => (h d hd).mono (by omega)) l
  | n + 1, 0, _, .tup h _, e => by omega
mutual
theorem dp_monoN {K : PySem.W.Frag} {H H' : Hp} (e : ExN H H') : ∀ {n : Nat} {v : V} {d : PyData}, Fl n d → Dp K H v d → Dp K H' v d
  | _, _, _, .non _, .non => .non
  | _, _, _, .int _ i, .int _ => .int i
  | _, _, _, .str _ _, .str z => .str z
  | _ + 1, _, _, .tup f _, .tup h r => .tup (exN_t e h) (dpa_monoN e f r)
theorem dpa_monoN {K : PySem.W.Frag} {H H' : Hp} (e : ExN H H') : ∀ {n : Nat} {vs : List V} {ds : List PyData}, (∀ d ∈ ds, Fl n d) → DpAll K H vs ds → DpAll K H' vs ds
  | _, _, _, _, .nil => .nil
  | _, _, _, f, .cons h r => .cons (dp_monoN e (f _ (List.mem_cons_self ..)) h) (dpa_monoN e (fun d hd => f d (List.mem_cons_of_mem _ hd)) r)
end
theorem q_asgK {te : TE} {σ : L2.St} {H : Hp} {tz : TS} {D : Ends} {i : Nat} (k : te σ H fun v H1 => tz D (σ.set i (some v)) H1) : tSeq (tAsg te (gName i)) tz D σ H := k
theorem q_asgG {te : TE} {g : TG} {σ : L2.St} {H : Hp} {tz : TS} {D : Ends} (k : te σ H fun v H1 => g v σ H1 (tz D)) : tSeq (tAsg te g) tz D σ H := k
/-! ### equality of data -/
/-- no bool, no dict -/
inductive Pl : PyData → Prop
  | non : Pl .none
  | int (i : Int) : Pl (.int i)
  | str (z : Str) : Pl (.str z)
  | lst {ds : List PyData} (h : ∀ d ∈ ds, Pl d) : Pl (.list ds)
  | tup {ds : List PyData} (h : ∀ d ∈ ds, Pl d) : Pl (.tuple ds)
theorem Fl.pl : ∀ {n : Nat} {d : PyData}, Fl n d → Pl d
  | _, _, .non _ => .non
  | _, _, .int _ i => .int i
  | _, _, .str _ _ => .str _
  | _ + 1, _, .tup h _ => .tup fun d hd => (h d hd).pl
mutual
theorem eqv_iff : ∀ (d e : PyData), Pl d → Pl e → (PyData.eqv d e = true ↔ d = e)
  | .none, e, _, he => by cases he <;> simp [PyData.eqv]
  | .int i, e, _, he => by cases he <;> simp [PyData.eqv]
  | .str z, e, _, he => by cases he <;> simp [PyData.eqv]
  | .list xs, e, hd, he => by
    cases hd with
    | lst hd =>
      cases he with
      | lst he =>
        rename_i ys
        rw [show PyData.eqv (.list xs) (.list ys) = PyData.eqvAll xs ys by simp [PyData.eqv], eqvAll_iff xs ys hd he]
        simp
      | _ => simp [PyData.eqv]
  | .tuple xs, e, hd, he => by
    cases hd with
    | tup hd =>
      cases he with
      | tup he =>
        rename_i ys
        rw [show PyData.eqv (.tuple xs) (.tuple ys) = PyData.eqvAll xs ys by simp [PyData.eqv], eqvAll_iff xs ys hd he]
        simp
      | _ => simp [PyData.eqv]
  | .bool _, _, hd, _ => by cases hd
  | .dict _, _, hd, _ => by cases hd
theorem eqvAll_iff : ∀ (xs ys : List PyData), (∀ d ∈ xs, Pl d) → (∀ d ∈ ys, Pl d) → (PyData.eqvAll xs ys = true ↔ xs = ys)
  | [], [], _, _ => by simp [PyData.eqvAll]
  | [], y :: ys, _, _ => by simp [PyData.eqvAll]
  | x :: xs, [], _, _ => by simp [PyData.eqvAll]
  | x :: xs, y :: ys, hx, hy => by
    rw [show PyData.eqvAll (x :: xs) (y :: ys) = (PyData.eqv x y && PyData.eqvAll xs ys) by simp [PyData.eqvAll], Bool.and_eq_true,
      eqv_iff x y (hx x (List.mem_cons_self ..)) (hy y (List.mem_cons_self ..)), eqvAll_iff xs ys (fun d hd => hx d (List.mem_cons_of_mem _ hd)) (fun d hd => hy d (List.mem_cons_of_mem _ hd))]
    simp
end
noncomputable def eqB (d e : PyData) : Bool := PyData.eqv d e
theorem eqv_dec {d e : PyData} (hd : Pl d) (he : Pl e) [Decidable (d = e)] : PyData.eqv d e = decide (d = e) := by
  by_cases h : d = e
  · rw [decide_eq_true h]
    exact (eqv_iff d e hd he).mpr h
  · rw [decide_eq_false h]
    cases x : PyData.eqv d e with
    | false => rfl
    | true => exact absurd ((eqv_iff d e hd he).mp x) h
mutual
theorem canLay_fl : ∀ {n : Nat} {d : PyData}, Fl n d → d.canLay0 = true
  | _, .none, _ => by simp [PyData.canLay0]
  | _, .int _, _ => by simp [PyData.canLay0]
  | _, .str z, h => by
    cases h with
    | str _ h => exact SeqAt.canLay_of_shaped h
  | _, .tuple xs, h => by
    cases h with
    | tup h _ =>
      rw [show (PyData.tuple xs).canLay0 = PyData.canLayAll0 xs by simp [PyData.canLay0]]
      exact canLayAll_fl h
  | _, .bool _, h => by cases h
  | _, .list _, h => by cases h
  | _, .dict _, h => by cases h
theorem canLayAll_fl : ∀ {n : Nat} {ds : List PyData}, (∀ d ∈ ds, Fl n d) → PyData.canLayAll0 ds = true
  | _, [], _ => by simp [PyData.canLayAll0]
  | _, d :: ds, h => by
    rw [show PyData.canLayAll0 (d :: ds) = (d.canLay0 && PyData.canLayAll0 ds) by simp [PyData.canLayAll0], canLay_fl (h d (List.mem_cons_self ..)), canLayAll_fl fun x hx => h x (List.mem_cons_of_mem _ hx)] <;> rfl
end
mutual
theorem depth_fl : ∀ {n : Nat} {d : PyData}, Fl n d → d.depth ≤ n + 1
  | _, .none, _ => by simp [PyData.depth]
  | _, .int _, _ => by simp [PyData.depth]
  | _, .str z, _ => by simp [PyData.depth]
  | _ + 1, .tuple xs, .tup h _ => by
    rw [show (PyData.tuple xs).depth = 1 + PyData.depthAll xs by simp [PyData.depth, Nat.add_comm]]
    have := depthAll_fl h
    omega
  | _, .bool _, h => by cases h
  | _, .list _, h => by cases h
  | _, .dict _, h => by cases h
theorem depthAll_fl : ∀ {n : Nat} {ds : List PyData}, (∀ d ∈ ds, Fl n d) → PyData.depthAll ds ≤ n + 1
  | _, [], _ => by simp [PyData.depthAll]
  | n, d :: ds, h => by
    have h1 := depth_fl (h d (List.mem_cons_self ..))
    have h2 := depthAll_fl fun x hx => h x (List.mem_cons_of_mem _ hx)
    rw [show PyData.depthAll (d :: ds) = max d.depth (PyData.depthAll ds) by simp [PyData.depthAll]]
    omega
end
theorem shaped_fl {n : Nat} {d : PyData} (h : Fl n d) (hn : n ≤ 60) : SeqAt.shaped d = true := by
  have := depth_fl h
  unfold SeqAt.shaped
  rw [canLay_fl h, decide_eq_true (by omega)] <;> rfl
theorem shaped_lst {n : Nat} {ds : List PyData} (h : ∀ d ∈ ds, Fl n d) (hn : n ≤ 60) : SeqAt.shaped (.list ds) = true := by
  have := depthAll_fl h
  unfold SeqAt.shaped
  rw [show (PyData.list ds).canLay0 = PyData.canLayAll0 ds by simp [PyData.canLay0], canLayAll_fl h, decide_eq_true (by
    rw [show (PyData.list ds).depth = 1 + PyData.depthAll ds by simp [PyData.depth, Nat.add_comm]]
    omega)] <;> rfl
/-! ### what evaluates to data -/
def EP (K : PySem.W.Frag) (te : TE) (σ : L2.St) (H : Hp) (R : PyData → Prop) : Prop := ∀ H1, Ex H H1 → ∀ Q : VK, (∀ v d H2, Ex H1 H2 → R d → Dp K H2 v d → Q v H2) → te σ H1 Q
def EPA (K : PySem.W.Frag) (ta : TA) (σ : L2.St) (H : Hp) (R : List PyData → Prop) : Prop := ∀ H1, Ex H H1 → ∀ Q : List V → Hp → Prop, (∀ vs ds H2, Ex H1 H2 → R ds → DpAll K H2 vs ds → Q vs H2) → ta σ H1 Q
/-- a new list -/
def EPL (K : PySem.W.Frag) (te : TE) (σ : L2.St) (H : Hp) (R : List PyData → Prop) : Prop := ∀ H1, Ex H H1 → ∀ Q : VK, (∀ p vs ds H2, H1 p = none → Ex H1 H2 → H2 p = some (.lst vs) → R ds → DpAll K H2 vs ds → Q (.ref p) H2) → te σ H1 Q
section
variable {K : PySem.W.Frag} {σ : L2.St} {H : Hp} {te ta tb : TE}
theorem ep_is {v : V} {d : PyData} {R : PyData → Prop} (h : Ev te σ H v) (hd : Dp K H v d) (hr : R d) : EP K te σ H R := fun H1 e Q q => h H1 e _ fun H2 e2 => q v d H2 e2 hr (dp_mono (e.trans e2) hd)
theorem ep_int {i : Int} (h : Ev te σ H (.int i)) : EP K te σ H (· = .int i) := ep_is h (.int i) rfl
theorem ep_str {z : Str} (h : Ev te σ H (.str z)) : EP K te σ H (· = .str z) := ep_is h (.str z) rfl
theorem ep_non (h : Ev te σ H .non) : EP K te σ H (· = .none) := ep_is h .non rfl
theorem EP.imp {R S : PyData → Prop} (h : EP K te σ H R) (i : ∀ d, R d → S d) : EP K te σ H S := fun H1 e Q q => h H1 e Q fun v d H2 e2 r D => q v d H2 e2 (i d r) D
theorem EP.mono {R : PyData → Prop} {H' : Hp} (e : Ex H H') (h : EP K te σ H R) : EP K te σ H' R := fun H1 e1 => h H1 (e.trans e1)
theorem epa_nil : EPA K tNil σ H (· = []) := fun H1 _ _ q => q [] [] H1 (Ex.refl H1) rfl .nil
theorem epa_cons {tr : TA} {R : PyData → Prop} {S : List PyData → Prop} (h : EP K te σ H R) (r : EPA K tr σ H S) : EPA K (tCons te tr) σ H (fun ds => ∃ d r, ds = d :: r ∧ R d ∧ S r) := fun H1 e Q q =>
  h H1 e _ fun v d H2 e2 hr hd => r H2 (e.trans e2) _ fun vs ds H3 e3 hs hds => q (v :: vs) (d :: ds) H3 (e2.trans e3) ⟨d, ds, rfl, hr, hs⟩ (.cons (dp_mono e3 hd) hds)
theorem epa_c {tr : TA} {d : PyData} {ds : List PyData} (h : EP K te σ H (· = d)) (r : EPA K tr σ H (· = ds)) : EPA K (tCons te tr) σ H (· = d :: ds) := fun H1 e Q q =>
  h H1 e _ fun v d' H2 e2 hr hd => r H2 (e.trans e2) _ fun vs ds' H3 e3 hs hds => q (v :: vs) (d' :: ds') H3 (e2.trans e3) (by rw [hr, hs]) (.cons (dp_mono e3 hd) hds)
theorem ep_tup {ta : TA} {R : PyData → Prop} {S : List PyData → Prop} (h : EPA K ta σ H S) (i : ∀ ds, S ds → ds.length ≤ 100000 ∧ R (.tuple ds)) : EP K (tTup ta) σ H R := fun H1 e Q q =>
  h H1 e _ fun vs ds H2 e2 hs hds => ⟨sz_of (by rw [dpa_len hds]; exact (i ds hs).1), fun p hp => q _ _ _ (e2.trans (Ex.new hp)) (i ds hs).2 (.tup (st_of upd_same) (dpa_mono (Ex.new hp) hds))⟩
theorem ep_t {ta : TA} {ds : List PyData} (h : EPA K ta σ H (· = ds)) (hl : ds.length ≤ 100000) : EP K (tTup ta) σ H (· = .tuple ds) := ep_tup h fun ds' e => by
  rw [e]
  exact ⟨hl, rfl⟩
theorem epl_lst {ta : TA} {S : List PyData → Prop} (h : EPA K ta σ H S) (i : ∀ ds, S ds → ds.length ≤ 100000) : EPL K (tLst ta) σ H S := fun H1 e Q q =>
  h H1 e _ fun vs ds H2 e2 hs hds => ⟨sz_of (by rw [dpa_len hds]; exact i ds hs), fun p hp => q p vs ds _ (fresh_back e2 hp) (e2.trans (Ex.new hp)) upd_same hs (dpa_mono (Ex.new hp) hds)⟩
theorem EPL.ep {R : PyData → Prop} {S : List PyData → Prop} (h : EPL K te σ H S) (i : ∀ ds, S ds → R (.list ds)) : EP K te σ H R := fun H1 e Q q =>
  h H1 e _ fun p vs ds H2 hp e2 h2 hs hds => q _ _ H2 e2 (i ds hs) (.lst (sq_of h2) hds)
theorem s_retP {D : Ends} {R : PyData → Prop} (h : EP K te σ H R) (k : ∀ v d H1, Ex H H1 → R d → Dp K H1 v d → D.rt v H1) : tRet te D σ H := h H (Ex.refl H) _ k
theorem s_retPL {D : Ends} {S : List PyData → Prop} (h : EPL K te σ H S) (k : ∀ p vs ds H1, H p = none → Ex H H1 → H1 p = some (.lst vs) → S ds → DpAll K H1 vs ds → D.rt (.ref p) H1) : tRet te D σ H := h H (Ex.refl H) _ k
theorem q_asgP {D : Ends} {tz : TS} {i : Nat} {R : PyData → Prop} (h : EP K te σ H R) (k : ∀ v d H1, Ex H H1 → R d → Dp K H1 v d → tz D (σ.set i (some v)) H1) : tSeq (tAsg te (gName i)) tz D σ H := h H (Ex.refl H) _ k
theorem q_asgPL {D : Ends} {tz : TS} {i : Nat} {S : List PyData → Prop} (h : EPL K te σ H S) (k : ∀ p vs ds H1, H p = none → Ex H H1 → H1 p = some (.lst vs) → S ds → DpAll K H1 vs ds → tz D (σ.set i (some (.ref p))) H1) : tSeq (tAsg te (gName i)) tz D σ H := h H (Ex.refl H) _ k
theorem s_retTup {ta : TA} {D : Ends} {S : List PyData → Prop} (h : EPA K ta σ H S) (l : ∀ ds, S ds → ds.length ≤ 100000) (k : ∀ p ds H1, H p = none → Ex H H1 → S ds → Dp K H1 (.ref p) (.tuple ds) → D.rt (.ref p) H1) : tRet (tTup ta) D σ H :=
  h H (Ex.refl H) _ fun vs ds H1 e1 hs hds => ⟨sz_of (by rw [dpa_len hds]; exact l ds hs), fun p hp => k p ds _ (fresh_back e1 hp) (e1.trans (Ex.new hp)) hs (.tup (st_of upd_same) (dpa_mono (Ex.new hp) hds))⟩
/-- == and != of data -/
theorem ev_eqP {x y : V} {d e : PyData} {b : Bool} (ha : Ev ta σ H x) (hb : Ev tb σ H y) (hd : Dp K H x d) (he : Dp K H y e) (sd : SeqAt.shaped d = true) (se : SeqAt.shaped e = true) (hv : PyData.eqv d e = b) : Ev (tOp (rEqD K) ta tb) σ H (.bl b) :=
  ev_op ha hb fun H1 e1 _ q => ⟨d, e, dp_mono e1 hd, dp_mono e1 he, sd, se, by rw [hv]; exact q H1 (Ex.refl H1)⟩
theorem ev_neP {x y : V} {d e : PyData} {b : Bool} (ha : Ev ta σ H x) (hb : Ev tb σ H y) (hd : Dp K H x d) (he : Dp K H y e) (sd : SeqAt.shaped d = true) (se : SeqAt.shaped e = true) (hv : (!PyData.eqv d e) = b) : Ev (tOp (rNeD K) ta tb) σ H (.bl b) :=
  ev_op ha hb fun H1 e1 _ q => ⟨d, e, dp_mono e1 hd, dp_mono e1 he, sd, se, by rw [hv]; exact q H1 (Ex.refl H1)⟩
/-- [f(k) for k in range(n)] -/
theorem epl_mapR {ta : TA} {j : Nat} {vs : List Nat} {n : Nat} {R : Nat → PyData → Prop} (h : EvA ta σ H [.int (n : Int)]) (hz : n ≤ 40000) (hw : ∀ x, wipe ((wipe σ vs).set j (some x)) vs = wipe σ vs) {m : Nat} (hf : ∀ i d, R i d → Fl m d)
    (he : ∀ (i : Nat) H1, i < n → Ex H H1 → EP K te ((wipe σ vs).set j (some (.int (i : Int)))) H1 (R i)) : EPL K (tLc (iRng1 ta) (gName j) tYes te vs) σ H (fun ds => ds.length = n ∧ ∀ i d, ds[i]? = some d → R i d) := by
  intro H0 e Q q
  refine h H0 e _ fun H1 e1 => ⟨(n : Int), rfl, by omega, by omega, fun Dl hD => ?_⟩
  rw [show ((n : Int)).toNat = n by omega]
  refine lc_range (n := n) (fun i H' => H1 Dl = none ∧ Ex H1 H' ∧ ∃ us ds, H' Dl = some (.lst us) ∧ DpAll K H' us ds ∧ ds.length = i ∧ ∀ i d, ds[i]? = some d → R i d) ⟨hD, Ex.new hD, [], [], upd_same, .nil, rfl, fun i d z => nomatch z⟩ (fun i H' hi p => ⟨hw _, ?_⟩) (fun H' p => ?_)
  · obtain ⟨p1, p2, us, ds, p3, p4, p5, p6⟩ := p
    show te ((wipe σ vs).set j (some (.int (0 + (i : Int))))) H' _
    rw [Int.zero_add]
    refine he i H1 hi (e.trans e1) H' p2 _ fun v d H4 e4 hr hd => ⟨us, e4 Dl _ p3, sz_lt (by rw [dpa_len p4, p5]; omega), p1, (p2.trans e4).mut p1, us ++ [v], ds ++ [d], upd_same, ?_, by rw [List.length_append, p5] <;> rfl, fun k x hk => ?_⟩
    · exact dpa_app (dpa_monoN (ExN.upd (e4 Dl _ p3)) (fun x hx => by
        obtain ⟨k, hk⟩ := List.getElem?_of_mem hx
        exact hf k x (p6 k x hk)) (dpa_mono e4 p4)) (.cons (dp_monoN (ExN.upd (e4 Dl _ p3)) (hf i d hr) hd) .nil)
    · by_cases hlt : k < ds.length
      · rw [List.getElem?_append_left hlt] at hk
        exact p6 k x hk
      · rw [List.getElem?_append_right (by omega)] at hk
        have hk0 : k - ds.length = 0 := by
          by_cases z : k - ds.length = 0
          · exact z
          · rw [List.getElem?_eq_none (by simp; omega)] at hk
            cases hk
        rw [hk0] at hk
        have ek : k = i := by omega
        rw [ek, ← Option.some.inj hk]
        exact hr
  · obtain ⟨p1, p2, us, ds, p3, p4, p5, p6⟩ := p
    exact q Dl us ds H' (fresh_back e1 p1) (e1.trans p2) p3 ⟨p5, p6⟩ p4
end
section
variable {K : PySem.W.Frag} {σ : L2.St} {H : Hp} {te tl : TE}
theorem acc_add {K : PySem.W.Frag} {H H4 : Hp} {Dl : Addr} {us : List V} {ds : List PyData} {v : V} {d : PyData} {m : Nat} {R : Nat → PyData → Prop} (hf : ∀ i d, R i d → Fl m d) (e4 : Ex H H4) (p3 : H Dl = some (.lst us)) (p4 : DpAll K H us ds) (p6 : ∀ i d, ds[i]? = some d → R i d) (hr : R ds.length d) (hd : Dp K H4 v d) :
    DpAll K (upd H4 Dl (.lst (us ++ [v]))) (us ++ [v]) (ds ++ [d]) ∧ (ds ++ [d]).length = ds.length + 1 ∧ ∀ i x, (ds ++ [d])[i]? = some x → R i x := by
  refine ⟨dpa_app (dpa_monoN (n := m) (ExN.upd (e4 Dl _ p3)) (fun x hx => ?_) (dpa_mono e4 p4)) (.cons (dp_monoN (ExN.upd (e4 Dl _ p3)) (hf _ d hr) hd) .nil), by simp, fun k x hk => ?_⟩
  · obtain ⟨k, hk⟩ := List.getElem?_of_mem hx
    exact hf k x (p6 k x hk)
  · by_cases hlt : k < ds.length
    · rw [List.getElem?_append_left hlt] at hk
      exact p6 k x hk
    · rw [List.getElem?_append_right (by omega)] at hk
      have hk0 : k - ds.length = 0 := by
        by_cases z : k - ds.length = 0
        · exact z
        · rw [List.getElem?_eq_none (by simp; omega)] at hk
          cases hk
      rw [hk0] at hk
      have ek : k = ds.length := by omega
      rw [ek, ← Option.some.inj hk]
      exact hr
/-- [f(x) for x in a tuple] -/
theorem epl_mapT {j : Nat} {vs : List Nat} {a : Addr} {xs : List V} {R : Nat → PyData → Prop} (h : Ev tl σ H (.ref a)) (hx : SqT K H a xs) (hz : xs.length ≤ 40000) (hw : ∀ x, wipe ((wipe σ vs).set j (some x)) vs = wipe σ vs) {m : Nat} (hf : ∀ i d, R i d → Fl m d)
    (he : ∀ (i : Nat) x H1, xs[i]? = some x → Ex H H1 → EP K te ((wipe σ vs).set j (some x)) H1 (R i)) : EPL K (tLc (iTup K tl) (gName j) tYes te vs) σ H (fun ds => ds.length = xs.length ∧ ∀ i d, ds[i]? = some d → R i d) := by
  intro H0 e Q q
  refine h H0 e _ fun H1 e1 => ⟨a, rfl, ⟨xs, ex_t (e.trans e1) hx⟩, fun Dl hD => ?_⟩
  refine lc_tup (xs := xs) (fun i H' => H1 Dl = none ∧ Ex H1 H' ∧ ∃ us ds, H' Dl = some (.lst us) ∧ DpAll K H' us ds ∧ ds.length = i ∧ ∀ i d, ds[i]? = some d → R i d) ⟨hD, Ex.new hD, [], [], upd_same, .nil, rfl, fun i d z => nomatch z⟩ (fun i H' _ p => ex_t ((e.trans e1).trans p.2.1) hx) (fun i x H' hi p => ⟨hw x, ?_⟩) (fun H' p => ?_)
  · obtain ⟨p1, p2, us, ds, p3, p4, p5, p6⟩ := p
    have hi2 := (List.getElem?_eq_some_iff.mp hi).1
    show te ((wipe σ vs).set j (some x)) H' _
    refine he i x H1 hi (e.trans e1) H' p2 _ fun v d H4 e4 hr hd => ⟨us, e4 Dl _ p3, sz_lt (by rw [dpa_len p4, p5]; omega), p1, (p2.trans e4).mut p1, us ++ [v], ds ++ [d], upd_same, ?_⟩
    rw [← p5] at hr ⊢
    exact acc_add hf e4 p3 p4 p6 hr hd
  · obtain ⟨p1, p2, us, ds, p3, p4, p5, p6⟩ := p
    exact q Dl us ds H' (fresh_back e1 p1) (e1.trans p2) p3 ⟨p5, p6⟩ p4
/-- [f(x) for x in a list] -/
theorem epl_mapL {j : Nat} {vs : List Nat} {a : Addr} {xs : List V} {R : Nat → PyData → Prop} (h : Ev tl σ H (.ref a)) (hx : SqL K H a xs) (hz : xs.length ≤ 40000) (hw : ∀ x, wipe ((wipe σ vs).set j (some x)) vs = wipe σ vs) {m : Nat} (hf : ∀ i d, R i d → Fl m d)
    (he : ∀ (i : Nat) x H1, xs[i]? = some x → Ex H H1 → EP K te ((wipe σ vs).set j (some x)) H1 (R i)) : EPL K (tLc (iList K tl) (gName j) tYes te vs) σ H (fun ds => ds.length = xs.length ∧ ∀ i d, ds[i]? = some d → R i d) := by
  intro H0 e Q q
  refine h H0 e _ fun H1 e1 => ⟨a, rfl, ⟨xs, ex_l (e.trans e1) hx⟩, fun Dl hD => ?_⟩
  refine lc_list (xs := xs) (fun i H' => H1 Dl = none ∧ Ex H1 H' ∧ ∃ us ds, H' Dl = some (.lst us) ∧ DpAll K H' us ds ∧ ds.length = i ∧ ∀ i d, ds[i]? = some d → R i d) ⟨hD, Ex.new hD, [], [], upd_same, .nil, rfl, fun i d z => nomatch z⟩ (fun i H' _ p => ex_l ((e.trans e1).trans p.2.1) hx) (fun i x H' hi p => ⟨hw x, ?_⟩) (fun H' p => ?_)
  · obtain ⟨p1, p2, us, ds, p3, p4, p5, p6⟩ := p
    have hi2 := (List.getElem?_eq_some_iff.mp hi).1
    show te ((wipe σ vs).set j (some x)) H' _
    refine he i x H1 hi (e.trans e1) H' p2 _ fun v d H4 e4 hr hd => ⟨us, e4 Dl _ p3, sz_lt (by rw [dpa_len p4, p5]; omega), p1, (p2.trans e4).mut p1, us ++ [v], ds ++ [d], upd_same, ?_⟩
    rw [← p5] at hr ⊢
    exact acc_add hf e4 p3 p4 p6 hr hd
  · obtain ⟨p1, p2, us, ds, p3, p4, p5, p6⟩ := p
    exact q Dl us ds H' (fresh_back e1 p1) (e1.trans p2) p3 ⟨p5, p6⟩ p4
end
/-- tuple(a new list of data) -/
theorem ep_tupOf {K : PySem.W.Frag} {σ : L2.St} {H : Hp} {te : TE} {R : PyData → Prop} {S : List PyData → Prop} (h : EPL K te σ H S) (i : ∀ ds, S ds → R (.tuple ds)) : EP K (tCB (rTupOf K) (tCons te tNil)) σ H R := fun H1 e Q q =>
  h H1 e _ fun p vs ds H2 _ e2 hp hs hds => ⟨p, vs, rfl, .inl ⟨sq_of hp, fun l hl => q _ _ _ (e2.trans (Ex.new hl)) (i ds hs) (.tup (st_of upd_same) (dpa_mono (Ex.new hl) hds))⟩⟩
theorem list_same {ds es : List PyData} (hl : ds.length = es.length) (h : ∀ (i : Nat) (d : PyData), ds[i]? = some d → es[i]? = some d) : ds = es := by
  refine List.ext_getElem? fun i => ?_
  by_cases hi : i < ds.length
  · rw [List.getElem?_eq_getElem hi]
    exact (h i _ (List.getElem?_eq_getElem hi)).symm
  · rw [List.getElem?_eq_none (by omega), List.getElem?_eq_none (by omega)]
/-- isinstance of data against tuple, list -/
def isTup : PyData → Bool
  | .tuple _ => true
  | _ => false
def isLst : PyData → Bool
  | .list _ => true
  | _ => false
def isStrD : PyData → Bool
  | .str _ => true
  | _ => false
def isIntD : PyData → Bool
  | .int _ => true
  | .bool _ => true
  | _ => false
def isBoolD : PyData → Bool
  | .bool _ => true
  | _ => false
theorem tyx_lst {K : PySem.W.Frag} {H : Hp} {a : Addr} {xs : List V} (h : SqL K H a xs) : TyX K H (.ref a) (.type "list") := by
  rcases h with (h | ⟨o, h⟩) | ⟨o, its, n, h, hc, _⟩
  · exact .base (.lst h)
  · exact .base (.frz h)
  · exact .kList h hc
theorem ev_isT {K : PySem.W.Frag} {σ : L2.St} {H : Hp} {te : TE} {x : V} {d : PyData} (h : Ev te σ H x) (hd : Dp K H x d) : Ev (tCB (rIsi K) (tCons te (tCons (tC (.ty "tuple")) tNil))) σ H (.bl (isTup d)) := by
  cases hd with
  | non => exact ev_isi (a := "NoneType") (r := false) h (fun _ _ => .base .non) (by decide +kernel)
  | bl b => exact ev_isi (a := "bool") (r := false) h (fun _ _ => .base (.bl b)) (by decide +kernel)
  | int i => exact ev_isi (a := "int") (r := false) h (fun _ _ => .base (.int i)) (by decide +kernel)
  | str z => exact ev_isi (a := "str") (r := false) h (fun _ _ => .base (.str z)) (by decide +kernel)
  | lst hs _ => exact ev_isi (a := "list") (r := false) h (fun H2 e2 => tyx_lst (ex_l e2 hs)) (by decide +kernel)
  | tup hs _ => exact ev_isi (a := "tuple") (r := true) h (fun H2 e2 => tyx_tup (ex_t e2 hs)) (by decide +kernel)
theorem ev_isL {K : PySem.W.Frag} {σ : L2.St} {H : Hp} {te : TE} {x : V} {d : PyData} (h : Ev te σ H x) (hd : Dp K H x d) : Ev (tCB (rIsi K) (tCons te (tCons (tC (.ty "list")) tNil))) σ H (.bl (isLst d)) := by
  cases hd with
  | non => exact ev_isi (a := "NoneType") (r := false) h (fun _ _ => .base .non) (by decide +kernel)
  | bl b => exact ev_isi (a := "bool") (r := false) h (fun _ _ => .base (.bl b)) (by decide +kernel)
  | int i => exact ev_isi (a := "int") (r := false) h (fun _ _ => .base (.int i)) (by decide +kernel)
  | str z => exact ev_isi (a := "str") (r := false) h (fun _ _ => .base (.str z)) (by decide +kernel)
  | lst hs _ => exact ev_isi (a := "list") (r := true) h (fun H2 e2 => tyx_lst (ex_l e2 hs)) (by decide +kernel)
  | tup hs _ => exact ev_isi (a := "tuple") (r := false) h (fun H2 e2 => tyx_tup (ex_t e2 hs)) (by decide +kernel)
theorem ev_isS {K : PySem.W.Frag} {σ : L2.St} {H : Hp} {te : TE} {x : V} {d : PyData} (h : Ev te σ H x) (hd : Dp K H x d) : Ev (tCB (rIsi K) (tCons te (tCons (tC (.ty "str")) tNil))) σ H (.bl (isStrD d)) := by
  cases hd with
  | non => exact ev_isi (a := "NoneType") (r := false) h (fun _ _ => .base .non) (by decide +kernel)
  | bl b => exact ev_isi (a := "bool") (r := false) h (fun _ _ => .base (.bl b)) (by decide +kernel)
  | int i => exact ev_isi (a := "int") (r := false) h (fun _ _ => .base (.int i)) (by decide +kernel)
  | str z => exact ev_isi (a := "str") (r := true) h (fun _ _ => .base (.str z)) (by decide +kernel)
  | lst hs _ => exact ev_isi (a := "list") (r := false) h (fun H2 e2 => tyx_lst (ex_l e2 hs)) (by decide +kernel)
  | tup hs _ => exact ev_isi (a := "tuple") (r := false) h (fun H2 e2 => tyx_tup (ex_t e2 hs)) (by decide +kernel)
theorem ev_isNum {K : PySem.W.Frag} {σ : L2.St} {H : Hp} {te : TE} {x : V} {d : PyData} (h : Ev te σ H x) (hd : Dp K H x d) : Ev (tCB (rIsi K) (tCons te (tCons (tC (.ty "int")) tNil))) σ H (.bl (isIntD d)) := by
  cases hd with
  | non => exact ev_isi (a := "NoneType") (r := false) h (fun _ _ => .base .non) (by decide +kernel)
  | bl b => exact ev_isi (a := "bool") (r := true) h (fun _ _ => .base (.bl b)) (by decide +kernel)
  | int i => exact ev_isi (a := "int") (r := true) h (fun _ _ => .base (.int i)) (by decide +kernel)
  | str z => exact ev_isi (a := "str") (r := false) h (fun _ _ => .base (.str z)) (by decide +kernel)
  | lst hs _ => exact ev_isi (a := "list") (r := false) h (fun H2 e2 => tyx_lst (ex_l e2 hs)) (by decide +kernel)
  | tup hs _ => exact ev_isi (a := "tuple") (r := false) h (fun H2 e2 => tyx_tup (ex_t e2 hs)) (by decide +kernel)
theorem ev_isBl {K : PySem.W.Frag} {σ : L2.St} {H : Hp} {te : TE} {x : V} {d : PyData} (h : Ev te σ H x) (hd : Dp K H x d) : Ev (tCB (rIsi K) (tCons te (tCons (tC (.ty "bool")) tNil))) σ H (.bl (isBoolD d)) := by
  cases hd with
  | non => exact ev_isi (a := "NoneType") (r := false) h (fun _ _ => .base .non) (by decide +kernel)
  | bl b => exact ev_isi (a := "bool") (r := true) h (fun _ _ => .base (.bl b)) (by decide +kernel)
  | int i => exact ev_isi (a := "int") (r := false) h (fun _ _ => .base (.int i)) (by decide +kernel)
  | str z => exact ev_isi (a := "str") (r := false) h (fun _ _ => .base (.str z)) (by decide +kernel)
  | lst hs _ => exact ev_isi (a := "list") (r := false) h (fun H2 e2 => tyx_lst (ex_l e2 hs)) (by decide +kernel)
  | tup hs _ => exact ev_isi (a := "tuple") (r := false) h (fun H2 e2 => tyx_tup (ex_t e2 hs)) (by decide +kernel)
/-- an item of a list or a tuple -/
def rIxD (K : PySem.W.Frag) : R2 := fun x y H Q => rIxL K x y H Q ∨ rIxT K x y H Q
theorem ix_any {X : Cx} {r1 r2 : R2} (h1 : IxR X r1) (h2 : IxR X r2) : IxR X (fun x y H Q => r1 x y H Q ∨ r2 x y H Q) := fun value slice pins s σ H x y v u Q I rx ry h hs => h.elim (fun h => h1 value slice pins s σ H x y v u Q I rx ry h hs) (fun h => h2 value slice pins s σ H x y v u Q I rx ry h hs)
theorem op_any {X : Cx} {f : Value → Value → Sem Value} {r1 r2 : R2} (h1 : OpR X f r1) (h2 : OpR X f r2) : OpR X f (fun x y H Q => r1 x y H Q ∨ r2 x y H Q) := fun pins s σ H x y v u Q I rx ry h => h.elim (fun h => h1 pins s σ H x y v u Q I rx ry h) (fun h => h2 pins s σ H x y v u Q I rx ry h)


/-! ### version texts -/
def mkS (l : List Nat) : Str := ⟨l.toArray⟩
theorem mkS_inj {a b : List Nat} (h : mkS a = mkS b) : a = b := by
  have := congrArg (fun z : Str => z.cps.toList) h
  simpa [mkS] using this
theorem mkS_codes (z : Str) : z = mkS z.cps.toList := mk_of rfl
theorem mkS_len (l : List Nat) : (mkS l).length = l.length := by rw [str_len] <;> rfl
def stC (c : Nat) : Bool := decide (c = 126 ∨ c = 94)
theorem tw_lt {p : Nat → Bool} : ∀ {l : List Nat} {i : Nat}, i < (l.takeWhile p).length → ∃ c, l[i]? = some c ∧ p c = true
  | [], i, h => by simp at h
  | a :: l, i, h => by
    by_cases ha : p a = true
    · rw [List.takeWhile_cons_of_pos ha] at h
      cases i with
      | zero => exact ⟨a, rfl, ha⟩
      | succ i =>
        obtain ⟨c, h1, h2⟩ := tw_lt (l := l) (i := i) (by simpa using h)
        exact ⟨c, by simpa using h1, h2⟩
    · rw [List.takeWhile_cons_of_neg ha] at h
      simp at h
theorem tw_eq {p : Nat → Bool} : ∀ {l : List Nat} {c : Nat}, l[(l.takeWhile p).length]? = some c → p c = false
  | [], c, h => by simp at h
  | a :: l, c, h => by
    by_cases ha : p a = true
    · rw [List.takeWhile_cons_of_pos ha] at h
      exact tw_eq (l := l) (by simpa using h)
    · rw [List.takeWhile_cons_of_neg ha] at h
      have e : a = c := by simpa using h
      rw [← e]
      simpa using ha
theorem tw_le (p : Nat → Bool) (l : List Nat) : (l.takeWhile p).length ≤ l.length := by
  induction l with
  | nil => simp
  | cons a l ih =>
    by_cases ha : p a = true
    · rw [List.takeWhile_cons_of_pos ha]; simp; exact ih
    · rw [List.takeWhile_cons_of_neg ha]; simp
/-- the length without the steps at the end -/
def rsz (l : List Nat) : Nat := l.length - (l.reverse.takeWhile stC).length
theorem rsz_le (l : List Nat) : rsz l ≤ l.length := Nat.sub_le _ _
theorem rev_at {l : List Nat} {i : Nat} (h : i < l.length) : l.reverse[i]? = l[l.length - 1 - i]? := by
  rw [List.getElem?_reverse h]
/-- what the law's own loop keeps -/
theorem rsz_step {l : List Nat} {k s : Nat} (hk : k < l.length) (hs : s = max (rsz l) (l.length - k)) : (0 < s → ∃ c, l[s - 1]? = some c ∧ (if stC c = true then s - 1 else s) = max (rsz l) (l.length - (k + 1))) ∧ (s = 0 → s = max (rsz l) (l.length - (k + 1))) := by
  have hw := tw_le stC l.reverse
  rw [List.length_reverse] at hw
  unfold rsz at *
  refine ⟨fun h0 => ?_, fun h0 => by omega⟩
  by_cases hkw : k < (l.reverse.takeWhile stC).length
  · obtain ⟨c, h1, h2⟩ := tw_lt hkw
    rw [rev_at hk] at h1
    have e : s - 1 = l.length - 1 - k := by omega
    refine ⟨c, by rw [e]; exact h1, ?_⟩
    rw [if_pos h2]
    omega
  · have hlt : l.length - (l.reverse.takeWhile stC).length - 1 < l.length := by omega
    have es : s = l.length - (l.reverse.takeWhile stC).length := by omega
    have hp : (l.reverse.takeWhile stC).length < l.length := by omega
    have e2 := rev_at hp
    obtain ⟨c, hc⟩ : ∃ c, l[s - 1]? = some c := ⟨_, List.getElem?_eq_getElem (by omega)⟩
    have e3 : l.reverse[(l.reverse.takeWhile stC).length]? = some c := by
      rw [e2, ← hc]
      congr 1
      omega
    have := tw_eq e3
    refine ⟨c, hc, ?_⟩
    rw [if_neg (by rw [this]; exact Bool.false_ne_true)]
    omega
def digC (c : Nat) : Bool := decide (48 ≤ c ∧ c ≤ 57)
def addrB (b : List Nat) : Bool := decide (1 ≤ b.length ∧ b.length ≤ 18) && (!decide (b.head? = some 48) && b.all digC)
def verD (b : List Nat) (s : Str) : Option PyData :=
  if b = [64] then some (.tuple [.str (Str.ofString "head"), .none, .str s])
  else if nameB (mkS b) = true then some (.tuple [.str (Str.ofString "name"), .str (mkS b), .str s])
  else if b.head? = some 47 ∧ nameB (mkS (b.drop 1)) = true then some (.tuple [.str (Str.ofString "far"), .str (mkS (b.drop 1)), .str s])
  else if b.head? = some 58 ∧ addrB (b.drop 1) = true then some (.tuple [.str (Str.ofString "address"), .int (PySem.NumText.digitsVal (b.drop 1) : Nat), .str s])
  else none
def verO (l : List Nat) : Option PyData := if 60 < l.length then none else verD (l.take (rsz l)) (mkS (l.drop (rsz l)))
theorem at_eq : Str.ofString "@" = mkS [64] := by decide +kernel
theorem rstrip_eq (z : Str) : Txt.rstripChars z (Str.ofString "~^") = mkS (z.cps.toList.take (rsz z.cps.toList)) := by
  have ec : (fun c => (Str.ofString "~^").cps.contains c) = stC := by
    funext c
    have e : (Str.ofString "~^").cps = #[126, 94] := by decide +kernel
    rw [e]
    show (#[126, 94] : Array Nat).contains c = decide (c = 126 ∨ c = 94)
    by_cases h : c = 126
    · subst h; simp
    · by_cases h2 : c = 94
      · subst h2; simp
      · rw [decide_eq_false (by omega)]
        simp [Array.contains, h, h2]
  have e0 : stripLo (fun c => (Str.ofString "~^").cps.contains c) false z = 0 := rfl
  have e1 : stripHi (fun c => (Str.ofString "~^").cps.contains c) true z 0 = rsz z.cps.toList := by
    show z.length - ((z.cps.toList.drop 0).reverse.takeWhile _).length = _
    rw [ec, List.drop_zero, str_len] <;> rfl
  show (if stripSame (fun c => (Str.ofString "~^").cps.contains c) false true z = true then z else stripped (fun c => (Str.ofString "~^").cps.contains c) false true z) = _
  unfold stripSame stripped
  rw [e0, e1]
  split
  · rename_i h
    have h2 : rsz z.cps.toList = z.length := by simpa using h
    rw [h2, str_len, List.take_length]
    exact mkS_codes z
  · refine str_ext ?_
    rw [PySem.StrLaws.strSub_toList, List.drop_zero, Nat.sub_zero] <;> rfl
theorem starts_one (b : List Nat) (c : Nat) : Txt.startswith (mkS b) (mkS [c]) = decide (b.head? = some c) := by
  unfold Txt.startswith
  rw [PySem.StrLaws.subAt_eq, mkS_len, mkS_len]
  show (decide (0 + 1 ≤ b.length) && ((b.drop 0).take 1 == [c])) = _
  cases b with
  | nil => rfl
  | cons a r =>
    show (decide (0 + 1 ≤ r.length + 1) && ([a] == [c])) = decide (some a = some c)
    rw [decide_eq_true (by omega), Bool.true_and]
    by_cases h : a = c
    · subst h; simp
    · simp [h]
theorem cutS_from (b : List Nat) (n : Nat) : cutS (mkS b) (some (n : Int)) none = mkS (b.drop n) := by
  refine str_ext ?_
  show (b.drop (HT.sIx (mkS b).length 0 (some (n : Int)))).take _ = b.drop n
  rw [HT.sIx_nat, mkS_len, HT.sIx_none]
  by_cases h : n ≤ b.length
  · rw [Nat.min_eq_left h, List.take_of_length_le (by rw [List.length_drop]; omega)]
  · rw [Nat.min_eq_right (by omega), List.drop_of_length_le (Nat.le_refl _), List.drop_of_length_le (by omega)] <;> simp
theorem cutS_to (b : List Nat) (n : Nat) : cutS (mkS b) none (some (n : Int)) = mkS (b.take n) := by
  refine str_ext ?_
  show (b.drop (HT.sIx (mkS b).length 0 none)).take (HT.sIx (mkS b).length (mkS b).length (some (n : Int)) - HT.sIx (mkS b).length 0 none) = b.take n
  rw [HT.sIx_nat, mkS_len, HT.sIx_none, List.drop_zero, Nat.sub_zero]
  by_cases h : n ≤ b.length
  · rw [Nat.min_eq_left h]
  · rw [Nat.min_eq_right (by omega), List.take_of_length_le (Nat.le_refl _), List.take_of_length_le (by omega)]
theorem take_len {l : List Nat} {n : Nat} (h : n ≤ l.length) : (l.take n).length = n := by rw [List.length_take]; omega
/-! ### comprehensions with a test over a text -/
theorem given_filter {l : List Nat} (p : Nat → Bool) (g : Nat → V) : given l.length (fun i => p (l.getD i 0)) (fun i => g (l.getD i 0)) = (l.filter p).map g := by
  have e : l = (List.range l.length).map fun i => l.getD i 0 := by
    refine List.ext_getElem? fun i => ?_
    rw [List.getElem?_map]
    by_cases hi : i < l.length
    · rw [List.getElem?_range hi, List.getElem?_eq_getElem hi, Option.map_some, List.getD_eq_getElem?_getD, List.getElem?_eq_getElem hi] <;> rfl
    · rw [List.getElem?_eq_none (by omega), List.getElem?_eq_none (by rw [List.length_range]; omega)] <;> rfl
  unfold given
  conv => rhs; rw [e, List.filter_map, List.map_map]
  rfl
theorem el_flS {σ : L2.St} {H : Hp} {te tl : TE} {tt : TT} {z : Str} {j : Nat} {vs : List Nat} {p : Nat → Bool} (h : Ev te σ H (.str z)) (hz : z.cps.toList.length ≤ 40000) (hw : ∀ x, wipe ((wipe σ vs).set j (some x)) vs = wipe σ vs)
    (ht : ∀ (c : Nat), c ∈ z.cps.toList → ∀ H1, Ex H H1 → EvT tt ((wipe σ vs).set j (some (.str ⟨#[c]⟩))) H1 (p c)) (he : ∀ (c : Nat) H1, Ex H H1 → Ev tl ((wipe σ vs).set j (some (.str ⟨#[c]⟩))) H1 (.str ⟨#[c]⟩)) : EvL (tLc (iStr te) (gName j) tt tl vs) σ H ((z.cps.toList.filter p).map fun c => .str ⟨#[c]⟩) := fun H0 e Q q => h H0 e _ fun H1 e1 => ⟨z, rfl, fun D hD => by
  rw [← given_filter (l := z.cps.toList) p fun c => .str ⟨#[c]⟩] at q
  refine ⟨fun i m H' => m = z.cps.toList.length - i ∧ i ≤ z.cps.toList.length ∧ Cw H1 (fun i => p (z.cps.toList.getD i 0)) (fun i => .str ⟨#[z.cps.toList.getD i 0]⟩) D i H', ⟨_, rfl, Nat.zero_le _, hD, Ex.new hD, upd_same⟩, ?_⟩
  rintro i m H' ⟨rfl, hi, pp⟩
  by_cases hlt : i < z.cps.toList.length
  · refine .inr ⟨(by show i < z.cps.size; simpa using hlt), Cw H1 (fun i => p (z.cps.toList.getD i 0)) (fun i => .str ⟨#[z.cps.toList.getD i 0]⟩) D (i + 1), fun H2 p2 => ⟨_, by omega, rfl, hlt, p2⟩, fun x H2 y => ?_⟩
    obtain ⟨rfl, c, hc, rfl⟩ := y
    have hc' : z.cps.toList[i]? = some c := by simpa using hc
    have ed : z.cps.toList.getD i 0 = c := by rw [List.getD_eq_getElem?_getD, hc'] <;> rfl
    have t1 := ht c (List.mem_of_getElem? hc') H1 (e.trans e1)
    have t2 := he c H1 (e.trans e1)
    refine ⟨hw _, cw_turn pp (by omega) (by rw [ed]; exact t1) fun _ => (by rw [ed]; exact t2)⟩
  · have ei : i = z.cps.toList.length := by omega
    subst ei
    exact .inl ⟨(by show z.cps.size ≤ z.cps.toList.length; simp), q D H' (fresh_back e1 pp.1) (e1.trans pp.2.1) pp.2.2⟩⟩
theorem dpa_strs {K : PySem.W.Frag} {H : Hp} : ∀ zs : List Str, DpAll K H (zs.map V.str) (zs.map PyData.str)
  | [] => .nil
  | z :: zs => .cons (.str z) (dpa_strs zs)
/-- a new list == [] -/
theorem ev_eqNil {K : PySem.W.Frag} {σ : L2.St} {H : Hp} {ta : TE} {zs : List Str} (h : EvL ta σ H (zs.map V.str)) (hz : ∀ z ∈ zs, SeqAt.shaped (.str z) = true) : Ev (tOp (rEqD K) ta (tLst tNil)) σ H (.bl zs.isEmpty) := by
  refine ev_opLL h (el_lst ea_nil (by decide)) fun p q H1 hp hq _ => rv_val fun H2 e2 Q k => ⟨_, _, .lst (sq_of (e2 _ _ hp)) (dpa_strs zs), .lst (sq_of (e2 _ _ hq)) .nil, shaped_lst (n := 0) (fun d hd => ?_) (by decide), by decide, ?_⟩
  · obtain ⟨z, hz', rfl⟩ := List.mem_map.mp hd
    exact .str 0 (hz z hz')
  · have e : PyData.eqv (.list (zs.map PyData.str)) (.list []) = zs.isEmpty := by
      cases zs <;> simp [PyData.eqv, PyData.eqvAll]
    rw [e]
    exact k
/-- [f(k) for k in range(n)], n any int -/
theorem el_mapRI {σ : L2.St} {H : Hp} {ta : TA} {te : TE} {j : Nat} {vs : List Nat} {n : Int} {ys : List V} (h : EvA ta σ H [.int n]) (hz : -100000 ≤ n ∧ n ≤ 40000) (hw : ∀ x, wipe ((wipe σ vs).set j (some x)) vs = wipe σ vs) (hl : ys.length = n.toNat)
    (he : ∀ (i : Nat) (y : V), (i : Int) < n → ys[i]? = some y → ∀ H1, Ex H H1 → Ev te ((wipe σ vs).set j (some (.int (i : Int)))) H1 y) : EvL (tLc (iRng1 ta) (gName j) tYes te vs) σ H ys := by
  intro H0 e Q q
  refine h H0 e _ fun H1 e1 => ⟨n, rfl, by omega, by omega, fun Dl hD => ?_⟩
  refine lc_range (n := n.toNat) (fun i H' => H1 Dl = none ∧ Ex H1 H' ∧ H' Dl = some (.lst (ys.take i))) ⟨hD, Ex.new hD, upd_same⟩ (fun i H' hi p => ⟨hw _, ?_⟩) (fun H' p => ?_)
  · obtain ⟨p1, p2, p3⟩ := p
    have hi2 : i < ys.length := by omega
    have hy : ys[i]? = some ys[i] := List.getElem?_eq_getElem hi2
    show te ((wipe σ vs).set j (some (.int (0 + (i : Int))))) H' _
    rw [Int.zero_add]
    refine he i ys[i] (by omega) hy H1 (e.trans e1) H' p2 _ fun H4 e4 => ⟨ys.take i, e4 Dl _ p3, sz_lt (by rw [List.length_take]; omega), p1, (p2.trans e4).mut p1, ?_⟩
    rw [upd_same, List.take_add_one, hy] <;> rfl
  · obtain ⟨p1, p2, p3⟩ := p
    rw [← hl, List.take_length] at p3
    exact q Dl H' (fresh_back e1 p1) (e1.trans p2) p3
/-- texts that the law makes -/
def TxOk (n : Nat) (z : Str) : Prop := z.length ≤ n ∧ ∀ c ∈ z.cps.toList, c ≤ 1000
theorem TxOk.sh {n : Nat} {z : Str} (h : TxOk n z) : SeqAt.shaped (.str z) = true := by
  unfold SeqAt.shaped
  have e : PyData.strOk z = true := by
    unfold PyData.strOk
    rw [Array.all_eq_true']
    intro c hc
    have := h.2 c (by simpa using hc)
    simp only [decide_eq_true_eq]
    omega
  rw [show (PyData.str z).canLay0 = PyData.strOk z by simp [PyData.canLay0], e] <;> rfl
theorem TxOk.app {n m : Nat} {a b : Str} (h : TxOk n a) (k : TxOk m b) : TxOk (n + m) (a ++ b) := by
  refine ⟨?_, fun c hc => ?_⟩
  · rw [str_len, codes_app rfl rfl, List.length_append, ← str_len, ← str_len]
    have := h.1
    have := k.1
    omega
  · rw [codes_app (x := a.cps.toList) (y := b.cps.toList) rfl rfl] at hc
    rcases List.mem_append.mp hc with z | z
    · exact h.2 c z
    · exact k.2 c z
theorem TxOk.cut {n : Nat} {z : Str} (h : TxOk n z) (lo hi : Option Int) : TxOk n (cutS z lo hi) := by
  refine ⟨Nat.le_trans (cutS_length z lo hi) h.1, fun c hc => h.2 c ?_⟩
  exact List.mem_of_mem_drop (List.mem_of_mem_take (by exact hc))
theorem TxOk.mono {n m : Nat} {z : Str} (h : TxOk n z) (e : n ≤ m) : TxOk m z := ⟨Nat.le_trans h.1 e, h.2⟩
theorem TxOk.one {c : Nat} (h : c ≤ 1000) : TxOk 1 ⟨#[c]⟩ := ⟨Nat.le_refl 1, fun d hd => by
  have : d = c := by simpa using hd
  omega⟩
/-- a join of signs -/
theorem ev_joinS {K : PySem.W.Frag} {σ : L2.St} {H : Hp} {te : TE} {l : List Nat} (h : EvL te σ H (l.map fun c => V.str ⟨#[c]⟩)) (hz : l.length ≤ 100000) :
    Ev (tM1 (fun x xs H Q => ∃ a p, ∃ ys : List Str, x = .str a ∧ xs = [.ref p] ∧ (SqL K H p (ys.map V.str) ∨ SqT K H p (ys.map V.str)) ∧ (ys.map (·.length)).sum + ys.length * a.length ≤ 16777216 ∧ Q (.str (Txt.join a ys)) H) (tC (.str (Str.ofString ""))) te) σ H (.str (mkS l)) := by
  have e : (l.map fun c => V.str ⟨#[c]⟩) = (l.map fun c => (⟨#[c]⟩ : Str)).map V.str := by rw [List.map_map] <;> rfl
  rw [e] at h
  refine ev_is (ev_joinN (K := K) ev_c h ?_) (congrArg V.str (join_signs l))
  rw [sum_ones, List.length_map]
  have : (Str.ofString "").length = 0 := by decide +kernel
  rw [this]
  omega
theorem ev_starts {σ : L2.St} {H : Hp} {to te : TE} {a b : Str} (h0 : Ev to σ H (.str a)) (h : Ev te σ H (.str b)) : Ev (tM1 (fun x xs H Q => ∃ a b, x = V.str a ∧ xs = [V.str b] ∧ Q (.bl (Txt.startswith a b)) H) to te) σ H (.bl (Txt.startswith a b)) := fun H1 e Q q =>
  h0 H1 e _ fun H2 e2 => ⟨⟨a, rfl⟩, h H2 (e.trans e2) _ fun H3 e3 => ⟨a, b, rfl, rfl, q H3 (e2.trans e3)⟩⟩
theorem ev_rstrip {σ : L2.St} {H : Hp} {to te : TE} {a b : Str} (h0 : Ev to σ H (.str a)) (h : Ev te σ H (.str b)) (hz : a.length ≤ 16777216) : Ev (tM1 (fun x xs H Q => ∃ a b, x = V.str a ∧ xs = [V.str b] ∧ a.length ≤ sizeLine ∧ Q (.str (Txt.rstripChars a b)) H) to te) σ H (.str (Txt.rstripChars a b)) := fun H1 e Q q =>
  h0 H1 e _ fun H2 e2 => ⟨⟨a, rfl⟩, h H2 (e.trans e2) _ fun H3 e3 => ⟨a, b, rfl, rfl, sizeOk hz, q H3 (e2.trans e3)⟩⟩
theorem ev_intS {σ : L2.St} {H : Hp} {te : TE} {a : Str} {n : Int} (h : Ev te σ H (.str a)) (hn : PySem.intText? a = some n) (hz : a.length ≤ 640) : Ev (tCB (fun xs H Q => ∃ a n, xs = [V.str a] ∧ PySem.intText? a = some n ∧ a.length ≤ 640 ∧ Q (.int n) H) (tCons te tNil)) σ H (.int n) := fun H1 e Q q =>
  h H1 e _ fun H2 e2 => ⟨a, n, rfl, hn, hz, q H2 e2⟩
theorem addr_int {b : List Nat} (h : addrB b = true) : PySem.intText? (mkS b) = some ((PySem.NumText.digitsVal b : Nat) : Int) ∧ (mkS b).length ≤ 640 := by
  unfold addrB at h
  simp only [Bool.and_eq_true, decide_eq_true_eq, List.all_eq_true] at h
  obtain ⟨h1, _, h2⟩ := h
  refine ⟨intText_digits (x := mkS b) (fun c hc => ?_) (fun z => ?_) (by rw [mkS_len]; omega), by rw [mkS_len]; omega⟩
  · have := h2 c hc
    unfold digC at this
    simpa using this
  · have : b = [] := z
    subst this
    simp at h1
theorem ev_intB {σ : L2.St} {H : Hp} {te : TE} {b : Bool} (h : Ev te σ H (.bl b)) : Ev (tCB (fun xs H Q => (∃ i, xs = [V.int i] ∧ Q (.int i) H) ∨ ∃ k, xs = [V.bl k] ∧ Q (.int (if k = true then 1 else 0)) H) (tCons te tNil)) σ H (.int (if b = true then 1 else 0)) := fun H1 e Q q =>
  h H1 e _ fun H2 e2 => .inr ⟨b, rfl, q H2 e2⟩


/-! ### what evaluates to some text -/
def ES (te : TE) (σ : L2.St) (H : Hp) (R : Str → Prop) : Prop := ∀ H1, Ex H H1 → ∀ Q : VK, (∀ z H2, Ex H1 H2 → R z → Q (.str z) H2) → te σ H1 Q
def ESA (ta : TA) (σ : L2.St) (H : Hp) (R : Str → Prop) (n : Nat) : Prop := ∀ H1, Ex H H1 → ∀ Q : List V → Hp → Prop, (∀ (zs : List Str) H2, Ex H1 H2 → zs.length = n → (∀ z ∈ zs, R z) → Q (zs.map V.str) H2) → ta σ H1 Q
section
variable {K : PySem.W.Frag} {σ : L2.St} {H : Hp} {te ta tb : TE} {R R1 R2 : Str → Prop}
theorem es_ev {z : Str} (h : Ev te σ H (.str z)) (r : R z) : ES te σ H R := fun H1 e Q q => h H1 e _ fun H2 e2 => q z H2 e2 r
theorem ES.imp (h : ES te σ H R1) (i : ∀ z, R1 z → R z) : ES te σ H R := fun H1 e Q q => h H1 e Q fun z H2 e2 r => q z H2 e2 (i z r)
theorem ES.mono {H' : Hp} (e : Ex H H') (h : ES te σ H R) : ES te σ H' R := fun H1 e1 => h H1 (e.trans e1)
theorem es_add (ha : ES ta σ H R1) (hb : ES tb σ H R2) (hR : ∀ a b, R1 a → R2 b → a.length + b.length ≤ 16777216 ∧ R (a ++ b)) : ES (tOp (fun x y H Q => ∃ i j, x = V.str i ∧ y = V.str j ∧ i.length + j.length ≤ sizeLine ∧ Q (.str (i ++ j)) H) ta tb) σ H R := fun H1 e Q q =>
  ha H1 e _ fun a H2 e2 ra => hb H2 (e.trans e2) _ fun b H3 e3 rb => ⟨a, b, rfl, rfl, sizeOk (hR a b ra rb).1, q _ H3 (e2.trans e3) (hR a b ra rb).2⟩
theorem esa_nil : ESA tNil σ H R 0 := fun H1 _ _ q => q [] H1 (Ex.refl H1) rfl fun _ z => nomatch z
theorem esa_cons {tr : TA} {n : Nat} (h : ES te σ H R) (r : ESA tr σ H R n) : ESA (tCons te tr) σ H R (n + 1) := fun H1 e Q q =>
  h H1 e _ fun z H2 e2 rz => r H2 (e.trans e2) _ fun zs H3 e3 hl hz => q (z :: zs) H3 (e2.trans e3) (by rw [List.length_cons, hl]) fun y hy => by
    rcases List.mem_cons.mp hy with h | h
    · rw [h]; exact rz
    · exact hz y h
theorem es_ixN {tr : TA} {n : Nat} {i : Int} (h : ESA tr σ H R n) (hi : ∀ H1, Ex H H1 → Ev tb σ H1 (.int i)) (h0 : 0 ≤ i) (h1 : i < n) (hn : n ≤ 100000) : ES (tOp (rIxL K) (tLst tr) tb) σ H R := fun H1 e Q q =>
  h H1 e _ fun zs H2 e2 hl hz => ⟨sz_of (by rw [List.length_map, hl]; exact hn), fun p hp => hi _ (e.trans (e2.trans (Ex.new hp))) _ (Ex.refl _) _ fun H3 e3 => by
    obtain ⟨z, hzz⟩ : ∃ z, zs[i.toNat]? = some z := ⟨_, List.getElem?_eq_getElem (by omega)⟩
    exact ⟨p, zs.map V.str, i, .str z, rfl, rfl, sq_of (e3 _ _ upd_same), atI_of h0 (by rw [List.getElem?_map, hzz] <;> rfl), q z H3 ((e2.trans (Ex.new hp)).trans e3) (hz z (List.mem_of_getElem? hzz))⟩⟩
theorem q_asgS {D : Ends} {tz : TS} {i : Nat} (h : ES te σ H R) (k : ∀ z H1, Ex H H1 → R z → tz D (σ.set i (some (.str z))) H1) : tSeq (tAsg te (gName i)) tz D σ H := h H (Ex.refl H) _ k
theorem s_asgS {D : Ends} {i : Nat} (h : ES te σ H R) (k : ∀ z H1, Ex H H1 → R z → D.nx (σ.set i (some (.str z))) H1) : tAsg te (gName i) D σ H := h H (Ex.refl H) _ k
theorem s_retS {D : Ends} (h : ES te σ H R) (k : ∀ z H1, Ex H H1 → R z → D.rt (.str z) H1) : tRet te D σ H := h H (Ex.refl H) _ k
end
/-- for x in [a, b, c], texts -/
theorem s_forTx {K : PySem.W.Frag} {σ : L2.St} {H : Hp} {ta : TA} {tu : TS} {D : Ends} {j n : Nat} {R : Str → Prop} (h : ESA ta σ H R n) (hn : n ≤ 100000) (Pv : Hp → L2.St → Hp → Prop) (h0 : ∀ H1, Ex H H1 → Pv H1 σ H1) (he : ∀ H1 σ' H', Pv H1 σ' H' → Ex H1 H')
    (hs : ∀ H1 z σ' H', Ex H H1 → R z → Pv H1 σ' H' → tu { D with nx := Pv H1, ct := Pv H1, bk := D.nx } (σ'.set j (some (.str z))) H') (hd : ∀ H1 σ' H', Ex H H1 → Pv H1 σ' H' → D.nx σ' H') : tFor (iList K (tLst ta)) (gName j) tu D σ H := by
  refine h H (Ex.refl H) _ fun zs H2 e2 hl hz => ⟨sz_of (by rw [List.length_map, hl]; exact hn), fun p hp => ⟨p, rfl, ⟨zs.map V.str, sq_of upd_same⟩, ?_⟩⟩
  have e3 := e2.trans (Ex.new (o := .lst (zs.map V.str)) hp)
  refine for_list (xs := zs.map V.str) (fun i σ' H' => Pv (upd H2 p (.lst (zs.map V.str))) σ' H') (h0 _ e3) (fun i σ' H' _ hP => sq_of (he _ _ _ hP p _ upd_same)) (fun i x σ' H' hi hP => ?_) (fun σ' H' hP => hd _ _ _ e3 hP)
  rw [List.getElem?_map] at hi
  cases e : zs[i]? with
  | none => rw [e] at hi; cases hi
  | some z =>
    rw [e] at hi
    have ex : x = .str z := (Option.some.inj hi).symm
    subst ex
    exact hs _ z σ' H' e3 (hz z (List.mem_of_getElem? e)) hP


/-! ### expressions -/
inductive Bop | add | sub | mul | equal | unequal | less | atmost | more | atleast | and | or
  deriving DecidableEq
def Bop.s : Bop → Str
  | .add => "add"
  | .sub => "sub"
  | .mul => "mul"
  | .equal => "equal"
  | .unequal => "unequal"
  | .less => "less"
  | .atmost => "atmost"
  | .more => "more"
  | .atleast => "atleast"
  | .and => "and"
  | .or => "or"
inductive Tr | int (n : Int) | text (z : Str) | col (z : Str) | neg (a : Tr) | null (a : Tr) | not (a : Tr) | bin (o : Bop) (a b : Tr)
def Tr.d : Tr → PyData
  | .int n => .tuple [.str "int", .int n]
  | .text z => .tuple [.str "text", .str z]
  | .col z => .tuple [.str "column", .str z]
  | .neg a => .tuple [.str "neg", a.d]
  | .null a => .tuple [.str "null", a.d]
  | .not a => .tuple [.str "not", a.d]
  | .bin o a b => .tuple [.str o.s, a.d, b.d]
def Tr.h : Tr → Nat
  | .int _ => 0
  | .text _ => 0
  | .col _ => 0
  | .neg a => a.h + 1
  | .null a => a.h + 1
  | .not a => a.h + 1
  | .bin _ a b => max a.h b.h + 1
inductive Kd | int | text | truth
  deriving DecidableEq
def Kd.s : Kd → Str
  | .int => "int"
  | .text => "text"
  | .truth => "truth"
def Bop.ar (o : Bop) : Bool := o = .add ∨ o = .sub ∨ o = .mul
def Bop.lg (o : Bop) : Bool := o = .and ∨ o = .or
/-- the columns: names and kinds -/
abbrev Cols := List (Str × Kd)
inductive Ty (cs : Cols) : Tr → Kd → Prop
  | int {n : Int} (h : 0 ≤ n ∧ n < 10 ^ 18) : Ty cs (.int n) .int
  | text {z : Str} (h : SeqAt.shaped (.str z) = true) : Ty cs (.text z) .text
  | col {z : Str} {k : Kd} (h : SeqAt.shaped (.str z) = true) (hk : k ≠ .truth) (f : (cs.find? fun c => decide (c.1 = z)).map (·.2) = some k) : Ty cs (.col z) k
  | neg {a : Tr} (h : Ty cs a .int) : Ty cs (.neg a) .int
  | null {a : Tr} {k : Kd} (h : Ty cs a k) (hk : k ≠ .truth) : Ty cs (.null a) .truth
  | not {a : Tr} (h : Ty cs a .truth) : Ty cs (.not a) .truth
  | ar {o : Bop} {a b : Tr} (ho : o.ar = true) (h : Ty cs a .int) (h2 : Ty cs b .int) : Ty cs (.bin o a b) .int
  | cmp {o : Bop} {a b : Tr} {k : Kd} (ho : o.ar = false) (ho2 : o.lg = false) (hk : k ≠ .truth) (h : Ty cs a k) (h2 : Ty cs b k) : Ty cs (.bin o a b) .truth
  | lg {o : Bop} {a b : Tr} (ho : o.lg = true) (h : Ty cs a .truth) (h2 : Ty cs b .truth) : Ty cs (.bin o a b) .truth
theorem Ty.fl {cs : Cols} {t : Tr} {k : Kd} (h : Ty cs t k) : Fl (t.h + 1) t.d := by
  have two : ∀ {n : Nat} {a : String} {d : PyData}, SeqAt.shaped (.str (Str.ofString a)) = true → Fl n d → Fl (n + 1) (.tuple [.str a, d]) := fun hs h => .tup fun x hx => by
    simp only [List.mem_cons, List.not_mem_nil, or_false] at hx
    rcases hx with z | z <;> rw [z]
    · exact .str _ hs
    · exact h
  have s : ∀ o : Bop, SeqAt.shaped (.str o.s) = true := by intro o; cases o <;> decide +kernel
  have three : ∀ {o : Bop} {n m : Nat} {d e : PyData}, Fl n d → Fl m e → Fl (max n m + 1) (.tuple [.str o.s, d, e]) := fun {o n m d e} h1 h2 => .tup fun x hx => by
    simp only [List.mem_cons, List.not_mem_nil, or_false] at hx
    rcases hx with z | z | z <;> rw [z]
    · exact .str _ (s o)
    · exact h1.mono (Nat.le_max_left _ _)
    · exact h2.mono (Nat.le_max_right _ _)
  have mx : ∀ {o : Bop} {a b : Tr}, Fl (a.h + 1) a.d → Fl (b.h + 1) b.d → Fl ((Tr.bin o a b).h + 1) (Tr.bin o a b).d := fun {o a b} h1 h2 => (three (o := o) h1 h2).mono (by show _ ≤ max a.h b.h + 1 + 1; omega)
  induction h with
  | int h => exact two (by decide +kernel) (.int 0 _)
  | text h => exact two (by decide +kernel) (.str 0 h)
  | col h _ _ => exact two (by decide +kernel) (.str 0 h)
  | neg _ ih => exact two (by decide +kernel) ih
  | null _ _ ih => exact two (by decide +kernel) ih
  | not _ ih => exact two (by decide +kernel) ih
  | ar _ _ _ i1 i2 => exact mx i1 i2
  | cmp _ _ _ _ _ i1 i2 => exact mx i1 i2
  | lg _ _ _ i1 i2 => exact mx i1 i2
theorem lg_ar {o : Bop} (h : o.ar = true) (h2 : o.lg = true) : False := by cases o <;> simp [Bop.ar, Bop.lg] at h h2
theorem Ty.kd_u {cs : Cols} {t : Tr} {k k' : Kd} (h : Ty cs t k) (h2 : Ty cs t k') : k = k' := by
  cases h with
  | int _ => cases h2; rfl
  | text _ => cases h2; rfl
  | col _ _ f =>
    cases h2 with
    | col _ _ f2 => exact Option.some.inj (f.symm.trans f2)
  | neg _ => cases h2; rfl
  | null _ _ => cases h2; rfl
  | not _ => cases h2; rfl
  | ar ho _ _ =>
    cases h2 with
    | ar _ _ _ => rfl
    | cmp h _ _ _ _ => exact Bool.noConfusion (ho.symm.trans h)
    | lg h _ _ => exact (lg_ar ho h).elim
  | cmp ho ho2 _ _ _ =>
    cases h2 with
    | ar h _ _ => exact Bool.noConfusion (h.symm.trans ho)
    | cmp _ _ _ _ _ => rfl
    | lg h _ _ => exact Bool.noConfusion (h.symm.trans ho2)
  | lg ho _ _ =>
    cases h2 with
    | ar h _ _ => exact (lg_ar h ho).elim
    | cmp _ h _ _ _ => exact Bool.noConfusion (ho.symm.trans h)
    | lg _ _ _ => rfl
/-! ### values -/
def bndV (n : Int) : V := if n.natAbs < 10 ^ 60 then .int n else .non
def colV : Cols → List V → Str → V
  | (c, _) :: cs, v :: vs, z => if c = z then v else colV cs vs z
  | _, _, _ => .non
def cmpV (o : Bop) (x y : V) : V := match x, y with
  | .int i, .int j => (match o with
    | .add => bndV (i + j)
    | .sub => bndV (i - j)
    | .mul => bndV (i * j)
    | .equal => .bl (decide (i = j))
    | .unequal => .bl (!decide (i = j))
    | .less => .bl (decide (i < j))
    | .atmost => .bl (decide (i ≤ j))
    | .more => .bl (decide (j < i))
    | .atleast => .bl (decide (j ≤ i))
    | _ => .non)
  | .str i, .str j => (match o with
    | .equal => .bl (decide (i = j))
    | .unequal => .bl (!decide (i = j))
    | .less => .bl (decide (i.cps.toList < j.cps.toList))
    | .atmost => .bl (!decide (j.cps.toList < i.cps.toList))
    | .more => .bl (decide (j.cps.toList < i.cps.toList))
    | .atleast => .bl (!decide (i.cps.toList < j.cps.toList))
    | _ => .non)
  | _, _ => .non
def andV (x y : V) : V := if x = .bl false ∨ y = .bl false then .bl false else if x = .non ∨ y = .non then .non else .bl true
def orV (x y : V) : V := if x = .bl true ∨ y = .bl true then .bl true else if x = .non ∨ y = .non then .non else .bl false
def evT (cs : Cols) (row : List V) : Tr → V
  | .int n => .int n
  | .text z => .str z
  | .col z => colV cs row z
  | .neg a => match evT cs row a with
    | .int i => bndV (-i)
    | _ => .non
  | .null a => .bl (decide (evT cs row a = .non))
  | .not a => match evT cs row a with
    | .bl b => .bl (!b)
    | _ => .non
  | .bin o a b => if o = .and then andV (evT cs row a) (evT cs row b) else if o = .or then orV (evT cs row a) (evT cs row b) else cmpV o (evT cs row a) (evT cs row b)
/-- a value of that kind -/
inductive VK' : Kd → V → Prop
  | non (k : Kd) : VK' k .non
  | int {i : Int} (h : i.natAbs < 10 ^ 60) : VK' .int (.int i)
  | str (z : Str) : VK' .text (.str z)
  | bl (b : Bool) : VK' .truth (.bl b)
theorem bnd_ok (i : Int) : VK' .int (bndV i) := by
  unfold bndV
  split
  · rename_i h; exact .int h
  · exact .non _
inductive RowOk : Cols → List V → Prop
  | nil : RowOk [] []
  | cons {c : Str} {k : Kd} {cs : Cols} {v : V} {vs : List V} (h : VK' k v) (r : RowOk cs vs) : RowOk ((c, k) :: cs) (v :: vs)
theorem RowOk.len : ∀ {cs : Cols} {vs : List V}, RowOk cs vs → vs.length = cs.length
  | _, _, .nil => rfl
  | _, _, .cons _ r => congrArg (· + 1) r.len
theorem colV_ok : ∀ {cs : Cols} {vs : List V} {z : Str} {k : Kd}, RowOk cs vs → (cs.find? fun c => decide (c.1 = z)).map (·.2) = some k → VK' k (colV cs vs z)
  | _, _, z, k, .cons (c := c) (k := k') (cs := cs) (v := v) (vs := vs) h r, f => by
    rw [List.find?_cons] at f
    unfold colV
    by_cases e : c = z
    · rw [decide_eq_true (show (c, k').1 = z from e)] at f
      rw [if_pos e, ← Option.some.inj f]
      exact h
    · rw [decide_eq_false (show ¬ (c, k').1 = z from e)] at f
      rw [if_neg e]
      exact colV_ok r f
theorem ev_ok {cs : Cols} {row : List V} (hr : RowOk cs row) {t : Tr} {k : Kd} (h : Ty cs t k) : VK' k (evT cs row t) := by
  induction h with
  | int h => exact .int (by omega)
  | text h => exact .str _
  | col h hk f => exact colV_ok hr f
  | @neg a h ih =>
    unfold evT
    generalize evT cs row a = x at ih
    cases ih with
    | non => exact .non _
    | int _ => exact bnd_ok _
  | null h hk ih => exact .bl _
  | @not a h ih =>
    unfold evT
    generalize evT cs row a = x at ih
    cases ih with
    | non => exact .non _
    | bl b => exact .bl _
  | @ar o a b ho h h2 ih ih2 =>
    unfold evT
    rw [if_neg (by intro z; rw [z] at ho; cases ho), if_neg (by intro z; rw [z] at ho; cases ho)]
    generalize evT cs row a = x at ih
    generalize evT cs row b = y at ih2
    cases ih with
    | non => cases ih2 <;> exact .non _
    | int _ =>
      cases ih2 with
      | non => exact .non _
      | int _ => cases o <;> first | exact bnd_ok _ | cases ho
  | @cmp o a b k ho ho2 hk h h2 ih ih2 =>
    unfold evT
    rw [if_neg (by intro z; rw [z] at ho2; cases ho2), if_neg (by intro z; rw [z] at ho2; cases ho2)]
    generalize evT cs row a = x at ih
    generalize evT cs row b = y at ih2
    cases ih with
    | non => cases ih2 <;> exact .non _
    | int _ =>
      cases ih2 with
      | non => exact .non _
      | int _ => cases o <;> first | exact .bl _ | exact .non _ | cases ho | cases ho2
    | str _ =>
      cases ih2 with
      | non => exact .non _
      | str _ => cases o <;> first | exact .bl _ | exact .non _ | cases ho | cases ho2
    | bl _ => exact absurd rfl hk
  | @lg o a b ho h h2 ih ih2 =>
    unfold evT
    by_cases e : o = .and
    · rw [if_pos e]
      unfold andV
      split
      · exact .bl _
      · split
        · exact .non _
        · exact .bl _
    · rw [if_neg e]
      by_cases e2 : o = .or
      · rw [if_pos e2]
        unfold orV
        split
        · exact .bl _
        · split
          · exact .non _
          · exact .bl _
      · cases o <;> first | exact absurd rfl e | exact absurd rfl e2 | cases ho
theorem VK'.flat {k : Kd} {v : V} (h : VK' k v) : flatV v = true := by cases h <;> rfl
def colsD (cs : Cols) : PyData := .tuple (cs.map fun c => .tuple [.str c.1, .str c.2.s])


/-! ### tuples of two and three; slices of tuples; membership of values -/
theorem dp_two {K : PySem.W.Frag} {H : Hp} {v : V} {a : Str} {d : PyData} (h : Dp K H v (.tuple [.str a, d])) : ∃ p x, v = .ref p ∧ SqT K H p [.str a, x] ∧ Dp K H x d := by
  cases h with
  | tup hs hds =>
    cases hds with
    | cons h1 r =>
      cases r with
      | cons h2 r =>
        cases r
        cases h1
        exact ⟨_, _, rfl, hs, h2⟩
theorem dp_three {K : PySem.W.Frag} {H : Hp} {v : V} {a : Str} {d e : PyData} (h : Dp K H v (.tuple [.str a, d, e])) : ∃ p x y, v = .ref p ∧ SqT K H p [.str a, x, y] ∧ Dp K H x d ∧ Dp K H y e := by
  cases h with
  | tup hs hds =>
    cases hds with
    | cons h1 r =>
      cases r with
      | cons h2 r =>
        cases r with
        | cons h3 r =>
          cases r
          cases h1
          exact ⟨_, _, _, rfl, hs, h2, h3⟩
/-- t[1:] of a tuple -/
theorem eu_sl1 {K : PySem.W.Frag} {σ : L2.St} {H : Hp} {te : TE} {tl th : TO} {a : Addr} {x : V} {xs : List V} (h : Ev te σ H (.ref a)) (h1 : EvO tl σ H (some 1)) (h2 : EvO th σ H none) (hx : SqT K H a (x :: xs)) : EvU (tSl (rSlA K) te tl th) σ H xs := fun H0 e Q q =>
  h H0 e _ fun H2 e2 => h1 H2 (e.trans e2) _ fun H3 e3 => h2 H3 ((e.trans e2).trans e3) _ fun H4 e4 => by
    have z1 : HT.sIx (x :: xs).length 0 (some 1) = 1 := by
      show HT.sIx (xs.length + 1) 0 (some ((1 : Nat) : Int)) = 1
      rw [HT.sIx_nat]
      omega
    refine ⟨a, x :: xs, rfl, ex_t (((e.trans e2).trans e3).trans e4) hx, fun z => ?_, fun _ p hp => ?_⟩
    · have := z.1
      rw [z1] at this
      cases this
    · have ec : cutV (x :: xs) (some 1) none = xs := by
        unfold cutV
        rw [z1, HT.sIx_none]
        show (xs.take (xs.length + 1 - 1)) = xs
        exact List.take_of_length_le (Nat.le_refl _)
      rw [ec]
      exact q p _ (fresh_back ((e2.trans e3).trans e4) hp) (((e2.trans e3).trans e4).trans (Ex.new hp)) upd_same
/-- [f(x) for x in a new tuple] -/
theorem el_mapTN {K : PySem.W.Frag} {σ : L2.St} {H : Hp} {tl te : TE} {j : Nat} {vs : List Nat} {xs ys : List V} (h : EvU tl σ H xs) (hz : xs.length ≤ 40000) (hw : ∀ x, wipe ((wipe σ vs).set j (some x)) vs = wipe σ vs) (hl : ys.length = xs.length)
    (he : ∀ (i : Nat) (x y : V), xs[i]? = some x → ys[i]? = some y → ∀ H1, Ex H H1 → Ev te ((wipe σ vs).set j (some x)) H1 y) : EvL (tLc (iTup K tl) (gName j) tYes te vs) σ H ys := by
  intro H0 e Q q
  refine h H0 e _ fun a H1 _ e1 ha => ⟨a, rfl, ⟨xs, st_of ha⟩, fun Dl hD => ?_⟩
  refine lc_tup (xs := xs) (fun i H' => H1 Dl = none ∧ Ex H1 H' ∧ H' Dl = some (.lst (ys.take i))) ⟨hD, Ex.new hD, upd_same⟩ (fun i H' _ p => ex_t p.2.1 (st_of ha)) (fun i x H' hi p => ⟨hw x, ?_⟩) (fun H' p => ?_)
  · obtain ⟨p1, p2, p3⟩ := p
    have hi2 : i < ys.length := by
      have := (List.getElem?_eq_some_iff.mp hi).1
      omega
    have hy : ys[i]? = some ys[i] := List.getElem?_eq_getElem hi2
    show te ((wipe σ vs).set j (some x)) H' _
    refine he i x ys[i] hi hy H1 (e.trans e1) H' p2 _ fun H4 e4 => ⟨ys.take i, e4 Dl _ p3, sz_lt (by rw [List.length_take]; omega), p1, (p2.trans e4).mut p1, ?_⟩
    rw [upd_same, List.take_add_one, hy] <;> rfl
  · obtain ⟨p1, p2, p3⟩ := p
    rw [← hl, List.take_length] at p3
    exact q Dl H' (fresh_back e1 p1) (e1.trans p2) p3
/-- list.index -/
theorem ev_index {K : PySem.W.Frag} {σ : L2.St} {H : Hp} {to te : TE} {ys : List V} {y z : V} {j : Nat} (h : EvL to σ H ys) (hy : ∀ H1, Ex H H1 → Ev te σ H1 y) (fy : flatV y = true) (fs : ys.all flatV = true) (hj : ys[j]? = some z) (hz : eqV z y = true) (hn : ∀ (m : Nat) (z' : V), m < j → ys[m]? = some z' → eqV z' y = false) :
    Ev (tBM K "list" (rIndex K) to (tCons te tNil)) σ H (.int (j : Int)) := fun H1 e Q q =>
  h H1 e _ fun p H2 _ e2 hp => ⟨.inl ⟨rfl, _, sq_of hp⟩, hy H2 (e.trans e2) _ (Ex.refl H2) _ fun H3 e3 => ⟨p, ys, y, j, z, rfl, rfl, sq_of (e3 _ _ hp), fy, fs, hj, hz, hn, q H3 (e2.trans e3)⟩⟩
theorem ev_abs {σ : L2.St} {H : Hp} {te : TE} {i : Int} (h : Ev te σ H (.int i)) : Ev (tCB (fun xs H Q => ∃ i, xs = [V.int i] ∧ Q (.int (if i < 0 then -i else i)) H) (tCons te tNil)) σ H (.int (i.natAbs : Int)) := fun H1 e Q q =>
  h H1 e _ fun H2 e2 => ⟨i, rfl, by
    have : (if i < 0 then -i else i) = (i.natAbs : Int) := by split <;> omega
    rw [this]
    exact q H2 e2⟩
theorem eqS_refl (z : Str) : eqV (.str z) (.str z) = true := by show (z == z) = true; simp
theorem eqS_ne {a b : Str} (h : a ≠ b) : eqV (.str a) (.str b) = false := by
  show (a == b) = false
  simpa using h
theorem in_non {x y : V} : inV .non [x, y] = decide (x = .non ∨ y = .non) := by
  have e : ∀ v : V, eqV v .non = decide (v = .non) := by intro v; cases v <;> rfl
  unfold inV
  simp only [List.any_cons, List.any_nil, Bool.or_false, e]
  by_cases h : x = .non <;> by_cases h2 : y = .non <;> simp [h, h2]
theorem in_non1 {x : V} : inV .non [x] = decide (x = .non) := by
  have e : ∀ v : V, eqV v .non = decide (v = .non) := by intro v; cases v <;> rfl
  unfold inV
  simp only [List.any_cons, List.any_nil, Bool.or_false, e]
theorem in_bl {x y : V} {b : Bool} (hx : VK' .truth x) (hy : VK' .truth y) : inV (.bl b) [x, y] = decide (x = .bl b ∨ y = .bl b) := by
  have e : ∀ v : V, VK' .truth v → eqV v (.bl b) = decide (v = .bl b) := by
    intro v h
    cases h with
    | non => rfl
    | bl c => cases b <;> cases c <;> rfl
  unfold inV
  simp only [List.any_cons, List.any_nil, Bool.or_false, e x hx, e y hy]
  by_cases h : x = .bl b <;> by_cases h2 : y = .bl b <;> simp [h, h2]
theorem kin_bop (o : Bop) : kIn o.s ["int", "text"] = false ∧ decide (o.s = Str.ofString "column") = false ∧ decide (o.s = Str.ofString "null") = false ∧ kIn o.s ["and", "or"] = o.lg ∧ decide (o.s = Str.ofString "or") = decide (o = .or) ∧ decide (o.s = Str.ofString "and") = decide (o = .and) ∧ decide (o.s = Str.ofString "not") = false ∧ kIn o.s ["neg", "add", "sub", "mul"] = o.ar ∧ decide (o.s = Str.ofString "neg") = false ∧ decide (o.s = Str.ofString "add") = decide (o = .add) ∧ decide (o.s = Str.ofString "sub") = decide (o = .sub) ∧ decide (o.s = Str.ofString "mul") = decide (o = .mul) ∧ decide (o.s = Str.ofString "equal") = decide (o = .equal) ∧ decide (o.s = Str.ofString "unequal") = decide (o = .unequal) ∧ decide (o.s = Str.ofString "less") = decide (o = .less) ∧ decide (o.s = Str.ofString "atmost") = decide (o = .atmost) ∧ decide (o.s = Str.ofString "more") = decide (o = .more) := by
  cases o <;> decide +kernel
def spEv (K : PySem.W.Frag) (n : Nat) : Sp := fun vs H Q _ => ∃ (t : Tr) (k : Kd) (cs : Cols) (row : List V) (vt vc : V) (r : Addr), vs = [vt, vc, .ref r] ∧ Dp K H vt t.d ∧ t.h ≤ n ∧ Ty cs t k ∧ Dp K H vc (colsD cs) ∧ SqT K H r row ∧ RowOk cs row ∧ cs.length ≤ 100 ∧ ∀ H', Ex H H' → Q (evT cs row t) H'
theorem cv_ev {K : PySem.W.Frag} {n : Nat} {t : Tr} {k : Kd} {cs : Cols} {row : List V} {vt vc : V} {r : Addr} {H : Hp} (h1 : Dp K H vt t.d) (h2 : t.h ≤ n) (h3 : Ty cs t k) (h4 : Dp K H vc (colsD cs)) (h5 : SqT K H r row) (h6 : RowOk cs row) (h7 : cs.length ≤ 100) : SpV (spEv K n) [vt, vc, .ref r] H (evT cs row t) := fun H1 e Q q E => ⟨t, k, cs, row, vt, vc, r, rfl, dp_mono e h1, h2, h3, dp_mono e h4, ex_t e h5, h6, h7, fun H2 e2 => q H2 e2⟩
/-- the columns in the heap -/
theorem cols_at {K : PySem.W.Frag} {H : Hp} {vc : V} {cs : Cols} (h : Dp K H vc (colsD cs)) : ∃ (c : Addr) (xs : List V), vc = .ref c ∧ SqT K H c xs ∧ xs.length = cs.length ∧ ∀ (i : Nat) (x : V), xs[i]? = some x → ∃ p c, cs[i]? = some c ∧ x = .ref p ∧ SqT K H p [.str c.1, .str c.2.s] := by
  cases h with
  | tup hs hds =>
    refine ⟨_, _, rfl, hs, by rw [dpa_len hds, List.length_map], fun i x hx => ?_⟩
    obtain ⟨d, h1, h2⟩ := dpa_at hds hx
    rw [List.getElem?_map] at h1
    cases e : cs[i]? with
    | none => rw [e] at h1; cases h1
    | some c =>
      rw [e] at h1
      rw [← Option.some.inj h1] at h2
      obtain ⟨p, y, rfl, h3, h4⟩ := dp_two h2
      cases h4
      exact ⟨p, c, rfl, rfl, h3⟩
def plc : Cols → Str → Nat
  | [], _ => 0
  | (c, _) :: cs, z => if c = z then 0 else plc cs z + 1
theorem plc_spec : ∀ {cs : Cols} {z : Str} {k : Kd} {row : List V}, (cs.find? fun c => decide (c.1 = z)).map (·.2) = some k → row.length = cs.length → (∃ c, cs[plc cs z]? = some c ∧ c.1 = z) ∧ row[plc cs z]? = some (colV cs row z) ∧ ∀ (m : Nat) c, m < plc cs z → cs[m]? = some c → c.1 ≠ z
  | (c, k') :: cs, z, k, v :: row, f, hl => by
    rw [List.find?_cons] at f
    unfold plc colV
    by_cases e : c = z
    · rw [if_pos e, if_pos e]
      exact ⟨⟨_, rfl, e⟩, rfl, fun m c h => by omega⟩
    · rw [decide_eq_false (show ¬ (c, k').1 = z from e)] at f
      rw [if_neg e, if_neg e]
      obtain ⟨⟨d, h1, h2⟩, h3, h4⟩ := plc_spec (cs := cs) (row := row) f (by simpa using hl)
      refine ⟨⟨d, by simpa using h1, h2⟩, by simpa using h3, fun m d' hm hd => ?_⟩
      cases m with
      | zero =>
        have : (c, k') = d' := by simpa using hd
        rw [← this]
        exact e
      | succ m => exact h4 m d' (by omega) (by simpa using hd)
  | (c, k') :: cs, z, k, [], f, hl => by simp at hl
  | [], z, k, row, f, hl => by cases f
/-- two ints or two texts -/
def Two (x y : V) : Prop := (∃ i j, x = .int i ∧ y = .int j) ∨ ∃ a b, x = .str a ∧ y = .str b
def rAny2 (f : Int → Int → Bool) (g : Str → Str → Bool) : R2 := fun x y H Q => (rI0 fun i j => .bl (f i j)) x y H Q ∨ (∃ i j, x = .str i ∧ y = .str j ∧ Q (.bl (g i j)) H)
theorem ev_two {σ : L2.St} {H : Hp} {ta tb : TE} {x y v : V} {f : Int → Int → Bool} {g : Str → Str → Bool} (ha : Ev ta σ H x) (hb : Ev tb σ H y) (h : Two x y) (hi : ∀ i j, x = .int i → y = .int j → v = .bl (f i j)) (hs : ∀ i j, x = .str i → y = .str j → v = .bl (g i j)) : Ev (tOp (rAny2 f g) ta tb) σ H v := by
  rcases h with ⟨i, j, rfl, rfl⟩ | ⟨i, j, rfl, rfl⟩
  · rw [hi i j rfl rfl]
    exact ev_op ha hb fun H1 e1 Q q => .inl ⟨i, j, rfl, rfl, q H1 (Ex.refl H1)⟩
  · rw [hs i j rfl rfl]
    exact ev_op ha hb fun H1 e1 Q q => .inr ⟨i, j, rfl, rfl, q H1 (Ex.refl H1)⟩
theorem ev_lt2 {σ : L2.St} {H : Hp} {ta tb : TE} {x y : V} (ha : Ev ta σ H x) (hb : Ev tb σ H y) (h : Two x y) : Ev (tOp (rAny2 (fun i j => decide (i < j)) (fun i j => decide (i.cps.toList < j.cps.toList))) ta tb) σ H (cmpV .less x y) := ev_two ha hb h (fun i j hx hy => by rw [hx, hy] <;> rfl) (fun i j hx hy => by rw [hx, hy] <;> rfl)
theorem less_bl {x y : V} (h : Two x y) : ∃ b, cmpV .less x y = .bl b ∧ cmpV .atleast x y = .bl (!b) ∧ cmpV .more y x = .bl b ∧ cmpV .atmost y x = .bl (!b) := by
  rcases h with ⟨i, j, rfl, rfl⟩ | ⟨i, j, rfl, rfl⟩
  · refine ⟨decide (i < j), rfl, ?_, rfl, ?_⟩
    · show V.bl (decide (j ≤ i)) = V.bl (!decide (i < j))
      rw [show decide (j ≤ i) = !decide (i < j) by by_cases h : i < j <;> simp [h] <;> omega]
    · show V.bl (decide (j ≤ i)) = V.bl (!decide (i < j))
      rw [show decide (j ≤ i) = !decide (i < j) by by_cases h : i < j <;> simp [h] <;> omega]
  · exact ⟨decide (i.cps.toList < j.cps.toList), rfl, rfl, rfl, rfl⟩
theorem Two.symm {x y : V} (h : Two x y) : Two y x := by
  rcases h with ⟨i, j, rfl, rfl⟩ | ⟨i, j, rfl, rfl⟩
  · exact .inl ⟨j, i, rfl, rfl⟩
  · exact .inr ⟨j, i, rfl, rfl⟩
/-- x is True, x is False, x None or a bool -/
def rIsF : R2 := fun x y H Q => ∃ b, y = .bl b ∧ ((x = .non ∧ Q (.bl false) H) ∨ ∃ a, x = .bl a ∧ Q (.bl (decide (a = b))) H)
theorem op_isF {X : Cx} : OpR X (compareOp .Is) rIsF := by
  intro pins s σ H x y v u Q I rx ry h
  obtain ⟨b, rfl, ⟨rfl, q⟩ | ⟨a, rfl, q⟩⟩ := h
  · cases (show v = Value.none from rx)
    cases (show u = Value.bool b from ry)
    exact wpAny_is_other rfl (fun z => nomatch z) ⟨.bl false, H, I, rfl, q⟩
  · exact op_is_bl pins s σ H (.bl a) (.bl b) v u Q I rx ry ⟨a, b, rfl, rfl, q⟩
theorem ev_isF {σ : L2.St} {H : Hp} {te : TE} {v : V} {b : Bool} (h : Ev te σ H v) (hv : VK' .truth v) : Ev (tOp rIsF te (tC (.bl b))) σ H (.bl (decide (v = .bl b))) := fun H1 e Q q => h H1 e _ fun H2 e2 => by
  cases hv with
  | non => exact ⟨b, rfl, .inl ⟨rfl, q H2 e2⟩⟩
  | bl a =>
    refine ⟨b, rfl, .inr ⟨a, rfl, ?_⟩⟩
    have : decide (V.bl a = V.bl b) = decide (a = b) := dec_bl
    rw [← this]
    exact q H2 e2
/-- [x for x in xs if p(x)] -/
theorem el_flL {K : PySem.W.Frag} {σ : L2.St} {H : Hp} {te tl : TE} {tt : TT} {a : Addr} {xs : List V} {j : Nat} {vs : List Nat} {p : V → Bool} (h : Ev te σ H (.ref a)) (hx : SqL K H a xs) (hz : xs.length ≤ 40000) (hw : ∀ x, wipe ((wipe σ vs).set j (some x)) vs = wipe σ vs)
    (ht : ∀ x, x ∈ xs → ∀ H1, Ex H H1 → EvT tt ((wipe σ vs).set j (some x)) H1 (p x)) (he : ∀ x H1, x ∈ xs → Ex H H1 → Ev tl ((wipe σ vs).set j (some x)) H1 x) : EvL (tLc (iList K te) (gName j) tt tl vs) σ H (xs.filter p) := by
  intro H0 e Q q
  refine h H0 e _ fun H1 e1 => ⟨a, rfl, ⟨xs, ex_l (e.trans e1) hx⟩, fun Dl hD => ?_⟩
  refine lc_list (xs := xs) (fun i H' => H1 Dl = none ∧ Ex H1 H' ∧ H' Dl = some (.lst ((xs.take i).filter p))) ⟨hD, Ex.new hD, upd_same⟩ (fun i H' _ z => ex_l ((e.trans e1).trans z.2.1) hx) (fun i x H' hi z => ⟨hw x, ?_⟩) (fun H' z => ?_)
  · obtain ⟨p1, p2, p3⟩ := z
    have hi2 := (List.getElem?_eq_some_iff.mp hi).1
    have hm := List.mem_of_getElem? hi
    have et : (xs.take (i + 1)).filter p = (xs.take i).filter p ++ (if p x = true then [x] else []) := by
      rw [List.take_add_one, hi, List.filter_append]
      show _ ++ [x].filter p = _
      by_cases hp : p x = true
      · rw [if_pos hp, List.filter_cons_of_pos hp] <;> rfl
      · rw [if_neg hp, List.filter_cons_of_neg hp] <;> rfl
    refine ht x hm H1 (e.trans e1) H' p2 _ fun H3 e3 => ?_
    cases hp : p x with
    | true =>
      show tl _ H3 _
      refine he x H1 hm (e.trans e1) H3 (p2.trans e3) _ fun H4 e4 => ⟨_, e4 Dl _ (e3 Dl _ p3), sz_lt ?_, p1, ((p2.trans e3).trans e4).mut p1, ?_⟩
      · have := List.length_filter_le p (xs.take i)
        rw [List.length_take] at this
        omega
      · rw [upd_same, et, if_pos hp]
    | false =>
      show H1 Dl = none ∧ _
      refine ⟨p1, p2.trans e3, ?_⟩
      rw [et, if_neg (by rw [hp]; exact Bool.false_ne_true), List.append_nil]
      exact e3 Dl _ p3
  · obtain ⟨p1, p2, p3⟩ := z
    rw [List.take_length] at p3
    exact q Dl H' (fresh_back e1 p1) (e1.trans p2) p3
theorem dpa_nons {K : PySem.W.Frag} {H : Hp} : ∀ {ys : List V}, (∀ y ∈ ys, y = .non) → DpAll K H ys (ys.map fun _ => PyData.none)
  | [], _ => .nil
  | y :: ys, h => by
    rw [h y (List.mem_cons_self ..)]
    exact .cons .non (dpa_nons fun z hz => h z (List.mem_cons_of_mem _ hz))
theorem ev_neNil {K : PySem.W.Frag} {σ : L2.St} {H : Hp} {ta : TE} {ys : List V} (h : EvL ta σ H ys) (hz : ∀ y ∈ ys, y = .non) : Ev (tOp (rNeD K) ta (tLst tNil)) σ H (.bl (!ys.isEmpty)) := by
  refine ev_opLL h (el_lst ea_nil (by decide)) fun p q H1 hp hq _ => rv_val fun H2 e2 Q k => ⟨_, _, .lst (sq_of (e2 _ _ hp)) (dpa_nons hz), .lst (sq_of (e2 _ _ hq)) .nil, shaped_lst (n := 0) (fun d hd => ?_) (by decide), by decide, ?_⟩
  · obtain ⟨z, hz', rfl⟩ := List.mem_map.mp hd
    exact .non 0
  · have e : PyData.eqv (.list (ys.map fun _ => PyData.none)) (.list []) = ys.isEmpty := by
      cases ys <;> simp [PyData.eqv, PyData.eqvAll]
    rw [e]
    exact k
theorem given_first {n j : Nat} {f : Nat → Bool} {v : Nat → V} (hj : j < n) (hf : f j = true) (hn : ∀ m, m < j → f m = false) : (given n f v)[0]? = some (v j) := by
  unfold given
  rw [List.getElem?_map]
  have : ((List.range n).filter f)[0]? = some j := by
    rw [← List.head?_eq_getElem?, List.head?_filter, List.find?_range_eq_some]
    exact ⟨hf, List.mem_range.mpr hj, fun m hm => by rw [hn m hm] <;> rfl⟩
  rw [this] <;> rfl
theorem et_andF {t u : TT} {σ : L2.St} {H : Hp} (h : EvT t σ H false) : EvT (tAnd t u) σ H false := et_is (et_and (a := false) (b := false) h fun z => nomatch z) rfl


/-- names of at most b letters -/
def Nm (b : Nat) (z : Str) : Prop := 1 ≤ z.length ∧ z.length ≤ b ∧ ∀ c ∈ z.cps.toList, 97 ≤ c ∧ c ≤ 122
theorem Nm.mono {a b : Nat} {z : Str} (h : Nm a z) (e : a ≤ b) : Nm b z := ⟨h.1, Nat.le_trans h.2.1 e, h.2.2⟩
theorem Nm.tx {b : Nat} {z : Str} (h : Nm b z) : TxOk b z := ⟨h.2.1, fun c hc => by have := h.2.2 c hc; omega⟩
def alphaZ : List Nat := (List.range 26).map (· + 97)
theorem alpha_eq : (Str.ofString "abcdefghijklmnopqrstuvwxyz") = ⟨alphaZ.toArray⟩ := by decide +kernel
theorem alpha_at (i : Int) (h : 0 ≤ i ∧ i < 26) : 97 ≤ alphaZ.getD i.toNat 0 ∧ alphaZ.getD i.toNat 0 ≤ 122 := by
  have : ∀ k : Nat, k < 26 → 97 ≤ alphaZ.getD k 0 ∧ alphaZ.getD k 0 ≤ 122 := by decide
  exact this _ (by omega)
theorem alpha_len : alphaZ.length = 26 := by decide
/-- letters[i] -/
theorem ev_letter {σ : L2.St} {H : Hp} {ta tb : TE} {i : Int} (ha : Ev ta σ H (.str (Str.ofString "abcdefghijklmnopqrstuvwxyz"))) (hb : Ev tb σ H (.int i)) (h : 0 ≤ i ∧ i < 26) : Ev (tOp rIxS ta tb) σ H (.str ⟨#[alphaZ.getD i.toNat 0]⟩) :=
  ev_ixB (z := ⟨alphaZ.toArray⟩) (ev_is ha (congrArg V.str alpha_eq)) hb (by decide +kernel) (at_cps (l := alphaZ) rfl h.1 (by rw [alpha_len]; exact h.2))
theorem Nm.one {i : Int} (h : 0 ≤ i ∧ i < 26) : Nm 1 ⟨#[alphaZ.getD i.toNat 0]⟩ := ⟨Nat.le_refl 1, Nat.le_refl 1, fun c hc => by
  have : c = alphaZ.getD i.toNat 0 := by simpa using hc
  rw [this]
  exact alpha_at i h⟩
theorem Nm.app {a b : Nat} {x y : Str} (h : Nm a x) (k : TxOk b y ∧ ∀ c ∈ y.cps.toList, 97 ≤ c ∧ c ≤ 122) : Nm (a + b) (x ++ y) := by
  have hl : (x ++ y).length = x.length + y.length := by rw [str_len, codes_app rfl rfl, List.length_append, ← str_len, ← str_len]
  refine ⟨by have := h.1; omega, by have := h.2.1; have := k.1.1; omega, fun c hc => ?_⟩
  rw [codes_app (x := x.cps.toList) (y := y.cps.toList) rfl rfl] at hc
  rcases List.mem_append.mp hc with z | z
  · exact h.2.2 c z
  · exact k.2 c z
def spNames (K : PySem.W.Frag) : Sp := fun vs H Q _ => ∃ (p : Addr) (cs : List Int), vs = [.ref p] ∧ SqL K H p (cs.map V.int) ∧ cs.length ≤ 12 ∧ (∀ c ∈ cs, Wd c) ∧ ∀ q' (zs : List Str) H', H q' = none → Ex H H' → H' q' = some (.lst (zs.map V.str)) → zs.length = cs.length → (∀ z ∈ zs, Nm 12 z) → Q (.ref q') H'
theorem Nm.cutTo {z : Str} (p : Nat) : cutS z none (some (p : Int)) = mkS (z.cps.toList.take p) := by
  rw [mkS_codes z]
  exact cutS_to _ p
theorem Nm.cutFrom {z : Str} (p : Nat) : cutS z (some (p : Int)) none = mkS (z.cps.toList.drop p) := by
  rw [mkS_codes z]
  exact cutS_from _ p
/-- one letter put in another's place -/
theorem Nm.spoil {b : Nat} {z c : Str} {p : Nat} (h : Nm b z) (hp : p < z.length) (hc : Nm 1 c) : Nm b (cutS z none (some (p : Int)) ++ c ++ cutS z (some ((p + 1 : Nat) : Int)) none) := by
  rw [Nm.cutTo, Nm.cutFrom]
  obtain ⟨h1, h2, h3⟩ := h
  have hl := str_len z
  have hcl := str_len c
  have e : (mkS (z.cps.toList.take p) ++ c ++ mkS (z.cps.toList.drop (p + 1))).cps.toList = (z.cps.toList.take p ++ c.cps.toList) ++ z.cps.toList.drop (p + 1) := by
    rw [codes_app (x := z.cps.toList.take p ++ c.cps.toList) (y := z.cps.toList.drop (p + 1)) (codes_app rfl rfl) rfl]
  refine ⟨?_, ?_, fun d hd => ?_⟩
  · rw [str_len, e, List.length_append, List.length_append, ← hcl]
    have := hc.1
    omega
  · rw [str_len, e, List.length_append, List.length_append, ← hcl, List.length_take, List.length_drop]
    have := hc.2.1
    omega
  · rw [e] at hd
    rcases List.mem_append.mp hd with k | k
    · rcases List.mem_append.mp k with k | k
      · exact h3 d (List.mem_of_mem_take k)
      · exact hc.2.2 d k
    · exact h3 d (List.mem_of_mem_drop k)
/-- a list as a test -/
theorem et_lst {K : PySem.W.Frag} {σ : L2.St} {H : Hp} {te : TE} {p : Addr} {xs : List V} (h : Ev te σ H (.ref p)) (hS : ∀ H1, Ex H H1 → SqL K H1 p xs) : EvT (fun σ H Q => te σ H fun x H' => ∃ k, TruV K x H' k ∧ Q k H') σ H (!xs.isEmpty) := fun H1 e Q q =>
  h H1 e _ fun H2 e2 => ⟨!xs.isEmpty, .inl ⟨xs, hS H2 (e.trans e2), rfl⟩, q H2 e2⟩
theorem ev_inStrs {K : PySem.W.Frag} {σ : L2.St} {H : Hp} {ta tb : TE} {z : Str} {p : Addr} {zs : List Str} (ha : Ev ta σ H (.str z)) (hb : Ev tb σ H (.ref p)) (h : SqL K H p (zs.map V.str)) : Ev (tOp (rIn K false) ta tb) σ H (.bl (inV (.str z) (zs.map V.str))) := ev_op ha hb (rv_isL h rfl (by rw [List.all_map]; exact List.all_eq_true.mpr fun _ _ => rfl))
theorem inS_mem {z : Str} {zs : List Str} : inV (.str z) (zs.map V.str) = decide (z ∈ zs) := by
  have e : ∀ a b : Str, eqV (.str a) (.str b) = decide (a = b) := fun a b => by
    by_cases h : a = b
    · rw [h, eqS_refl, decide_eq_true rfl]
    · rw [eqS_ne h, decide_eq_false h]
  unfold inV
  rw [List.any_map]
  induction zs with
  | nil => rfl
  | cons y ys ih =>
    rw [List.any_cons, ih]
    simp only [Function.comp_apply, e]
    by_cases h1 : z = y
    · subst h1
      simp
    · by_cases h2 : z ∈ ys
      · simp [h2]
      · have h3 : ¬ y = z := fun k => h1 k.symm
        simp [h1, h2, h3]
theorem pigeon {f : Nat → Str} : ∀ (n : Nat) (l : List Str), (∀ j, j < n → f j ∈ l) → (∀ j k, j < n → k < n → f j = f k → j = k) → n ≤ l.length
  | 0, _, _, _ => Nat.zero_le _
  | n + 1, l, h, inj => by
    have hm := h n (Nat.lt_succ_self n)
    have hl := List.length_pos_of_mem hm
    have := pigeon n (l.erase (f n)) (fun j hj => (List.mem_erase_of_ne fun e => by
      have := inj j n (by omega) (by omega) e
      omega).mpr (h j (by omega))) fun j k hj hk => inj j k (by omega) (by omega)
    rw [List.length_erase_of_mem hm] at this
    omega
def candZ (k : Nat) : Str := Str.ofString "z" ++ (⟨#[alphaZ.getD ((k : Int) / 26).toNat 0]⟩ : Str) ++ (⟨#[alphaZ.getD ((k : Int) % 26).toNat 0]⟩ : Str)
theorem cand_inj : ∀ j, j < 13 → ∀ k, k < 13 → candZ j = candZ k → j = k := by decide +kernel


/-- the law's signs -/
def signsZ : List Nat := [32, 33, 34, 35, 36] ++ (List.range 89).map (· + 38)
theorem signs_len : signsZ.length = 94 := by decide +kernel
theorem signs_ok : ∀ c ∈ signsZ, 32 ≤ c ∧ c ≤ 126 ∧ c ≠ 37 := by decide +kernel
theorem signs_eq : (Str.ofString " !\"#$&'()*+,-./0123456789:;<=>?@ABCDEFGHIJKLMNOPQRSTUVWXYZ[\\]^_`" ++ Str.ofString "abcdefghijklmnopqrstuvwxyz{|}~" : Str) = ⟨signsZ.toArray⟩ := by decide +kernel
theorem shaped_signs {z : Str} (h : ∀ c ∈ z.cps.toList, c ∈ signsZ) : SeqAt.shaped (.str z) = true := by
  unfold SeqAt.shaped
  have e : PyData.strOk z = true := by
    unfold PyData.strOk
    rw [Array.all_eq_true']
    intro c hc
    have := signs_ok c (h c (by simpa using hc))
    simp only [decide_eq_true_eq]
    omega
  rw [show (PyData.str z).canLay0 = PyData.strOk z by simp [PyData.canLay0], e] <;> rfl


/-! ### a lambda as the key of sorted -/
section
open LamX
/-- the function object of a lambda that captures nothing -/
def LamO (f c' : Addr) (q : Str) (params : Arguments) (body : Expr) (scope : Scope) : HO := .ext fun h => ∃ pm ctv, h.get? f = some (PySem.W.kla_obj "<lambda>" q params body scope [] pm c' ctv)
/-- the table of a def with one lambda, once that is made -/
def tabOf (pos : Pos) (c' : Addr) : Array Value := #[rawInt pos.line, rawInt pos.col, .ref c']
/-- the lambda's code object is there -/
def LamTab (H : Hp) (P : Addr) (pos : Pos) (q : Str) : Prop := ∃ c', H P = some (.tbl (tabOf pos c')) ∧ H c' = some (CodeO c' q)
def tLam (P : Addr) (q : Str) (params : Arguments) (body : Expr) (scope : Scope) (pos : Pos) : TE := fun _ H Q =>
  (H P = some (.tbl #[]) ∧ ∀ c' f, H c' = none → H f = none → c' ≠ f → Q (.ref f) (upd (upd (upd H P (.tbl (tabOf pos c'))) c' (CodeO c' q)) f (LamO f c' q params body scope))) ∨
  (∃ c', H P = some (.tbl (tabOf pos c')) ∧ H c' = some (CodeO c' q) ∧ ∀ f, H f = none → Q (.ref f) (upd H f (LamO f c' q params body scope)))
theorem lamO_ok {P : Program} {w : World} {H : Hp} {h : Heap} {f c' : Addr} {q : Str} {params : Arguments} {body : Expr} {scope : Scope} {pm ctv : Value} (e : h.get? f = some (PySem.W.kla_obj "<lambda>" q params body scope [] pm c' ctv)) :
    ObjOk P w (upd H f (LamO f c' q params body scope)) h f (LamO f c' q params body scope) :=
  ⟨⟨pm, ctv, e⟩, ⟨_, e⟩, fun _ _ ⟨a, b, z⟩ st => ⟨a, b, st _ z⟩⟩
theorem among_one {pos : Pos} {c' : Addr} : codeAmong pos (tabOf pos c').toList = some (.ref c') := by
  unfold tabOf rawInt codeAmong
  simp
theorem pe_lam {X : Cx} {params : Arguments} {body : Expr} {scope : Scope} {pos : Pos} {c P : Addr} (TB : TabB X.base X.mg c P) (hcode : X.env.code = .ref c) (hdef : defaultsOf params X.env = ([], []) := by rfl)
    (hfree : ∀ y ∈ scope.names, y.2 = .free → ∃ c, X.env.cells.lookup y.1 = some c) (hclo : cloFrom X.env.cells scope.names [] = []) : PE X (.Lambda params body scope pos) (tLam P (X.env.qual ++ "<lambda>") params body scope pos) := by
  refine ⟨fun pins s σ H Q I h => ?_⟩
  have bP : s.heap.BuiltinsAt X.mg P := TB.bm.keeps I.bk
  refine PySem.W.kla_eval hdef ?_
  rcases h with ⟨hP, h⟩ | ⟨c', hP, hc', h⟩
  · have hP' : s.heap.get? P = some { cls := .none, data := .fields #[] } := I.hok P _ hP
    refine PySem.W.kla_makeFunction (mg := X.mg) (c := c) (P := P) (ps := #[]) (closure_ok hfree) I.ok.glob (I.mod.glob.keeps I.bk) hcode (TB.code.keeps I.bk) hP' trivial rfl TB.gP bP fun c' ctv h' tk hx hge hlt hrec htb => ?_
    obtain ⟨c2, oc, vs, t, e2, hoc, hd, hv⟩ := hrec
    cases e2
    have hsz : s.heap.objs.size ≤ h'.objs.size := Nat.le_trans hge (Nat.le_of_lt hlt)
    have I0 := inv_table (t' := tk) (more := #[rawInt pos.line, rawInt pos.col, .ref c']) (h' := h') I hP (fun b o hb e => hx b o hb e) htb hge ⟨oc, vs, t, hoc, hd, hv⟩
    rw [hclo]
    have hf : (h'.push (PySem.W.kla_obj "<lambda>" (X.env.qual ++ "<lambda>") params body scope [] ((X.mg "__name__").getD .none) c' ctv)).get? h'.objs.size = some _ := Heap.get?_push_size _ rfl
    have I1 := I0.laid (t' := tk) (a := h'.objs.size) (o := LamO h'.objs.size c' (X.env.qual ++ "<lambda>") params body scope) (fun b o e => Heap.get?_push_of_some _ e) (Nat.le_refl _) (lamO_ok hf)
    refine ⟨.ref h'.objs.size, _, I1, rfl, ?_⟩
    have z : (#[] : Array Value) ++ #[rawInt pos.line, rawInt pos.col, Value.ref c'] = tabOf pos c' := by
      unfold tabOf
      simp
    rw [z]
    exact h c' h'.objs.size (I.hok.fresh hge) (I.hok.fresh hsz) (Nat.ne_of_lt hlt)
  · have hP' : s.heap.get? P = some { cls := .none, data := .fields (tabOf pos c') } := I.hok P _ hP
    refine PySem.W.kla_makeFunctionHit (mg := X.mg) (c := c) (P := P) (ps := tabOf pos c') (closure_ok hfree) I.ok.glob (I.mod.glob.keeps I.bk) hcode (TB.code.keeps I.bk) hP' ?ht among_one bP fun ctv h' tk hx hsz => ?_
    case ht =>
      unfold tabOf rawInt
      trivial
    have I0 : Inv X pins σ H { s with heap := h', toks := tk } := I.kept hx
    rw [hclo]
    have hf : (h'.push (PySem.W.kla_obj "<lambda>" (X.env.qual ++ "<lambda>") params body scope [] ((X.mg "__name__").getD .none) c' ctv)).get? h'.objs.size = some _ := Heap.get?_push_size _ rfl
    have I1 := I0.laid (t' := tk) (a := h'.objs.size) (o := LamO h'.objs.size c' (X.env.qual ++ "<lambda>") params body scope) (fun b o e => Heap.get?_push_of_some _ e) (Nat.le_refl _) (lamO_ok hf)
    exact ⟨.ref h'.objs.size, _, I1, rfl, h _ (I.hok.fresh hsz)⟩
end
section
open LamX
/-- x[0] -/
abbrev lamBody (x : Str) (p1 p2 p3 : Pos) (j : Nat) : Expr := .Subscript (.Name x p1) (.Constant (.int 0) j p2) p3
/-- the lambda is called: the first item of a tuple, a text -/
theorem lam_turn {prog : Program} {w : World} {A : Around} {s : Shared} {f c' t : Addr} {q x : Str} {params : Arguments} {scope : Scope} {pm ctv : Value} {p1 p2 p3 : Pos} {j : Nat} {its : List Value} {k : Str} {tk : Tok}
    (hf : s.heap.get? f = some (PySem.W.kla_obj "<lambda>" q params (lamBody x p1 p2 p3 j) scope [] pm c' ctv)) (hc : s.heap.CodeRec (.ref c') q) (ht : IsTup s.heap t its.toArray) (h0 : its[0]? = some (.str k tk))
    (hd : A.depth < recursionLimit) (hlim : s.heap.NoLimit) (hb : bindArgs (PySem.W.kla_fn "<lambda>" q params (lamBody x p1 p2 p3 j) scope [] pm (.ref c') ctv) ⟨[.ref t], []⟩ = pure [(x, .ref t)])
    (hl : scope.names.lookup x = some .local) (hk : scope.kind = .function) (hco : scope.isCoroutine = false) (hgen : scope.isGenerator = false) (hcell : ∀ y ∈ scope.names, y.2 ≠ .cell) (hx : (x == ("__debug__" : Str)) = false) :
    wpAny (model prog w) A (call (.ref f) [.ref t]) (PySem.W.KeyPure (.str k) s) (fun _ _ => False) s := by
  refine wpAny_call (PySem.W.kla_callFunE hd hf rfl hco hgen rfl hc ?_)
  rw [hb]
  refine wpAny_pure (wpAny_newFunctionEnv hcell (fun y hy => by
    rcases List.mem_singleton.mp hy with rfl
    exact hl) (fun h₁ hns hsb => ⟨hlim.fresh _ hsb, ?_⟩) hk)
  have kp : ∀ b o, s.heap.get? b = some o → h₁.get? b = some o := fun b o e => hsb.extBut b o (Nat.ne_of_lt (Heap.lt_size e)) (Heap.get?_push_of_some _ e)
  have ht' : IsTup h₁ t its.toArray := by
    obtain ⟨o, e, r⟩ := ht
    exact ⟨o, kp _ _ e, r⟩
  refine PySem.W.kla_codeExpr (Subscript_ (wpAny_Name (wpAny_loadName_local (m := fun y => [(x, Value.ref t)].reverse.lookup y) (v := .ref t) hk ?_ hns ?_ (wpAny_Constant_int ?_)) hx))
  · exact hl
  · show List.lookup x [(x, Value.ref t)] = some (Value.ref t)
    rw [List.lookup_cons_self]
  · refine item_tupleL (l := its) (j := 0) (x := .str k tk) ht' (by decide) (by decide) ?_ h0 ?_
    · exact seqIndex_of (by decide) (by
        have := (List.getElem?_eq_some_iff.mp h0).1
        show (0 : Int) < _
        omega)
    · exact ⟨h₁, _, rfl, kp, .str k tk⟩
end
/-- a tuple whose first item is a text -/
def KeyAt (K : PySem.W.Frag) (H : Hp) (x : V) (k : Str) : Prop := ∃ (t : Addr) (ys : List V), x = .ref t ∧ SqT K H t (.str k :: ys)
def leK (a b : V × Str) : Bool := decide (a.2.cps.toList ≤ b.2.cps.toList)
section
open LamX
def rSortLam (K : PySem.W.Frag) (q x : Str) (params : Arguments) (scope : Scope) (p1 p2 p3 : Pos) (j : Nat) : List V → List V → Hp → VK → Prop := fun vs zs H Q => ∃ (a f c' : Addr) (zk : List (V × Str)), vs = [V.ref a] ∧ zs = [V.ref f] ∧ SqL K H a (zk.map (·.1)) ∧ (∀ p ∈ zk, KeyAt K H p.1 p.2) ∧
  H f = some (LamO f c' q params (lamBody x p1 p2 p3 j) scope) ∧ H c' = some (CodeO c' q) ∧ ∀ l, H l = none → Q (.ref l) (upd H l (.lst ((zk.mergeSort leK).map (·.1))))
theorem each_vals : ∀ {zk : List (V × Str)} {its : List Value}, Vals (zk.map (·.1)) its → PySem.W.EachIs (fun v (p : V × Str) => RelV p.1 v) its zk
  | [], _, h => by
    cases h
    exact .nil
  | p :: r, _, h => by
    cases h with
    | cons h1 h2 => exact .cons h1 (each_vals h2)
theorem vals_each : ∀ {zk : List (V × Str)} {its : List Value}, PySem.W.EachIs (fun v (p : V × Str) => RelV p.1 v) its zk → Vals (zk.map (·.1)) its
  | [], _, h => by
    cases h
    exact .nil
  | p :: r, _, h => by
    cases h with
    | cons h1 h2 => exact .cons h1 (vals_each h2)
theorem cr_sortLam {X : Cx} {q x : Str} {params : Arguments} {scope : Scope} {p1 p2 p3 : Pos} {j : Nat} (hr : Room 2 X.A)
    (hb : ∀ (pm cv ctv : Value) (v : Value), bindArgs (PySem.W.kla_fn "<lambda>" q params (lamBody x p1 p2 p3 j) scope [] pm cv ctv) ⟨[v], []⟩ = pure [(x, v)])
    (hl : scope.names.lookup x = some .local) (hk : scope.kind = .function) (hco : scope.isCoroutine = false) (hgen : scope.isGenerator = false) (hcell : ∀ y ∈ scope.names, y.2 ≠ .cell) (hx : (x == ("__debug__" : Str)) = false) :
    CallRK X (.builtin "sorted") [Str.ofString "key"] (rSortLam X.K q x params scope p1 p2 p3 j) := by
  intro pins s σ H vs zs us ws Q I r rz h
  obtain ⟨a, f, c', zk, rfl, rfl, hs, hkey, hf, hc, hq⟩ := h
  obtain rfl := Vals.ref1 r
  obtain ⟨w1, rfl, e1⟩ := vals1 rz
  obtain rfl : w1 = Value.ref f := e1
  obtain ⟨its, rv, pl, hz⟩ := I.list hs
  rw [List.length_map] at hz
  obtain ⟨pm, ctv, hfo⟩ := (I.hok f _ hf).1
  obtain ⟨oc, cvs, ct, hco1, hco2, hco3⟩ := (I.hok c' _ hc).1
  have dp := hr.dp
  have un := hr.un
  refine PySem.W.sorted_key_data (β := V × Str) (R := fun v p => RelV p.1 v) (bs := zk) (vs := its) (b := false) (fun p => PyData.str p.2) pl.isList (each_vals rv) (PySem.W.AllAlike.of fun _ _ => rfl) (PySem.W.Sortable.others fun _ => ⟨fun z => (nomatch z), fun _ z => (nomatch z)⟩) hz
    (fun p _ => ?_) (PyProof.Rows.ksk_s1 _ _) (fun _ => PyProof.Rows.ksk_l1 _ _) (fun l => PyProof.Rows.ksk_t1 f l) (fun v p hv hp h tk kp => ?_) (fun out c h' tk kp hn hat hlen he => ?_)
  · show X.A.units + 2 + 0 < cLine
    omega
  · obtain ⟨t, ys, ep, hT⟩ := hkey p hp
    rw [ep] at hv
    obtain rfl : v = Value.ref t := hv
    obtain ⟨its', rv', ht, _⟩ := I.tuple hT
    cases rv' with
    | @cons _ _ _ ir h1 h2 =>
      obtain ⟨tk', rfl⟩ := h1
      have ht' : IsTup h t (Value.str p.2 tk' :: ir).toArray := by
        obtain ⟨o, e, z⟩ := ht
        exact ⟨o, kp _ _ e, z⟩
      refine lam_turn (s := { s with heap := h, toks := tk }) (kp _ _ hfo) ⟨c', oc, cvs, ct, rfl, kp _ _ hco1, hco2, hco3⟩ ht' rfl ?_ (I.nolimit.keeps kp) (hb _ _ _ _) hl hk hco hgen hcell hx
      · show X.A.depth + 0 < recursionLimit
        omega
  · have e0 : PySem.W.dataLe false (fun p : V × Str => PyData.str p.2) = leK := PySem.W.dataLe_str fun p : V × Str => p.2
    rw [e0] at he
    refine ⟨.ref _, _, I.laid (o := .lst ((zk.mergeSort leK).map (·.1))) kp (Nat.le_succ _) ⟨?_, out, c, vals_each he, hat⟩, rfl, hq _ (I.hok.fresh (Nat.le_succ _))⟩
    rw [List.length_map, List.length_mergeSort]
    exact hz
end
section
open LamX
/-- sorted(e, key=lambda x: x[0]) -/
theorem pe_sortLam {X : Cx} {e : Expr} {te : TE} {x : Str} {params : Arguments} {scope : Scope} {p pos kpos lpos p1 p2 p3 : Pos} {j : Nat} {c P : Addr} (hr : Room 2 X.A) (TB : TabB X.base X.mg c P) (hcode : X.env.code = .ref c) (ha : PA X [e] (tCons te tNil)) (hg : Gl X "sorted") (hm : X.mg "sorted" = none)
    (hn : ∀ y ∈ scope.names, y.2 = .local := by decide) (hl : scope.names.lookup x = some .local := by rfl) (hk : scope.kind = .function := by rfl) (hco : scope.isCoroutine = false := by rfl) (hgen : scope.isGenerator = false := by rfl) (hx : (x == ("__debug__" : Str)) = false := by decide)
    (hdef : defaultsOf params X.env = ([], []) := by rfl) (hclo : cloFrom X.env.cells scope.names [] = [] := by rfl)
    (hb : ∀ (q : Str) (pm cv ctv : Value) (v : Value), bindArgs (PySem.W.kla_fn "<lambda>" q params (lamBody x p1 p2 p3 j) scope [] pm cv ctv) ⟨[v], []⟩ = pure [(x, v)] := by intros; rfl)
    (h1 : backTo pos (starEach [e] X.env) = (false, eval e X.env) :: backTo pos (starEach [] X.env) := by rfl) (h2 : (backTo pos (starEach [e] X.env)).any (·.1) = false := by rfl)
    (h3 : (backToKw pos (keywordEach [⟨some (Str.ofString "key"), .Lambda params (lamBody x p1 p2 p3 j) scope lpos, kpos⟩] X.env)).all (·.1.isSome) = true := by rfl) (h4 : (backToKw pos (keywordEach [⟨some (Str.ofString "key"), .Lambda params (lamBody x p1 p2 p3 j) scope lpos, kpos⟩] X.env)).any (·.1.isNone) = false := by rfl)
    (h5 : (backToKw pos (keywordEach [⟨some (Str.ofString "key"), .Lambda params (lamBody x p1 p2 p3 j) scope lpos, kpos⟩] X.env)).filterMap (·.1) = [Str.ofString "key"] := by rfl) :
    PE X (.Call (.Name "sorted" p) [e] [⟨some (Str.ofString "key"), .Lambda params (lamBody x p1 p2 p3 j) scope lpos, kpos⟩] pos)
      (tCKw (rSortLam X.K (X.env.qual ++ "<lambda>") x params scope p1 p2 p3 j) (tCons te tNil) (tCons (tLam P (X.env.qual ++ "<lambda>") params (lamBody x p1 p2 p3 j) scope lpos) tNil)) :=
  pe_callBK (cr_sortLam hr (hb _) hl hk hco hgen (fun y hy z => by rw [hn y hy] at z; cases z) hx) hg hm (by decide +kernel) ha (pk_cons (pe_lam TB hcode hdef (fun y hy z => by rw [hn y hy] at z; cases z) hclo) pk_nil) (by decide) (by decide) h1 h2 h3 h4 h5
end


/-! ### all but tables of code objects stay -/
theorem Ex.xn {H H' : Hp} (e : Ex H H') : LamX.ExtN H H' := fun b o h _ => e b o h
theorem xn_rd {H H' : Hp} {a : Addr} {u : HO} (e : LamX.ExtN H H') (n : ∀ ps, u ≠ .tbl ps) (h : Rd H a u) : Rd H' a u := by
  rcases h with h | ⟨o, h⟩
  · exact .inl (e _ _ h n)
  · exact .inr ⟨o, e _ _ h fun ps z => by cases z⟩
theorem xn_l {K : PySem.W.Frag} {H H' : Hp} {a : Addr} {xs : List V} (e : LamX.ExtN H H') (h : SqL K H a xs) : SqL K H' a xs := by
  rcases h with h | h
  · exact .inl (xn_rd e (fun ps z => by cases z) h)
  · exact .inr h
theorem xn_t {K : PySem.W.Frag} {H H' : Hp} {a : Addr} {xs : List V} (e : LamX.ExtN H H') (h : SqT K H a xs) : SqT K H' a xs := by
  rcases h with h | h
  · exact .inl (xn_rd e (fun ps z => by cases z) h)
  · exact .inr h
mutual
theorem dp_monoX {K : PySem.W.Frag} {H H' : Hp} (e : LamX.ExtN H H') : ∀ {v : V} {d : PyData}, Dp K H v d → Dp K H' v d
  | _, _, .non => .non
  | _, _, .bl b => .bl b
  | _, _, .int i => .int i
  | _, _, .str z => .str z
  | _, _, .lst h r => .lst (xn_l e h) (dpa_monoX e r)
  | _, _, .tup h r => .tup (xn_t e h) (dpa_monoX e r)
theorem dpa_monoX {K : PySem.W.Frag} {H H' : Hp} (e : LamX.ExtN H H') : ∀ {vs : List V} {ds : List PyData}, DpAll K H vs ds → DpAll K H' vs ds
  | _, _, .nil => .nil
  | _, _, .cons h r => .cons (dp_monoX e h) (dpa_monoX e r)
end
/-! ### columns and forms -/
inductive Kn | int | intq | text | textq
  deriving DecidableEq
def Kn.s : Kn → Str
  | .int => "int"
  | .intq => "int?"
  | .text => "text"
  | .textq => "text?"
def Kn.tx : Kn → Bool
  | .int => false
  | .intq => false
  | .text => true
  | .textq => true
def Kn.q : Kn → Bool
  | .int => false
  | .intq => true
  | .text => false
  | .textq => true
theorem kn_last (k : Kn) : atI k.s.cps.toList (-1) = some (if k.q = true then 63 else 116) := by cases k <;> decide +kernel
theorem kn_last_eq (k : Kn) : decide ((⟨#[if k.q = true then 63 else 116]⟩ : Str) = Str.ofString "?") = k.q := by cases k <;> decide +kernel
/-- None, an int, a text -/
inductive ScV : V → PyData → Prop
  | non : ScV .non .none
  | int (i : Int) : ScV (.int i) (.int i)
  | str (z : Str) : ScV (.str z) (.str z)
theorem ScV.dp {K : PySem.W.Frag} {H : Hp} {v : V} {d : PyData} (h : ScV v d) : Dp K H v d := by
  cases h with
  | non => exact .non
  | int i => exact .int i
  | str z => exact .str z
/-- what a kind accepts -/
inductive ValOf (k : Kn) : PyData → Prop
  | non (h : k.q = true) : ValOf k .none
  | int (i : Int) (h : k.tx = false) : ValOf k (.int i)
  | str {z : Str} (h : k.tx = true) (s : SeqAt.shaped (.str z) = true) : ValOf k (.str z)
theorem ValOf.fl {k : Kn} {d : PyData} (h : ValOf k d) : Fl 0 d := by
  cases h with
  | non _ => exact .non 0
  | int i _ => exact .int 0 i
  | str _ s => exact .str 0 s
theorem kn_base (k : Kn) : baseT k.s = if k.tx = true then Str.ofString "text" else Str.ofString "int" := by cases k <;> decide +kernel
theorem kn_cut (k : Kn) : cutS k.s none (some 3) = if k.tx = true then Str.ofString "tex" else Str.ofString "int" := by cases k <;> decide +kernel
theorem kn_sh (k : Kn) : SeqAt.shaped (.str k.s) = true := by cases k <;> decide +kernel
theorem kn_len (k : Kn) : k.s.length ≤ 100000 := by cases k <;> decide +kernel
structure Co where
  nm : Str
  kd : Kn
  df : PyData
  un : Int
  lk : Str
def Co.d (c : Co) : PyData := .tuple [.str c.nm, .str c.kd.s, c.df, .int c.un, .str c.lk]
structure Co.ok (c : Co) : Prop where
  nm : SeqAt.shaped (.str c.nm) = true
  df : Fl 0 c.df
  lk : SeqAt.shaped (.str c.lk) = true
theorem Co.ok.fl {c : Co} (h : c.ok) : Fl 1 c.d := .tup fun x hx => by
  simp only [List.mem_cons, List.not_mem_nil, or_false] at hx
  rcases hx with z | z | z | z | z <;> rw [z]
  · exact .str _ h.nm
  · exact .str _ (kn_sh _)
  · exact h.df
  · exact .int _ _
  · exact .str _ h.lk
theorem Co.ok.sh {c : Co} (h : c.ok) : SeqAt.shaped c.d = true := shaped_fl h.fl (by decide)
theorem co_at {K : PySem.W.Frag} {H : Hp} {v : V} {c : Co} (h : Dp K H v c.d) : ∃ p x, v = .ref p ∧ SqT K H p [.str c.nm, .str c.kd.s, x, .int c.un, .str c.lk] ∧ Dp K H x c.df := by
  cases h with
  | tup hs hds =>
    cases hds with
    | cons h1 r =>
      cases r with
      | cons h2 r =>
        cases r with
        | cons h3 r =>
          cases r with
          | cons h4 r =>
            cases r with
            | cons h5 r =>
              cases r
              cases h1
              cases h2
              cases h4
              cases h5
              exact ⟨_, _, rfl, hs, h3⟩
theorem co_get {K : PySem.W.Frag} {H : Hp} {xs : List V} {cs : List Co} {i : Nat} {x : V} (h : DpAll K H xs (cs.map Co.d)) (hx : xs[i]? = some x) : ∃ c, cs[i]? = some c ∧ Dp K H x c.d := by
  obtain ⟨d, h1, h2⟩ := dpa_at h hx
  rw [List.getElem?_map] at h1
  cases e : cs[i]? with
  | none => rw [e] at h1; cases h1
  | some c =>
    rw [e] at h1
    rw [← Option.some.inj h1] at h2
    exact ⟨c, rfl, h2⟩
theorem co_len {K : PySem.W.Frag} {H : Hp} {xs : List V} {cs : List Co} (h : DpAll K H xs (cs.map Co.d)) : xs.length = cs.length := by rw [dpa_len h, List.length_map]
theorem co_fl {cs : List Co} (h : ∀ c ∈ cs, c.ok) : ∀ d ∈ cs.map Co.d, Fl 1 d := fun d hd => by
  obtain ⟨c, hc, rfl⟩ := List.mem_map.mp hd
  exact (h c hc).fl
def leC (a b : Co) : Bool := decide (a.nm.cps.toList ≤ b.nm.cps.toList)
structure Fm where
  cs : List Co
  ks : List Str
def Fm.d (f : Fm) : PyData := .tuple [.tuple (f.cs.map Co.d), .tuple (f.ks.map PyData.str)]
structure Fm.ok (f : Fm) : Prop where
  cs : ∀ c ∈ f.cs, c.ok
  ln : f.cs.length ≤ 12
  kl : f.ks.length ≤ 2
  ki : ∀ z ∈ f.ks, (z = Str.ofString "id" ∨ z = Str.ofString "key") ∧ ∃ c ∈ f.cs, c.nm = z
  nd : (f.cs.map Co.nm).Nodup
  so : f.cs.Pairwise fun a b => leC a b = true
theorem dpa_strs_eq {K : PySem.W.Frag} {H : Hp} : ∀ {ks : List Str} {ys : List V}, DpAll K H ys (ks.map PyData.str) → ys = ks.map V.str
  | [], _, h => by
    cases h
    rfl
  | k :: r, _, h => by
    cases h with
    | cons h1 h2 =>
      cases h1
      rw [dpa_strs_eq h2] <;> rfl
theorem fm_at {K : PySem.W.Frag} {H : Hp} {v : V} {f : Fm} (h : Dp K H v f.d) : ∃ p a b xs, v = .ref p ∧ SqT K H p [.ref a, .ref b] ∧ SqT K H a xs ∧ DpAll K H xs (f.cs.map Co.d) ∧ SqT K H b (f.ks.map V.str) := by
  cases h with
  | tup hs hds =>
    cases hds with
    | cons h1 r =>
      cases r with
      | cons h2 r =>
        cases r
        cases h1 with
        | tup ha da =>
          cases h2 with
          | tup hb db =>
            rw [dpa_strs_eq db] at hb
            exact ⟨_, _, _, _, rfl, hs, ha, da, hb⟩
theorem fm_mk {K : PySem.W.Frag} {H : Hp} {p : Addr} {va vb : V} {cs : List Co} {ks : List Str} (h : SqT K H p [va, vb]) (ha : Dp K H va (.tuple (cs.map Co.d))) (hb : Dp K H vb (.tuple (ks.map PyData.str))) : Dp K H (.ref p) (Fm.mk cs ks).d := .tup h (.cons ha (.cons hb .nil))
def findC (cs : List Co) (z : Str) : Option Co := cs.find? fun c => decide (c.nm = z)
theorem find_first : ∀ {cs : List Co} {i : Nat} {c : Co} {z : Str}, cs[i]? = some c → c.nm = z → (∀ (k : Nat) d, k < i → cs[k]? = some d → d.nm ≠ z) → findC cs z = some c
  | [], _, _, _, h, _, _ => by cases h
  | d :: cs, 0, c, z, h, e, _ => by
    cases Option.some.inj h
    unfold findC
    rw [List.find?_cons, decide_eq_true e]
  | d :: cs, i + 1, c, z, h, e, n => by
    have h0 := n 0 d (by omega) rfl
    unfold findC
    rw [List.find?_cons, decide_eq_false h0]
    exact find_first (i := i) (by simpa using h) e fun k d' hk hd => n (k + 1) d' (by omega) (by simpa using hd)
theorem find_no {cs : List Co} {z : Str} (h : ∀ c ∈ cs, c.nm ≠ z) : findC cs z = none := List.find?_eq_none.mpr fun c hc => by simpa using h c hc
theorem find_place : ∀ {cs : List Co} {c : Co} {z : Str}, findC cs z = some c → ∃ i : Nat, cs[i]? = some c ∧ c.nm = z ∧ ∀ (k : Nat) d, k < i → cs[k]? = some d → d.nm ≠ z
  | [], _, _, h => by cases h
  | d :: cs, c, z, h => by
    unfold findC at h
    rw [List.find?_cons] at h
    by_cases e : d.nm = z
    · rw [decide_eq_true e] at h
      cases Option.some.inj h
      exact ⟨0, rfl, e, fun k d hk => by omega⟩
    · rw [decide_eq_false e] at h
      obtain ⟨i, h1, h2, h3⟩ := find_place (cs := cs) h
      refine ⟨i + 1, by simpa using h1, h2, fun k d' hk hd => ?_⟩
      cases k with
      | zero =>
        cases Option.some.inj hd
        exact e
      | succ k => exact h3 k d' (by omega) (by simpa using hd)
theorem find_mem {cs : List Co} {c : Co} {z : Str} (h : findC cs z = some c) : c ∈ cs ∧ c.nm = z := by
  obtain ⟨i, h1, h2, _⟩ := find_place h
  exact ⟨List.mem_of_getElem? h1, h2⟩
def optD : Option Co → PyData
  | none => .none
  | some c => c.d
def sortC (cs : List Co) : List Co := cs.mergeSort leC
theorem sortC_mem {cs : List Co} {c : Co} : c ∈ sortC cs ↔ c ∈ cs := List.mem_mergeSort
theorem leC_trans (a b c : Co) (h : leC a b = true) (k : leC b c = true) : leC a c = true := by
  unfold leC at *
  rw [decide_eq_true_eq] at *
  exact List.le_trans h k
theorem leC_total (a b : Co) : (leC a b || leC b a) = true := by
  unfold leC
  rw [Bool.or_eq_true, decide_eq_true_eq, decide_eq_true_eq]
  exact List.le_total _ _
theorem sortC_so (cs : List Co) : (sortC cs).Pairwise fun a b => leC a b = true := List.pairwise_mergeSort leC_trans leC_total cs
theorem sortC_len (cs : List Co) : (sortC cs).length = cs.length := List.length_mergeSort _
theorem sortC_nd {cs : List Co} (h : (cs.map Co.nm).Nodup) : ((sortC cs).map Co.nm).Nodup := ((List.mergeSort_perm cs leC).map Co.nm).nodup_iff.mpr h
theorem nd_inj : ∀ {cs : List Co} {c d : Co}, (cs.map Co.nm).Nodup → c ∈ cs → d ∈ cs → c.nm = d.nm → c = d
  | [], _, _, _, h, _, _ => by cases h
  | e :: cs, c, d, hn, hc, hd, h => by
    rw [List.map_cons, List.nodup_cons] at hn
    rcases List.mem_cons.mp hc with rfl | hc
    · rcases List.mem_cons.mp hd with rfl | hd
      · rfl
      · exact absurd (List.mem_map.mpr ⟨d, hd, h.symm⟩) hn.1
    · rcases List.mem_cons.mp hd with e | hd
      · rw [e] at h
        exact absurd (List.mem_map.mpr ⟨c, hc, h⟩) hn.1
      · exact nd_inj hn.2 hc hd h
theorem nd_fl {cs : List Co} {p : Co → Bool} {d : Co} (h : (cs.map Co.nm).Nodup) (hd : ∀ c ∈ cs, p c = true → c.nm ≠ d.nm) : ((cs.filter p ++ [d]).map Co.nm).Nodup := by
  rw [List.map_append, List.nodup_append]
  refine ⟨h.sublist (List.filter_sublist.map _), by simp, fun x hx y hy => ?_⟩
  obtain ⟨c, hc, rfl⟩ := List.mem_map.mp hx
  rw [List.map_cons, List.map_nil, List.mem_singleton] at hy
  rw [hy]
  exact hd c (List.mem_filter.mp hc).1 (List.mem_filter.mp hc).2
theorem nd_fl0 {cs : List Co} {p : Co → Bool} (h : (cs.map Co.nm).Nodup) : ((cs.filter p).map Co.nm).Nodup := h.sublist (List.filter_sublist.map _)
theorem find_nd2 {cs : List Co} {c : Co} (h : (cs.map Co.nm).Nodup) (hc : c ∈ cs) : findC cs c.nm = some c := by
  cases e : findC cs c.nm with
  | none =>
    have := List.find?_eq_none.mp e c hc
    simp at this
  | some d =>
    obtain ⟨h1, h2⟩ := find_mem e
    rw [nd_inj h h1 hc h2]
/-! ### lists of columns -/
/-- a new list of just these columns -/
def ECL (K : PySem.W.Frag) (te : TE) (σ : L2.St) (H : Hp) (cs : List Co) : Prop := ∀ H1, Ex H H1 → ∀ Q : VK, (∀ p vs H2, H1 p = none → Ex H1 H2 → H2 p = some (.lst vs) → DpAll K H2 vs (cs.map Co.d) → Q (.ref p) H2) → te σ H1 Q
section
variable {K : PySem.W.Frag} {σ : L2.St} {H : Hp} {te ta tb tl : TE} {tt : TT}
/-- [x for x in xs if p(x)] -/
theorem ecl_flL {a : Addr} {xs : List V} {cs : List Co} {j : Nat} {vs : List Nat} {p : Co → Bool} (h : Ev te σ H (.ref a)) (hx : SqL K H a xs) (hd : DpAll K H xs (cs.map Co.d)) (hok : ∀ c ∈ cs, c.ok) (hz : xs.length ≤ 40000) (hw : ∀ x, wipe ((wipe σ vs).set j (some x)) vs = wipe σ vs)
    (ht : ∀ x c, c ∈ cs → ∀ H1, Ex H H1 → Dp K H1 x c.d → EvT tt ((wipe σ vs).set j (some x)) H1 (p c)) (he : ∀ x H1, Ev tl ((wipe σ vs).set j (some x)) H1 x) : ECL K (tLc (iList K te) (gName j) tt tl vs) σ H (cs.filter p) := by
  intro H0 e Q q
  have hl := co_len hd
  refine h H0 e _ fun H1 e1 => ⟨a, rfl, ⟨xs, ex_l (e.trans e1) hx⟩, fun Dl hD => ?_⟩
  refine lc_list (xs := xs) (fun i H' => H1 Dl = none ∧ Ex H1 H' ∧ ∃ us, H' Dl = some (.lst us) ∧ us.length ≤ i ∧ DpAll K H' us (((cs.take i).filter p).map Co.d)) ⟨hD, Ex.new hD, [], upd_same, Nat.le_refl 0, .nil⟩ (fun i H' _ z => ex_l ((e.trans e1).trans z.2.1) hx) (fun i x H' hi z => ⟨hw x, ?_⟩) (fun H' z => ?_)
  · obtain ⟨p1, p2, us, p3, p4, p5⟩ := z
    have hi2 := (List.getElem?_eq_some_iff.mp hi).1
    obtain ⟨c, hc, hdx⟩ := co_get hd hi
    have hm := List.mem_of_getElem? hc
    have et : (cs.take (i + 1)).filter p = (cs.take i).filter p ++ (if p c = true then [c] else []) := by
      rw [List.take_add_one, hc, List.filter_append]
      show _ ++ [c].filter p = _
      by_cases hp : p c = true
      · rw [if_pos hp, List.filter_cons_of_pos hp] <;> rfl
      · rw [if_neg hp, List.filter_cons_of_neg hp] <;> rfl
    refine ht x c hm H' ((e.trans e1).trans p2) (dp_mono ((e.trans e1).trans p2) hdx) H' (Ex.refl H') _ fun H3 e3 => ?_
    cases hp : p c with
    | true =>
      show tl _ H3 _
      refine he x H3 H3 (Ex.refl H3) _ fun H4 e4 => ⟨us, e4 Dl _ (e3 Dl _ p3), sz_lt (by omega), p1, ((p2.trans e3).trans e4).mut p1, us ++ [x], upd_same, by rw [List.length_append]; show us.length + 1 ≤ i + 1; omega, ?_⟩
      rw [et, if_pos hp, List.map_append]
      have E4 := e3.trans e4
      refine dpa_app (dpa_monoN (n := 1) (ExN.upd (E4 Dl _ p3)) (fun d hd' => ?_) (dpa_mono E4 p5)) (.cons (dp_monoN (ExN.upd (E4 Dl _ p3)) (hok c hm).fl (dp_mono (((e.trans e1).trans p2).trans E4) hdx)) .nil)
      obtain ⟨c', hc', rfl⟩ := List.mem_map.mp hd'
      exact (hok c' (List.mem_of_mem_take (List.mem_filter.mp hc').1)).fl
    | false =>
      show H1 Dl = none ∧ _
      refine ⟨p1, p2.trans e3, us, e3 Dl _ p3, by omega, ?_⟩
      rw [et, if_neg (by rw [hp]; exact Bool.false_ne_true), List.append_nil]
      exact dpa_mono e3 p5
  · obtain ⟨p1, p2, us, p3, p4, p5⟩ := z
    rw [hl, List.take_length] at p5
    exact q Dl us H' (fresh_back e1 p1) (e1.trans p2) p3 p5
/-- a + b of new lists -/
theorem ecl_cat {cs ds : List Co} (ha : ECL K ta σ H cs) (hb : ECL K tb σ H ds) (hc : ∀ c ∈ cs, c.ok) (hd : ∀ c ∈ ds, c.ok) (hz : cs.length + ds.length ≤ 100000) : ECL K (tOp rCat ta tb) σ H (cs ++ ds) := fun H1 e Q q =>
  ha H1 e _ fun p vs H2 hp e2 h2 d2 => hb H2 (e.trans e2) _ fun p' us H3 hp' e3 h3 d3 => ⟨p, p', vs, us, rfl, rfl, e3 _ _ h2, h3, sz_of (by rw [co_len d2, co_len d3]; exact hz), fun r hr => q r (vs ++ us) _ (fresh_back (e2.trans e3) hr) ((e2.trans e3).trans (Ex.new hr)) upd_same (by
    rw [List.map_append]
    exact dpa_mono (Ex.new hr) (dpa_app (dpa_mono e3 d2) d3))⟩
/-- [x], a new list of one column -/
theorem ecl_one {c : Co} (h : EP K te σ H (· = c.d)) : ECL K (tLst (tCons te tNil)) σ H [c] := fun H1 e Q q =>
  h H1 e _ fun v d H2 e2 hd hD => ⟨(by show 1 ≤ sizeLine; decide), fun p hp => q p [v] _ (fresh_back e2 hp) (e2.trans (Ex.new hp)) upd_same (.cons (dp_mono (Ex.new hp) (by
    rw [← show d = c.d from hd]
    exact hD)) .nil)⟩
theorem q_asgCL {D : Ends} {tz : TS} {i : Nat} {cs : List Co} (h : ECL K te σ H cs) (k : ∀ p vs H1, H p = none → Ex H H1 → H1 p = some (.lst vs) → DpAll K H1 vs (cs.map Co.d) → tz D (σ.set i (some (.ref p))) H1) : tSeq (tAsg te (gName i)) tz D σ H := h H (Ex.refl H) _ k
theorem s_asgCL {D : Ends} {i : Nat} {cs : List Co} (h : ECL K te σ H cs) (k : ∀ p vs H1, H p = none → Ex H H1 → H1 p = some (.lst vs) → DpAll K H1 vs (cs.map Co.d) → D.nx (σ.set i (some (.ref p))) H1) : tAsg te (gName i) D σ H := h H (Ex.refl H) _ k
/-- list(t) of a tuple -/
theorem el_listT {p : Addr} {xs : List V} (ha : Ev ta σ H (.ref p)) (h : SqT K H p xs) : EvL (tCB (rListS K) (tCons ta tNil)) σ H xs := fun H1 e Q q =>
  ha H1 e _ fun H2 e2 => ⟨p, xs, rfl, .inr (ex_t (e.trans e2) h), fun l hl => q l _ (fresh_back e2 hl) (e2.trans (Ex.new hl)) upd_same⟩
/-- [f(x) for x in a tuple if p(x)], by places -/
theorem el_lcT {a : Addr} {xs : List V} {j : Nat} {vs : List Nat} {f : Nat → Bool} {v : Nat → V} (h : Ev te σ H (.ref a)) (hx : SqT K H a xs) (hz : xs.length ≤ 40000) (hw : ∀ x, wipe ((wipe σ vs).set j (some x)) vs = wipe σ vs)
    (ht : ∀ i x H1, xs[i]? = some x → Ex H H1 → EvT tt ((wipe σ vs).set j (some x)) H1 (f i)) (he : ∀ i x H1, xs[i]? = some x → f i = true → Ex H H1 → Ev tl ((wipe σ vs).set j (some x)) H1 (v i)) : EvL (tLc (iTup K te) (gName j) tt tl vs) σ H (given xs.length f v) := by
  intro H0 e Q q
  refine h H0 e _ fun H1 e1 => ⟨a, rfl, ⟨xs, ex_t (e.trans e1) hx⟩, fun Dl hD => ?_⟩
  refine lc_tup (xs := xs) (fun i H' => H1 Dl = none ∧ Ex H1 H' ∧ H' Dl = some (.lst (given i f v))) ⟨hD, Ex.new hD, upd_same⟩ (fun i H' _ z => ex_t ((e.trans e1).trans z.2.1) hx) (fun i x H' hi z => ⟨hw x, ?_⟩) (fun H' z => ?_)
  · obtain ⟨p1, p2, p3⟩ := z
    have hi2 := (List.getElem?_eq_some_iff.mp hi).1
    refine ht i x H' hi ((e.trans e1).trans p2) H' (Ex.refl H') _ fun H3 e3 => ?_
    cases hp : f i with
    | true =>
      show tl _ H3 _
      refine he i x H3 hi hp (((e.trans e1).trans p2).trans e3) H3 (Ex.refl H3) _ fun H4 e4 => ⟨_, e4 Dl _ (e3 Dl _ p3), sz_lt ?_, p1, ((p2.trans e3).trans e4).mut p1, ?_⟩
      · have := given_len i f v
        omega
      · rw [upd_same, given_yes hp]
    | false =>
      show H1 Dl = none ∧ _
      refine ⟨p1, p2.trans e3, ?_⟩
      rw [given_no hp]
      exact e3 Dl _ p3
  · obtain ⟨p1, p2, p3⟩ := z
    exact q Dl H' (fresh_back e1 p1) (e1.trans p2) p3
/-- a tuple of data as a value -/
theorem ep_var {i : Nat} {x : V} {d : PyData} (h : σ[i]? = some (some x)) (hd : Dp K H x d) : EP K (tVar i) σ H (· = d) := ep_is (ev_var h) hd rfl
end
theorem el_catN {σ : L2.St} {H : Hp} {ta tb : TE} {xs ys : List V} (ha : EvL ta σ H xs) (hb : EvL tb σ H ys) (hz : xs.length + ys.length ≤ 100000) : EvL (tOp rCat ta tb) σ H (xs ++ ys) := fun H1 e Q q =>
  ha H1 e _ fun p H2 hp e2 h2 => hb H2 (e.trans e2) _ fun p' H3 hp' e3 h3 => ⟨p, p', xs, ys, rfl, rfl, e3 _ _ h2, h3, sz_of hz, fun r hr => q r _ (fresh_back (e2.trans e3) hr) ((e2.trans e3).trans (Ex.new hr)) upd_same⟩
/-- xs.append(x), x data -/
theorem s_appP {K : PySem.W.Frag} {σ : L2.St} {H : Hp} {te : TE} {D : Ends} {j : Nat} {l : Addr} {xs : List V} {R : PyData → Prop} (hl : H l = some (.lst xs)) (ha : σ[j]? = some (some (V.ref l))) (h : EP K te σ H R) (hz : xs.length < 100000) (k : ∀ v d H1, Ex H H1 → R d → Dp K H1 v d → D.nx σ (upd H1 l (.lst (xs ++ [v])))) :
    tDrop (tBM K "list" rAppend (tVar j) (tCons te tNil)) D σ H :=
  ⟨_, ha, .inl ⟨rfl, _, sq_of hl⟩, h H (Ex.refl H) _ fun v d H1 e1 hr hd => ⟨l, xs, v, rfl, rfl, e1 _ _ hl, sz_lt hz, k v d H1 e1 hr hd⟩⟩
theorem q_appP {K : PySem.W.Frag} {σ : L2.St} {H : Hp} {te : TE} {tz : TS} {D : Ends} {j : Nat} {l : Addr} {xs : List V} {R : PyData → Prop} (hl : H l = some (.lst xs)) (ha : σ[j]? = some (some (V.ref l))) (h : EP K te σ H R) (hz : xs.length < 100000) (k : ∀ v d H1, Ex H H1 → R d → Dp K H1 v d → tz D σ (upd H1 l (.lst (xs ++ [v])))) :
    tSeq (tDrop (tBM K "list" rAppend (tVar j) (tCons te tNil))) tz D σ H := s_appP (D := { D with nx := tz D }) hl ha h hz k
theorem col_app {K : PySem.W.Frag} {H : Hp} {l : Addr} {xs : List V} {v : V} {cs : List Co} {c : Co} (hl : H l = some (.lst xs)) (hd : DpAll K H xs (cs.map Co.d)) (hok : ∀ c ∈ cs, c.ok) (hv : Dp K H v c.d) (hc : c.ok) :
    DpAll K (upd H l (.lst (xs ++ [v]))) (xs ++ [v]) ((cs ++ [c]).map Co.d) ∧ ∀ x ∈ cs ++ [c], x.ok := by
  refine ⟨?_, fun x hx => ?_⟩
  · rw [List.map_append]
    exact dpa_app (dpa_monoN (n := 1) (ExN.upd hl) (co_fl hok) hd) (.cons (dp_monoN (ExN.upd hl) hc.fl hv) .nil)
  · rcases List.mem_append.mp hx with z | z
    · exact hok x z
    · rw [List.mem_singleton.mp z]
      exact hc
/-- a value of a column -/
theorem ev_co {K : PySem.W.Frag} {σ : L2.St} {H : Hp} {te : TE} {x : V} {c : Co} (h : Ev te σ H x) (hd : Dp K H x c.d) : Ev (tOp (rIxT K) te (tC (.int 0))) σ H (.str c.nm) ∧ Ev (tOp (rIxT K) te (tC (.int 1))) σ H (.str c.kd.s) ∧ Ev (tOp (rIxT K) te (tC (.int 3))) σ H (.int c.un) ∧ Ev (tOp (rIxT K) te (tC (.int 4))) σ H (.str c.lk) := by
  obtain ⟨p, y, rfl, hs, _⟩ := co_at hd
  exact ⟨ev_ixT h ev_c hs (at_nat (j := 0) rfl), ev_ixT h ev_c hs (at_nat (j := 1) rfl), ev_ixT h ev_c hs (at_nat (j := 3) rfl), ev_ixT h ev_c hs (at_nat (j := 4) rfl)⟩
theorem eu_run {te : TE} {σ : L2.St} {H : Hp} {xs : List V} {Q : VK} (h : EvU te σ H xs) (q : ∀ p H2, H p = none → Ex H H2 → H2 p = some (.tup xs) → Q (.ref p) H2) : te σ H Q := h H (Ex.refl H) Q q
theorem cat_run {H : Hp} {p p' : Addr} {vs us : List V} {Q : VK} (h1 : H p = some (.lst vs)) (h2 : H p' = some (.lst us)) (hz : vs.length + us.length ≤ 100000) (q : ∀ r, H r = none → Q (.ref r) (upd H r (.lst (vs ++ us)))) : rCat (.ref p) (.ref p') H Q := ⟨p, p', vs, us, rfl, rfl, h1, h2, sz_of hz, q⟩
theorem ecl_run {K : PySem.W.Frag} {te : TE} {σ : L2.St} {H : Hp} {cs : List Co} {Q : VK} (h : ECL K te σ H cs) (q : ∀ p vs H1, H p = none → Ex H H1 → H1 p = some (.lst vs) → DpAll K H1 vs (cs.map Co.d) → Q (.ref p) H1) : te σ H Q := h H (Ex.refl H) Q q
/-- x is not None -/
theorem ev_isnt {σ : L2.St} {H : Hp} {te : TE} {v : V} (h : Ev te σ H v) : Ev (tOp (fun x y H Q => y = .non ∧ Q (.bl (!decide (x = .non))) H) te (tC .non)) σ H (.bl (!decide (v = .non))) := fun H1 e Q q => h H1 e _ fun H2 e2 => ⟨rfl, q H2 e2⟩
/-- t[:3] of a tuple of five -/
theorem eu_sl3 {K : PySem.W.Frag} {σ : L2.St} {H : Hp} {te : TE} {p : Addr} {a b c d e : V} (h : Ev te σ H (.ref p)) (hx : SqT K H p [a, b, c, d, e]) : EvU (tSl (rSlA K) te tNoPart (tPart (tC (.int 3)))) σ H [a, b, c] := fun H0 e0 Q q =>
  h H0 e0 _ fun H2 e2 => ⟨3, rfl, p, [a, b, c, d, e], rfl, ex_t (e0.trans e2) hx, (fun z => by
    have := z.2
    exact absurd (show HT.sIx 5 5 (some 3) = 5 from this) (by decide)), fun _ r hr => q r _ (fresh_back e2 hr) (e2.trans (Ex.new hr)) upd_same⟩
def spFind (K : PySem.W.Frag) : Sp := fun vs H Q _ => ∃ (f : Fm) (vf : V) (z : Str), vs = [vf, .str z] ∧ Dp K H vf f.d ∧ f.cs.length ≤ 1000 ∧ ∀ v H', Ex H H' → Dp K H' v (optD (findC f.cs z)) → Q v H'
theorem cv_dummy : True := trivial
theorem op_run {r : R2} {ta tb : TE} {σ : L2.St} {H : Hp} {Q : VK} (k : ta σ H fun x H1 => tb σ H1 fun y H2 => r x y H2 Q) : tOp r ta tb σ H Q := k
theorem lst_run {ta : TA} {σ : L2.St} {H : Hp} {Q : VK} (k : ta σ H fun vs H1 => vs.length ≤ sizeLine ∧ ∀ p, H1 p = none → Q (.ref p) (upd H1 p (.lst vs))) : tLst ta σ H Q := k
theorem tup_run {ta : TA} {σ : L2.St} {H : Hp} {Q : VK} (k : ta σ H fun vs H1 => vs.length ≤ sizeLine ∧ ∀ p, H1 p = none → Q (.ref p) (upd H1 p (.tup vs))) : tTup ta σ H Q := k
theorem cons_run {te : TE} {tr : TA} {σ : L2.St} {H : Hp} {Q : List V → Hp → Prop} (k : te σ H fun v H1 => tr σ H1 fun vs H2 => Q (v :: vs) H2) : tCons te tr σ H Q := k
theorem call_run {sp : Sp} {dvs : List V} {E : XK} {ta : TA} {σ : L2.St} {H : Hp} {Q : VK} (k : ta σ H fun vs H1 => sp (vs ++ dvs) H1 Q E) : tCall sp dvs E ta σ H Q := k
theorem asg_run {te : TE} {σ : L2.St} {H : Hp} {D : Ends} {i : Nat} (k : te σ H fun v H1 => D.nx (σ.set i (some v)) H1) : tAsg te (gName i) D σ H := k
theorem ret_run {te : TE} {σ : L2.St} {H : Hp} {D : Ends} (k : te σ H D.rt) : tRet te D σ H := k
theorem c_run {σ : L2.St} {H : Hp} {Q : VK} {v : V} (q : Q v H) : tC v σ H Q := q
theorem if_run {t : TT} {ta tb : TE} {σ : L2.St} {H : Hp} {b : Bool} {Q : VK} (h : EvT t σ H b) (h1 : b = true → ∀ H1, Ex H H1 → ta σ H1 Q) (h2 : b = false → ∀ H1, Ex H H1 → tb σ H1 Q) : tIf t ta tb σ H Q := h H (Ex.refl H) _ fun H1 e => by
  cases b with
  | true => exact h1 rfl H1 e
  | false => exact h2 rfl H1 e
theorem var_run {i : Nat} {σ : L2.St} {H : Hp} {Q : VK} {v : V} (h : σ[i]? = some (some v)) (q : Q v H) : tVar i σ H Q := ⟨v, h, q⟩
/-- an expression read where a bare goal goes on -/
theorem ev_run {te : TE} {σ : L2.St} {H : Hp} {v : V} {Q : VK} (h : Ev te σ H v) (q : ∀ H2, Ex H H2 → Q v H2) : te σ H Q := h H (Ex.refl H) Q q
theorem el_run {te : TE} {σ : L2.St} {H : Hp} {xs : List V} {Q : VK} (h : EvL te σ H xs) (q : ∀ p H2, H p = none → Ex H H2 → H2 p = some (.lst xs) → Q (.ref p) H2) : te σ H Q := h H (Ex.refl H) Q q
/-! ### the lambda's def -/
def lamQ : Str := ((Str.ofString "_law_in_columns") ++ (Str.ofString ".<locals>.")) ++ Str.ofString "<lambda>"
/-- its table: made, or empty -/
def spInCols (K : PySem.W.Frag) (P : Addr) (pos : Pos) : Sp := fun vs H Q _ => ∃ (a : Addr) (xs : List V) (cs : List Co), vs = [.ref a] ∧ SqL K H a xs ∧ DpAll K H xs (cs.map Co.d) ∧ cs.length ≤ 1000 ∧
  ((LamTab H P pos lamQ ∧ ∀ v H', Ex H H' → Dp K H' v (.tuple ((sortC cs).map Co.d)) → Q v H') ∨ (H P = some (.tbl #[]) ∧ ∀ v H', LamX.ExtN H H' → LamTab H' P pos lamQ → Dp K H' v (.tuple ((sortC cs).map Co.d)) → Q v H'))
theorem LamTab.mono {H H' : Hp} {P : Addr} {pos : Pos} {q : Str} (e : Ex H H') (h : LamTab H P pos q) : LamTab H' P pos q := by
  obtain ⟨c, h1, h2⟩ := h
  exact ⟨c, e _ _ h1, e _ _ h2⟩
/-- the code of a def, told -/
theorem fun_code {P : Program} {w : World} {K : PySem.W.Frag} {mg : Str → Option Value} {base : Heap} {x qual : Str} {st : Stmt} {f c : Addr} {fd : FuncData} {N ps : List Str} {k : Nat} {sp : Sp} (F : L2.Fun K x qual st f fd) (hc : fd.code = .ref c)
    (S : FnScope N ps (defScope st)) (ln : ∀ vs H Q E, sp vs H Q E → vs.length = ps.length)
    (hb : ∀ (A : Around) (outer : List Env) (s : Shared) (H : Hp) (vs : List V) (Q : VK) (E : XK), Room k (A.deeper (envOfC qual (defScope st) s.heap.objs.size f (.ref c))) → sp vs H Q E →
      ∃ t, PSs (cxOf CX0 P w K mg base N qual (defScope st) f (.ref c) A outer s H E).nox (defBody st) t ∧ t { nx := fun _ H' => Q .non H', rt := Q } (start N vs) H) :
    FnOk P w K mg base CX0 (k + 1) f fd ps sp := by
  obtain ⟨oc, od, kV, doc, pm, an, cv, ct, osl, e, lk, hcd⟩ := F.ex
  subst e
  have e2 : cv = .ref c := hc
  subst e2
  refine fn_of lk hcd S ln fun A outer s H vs Q E hr h => ?_
  obtain ⟨t, h1, h2⟩ := hb A outer s H vs Q E hr h
  exact ⟨t, h1.nox, h2⟩


/-! ### the chunk store -/
abbrev cF (b : Addr) (r : Int) (t : Addr) : List (Str × V) := [(("book" : Str), V.ref b), (("reads" : Str), V.int r), (("_texts" : Str), V.ref t)]
theorem cF_book (b : Addr) (r : Int) (t : Addr) : (cF b r t).lookup ("book" : Str) = some (.ref b) := by simp [cF, List.lookup]
theorem cF_reads (b : Addr) (r : Int) (t : Addr) : (cF b r t).lookup ("reads" : Str) = some (.int r) := by
  have h : (("reads" : Str) == ("book" : Str)) = false := by decide +kernel
  simp [cF, List.lookup, h]
theorem cF_texts (b : Addr) (r : Int) (t : Addr) : (cF b r t).lookup ("_texts" : Str) = some (.ref t) := by
  have h : (("_texts" : Str) == ("book" : Str)) = false := by decide +kernel
  have h2 : (("_texts" : Str) == ("reads" : Str)) = false := by decide +kernel
  simp [cF, List.lookup, h, h2]
theorem cF_no (b : Addr) (r : Int) (t : Addr) {m : Str} (h : (m == ("book" : Str)) = false) (h1 : (m == ("reads" : Str)) = false) (h2 : (m == ("_texts" : Str)) = false) : (cF b r t).lookup m = none := by simp [cF, List.lookup, h, h1, h2]
theorem cF_put (b : Addr) (r r' : Int) (t : Addr) : putF ("reads" : Str) (V.int r') (cF b r t) = cF b r' t := by
  have h : ¬ (("book" : Str) = ("reads" : Str)) := by decide +kernel
  simp [cF, putF, h]
theorem cF_put0 (b : Addr) : putF ("book" : Str) (V.ref b) [] = [(("book" : Str), V.ref b)] := rfl
theorem cF_put1 (b : Addr) (r : Int) : putF ("reads" : Str) (V.int r) [(("book" : Str), V.ref b)] = [(("book" : Str), V.ref b), (("reads" : Str), V.int r)] := by
  have h : ¬ (("book" : Str) = ("reads" : Str)) := by decide +kernel
  simp [putF, h]
theorem cF_put2 (b : Addr) (r : Int) (t : Addr) : putF ("_texts" : Str) (V.ref t) [(("book" : Str), V.ref b), (("reads" : Str), V.int r)] = cF b r t := by
  have h : ¬ (("book" : Str) = ("_texts" : Str)) := by decide +kernel
  have h2 : ¬ (("reads" : Str) = ("_texts" : Str)) := by decide +kernel
  simp [putF, cF, h, h2]
/-- a store stands at p, over the book at b, its dict at t -/
def CkAt (C : Addr) (H : Hp) (p b t : Addr) (r : Int) (kvs : List (Key × V)) : Prop := (∃ dx, H p = some (.ins C dx (cF b r t))) ∧ H t = some (.dK kvs)
theorem dropK_none {kvs : List (Key × V)} {k : Key} (h : valV kvs k = none) : dropK kvs k = kvs := by
  unfold dropK
  rw [List.filter_eq_self]
  intro kv hkv
  simp only [decide_eq_true_eq]
  intro z
  have := valV_any k kvs
  rw [h] at this
  have h2 : (kvs.any fun kv => decide (kv.1 = k)) = true := List.any_eq_true.mpr ⟨kv, hkv, by rw [z]; simp⟩
  rw [h2] at this
  cases this
/-- only what stands in S may change -/
def But (S : List Addr) (H H' : Hp) : Prop := ∀ c o, H c = some o → c ∉ S → H' c = some o
theorem But.refl {S : List Addr} {H : Hp} : But S H H := fun _ _ h _ => h
theorem But.of {S : List Addr} {H H' : Hp} (h : Ex H H') : But S H H' := fun c o e _ => h c o e
theorem But.trans {S : List Addr} {H H' H'' : Hp} (h : But S H H') (h2 : But S H' H'') : But S H H'' := fun c o e n => h2 c o (h c o e n) n
theorem But.sub {S S' : List Addr} {H H' : Hp} (h : But S H H') (hs : ∀ a ∈ S, a ∈ S') : But S' H H' := fun c o e n => h c o e fun z => n (hs c z)
theorem But.put {S : List Addr} {H : Hp} {a : Addr} {o : HO} (h : a ∈ S) : But S H (upd H a o) := fun c o' e n => by rw [upd_ne (fun z => n (by rw [z]; exact h))]; exact e
theorem But.new {S : List Addr} {H : Hp} {a : Addr} {o : HO} (h : H a = none) : But S H (upd H a o) := fun c o' e _ => by rw [upd_ne (ne_of_none e h)]; exact e
theorem t_joined {σ : L2.St} {H : Hp} {ts : List TE} {ys : List Str} {K : List V → Hp → Prop} (h : EvJ σ H ts ys) (hz : (ys.map (·.length)).sum ≤ 16777216) (k : ∀ H1, Ex H H1 → K [.str (ys.foldl (· ++ ·) Str.empty)] H1) :
    tCons (fun σ H Q => tJs ts Str.empty σ H fun out H1 => Q (.str out) H1) tNil σ H K := by
  show tJs ts Str.empty σ H (fun out H1 => K [V.str out] H1)
  exact ev_joined h hz H (Ex.refl H) (fun v H1 => K [v] H1) fun H1 e1 => k H1 e1
def tMethX (C : Addr) (m : Str) (sp : Sp) (E : L2.St → XK) (ta : TE) (t : TA) : TE := fun σ H Q => ta σ H fun x H1 => ∃ a dx fs, x = .ref a ∧ H1 a = some (.ins C dx fs) ∧ fs.lookup m = none ∧ t σ H1 fun vs H2 => sp (x :: vs) H2 Q (E σ)
/-- o.m(e, ..) that may raise, in a try -/
theorem pe_methX {X : Cx} {CX : CXT} {k : Nat} {C f : Addr} {fd : FuncData} {ps : List Str} {m : Str} {sp : Sp} {E : L2.St → XK} {o e : Expr} {es : List Expr} {ta : TE} {t : TA} {apos pos : Pos} {pl : Sem Bool} (he : PE X o ta) (c : Cls X.K C) (hm : Meth X.K C m f) (F : FnOk X.prog X.w X.K X.mg X.base CX k f fd ps sp) (hr : Room k X.A)
    (hb : Binds X.K fd ps []) (hx : ∀ σ, PassesAt CX X σ (E σ)) (ha : PA X (e :: es) t)
    (hst : starEach (e :: es) X.env = (false, eval e X.env) :: starEach es X.env := by rfl) (hpl : (backTo pos (starEach es X.env)).any (·.1) = false := by rfl)
    (ht : eval (.Call (.Attribute o m apos) (e :: es) [] pos) X.env = (do
      let ov ← eval o X.env
      standAt apos.atName
      let (f, first) ← holding [ov] (getMethod ov m pl)
      callWith pos f first (backTo pos (starEach (e :: es) X.env)) (backToKw pos (keywordEach [] X.env))) := by rfl) :
    PE X (.Call (.Attribute o m apos) (e :: es) [] pos) (tMethX C m sp E ta t) := by
  refine ⟨fun pins s σ H Q I h => ?_⟩
  refine PySem.W.methodCall_KW (pl := pl) (thn (he.run pins s σ H _ I h) fun u s1 ⟨x, H1, I1, rx, a, dx, fs, ex, ea, l, q⟩ => ?_) ht
  subst ex
  obtain rfl : u = Value.ref a := rx
  refine getmeth_ok I1 ea c hm l ?_
  refine PySem.W.callWith_K (first := [.ref a]) (h₀ := X.base) I.ok.mod.kin hm.kp (thn (ha.run pos pins s1 σ H1 _ I1 q) fun us s2 ⟨vs, H2, I2, r, q2⟩ => ⟨I2.kIn, ?_⟩) hst hpl
  exact run_fnS (us := .ref a :: us) (vs := .ref a :: vs) F hr hb (hx σ) I2 (.cons rfl r) q2
theorem ev_din {σ : L2.St} {H : Hp} {te td : TE} {x : Addr} {k : Key} {kvs : List (Key × V)} (h : Ev te σ H (kV k)) (h2 : Ev td σ H (.ref x)) (hx : H x = some (.dK kvs)) : Ev (tDIn te td) σ H (.bl (valV kvs k).isSome) := fun H1 e Q q =>
  h H1 e _ fun H2 e2 => h2 H2 (e.trans e2) _ fun H3 e3 => ⟨x, _, rfl, DGet.k (((e.trans e2).trans e3) _ _ hx), q H3 (e2.trans e3)⟩
theorem ev_dnin {σ : L2.St} {H : Hp} {te td : TE} {x : Addr} {k : Key} {kvs : List (Key × V)} (h : Ev te σ H (kV k)) (h2 : Ev td σ H (.ref x)) (hx : H x = some (.dK kvs)) : Ev (tDNotIn te td) σ H (.bl (!(valV kvs k).isSome)) := fun H1 e Q q =>
  h H1 e _ fun H2 e2 => h2 H2 (e.trans e2) _ fun H3 e3 => ⟨x, _, rfl, DGet.k (((e.trans e2).trans e3) _ _ hx), q H3 (e2.trans e3)⟩
theorem ev_dgetK {σ : L2.St} {H : Hp} {te td : TE} {x : Addr} {k : Key} {kvs : List (Key × V)} {v : V} (h2 : Ev td σ H (.ref x)) (h : Ev te σ H (kV k)) (hx : H x = some (.dK kvs)) (hv : valV kvs k = some v) : Ev (tDGet td te) σ H v := fun H1 e Q q =>
  h2 H1 e _ fun H2 e2 => h H2 (e.trans e2) _ fun H3 e3 => ⟨x, v, rfl, by rw [← hv]; exact DGet.k (((e.trans e2).trans e3) _ _ hx), q H3 (e2.trans e3)⟩
theorem CkAt.mono {C p b t : Addr} {r : Int} {H H' : Hp} {kvs : List (Key × V)} (h : CkAt C H p b t r kvs) (e : Ex H H') : CkAt C H' p b t r kvs := by
  obtain ⟨⟨dx, hp⟩, ht⟩ := h
  exact ⟨⟨dx, e _ _ hp⟩, e _ _ ht⟩
def Strs (kvs : List (Key × V)) : Prop := ∀ (k : Key) (v : V), valV kvs k = some v → ∃ z : Str, v = .str z
theorem ev_callH {sp : Sp} {E : L2.St → XK} {ta : TA} {σ : L2.St} {H : Hp} {vs : List V} {z : V} (h : EvA ta σ H vs) (c : SpV sp vs H z) : Ev (tCallS sp E ta) σ H z := fun H1 e Q q => h H1 e _ fun H2 e2 => c H2 (e.trans e2) Q (fun H3 e3 => q H3 (e2.trans e3)) (E σ)
theorem BkAt.mono {C p d : Addr} {H H' : Hp} {kvs : List (Key × V)} (b : BkAt C H p d kvs) (e : Ex H H') : BkAt C H' p d kvs := by
  obtain ⟨⟨dx, hp⟩, hd⟩ := b
  exact ⟨⟨dx, e _ _ hp⟩, e _ _ hd⟩
theorem s_appZ {K : PySem.W.Frag} {σ : L2.St} {H : Hp} {ta te : TE} {D : Ends} {v : V} {l : Addr} {xs : List V} (hl : H l = some (.lst xs)) (ha : Ev ta σ H (.ref l)) (h : Ev te σ H v) (hz : xs.length < sizeLine) (k : ∀ H1, Ex H H1 → D.nx σ (upd H1 l (.lst (xs ++ [v])))) :
    tDrop (tBM K "list" rAppend ta (tCons te tNil)) D σ H := ha H (Ex.refl H) _ fun H1 e1 =>
  ⟨Or.inl ⟨rfl, xs, sq_of (e1 l _ hl)⟩, h H1 e1 _ fun H2 e2 => ⟨l, xs, v, rfl, rfl, e2 l _ (e1 l _ hl), hz, k H2 (e1.trans e2)⟩⟩


/-! ### loops over a dict's keys (the dict is locked meanwhile) -/
theorem Ex.both {H H' : Hp} (e : Ex H H') (x : Addr) (o : HO) : Ex (upd H x o) (upd H' x o) := fun b v h => by
  by_cases hb : b = x
  · rw [hb, upd_same] at h ⊢; exact h
  · rw [upd_ne hb] at h ⊢; exact e _ _ h
theorem Ex.unlock {H H' : Hp} {x : Addr} {o u : HO} (e : Ex (upd H x o) H') (hx : H x = some u) : Ex H (upd H' x u) := fun b v h => by
  by_cases hb : b = x
  · rw [hb, hx] at h
    rw [hb, upd_same]
    exact h
  · rw [upd_ne hb]; exact e _ _ (by rw [upd_ne hb]; exact h)
theorem DGet.f {H : Hp} {a : Addr} {kvs : List (Key × V)} {k : Key} {o : Obj} (e : H a = some (.frz o (.dK kvs))) : DGet H a (kV k) (valV kvs k) := .inl ⟨kvs, k, .inr ⟨o, e⟩, rfl, rfl⟩
theorem ev_dgetF {σ : L2.St} {H : Hp} {te td : TE} {x : Addr} {k : Key} {kvs : List (Key × V)} {v : V} {o : Obj} (h2 : Ev td σ H (.ref x)) (h : Ev te σ H (kV k)) (hx : H x = some (.frz o (.dK kvs))) (hv : valV kvs k = some v) : Ev (tDGet td te) σ H v := fun H1 e Q q =>
  h2 H1 e _ fun H2 e2 => h H2 (e.trans e2) _ fun H3 e3 => ⟨x, v, rfl, by rw [← hv]; exact DGet.f (((e.trans e2).trans e3) _ _ hx), q H3 (e2.trans e3)⟩
theorem q_forK {σ : L2.St} {H : Hp} {te : TE} {tu tz : TS} {D : Ends} {j : Nat} {x : Addr} {kvs : List (Key × V)} (hx : H x = some (.dK kvs)) (h : ∀ H1, Ev te σ H1 (.ref x)) (Pv : Obj → Nat → L2.St → Hp → Prop)
    (h0 : ∀ od H1, Ex (upd H x (.frz od (.dK kvs))) H1 → Pv od 0 σ H1) (hl : ∀ od i σ' H', Pv od i σ' H' → H' x = some (.frz od (.dK kvs)))
    (hs : ∀ od i k v σ' H' (D' : Ends), kvs[i]? = some (k, v) → Pv od i σ' H' → (∀ σ2 H2, Pv od (i + 1) σ2 H2 → D'.nx σ2 H2) → (∀ σ2 H2, Pv od (i + 1) σ2 H2 → D'.ct σ2 H2) → (∀ v H2, H2 x = some (.frz od (.dK kvs)) → D.rt v (upd H2 x (.dK kvs)) → D'.rt v H2) → tu D' (σ'.set j (some (kV k))) H')
    (hd : ∀ od σ' H', Pv od kvs.length σ' H' → tz D σ' (upd H' x (.dK kvs))) : tSeq (tLock (tFor (iKeys te) (gName j) tu)) tz D σ H := by
  refine ⟨x, .dK kvs, hx, True.intro, fun od => ?_⟩
  refine h _ _ (Ex.refl _) _ fun H1 e1 => ⟨x, od, rfl, .inl ⟨kvs, e1 _ _ upd_same, ?_⟩⟩
  refine ⟨fun i m σ' H' => i + m = kvs.length ∧ Pv od i σ' H', ⟨kvs.length, by omega, h0 od H1 e1⟩, ?_⟩
  rintro i m σ' H' ⟨hm, p⟩
  by_cases hlt : i < kvs.length
  · refine .inr ⟨⟨hl _ _ _ _ p, hlt⟩, Pv od (i + 1), fun σ2 H2 p2 => ⟨m - 1, by omega, by omega, p2⟩, fun y H2 hy => ?_⟩
    obtain ⟨rfl, k, v, hk, rfl⟩ := hy
    exact hs od i k v σ' _ _ hk p (fun _ _ z => z) (fun _ _ z => z) fun v H3 z1 z2 => ⟨z1, z2⟩
  · have ei : i = kvs.length := by omega
    subst ei
    exact .inl ⟨⟨hl _ _ _ _ p, Nat.le_refl _⟩, hl _ _ _ _ p, hd od σ' H' p⟩
theorem el_lcK {σ : L2.St} {H : Hp} {te tl : TE} {x : Addr} {kvs : List (Key × V)} {j : Nat} {vs : List Nat} {ys : List V} (hx : H x = some (.dK kvs)) (h : ∀ H1, Ev te σ H1 (.ref x)) (hz : kvs.length ≤ 40000) (hw : ∀ y, wipe ((wipe σ vs).set j (some y)) vs = wipe σ vs) (hl : ys.length = kvs.length)
    (he : ∀ (od : Obj) (i : Nat) (k : Key) (v y : V), kvs[i]? = some (k, v) → ys[i]? = some y → ∀ H1, Ex (upd H x (.frz od (.dK kvs))) H1 → Ev tl ((wipe σ vs).set j (some (kV k))) H1 y) : EvL (tLockE (tLc (iKeys te) (gName j) tYes tl vs)) σ H ys := fun H0 e Q q => by
  refine ⟨x, .dK kvs, e _ _ hx, True.intro, fun od => h _ _ (Ex.refl _) _ fun H1 e1 => ⟨x, od, rfl, .inl ⟨kvs, e1 _ _ upd_same, fun D hD => ?_⟩⟩⟩
  have g : given kvs.length (fun _ => true) (fun i => ys.getD i .non) = ys := given_all hl fun i hi => by
    have hi2 : i < ys.length := by omega
    rw [List.getElem?_eq_getElem hi2, List.getD_eq_getElem?_getD, List.getElem?_eq_getElem hi2] <;> rfl
  have hDx : D ≠ x := fun z => by
    rw [z] at hD
    have y := e1 _ _ (upd_same (H := H0) (a := x) (o := .frz od (.dK kvs)))
    rw [hD] at y
    cases y
  have hD0 : H0 D = none := by
    have y := fresh_back e1 hD
    rw [upd_ne hDx] at y
    exact y
  refine ⟨fun i m H' => m = kvs.length - i ∧ i ≤ kvs.length ∧ Cw H1 (fun _ => true) (fun i => ys.getD i .non) D i H', ⟨_, rfl, Nat.zero_le _, hD, Ex.new hD, upd_same⟩, ?_⟩
  rintro i m H' ⟨rfl, hi, p⟩
  have hf : H' x = some (.frz od (.dK kvs)) := p.2.1 _ _ (e1 _ _ upd_same)
  by_cases hlt : i < kvs.length
  · refine .inr ⟨⟨hf, hlt⟩, Cw H1 (fun _ => true) (fun i => ys.getD i .non) D (i + 1), fun H2 p2 => ⟨_, by omega, rfl, hlt, p2⟩, fun y H2 hy => ?_⟩
    obtain ⟨rfl, k, v, hk, rfl⟩ := hy
    have hi2 : i < ys.length := by omega
    have hy : ys[i]? = some (ys.getD i .non) := by rw [List.getElem?_eq_getElem hi2, List.getD_eq_getElem?_getD, List.getElem?_eq_getElem hi2] <;> rfl
    exact ⟨hw _, cw_turn p (by omega) (fun H3 e3 Q q => q H3 (Ex.refl H3)) fun _ => (he od i k v _ hk hy H1 ((Ex.both e x _).trans e1))⟩
  · have ei : i = kvs.length := by omega
    subst ei
    refine .inl ⟨⟨hf, Nat.le_refl _⟩, hf, ?_⟩
    have p2 := p.2.2
    rw [g] at p2
    refine q D _ hD0 (Ex.unlock (e1.trans p.2.1) (e _ _ hx)) ?_
    rw [upd_ne hDx]
    exact p2
/-! ### the book's dict as a list of texts -/
def bkL : Int → List Str → List (Key × V)
  | _, [] => []
  | n, z :: r => (Sum.inr z, .int n) :: bkL (n + 1) r
def posZ (z : Str) : List Str → Nat
  | [] => 0
  | y :: r => if y = z then 0 else posZ z r + 1
def addZ (zs : List Str) (z : Str) : List Str := if z ∈ zs then zs else zs ++ [z]
theorem bkL_len : ∀ (n : Int) (zs : List Str), (bkL n zs).length = zs.length
  | _, [] => rfl
  | n, z :: r => by show (bkL (n + 1) r).length + 1 = r.length + 1; rw [bkL_len (n + 1) r]
theorem posZ_lt {z : Str} : ∀ {zs : List Str}, z ∈ zs → posZ z zs < zs.length
  | y :: r, h => by
    unfold posZ
    by_cases e : y = z
    · rw [if_pos e]; simp
    · rw [if_neg e]
      have h2 : z ∈ r := (List.mem_cons.mp h).resolve_left fun q => e q.symm
      have := posZ_lt h2
      simp; exact this
theorem posZ_at {z : Str} : ∀ {zs : List Str}, z ∈ zs → zs[posZ z zs]? = some z
  | y :: r, h => by
    unfold posZ
    by_cases e : y = z
    · rw [if_pos e, e] <;> rfl
    · rw [if_neg e]
      have h2 : z ∈ r := (List.mem_cons.mp h).resolve_left fun q => e q.symm
      rw [List.getElem?_cons_succ]
      exact posZ_at h2
theorem posZ_uniq {z : Str} : ∀ {zs : List Str} {j : Nat}, zs.Nodup → zs[j]? = some z → posZ z zs = j
  | [], _, _, h => by simp at h
  | y :: r, 0, _, h => by
    have e : y = z := by simpa using h
    unfold posZ
    rw [if_pos e]
  | y :: r, j + 1, nd, h => by
    rw [List.getElem?_cons_succ] at h
    have e : ¬ y = z := fun q => (List.nodup_cons.mp nd).1 (by rw [q]; exact List.mem_of_getElem? h)
    unfold posZ
    rw [if_neg e, posZ_uniq (List.nodup_cons.mp nd).2 h]
theorem posZ_app {z : Str} : ∀ {zs : List Str} (ys : List Str), z ∈ zs → posZ z (zs ++ ys) = posZ z zs
  | y :: r, ys, h => by
    rw [List.cons_append]
    unfold posZ
    by_cases e : y = z
    · rw [if_pos e, if_pos e]
    · rw [if_neg e, if_neg e, posZ_app ys ((List.mem_cons.mp h).resolve_left fun q => e q.symm)]
theorem posZ_end {z : Str} : ∀ {zs : List Str}, z ∉ zs → posZ z (zs ++ [z]) = zs.length
  | [], _ => by simp [posZ]
  | y :: r, h => by
    rw [List.cons_append]
    unfold posZ
    rw [if_neg (fun q => h (by rw [q]; exact List.mem_cons_self)), posZ_end (fun q => h (List.mem_cons_of_mem _ q))] <;> rfl
theorem bkL_val (z : Str) : ∀ (n : Int) (zs : List Str), valV (bkL n zs) (Sum.inr z : Key) = if z ∈ zs then some (.int (n + (posZ z zs : Nat))) else none
  | n, [] => by simp [bkL, valV]
  | n, y :: r => by
    by_cases e : y = z
    · subst e
      rw [bkL, valV_pos (p := (Sum.inr y, V.int n)) rfl, if_pos List.mem_cons_self]
      simp [posZ]
    · rw [bkL, valV_neg (p := (Sum.inr y, V.int n)) (fun q => e (Sum.inr.inj q)), bkL_val z (n + 1) r]
      have hm : (z ∈ y :: r) = (z ∈ r) := propext ⟨fun h => (List.mem_cons.mp h).resolve_left fun q => e q.symm, fun h => List.mem_cons_of_mem _ h⟩
      simp only [hm, posZ, if_neg e]
      by_cases h : z ∈ r
      · rw [if_pos h, if_pos h]
        congr 2
        omega
      · rw [if_neg h, if_neg h]
theorem bkL_at : ∀ {n : Int} {zs : List Str} {j : Nat} {z : Str}, zs[j]? = some z → (bkL n zs)[j]? = some (Sum.inr z, .int (n + (j : Nat)))
  | n, y :: r, 0, z, h => by
    have e : y = z := by simpa using h
    rw [e]
    simp [bkL]
  | n, y :: r, j + 1, z, h => by
    rw [List.getElem?_cons_succ] at h
    have := bkL_at (n := n + 1) h
    show (bkL (n + 1) r)[j]? = _
    rw [this]
    congr 3
    push_cast
    omega
theorem bkL_get {n : Int} {zs : List Str} {j : Nat} {k : Key} {v : V} (h : (bkL n zs)[j]? = some (k, v)) : ∃ z, zs[j]? = some z ∧ k = Sum.inr z ∧ v = .int (n + (j : Nat)) := by
  have hj : j < zs.length := by rw [← bkL_len n zs]; exact (List.getElem?_eq_some_iff.mp h).1
  have := bkL_at (n := n) (List.getElem?_eq_getElem hj)
  rw [h] at this
  have e := Option.some.inj this
  exact ⟨_, List.getElem?_eq_getElem hj, congrArg Prod.fst e, congrArg Prod.snd e⟩
theorem bkL_app : ∀ (n : Int) (zs : List Str) (z : Str), bkL n (zs ++ [z]) = bkL n zs ++ [(Sum.inr z, .int (n + (zs.length : Nat)))]
  | n, [], z => by simp [bkL]
  | n, y :: r, z => by
    rw [List.cons_append, bkL, bkL_app (n + 1) r z, bkL, List.cons_append, show n + 1 + ((r.length : Nat) : Int) = n + (((y :: r).length : Nat) : Int) from by rw [List.length_cons]; push_cast; omega]
theorem addK_bk (zs : List Str) (z : Str) : addK (bkL 1 zs) z = bkL 1 (addZ zs z) := by
  unfold addZ
  by_cases h : z ∈ zs
  · rw [if_pos h, addK_some (by rw [bkL_val, if_pos h])]
  · have hv : valV (bkL 1 zs) (Sum.inr z : Key) = none := by rw [bkL_val, if_neg h]
    rw [if_neg h, addK_none hv, putK_new _ hv, bkL_app, bkL_len, Int.add_comm]
theorem putK_bk {zs : List Str} {z : Str} (nd : zs.Nodup) : putK (bkL 1 zs) (Sum.inr z : Key) (.int (1 + (posZ z (addZ zs z) : Nat))) = bkL 1 (addZ zs z) := by
  unfold addZ
  by_cases h : z ∈ zs
  · rw [if_pos h]
    unfold putK
    split
    · refine (List.map_congr_left fun kv hkv => ?_).trans (List.map_id _)
      obtain ⟨j, hj, e⟩ := List.getElem_of_mem hkv
      obtain ⟨y, h1, h2, h3⟩ := bkL_get (n := 1) (zs := zs) (j := j) (k := kv.1) (v := kv.2) (by rw [List.getElem?_eq_getElem hj, e])
      by_cases hk : kv.1 = Sum.inr z
      · rw [if_pos hk]
        have e2 : y = z := Sum.inr.inj (h2.symm.trans hk)
        rw [e2] at h1
        rw [posZ_uniq nd h1, ← h3] <;> rfl
      · rw [if_neg hk] <;> rfl
    · rename_i hn
      exact absurd (by rw [valV_any, bkL_val, if_pos h] <;> rfl) hn
  · rw [if_neg h, posZ_end h, putK_new _ (by rw [bkL_val, if_neg h]), bkL_app]
theorem addZ_nodup {zs : List Str} {z : Str} (nd : zs.Nodup) : (addZ zs z).Nodup := by
  unfold addZ
  by_cases h : z ∈ zs
  · rw [if_pos h]; exact nd
  · rw [if_neg h]
    exact List.nodup_append.mpr ⟨nd, by simp, fun a ha b hb => by
      have e : b = z := by simpa using hb
      exact fun q => h (by rw [← e, ← q]; exact ha)⟩
theorem addZ_mem (zs : List Str) (z : Str) : z ∈ addZ zs z := by
  unfold addZ
  by_cases h : z ∈ zs
  · rw [if_pos h]; exact h
  · rw [if_neg h]; simp
theorem addZ_len (zs : List Str) (z : Str) : (addZ zs z).length ≤ zs.length + 1 := by
  unfold addZ
  by_cases h : z ∈ zs
  · rw [if_pos h]; omega
  · rw [if_neg h]; simp
theorem addZ_old {zs : List Str} {z y : Str} {j : Nat} (h : zs[j]? = some y) : (addZ zs z)[j]? = some y := by
  unfold addZ
  by_cases h2 : z ∈ zs
  · rw [if_pos h2]; exact h
  · rw [if_neg h2, List.getElem?_append_left (List.getElem?_eq_some_iff.mp h).1]; exact h
/-- old texts: the one with that address is that text -/
theorem addZ_eq {zs : List Str} {z y : Str} {j : Nat} (nd : zs.Nodup) (h : zs[j]? = some y) : (y = z) ↔ ((1 : Int) + (j : Nat) = 1 + (posZ z (addZ zs z) : Nat)) := by
  have nd2 := addZ_nodup (z := z) nd
  have h2 := addZ_old (z := z) h
  constructor
  · intro e
    rw [e] at h2
    rw [posZ_uniq nd2 h2]
  · intro e
    have ej : posZ z (addZ zs z) = j := by omega
    have := posZ_at (addZ_mem zs z)
    rw [ej, h2] at this
    exact Option.some.inj this
theorem nums_bk (n : Int) (zs : List Str) : Nums (bkL n zs) := fun k v h => by
  cases k with
  | inr z =>
    rw [bkL_val] at h
    split at h
    · exact ⟨_, (Option.some.inj h).symm⟩
    · cases h
  | inl i =>
    exfalso
    have hn : valV (bkL n zs) (Sum.inl i : Key) = none := by
      clear h
      induction zs generalizing n with
      | nil => rfl
      | cons y r ih =>
        rw [bkL, valV_neg (p := (Sum.inr y, V.int n)) (k := Sum.inl i) (by intro q; cases q)]
        exact ih _
    rw [hn] at h
    cases h


/-! ### raising -/
theorem pmk_retN {X : Cx} {e : Expr} {te : TE} (hx : X.ex = []) (he : PE X e te) :
    L2N.PMk X e (fun σ H Q => te σ H fun x H1 => ∃ a cls, x = .ref a ∧ H1 a = some (ExO cls a) ∧ Fr0 X.H_0 a ∧ Raises X cls ∧ Q cls none (delH H1 a)) := fun pins s σ H Q I h =>
  wpAny_mono (L2.pmk_ret5 hx he pins s σ H Q I h) (fun _ _ z => z.1) fun _ _ x => x
theorem s_raiseV {X : Cx} {te : TE} {v : V} {σ : L2.St} {H H0 : Hp} {C : Addr} {E : XK} (h : Ev te σ H v) (hr : Raises X (.ref C)) (k : ∀ H1, Ex H H1 → Ex H0 H1 ∧ E (.ref C) none H1) :
    te σ H fun _ H1 => ∀ a, H1 a = none → ∃ a' cls, V.ref a = .ref a' ∧ upd H1 a (ExO (.ref C) a) a' = some (ExO cls a') ∧ Fr0 H0 a' ∧ Raises X cls ∧ E cls none (delH (upd H1 a (ExO (.ref C) a)) a') :=
  h H (Ex.refl H) _ fun H1 e1 a ha => ⟨a, _, rfl, upd_same, fr0_none (fresh_back (k H1 e1).1 ha), hr, by rw [delH_new ha]; exact (k H1 e1).2⟩


/-! ### only some things change -/
theorem _root_.L2.FnOk.calm {P : Program} {w : World} {K : PySem.W.Frag} {mg : Str → Option Value} {base : Heap} {k : Nat} {f : Addr} {fd : FuncData} {ps : List Str} {sp0 sp1 : Sp} (F1 : FnOk P w K mg base (L2N.CX P w) k f fd ps sp1) (i : ∀ vs H Q E, sp0 vs H Q E → sp1 vs H Q fun _ _ _ => False) : FnOk P w K mg base CX0 k f fd ps sp0 :=
  ⟨fun vs H Q E h => F1.len vs H Q _ (i _ _ _ _ h), fun A outer s H args us vs Q E hr e0 hb r h => codeAny_mono (F1.run A outer s H args us vs Q (fun _ _ _ => False) hr e0 hb r (i _ _ _ _ h)) fun res s' z => by
    cases res with
    | error e =>
      obtain ⟨a, B, H', cls, d, _, _, _, _, _, _, _, z⟩ := z
      exact z.elim
    | ok f => cases f <;> exact z⟩


section
variable {P : Program} {w : World} {K : PySem.W.Frag} {mg : Str → Option Value} {base : Heap}

theorem ok_MissingChunk___init (T : Txt K mg base P) : FnOk P w K mg base CX0 1 T.f_MissingChunk___init T.d_MissingChunk___init ["self", "address"] (spExI T.C_MissingChunk "address") := by
  obtain ⟨oc, od, kV, doc, pm, an, cc, cda, ct, osl, e, lk, hcd, S⟩ := T.F_MissingChunk___init.ex
  rw [e] at lk ⊢
  refine fn_sup lk hcd sc_MissingChunk___init (by obtain ⟨x1, x2, x3, x4⟩ := S.cell; exact ⟨x1, x2, _, x3, x4⟩) (fun vs H Q E h => ?_) (fun A outer s H vs Q E hr h => ?_)
  · obtain ⟨a, n, rfl, _⟩ := h
    rfl
  · obtain ⟨a, n, rfl, ha, hb, q⟩ := h
    refine ⟨_, pssa_sup S T.e_MissingChunk.o rfl rfl (one_look.mpr ⟨rfl, rfl⟩) rfl rfl T.m_super rfl rfl T.F_MissingChunk___init.top (pa_cons (pe_joined (.cons (pe_str) (.cons (pe_fmt (pv 1)) (.cons (pe_str) (.nil))))) pa_nil) (pss_one (ps_ost (pv 0) (pv 1) rfl)), ?_⟩
    have hnl := int_text_length_le (k := 1920) (by decide) hb
    refine ⟨a, rfl, ha, ?_⟩
    refine t_joined (ys := [Str.ofString "the chunk ", Str.ofString (toString n), Str.ofString " is not held"]) (.cons ev_c (.cons (ev_fmtI (i := n) (ev_var rfl) hb) (.cons ev_c (.nil)))) (by simp only [List.map_cons, List.map_nil, List.sum_cons, List.sum_nil]; rw [PySem.ofString_length (toString n)]; rw [show (Str.ofString "the chunk ").length = 10 from by decide +kernel]; rw [show (Str.ofString " is not held").length = 12 from by decide +kernel]; omega) fun H1 e1 => ⟨by show 1 ≤ 1000; decide, e1 _ _ ha, ?_⟩
    exact ⟨_, rfl, _, rfl, a, T.C_MissingChunk, rfl, T.e_MissingChunk.o, T.na_MissingChunk_address, .inl ⟨e1 _ _ ha, fun dx h1 h2 => q H1 e1 dx h1 h2⟩⟩

/-! ### Book.__init__ -/
def spBkI (C : Addr) : Sp := fun vs H Q _ => ∃ (p dx : Addr), vs = [.ref p] ∧ H p = some (.ins C dx []) ∧ ∀ (d : Addr) (H' : Hp), H d = none → d ≠ p → H' p = some (.ins C dx (aF d)) → H' d = some (.dK []) → (∀ b o, H b = some o → b ≠ p → H' b = some o) → Q .non H'
theorem ok_Book___init (T : Txt K mg base P) : FnOk P w K mg base CX0 1 T.f_Book___init T.d_Book___init ["self"] (spBkI T.C_Book) := by
  refine T.F_Book___init.ok sc_Book___init (fun vs H Q E h => ?_) (fun cdv A outer s H vs Q E hr h => ?_)
  · obtain ⟨p, dx, rfl, _⟩ := h
    rfl
  · obtain ⟨p, dx, rfl, hp, q⟩ := h
    refine ⟨_, pss_one (ps_fld (pv 0) (pe_dnewK) rfl), ?_⟩
    intro d hd
    have npd : p ≠ d := ne_of_none hp hd
    refine ⟨_, rfl, p, T.C_Book, dx, [], rfl, (by rw [upd_ne npd]; exact hp), T.cl_Book, T.na_Book__addresses, (by show 0 < 1000; decide), ?_⟩
    refine q d _ hd npd.symm upd_same (by rw [upd_ne npd.symm, upd_same]) fun b o e hb => ?_
    rw [upd_ne hb, upd_ne (ne_of_none e hd)]
    exact e


/-! ### Chunks.__init__ -/
def spCkI (C : Addr) : Sp := fun vs H Q _ => ∃ (p dx b : Addr), vs = [.ref p, .ref b] ∧ H p = some (.ins C dx []) ∧ ∀ (t : Addr) (H' : Hp), H t = none → t ≠ p → CkAt C H' p b t 0 [] → But [p] H H' → Q .non H'
theorem ok_Chunks___init (T : Txt K mg base P) : FnOk P w K mg base CX0 1 T.f_Chunks___init T.d_Chunks___init ["self", "book"] (spCkI T.C_Chunks) := by
  refine T.F_Chunks___init.ok sc_Chunks___init (fun vs H Q E h => ?_) (fun cdv A outer s H vs Q E hr h => ?_)
  · obtain ⟨p, dx, b, rfl, _⟩ := h
    rfl
  · obtain ⟨p, dx, b, rfl, hp, q⟩ := h
    refine ⟨_, pss_cons (ps_fld (pv 0) (pv 1) rfl)
      (pss_cons (ps_fld (pv 0) (pe_int) rfl)
      (pss_one (ps_fld (pv 0) (pe_dnewK) rfl))), ?_⟩
    refine ⟨_, rfl, _, rfl, p, T.C_Chunks, dx, [], rfl, hp, T.cl_Chunks, T.na_Chunks_book, (by show 0 < 1000; decide), ?_⟩
    refine ⟨_, rfl, p, T.C_Chunks, dx, _, rfl, upd_same, T.cl_Chunks, T.na_Chunks_reads, (by show 1 < 1000; decide), ?_⟩
    intro t ht
    have h0 : H t = none := by
      cases e : H t with
      | none => rfl
      | some o =>
        by_cases hx : t = p
        · rw [hx, upd_same] at ht; cases ht
        · rw [upd_ne hx, upd_ne hx, e] at ht; cases ht
    have npt : p ≠ t := ne_of_none hp h0
    refine ⟨_, rfl, p, T.C_Chunks, dx, _, rfl, (by rw [upd_ne npt]; exact upd_same), T.cl_Chunks, T.na_Chunks__texts, (by rw [cF_put0, cF_put1]; show 2 < 1000; decide), ?_⟩
    refine q t _ h0 npt.symm ⟨⟨dx, ?_⟩, ?_⟩ fun c o e n => ?_
    · rw [upd_same, cF_put0, cF_put1, cF_put2]
    · rw [upd_ne npt.symm, upd_same]
    · have hc : c ≠ p := fun z => n (by rw [z]; exact List.mem_singleton.mpr rfl)
      rw [upd_ne hc, upd_ne (ne_of_none e h0), upd_ne hc, upd_ne hc]
      exact e


/-! ### Chunks.drop -/
def spCkD (C : Addr) : Sp := fun vs H Q _ => ∃ (p b t : Addr) (r n : Int) (kvs : List (Key × V)), vs = [.ref p, .int n] ∧ CkAt C H p b t r kvs ∧ ∀ H', H' t = some (.dK (dropK kvs (Sum.inl n : Key))) → But [t] H H' → Q .non H'
theorem ok_Chunks_drop (T : Txt K mg base P) : FnOk P w K mg base CX0 1 T.f_Chunks_drop T.d_Chunks_drop ["self", "address"] (spCkD T.C_Chunks) := by
  refine T.F_Chunks_drop.ok sc_Chunks_drop (fun vs H Q E h => ?_) (fun cdv A outer s H vs Q E hr h => ?_)
  · obtain ⟨p, b, t, r, n, kvs, rfl, _⟩ := h
    rfl
  · obtain ⟨p, b, t, r, n, kvs, rfl, ⟨⟨dx, hp⟩, ht⟩, q⟩ := h
    have hu := hu_of hr
    refine ⟨_, pss_one (ps_expr (pe_dpop2 (pe_fld (pv 0) rfl) (pv 1) (pe_non) ⟨rfl, rfl, rfl, rfl⟩)), ?_⟩
    refine ⟨_, rfl, p, T.C_Chunks, dx, _, _, rfl, hp, T.cl_Chunks, T.na_Chunks__texts, cF_texts b r t, t, rfl, .inl ⟨kvs, .inl ht⟩, _, rfl, kvs, Sum.inl n, ht, rfl, fun v hv => ?_, fun hv => ?_⟩
    · exact q _ upd_same (But.put (List.mem_singleton.mpr rfl))
    · exact q _ (by rw [dropK_none hv]; exact ht) But.refl


/-! ### _law_cell -/
def cellZ (ns : List Int) (k : Nat) : Int := ns.getD k 0
def sp_cell (K : PySem.W.Frag) : Sp := fun vs H Q _ => ∃ (a : Addr) (ns : List Int) (k : Nat), vs = [.ref a, .int (k : Int)] ∧ SqL K H a (ns.map V.int) ∧ ∀ H', Ex H H' → Q (.int (cellZ ns k)) H'
theorem ok_law_cell (T : Txt K mg base P) : FnOk P w K mg base CX0 1 T.f_law_cell T.d_law_cell ["script", "k"] (sp_cell K) := by
  refine T.F_law_cell.ok sc_law_cell (fun vs H Q E h => ?_) (fun cdv A outer s H vs Q E hr h => ?_)
  · obtain ⟨a, ns, k, rfl, _⟩ := h
    rfl
  · obtain ⟨a, ns, k, rfl, hS, q⟩ := h
    refine ⟨_, pss_cons (ps_if (pt_cmpR op_lt (pv 1) (pe_callB (r := rLenQ K) call_len_seq (by rfl) T.m_len (by decide +kernel) (pa_cons (pv 0) (pa_nil))) (nomark _))
      (pss_one (ps_ret (pe_ix (r := rIxL K) ix_list (pv 0) (pv 1) (fun _ _ => rfl))))
      (pss_nil))
      (pss_one (ps_ret (pe_int))), ?_⟩
    refine q_when (b := decide ((k : Int) < ((ns.map V.int).length : Int))) (et_test (ev_bin0 (ev_var rfl) (ev_lenQ (K := K) (ev_var rfl) hS))) (fun hb H1 e1 => ?_) (fun hb H1 e1 => ?_)
    · have hk : k < ns.length := by
        have := of_decide_eq_true hb
        rw [List.length_map] at this
        omega
      refine s_ret (ev_ixL (K := K) (ev_var rfl) (ev_var rfl) (ex_l e1 hS) (at_nat (v := .int (cellZ ns k)) ?_)) fun H2 e2 => q H2 (e1.trans e2)
      rw [List.getElem?_map, List.getElem?_eq_getElem hk]
      unfold cellZ
      rw [List.getD_eq_getElem?_getD, List.getElem?_eq_getElem hk] <;> rfl
    · have hk : ¬ k < ns.length := by
        have := of_decide_eq_false hb
        rw [List.length_map] at this
        omega
      have e0 : cellZ ns k = 0 := by
        unfold cellZ
        rw [List.getD_eq_getElem?_getD, List.getElem?_eq_none (by omega)] <;> rfl
      refine s_ret ev_c fun H2 e2 => ?_
      rw [e0] at q
      exact q H2 (e1.trans e2)
theorem cv_cell {a : Addr} {ns : List Int} {k : Nat} {H : Hp} (h : SqL K H a (ns.map V.int)) : SpV (sp_cell K) [.ref a, .int (k : Int)] H (.int (cellZ ns k)) := fun H1 e Q q E => ⟨a, ns, k, rfl, ex_l e h, fun H2 e2 => q H2 e2⟩
theorem Wd.cell {ns : List Int} (h : ∀ n ∈ ns, Wd n) (k : Nat) : Wd (cellZ ns k) := by
  unfold cellZ
  rw [List.getD_eq_getElem?_getD]
  cases e : ns[k]? with
  | none => exact Wd.lit (by decide)
  | some x => exact h x (List.mem_of_getElem? e)


/-! ### sums of the script's ints and small ones -/
theorem nat_log {n m : Nat} (h : n < 2 ^ m) (hm : 0 < m) : n.log2 < m := by
  by_cases e : n = 0
  · subst e
    exact Nat.lt_of_le_of_lt (Nat.le_of_eq (by decide)) hm
  · exact (Nat.log2_lt e).mpr h
theorem bits_lt {n : Int} {b : Nat} (h : Builtin.Int.intBits n ≤ b) : n.natAbs < 2 ^ b := by
  unfold Builtin.Int.intBits at h
  by_cases e : n = 0
  · subst e
    exact Nat.pow_pos (by decide)
  · rw [if_neg (by simpa using e)] at h
    have e2 : n.natAbs ≠ 0 := by omega
    exact (Nat.log2_lt e2).mp (by omega)
theorem add_lt {n k : Int} {m : Nat} (hn : n.natAbs < 2 ^ m) (hk : k.natAbs < 2 ^ m) : (n + k).natAbs < 2 ^ (m + 1) := by
  rw [Nat.pow_succ]
  omega
theorem small_lt {k : Int} {m : Nat} (h : k.natAbs < 1000000) (hm : 20 ≤ m) : k.natAbs < 2 ^ m := Nat.lt_of_lt_of_le (Nat.lt_trans h (by decide : 1000000 < 2 ^ 20)) (Nat.pow_le_pow_right (by decide) hm)
theorem Wd.of_lt {n : Int} {m : Nat} (h : n.natAbs < 2 ^ m) (hm : 0 < m) (hl : m ≤ 1100000) : Wd n := ⟨Nat.lt_of_lt_of_le (nat_log h hm) hl⟩
theorem cell_lt {ns : List Int} {b : Nat} (h : ∀ z ∈ ns, Builtin.Int.intBits z ≤ b) (k : Nat) : (cellZ ns k).natAbs < 2 ^ b := by
  unfold cellZ
  rw [List.getD_eq_getElem?_getD]
  cases e : ns[k]? with
  | none => exact Nat.pow_pos (by decide)
  | some x => exact bits_lt (h x (List.mem_of_getElem? e))
theorem Wd.cellAdd {ns : List Int} {b : Nat} (h : ∀ z ∈ ns, Builtin.Int.intBits z ≤ b) (k : Nat) {i : Int} (hi : i.natAbs < 1000000) (hb : 20 ≤ b) (hb2 : b ≤ 1099999) : Wd (cellZ ns k + i) := Wd.of_lt (add_lt (cell_lt h k) (small_lt hi hb)) (by omega) (by omega)
theorem Wd.cellDivAdd {ns : List Int} {b : Nat} (h : ∀ z ∈ ns, Builtin.Int.intBits z ≤ b) (k : Nat) {i d : Int} (hi : i.natAbs < 1000000) (hb : 20 ≤ b) (hb2 : b ≤ 1099999) : Wd (cellZ ns k / d + i) := Wd.of_lt (add_lt (Nat.lt_of_le_of_lt (Int.natAbs_ediv_le_natAbs _ _) (cell_lt h k)) (small_lt hi hb)) (by omega) (by omega)
theorem cutV_map (ns : List Int) (lo hi : Option Int) : ∃ ms : List Int, cutV (ns.map V.int) lo hi = ms.map V.int ∧ ms.length ≤ ns.length ∧ ∀ m ∈ ms, m ∈ ns := by
  unfold cutV
  rw [← List.map_drop, ← List.map_take]
  refine ⟨_, rfl, ?_, fun m hm => List.mem_of_mem_drop (List.mem_of_mem_take hm)⟩
  rw [List.length_take, List.length_drop]
  omega


/-! ### _law_numbers -/
/-- count ints from 0 to 999 -/
def spNumbers : Sp := fun vs H Q _ => ∃ (cell : Int) (count : Nat), vs = [.int cell, .int (count : Int)] ∧ Wd cell ∧ count ≤ 1000 ∧ ∀ p (ns : List Int) H', H p = none → Ex H H' → H' p = some (.lst (ns.map V.int)) → ns.length = count → (∀ n ∈ ns, 0 ≤ n ∧ n < 1000) → Q (.ref p) H'
theorem ok_law_numbers (T : Txt K mg base P) : FnOk P w K mg base CX0 1 T.f_law_numbers T.d_law_numbers ["cell", "count"] spNumbers := by
  refine T.F_law_numbers.ok sc_law_numbers (fun vs H Q E h => ?_) (fun cdv A outer s H vs Q E hr h => ?_)
  · obtain ⟨c, n, rfl, _⟩ := h
    rfl
  · obtain ⟨c, n, rfl, hW, hn, q⟩ := h
    refine ⟨_, pss_cons (ps_set (i := 2) sc_law_numbers.nd rfl (by first | exact Or.inl rfl | exact Or.inr rfl) (pe_lst (pa_nil)))
      (pss_cons (ps_if (pt_cmpR op_ge (pv 0) (pe_op op_pow (pe_int) (pe_int)) (nomark _))
      (pss_cons (ps_for PassesOwn.never rfl (pi_range1 (by rfl) T.m_range (pa_cons (pv 1) (pa_nil))) (pg_name (i := 3) sc_law_numbers.nd rfl (by first | exact Or.inl rfl | exact Or.inr rfl))
      (pss_cons (ps_expr (pe_bm PySem.F.plainAttrs_list PySem.F.slot_list_append PySem.F.type_list_append mt_append (pv 2) (pa_cons (pe_op op_mod (pe_callTy call_int1 (by rfl) T.m_int (by decide +kernel) (pa_cons (pv 0) (pa_nil))) (pe_int)) (pa_nil))))
      (pss_one (ps_set (i := 0) sc_law_numbers.nd rfl (by first | exact Or.inl rfl | exact Or.inr rfl) (pe_op op_fdivW (pv 0) (pe_int))))))
      (pss_one (ps_ret (pv 2))))
      (pss_nil))
      (pss_cons (ps_set (i := 4) sc_law_numbers.nd rfl (by first | exact Or.inl rfl | exact Or.inr rfl) (pe_op op_mod (pe_callTy call_int1 (by rfl) T.m_int (by decide +kernel) (pa_cons (pv 0) (pa_nil))) (pe_int)))
      (pss_cons (ps_for PassesOwn.never rfl (pi_range1 (by rfl) T.m_range (pa_cons (pv 1) (pa_nil))) (pg_name (i := 3) sc_law_numbers.nd rfl (by first | exact Or.inl rfl | exact Or.inr rfl))
      (pss_cons (ps_set (i := 4) sc_law_numbers.nd rfl (by first | exact Or.inl rfl | exact Or.inr rfl) (pe_op op_mod (pe_callTy call_int1 (by rfl) T.m_int (by decide +kernel) (pa_cons (pe_op op_add (pe_op op_mulX (pv 4) (pe_int)) (pe_op op_mulX (pe_int) (pe_op op_add (pv 3) (pe_int)))) (pa_nil))) (pe_int)))
      (pss_one (ps_expr (pe_bm PySem.F.plainAttrs_list PySem.F.slot_list_append PySem.F.type_list_append mt_append (pv 2) (pa_cons (pe_op op_mod (pe_op op_fdivW (pv 4) (pe_int)) (pe_int)) (pa_nil)))))))
      (pss_one (ps_ret (pv 2)))))), ?_⟩
    refine q_asgL (el_lst ea_nil (by decide)) fun p H1 hp e1 h1 => ?_
    have fin : ∀ {ns : List Int} {H' : Hp}, Ex H H' → H' p = some (.lst (ns.map V.int)) → ns.length = n → (∀ n ∈ ns, 0 ≤ n ∧ n < 1000) → Q (.ref p) H' := fun e h1 h2 h3 => q p _ _ hp e h1 h2 h3
    have add : ∀ {ns : List Int} {x : Int}, (∀ n ∈ ns, 0 ≤ n ∧ n < 1000) → (0 ≤ x ∧ x < 1000) → ∀ n ∈ ns ++ [x], 0 ≤ n ∧ n < 1000 := fun h hx y hy => by
      rcases List.mem_append.mp hy with z | z
      · exact h y z
      · rw [List.mem_singleton.mp z]
        exact hx
    refine q_when (b := decide (10 ^ 18 ≤ c)) (et_test (ev_bin0 (j := 10 ^ 18) (ev_var rfl) (ev_is (ev_bin ev_c ev_c ⟨by decide, by decide, by decide⟩) (by decide)))) (fun hb H2 e2 => ?_) (fun hb H2 e2 => ?_)
    · refine q_forR1 (n := (n : Int)) (ea_cons (ev_var rfl) ea_nil) (by omega) (fun i σ' H' => ∃ (c' : Int) (ns : List Int) (x3 x4 : Option V), σ' = [some (.int c'), some (.int (n : Int)), some (.ref p), x3, x4] ∧ Wd c' ∧ Ex H H' ∧ H' p = some (.lst (ns.map V.int)) ∧ ns.length = i ∧ ∀ n ∈ ns, 0 ≤ n ∧ n < 1000)
        (fun H3 e3 => ⟨c, [], none, none, rfl, hW, (e1.trans e2).trans e3, (e2.trans e3) p _ h1, rfl, fun n hn => nomatch hn⟩) (fun i σ' H' hi hP => ?_) (fun σ' H' hP => ?_)
      · obtain ⟨c', ns, x3, x4, rfl, hW', eH, hl, hlen, hr⟩ := hP
        refine q_app (K := K) hl (ev_var rfl) (ev_bin (ev_intI (ev_var rfl)) ev_c (by decide)) (by rw [List.length_map]; omega) fun H3 e3 => ?_
        refine s_asg (ev_bin (ev_var rfl) ev_c ⟨by decide, by decide⟩) fun H4 e4 => ⟨c' / 1000, ns ++ [c' % 1000], _, _, rfl, Wd.div hW', ((eH.trans e3).mut hp).trans e4, ?_, by rw [List.length_append, hlen] <;> rfl, add hr ⟨by omega, by omega⟩⟩
        rw [e4 p _ upd_same, List.map_append] <;> rfl
      · obtain ⟨c', ns, x3, x4, rfl, hW', eH, hl, hlen, hr⟩ := hP
        exact s_ret (ev_var rfl) fun H3 e3 => fin (eH.trans e3) (e3 p _ hl) (by omega) hr
    · refine q_asg (ev_bin (ev_intI (ev_var rfl)) ev_c (by decide)) fun H3 e3 => ?_
      refine q_forR1 (n := (n : Int)) (ea_cons (ev_var rfl) ea_nil) (by omega) (fun i σ' H' => ∃ (m : Int) (ns : List Int) (x3 : Option V), σ' = [some (.int c), some (.int (n : Int)), some (.ref p), x3, some (.int m)] ∧ (0 ≤ m ∧ m < 2147483647) ∧ Ex H H' ∧ H' p = some (.lst (ns.map V.int)) ∧ ns.length = i ∧ ∀ n ∈ ns, 0 ≤ n ∧ n < 1000)
        (fun H4 e4 => ⟨c % 2147483647, [], none, rfl, by omega, ((e1.trans e2).trans e3).trans e4, ((e2.trans e3).trans e4) p _ h1, rfl, fun n hn => nomatch hn⟩) (fun i σ' H' hi hP => ?_) (fun σ' H' hP => ?_)
      · obtain ⟨m, ns, x3, rfl, hm, eH, hl, hlen, hr⟩ := hP
        have hi2 : i < 1000 := by omega
        refine q_asg (ev_bin (ev_intI (ev_bin0 (ev_bin (ev_var rfl) ev_c (Wd.mul (Wd.small (by omega) (by omega)) (Wd.lit (by decide)))) (ev_bin ev_c (ev_bin0 (ev_var rfl) ev_c) (Wd.mul (Wd.lit (by decide)) (Wd.small (by omega) (by omega)))))) ev_c (by decide)) fun H4 e4 => ?_
        generalize hm2 : (m * 48271 + 69621 * ((i : Int) + 1)) % 2147483647 = m2
        refine s_app (K := K) (e4 p _ hl) (ev_var rfl) (ev_bin (ev_bin (ev_var rfl) ev_c ⟨by decide, by decide⟩) ev_c (by decide)) (by rw [List.length_map]; omega) fun H5 e5 => ⟨m2, ns ++ [m2 / 7 % 1000], _, rfl, by omega, ((eH.trans e4).trans e5).mut hp, ?_, by rw [List.length_append, hlen] <;> rfl, add hr ⟨by omega, by omega⟩⟩
        rw [upd_same, List.map_append] <;> rfl
      · obtain ⟨m, ns, x3, rfl, hm, eH, hl, hlen, hr⟩ := hP
        exact s_ret (ev_var rfl) fun H4 e4 => fin (eH.trans e4) (e4 p _ hl) (by omega) hr


/-! ### Book.address -/
def spBkA (C : Addr) : Sp := fun vs H Q _ => ∃ (p d : Addr) (kvs : List (Key × V)) (z : Str), vs = [.ref p, .str z] ∧ BkAt C H p d kvs ∧ kvs.length ≤ 900 ∧ ∀ v H', valV (addK kvs z) (Sum.inr z : Key) = some v → H' d = some (.dK (addK kvs z)) → (∀ b o, H b = some o → b ≠ d → H' b = some o) → Q v H'
theorem ok_Book_address (T : Txt K mg base P) : FnOk P w K mg base CX0 1 T.f_Book_address T.d_Book_address ["self", "text"] (spBkA T.C_Book) := by
  refine T.F_Book_address.ok sc_Book_address (fun vs H Q E h => ?_) (fun cdv A outer s H vs Q E hr h => ?_)
  · obtain ⟨p, d, kvs, z, rfl, _⟩ := h
    rfl
  · obtain ⟨p, d, kvs, z, rfl, ⟨⟨dx, hp⟩, hd⟩, hl, q⟩ := h
    have hu := hu_of hr
    have npd : p ≠ d := ne_of hp hd (by intro z; cases z)
    refine ⟨_, pss_cons (ps_if (pt_cmp (pc_dnotin hu (pv 1) (pe_fld (pv 0) rfl)))
      (pss_one (ps_dput hu (pe_fld (pv 0) rfl) (pv 1) (pe_op op_add (pe_callB call_lenD (by rfl) T.m_len (by decide +kernel) (pa_cons (pe_fld (pv 0) rfl) (pa_nil))) (pe_int)) rfl))
      (pss_nil))
      (pss_one (ps_ret (pe_dget hu (pe_fld (pv 0) rfl) (pv 1) (fun _ _ => rfl)))), ?_⟩
    refine ⟨_, rfl, _, rfl, p, T.C_Book, dx, _, _, rfl, hp, T.cl_Book, T.na_Book__addresses, aF_get d, d, _, rfl, DGet.k (k := Sum.inr z) hd, ?_⟩
    cases e : valV kvs (Sum.inr z : Key) with
    | some v =>
      refine ⟨_, rfl, ?_⟩
      refine iteF ?_
      have ea := addK_some e
      refine ⟨_, rfl, p, T.C_Book, dx, _, _, rfl, hp, T.cl_Book, T.na_Book__addresses, aF_get d, _, rfl, d, v, rfl, ?_, ?_⟩
      · rw [← e]
        exact DGet.k (k := Sum.inr z) hd
      · exact q v H (by rw [ea]; exact e) (by rw [ea]; exact hd) fun b o h _ => h
    | none =>
      refine ⟨_, rfl, ?_⟩
      refine iteT ?_
      have ea := addK_none e
      refine ⟨_, rfl, p, T.C_Book, dx, _, _, rfl, hp, T.cl_Book, T.na_Book__addresses, aF_get d, d, kvs, rfl, hd, _, _, rfl, rfl, ?_⟩
      refine ⟨_, rfl, p, T.C_Book, dx, _, _, rfl, hp, T.cl_Book, T.na_Book__addresses, aF_get d, _, rfl, d, _, rfl, DPut.k (k := Sum.inr z) hd (szk (by omega)), ?_⟩
      have hp' : (upd H d (.dK (putK kvs (Sum.inr z : Key) (.int ((kvs.length : Int) + 1))))) p = some (.ins T.C_Book dx (aF d)) := by rw [upd_ne npd]; exact hp
      refine ⟨_, rfl, p, T.C_Book, dx, _, _, rfl, hp', T.cl_Book, T.na_Book__addresses, aF_get d, _, rfl, d, .int ((kvs.length : Int) + 1), rfl, ?_, ?_⟩
      · have := DGet.k (k := Sum.inr z) (upd_same (H := H) (a := d) (o := .dK (putK kvs (Sum.inr z : Key) (.int ((kvs.length : Int) + 1)))))
        rw [valV_put, if_pos rfl] at this
        exact this
      · exact q _ _ (by rw [ea, valV_put, if_pos rfl]) (by rw [ea]; exact upd_same) fun b o h hb => by rw [upd_ne hb]; exact h


/-! ### Chunks.put -/
def spCkP (C CB : Addr) : Sp := fun vs H Q _ => ∃ (p b t d : Addr) (r : Int) (kvs ks : List (Key × V)) (z : Str), vs = [.ref p, .str z] ∧ CkAt C H p b t r kvs ∧ BkAt CB H b d ks ∧ Nums ks ∧ d ≠ t ∧ ks.length ≤ 900 ∧ kvs.length ≤ 900 ∧
  ∀ (n : Int) H', valV (addK ks z) (Sum.inr z : Key) = some (.int n) → H' d = some (.dK (addK ks z)) → H' t = some (.dK (putK kvs (Sum.inl n : Key) (.str z))) → But [d, t] H H' → Q (.int n) H'
theorem ok_Chunks_put (T : Txt K mg base P) : FnOk P w K mg base CX0 2 T.f_Chunks_put T.d_Chunks_put ["self", "text"] (spCkP T.C_Chunks T.C_Book) := by
  refine T.F_Chunks_put.ok sc_Chunks_put (fun vs H Q E h => ?_) (fun cdv A outer s H vs Q E hr h => ?_)
  · obtain ⟨p, b, t, d, r, kvs, ks, z, rfl, _⟩ := h
    rfl
  · obtain ⟨p, b, t, d, r, kvs, ks, z, rfl, ⟨⟨dx, hp⟩, ht⟩, ⟨⟨bx, hb⟩, hd⟩, hn, ndt, hl, hl2, q⟩ := h
    have hu := hu_of hr
    have npd : p ≠ d := ne_of hp hd (by intro z; cases z)
    have npt : p ≠ t := ne_of hp ht (by intro z; cases z)
    refine ⟨_, pss_cons (ps_set (i := 2) sc_Chunks_put.nd rfl (by first | exact Or.inl rfl | exact Or.inr rfl) (pe_meth (pe_fld (pv 0) rfl) T.cl_Book T.me_Book_address (ok_Book_address T) (hr.mono (by first | decide | omega)) T.b_Book_address .nil pass0 (pa_cons (pv 1) (pa_nil))))
      (pss_cons (ps_dput hu (pe_fld (pv 0) rfl) (pv 2) (pv 1) rfl)
      (pss_one (ps_ret (pv 2)))), ?_⟩
    refine ⟨_, rfl, p, T.C_Chunks, dx, _, _, rfl, hp, T.cl_Chunks, T.na_Chunks_book, cF_book b r t, ?_⟩
    refine ⟨b, bx, _, rfl, hb, aF_no _ (by decide +kernel), _, rfl, b, d, ks, z, rfl, ⟨⟨bx, hb⟩, hd⟩, hl, fun v H1 hv hd1 f1 => ?_⟩
    obtain ⟨n, hn2⟩ := addK_val hn z
    obtain rfl : v = .int n := Option.some.inj (hv.symm.trans hn2)
    have hp1 := f1 _ _ hp npd
    have ht1 := f1 _ _ ht ndt.symm
    refine ⟨_, rfl, _, rfl, p, T.C_Chunks, dx, _, _, rfl, hp1, T.cl_Chunks, T.na_Chunks__texts, cF_texts b r t, _, rfl, t, _, rfl, DPut.k (k := Sum.inl n) ht1 (szk (by omega)), ?_⟩
    refine ⟨_, rfl, q n _ hv (by rw [upd_ne ndt]; exact hd1) upd_same fun c o e nc => ?_⟩
    have c1 : c ≠ d := fun z => nc (by rw [z]; exact List.mem_cons_self)
    have c2 : c ≠ t := fun z => nc (by rw [z]; exact List.mem_cons_of_mem _ List.mem_cons_self)
    rw [upd_ne c2]
    exact f1 _ _ e c1


/-! ### encode -/
theorem ok_encode_at (T : Txt K mg base P) : ∀ n : Nat, FnOk P w K mg base CX0 (n + 1) T.f_encode T.d_encode ["item"] (spEnc K n)
  | 0 => by
    refine T.F_encode.ok sc_encode (fun vs H Q E h => ?_) (fun cdv A outer s H vs Q E hr h => ?_)
    · obtain ⟨v, d, rfl, _⟩ := h
      rfl
    · obtain ⟨v, d, rfl, hD, hf, hz, q⟩ := h
      refine ⟨_, pss_cons (ps_if (pt_cmpR op_isN (pv 0) (pe_non) (nomark _))
      (pss_one (ps_ret (pe_str)))
      (pss_nil))
      (pss_cons (ps_if (pt_val (pe_callB (r := rIsi K) call_isi (by rfl) T.m_isinstance (by decide +kernel) (pa_cons (pv 0) (pa_cons (pe_bltn (v := .ty "int") (by rfl) T.m_int (by decide +kernel) rfl) (pa_nil)))))
      (pss_one (ps_ret (pe_joined (.cons (pe_str) (.cons (pe_fmt (pv 0)) (.cons (pe_str) (.nil)))))))
      (pss_nil))
      (pss_cons (ps_if (pt_val (pe_callB (r := rIsi K) call_isi (by rfl) T.m_isinstance (by decide +kernel) (pa_cons (pv 0) (pa_cons (pe_bltn (v := .ty "str") (by rfl) T.m_str (by decide +kernel) rfl) (pa_nil)))))
      (pss_one (ps_ret (pe_joined (.cons (pe_str) (.cons (pe_fmt (pe_callB call_len_str (by rfl) T.m_len (by decide +kernel) (pa_cons (pv 0) (pa_nil)))) (.cons (pe_str) (.cons (pe_fmt (pv 0)) (.nil))))))))
      (pss_nil))
      (pss_one (ps_never)))), ?_⟩
      cases hD with
      | tup hS r => exact hf.elim
      | non => exact q_when (b := true) (et_test (ev_isNt (ev_var rfl))) (fun _ H1 e1 => s_ret ev_c fun H2 e2 => q H2 (e1.trans e2)) (fun z => nomatch z)
      | int i =>
        refine q_when (b := false) (et_test (ev_isNf (ev_var rfl))) (fun z => nomatch z) fun _ H1 e1 => ?_
        refine q_when (b := true) (et_B (ev_isi (K := K) (a := "int") (ev_var rfl) (fun _ _ => .base (.int i)) (by decide +kernel))) (fun _ H2 e2 => ?_) (fun z => nomatch z)
        exact enc_int hf hz fun H3 e3 => q H3 ((e1.trans e2).trans e3)
      | str z =>
        refine q_when (b := false) (et_test (ev_isNf (ev_var rfl))) (fun z => nomatch z) fun _ H1 e1 => ?_
        refine q_when (b := false) (et_B (ev_isi (K := K) (a := "str") (ev_var rfl) (fun _ _ => .base (.str z)) (by decide +kernel))) (fun z => nomatch z) fun _ H2 e2 => ?_
        refine q_when (b := true) (et_B (ev_isi (K := K) (a := "str") (ev_var rfl) (fun _ _ => .base (.str z)) (by decide +kernel))) (fun _ H3 e3 => ?_) (fun z => nomatch z)
        exact enc_str hf hz fun H4 e4 => q H4 (((e1.trans e2).trans e3).trans e4)
  | n + 1 => by
    have IH := ok_encode_at T n
    refine T.F_encode.ok sc_encode (fun vs H Q E h => ?_) (fun cdv A outer s H vs Q E hr h => ?_)
    · obtain ⟨v, d, rfl, _⟩ := h
      rfl
    · obtain ⟨v, d, rfl, hD, hf, hz, q⟩ := h
      refine ⟨_, pss_cons (ps_if (pt_cmpR op_isN (pv 0) (pe_non) (nomark _))
      (pss_one (ps_ret (pe_str)))
      (pss_nil))
      (pss_cons (ps_if (pt_val (pe_callB (r := rIsi K) call_isi (by rfl) T.m_isinstance (by decide +kernel) (pa_cons (pv 0) (pa_cons (pe_bltn (v := .ty "int") (by rfl) T.m_int (by decide +kernel) rfl) (pa_nil)))))
      (pss_one (ps_ret (pe_joined (.cons (pe_str) (.cons (pe_fmt (pv 0)) (.cons (pe_str) (.nil)))))))
      (pss_nil))
      (pss_cons (ps_if (pt_val (pe_callB (r := rIsi K) call_isi (by rfl) T.m_isinstance (by decide +kernel) (pa_cons (pv 0) (pa_cons (pe_bltn (v := .ty "str") (by rfl) T.m_str (by decide +kernel) rfl) (pa_nil)))))
      (pss_one (ps_ret (pe_joined (.cons (pe_str) (.cons (pe_fmt (pe_callB call_len_str (by rfl) T.m_len (by decide +kernel) (pa_cons (pv 0) (pa_nil)))) (.cons (pe_str) (.cons (pe_fmt (pv 0)) (.nil))))))))
      (pss_nil))
      (pss_one (ps_ret (pe_op op_add_str (pe_op op_add_str (pe_str) (pe_join (pe_str) (pe_lc (own := [("part", 1)]) (g := gName 1) (tt := tYes) rfl sc_encode.nd (pi_tup (pv 0)) (blkOk_by (N := ["item", "part"]) (sc := defScope s_encode) (by decide +kernel)) (fun _ _ _ _ _ => pg_name (i := 1) sc_encode.nd rfl (Or.inl rfl)) (fun _ _ _ _ _ => pts_nil) (fun _ _ _ _ _ => pe_call IH (hr.mono (by omega)) (by rfl) T.g_encode T.F_encode.kp T.b_encode .nil pass0 (pa_cons (pv 1) (pa_nil)))))) (pe_str)))))), ?_⟩
      cases hD with
      | non => exact q_when (b := true) (et_test (ev_isNt (ev_var rfl))) (fun _ H1 e1 => s_ret ev_c fun H2 e2 => q H2 (e1.trans e2)) (fun z => nomatch z)
      | int i =>
        refine q_when (b := false) (et_test (ev_isNf (ev_var rfl))) (fun z => nomatch z) fun _ H1 e1 => ?_
        refine q_when (b := true) (et_B (ev_isi (K := K) (a := "int") (ev_var rfl) (fun _ _ => .base (.int i)) (by decide +kernel))) (fun _ H2 e2 => ?_) (fun z => nomatch z)
        exact enc_int hf hz fun H3 e3 => q H3 ((e1.trans e2).trans e3)
      | str z =>
        refine q_when (b := false) (et_test (ev_isNf (ev_var rfl))) (fun z => nomatch z) fun _ H1 e1 => ?_
        refine q_when (b := false) (et_B (ev_isi (K := K) (a := "str") (ev_var rfl) (fun _ _ => .base (.str z)) (by decide +kernel))) (fun z => nomatch z) fun _ H2 e2 => ?_
        refine q_when (b := true) (et_B (ev_isi (K := K) (a := "str") (ev_var rfl) (fun _ _ => .base (.str z)) (by decide +kernel))) (fun _ H3 e3 => ?_) (fun z => nomatch z)
        exact enc_str hf hz fun H4 e4 => q H4 (((e1.trans e2).trans e3).trans e4)
      | @tup a xs ds hS r =>
        refine q_when (b := false) (et_test (ev_isNf (ev_var rfl))) (fun z => nomatch z) fun _ H1 e1 => ?_
        refine q_when (b := false) (et_B (ev_isi (K := K) (a := "tuple") (ev_var rfl) (fun H2 e2 => tyx_tup (ex_t (e1.trans e2) hS)) (by decide +kernel))) (fun z => nomatch z) fun _ H2 e2 => ?_
        refine q_when (b := false) (et_B (ev_isi (K := K) (a := "tuple") (ev_var rfl) (fun H3 e3 => tyx_tup (ex_t ((e1.trans e2).trans e3) hS)) (by decide +kernel))) (fun z => nomatch z) fun _ H3 e3 => ?_
        refine s_ret (ev_parts (K := K) (ev_var rfl) (ex_t ((e1.trans e2).trans e3) hS) (r.mono ((e1.trans e2).trans e3)) hf hz (fun x => rfl) fun x d H4 e4 hd hf2 hz2 => ev_call (ea_cons (ev_var rfl) ea_nil) (cv_enc hd hf2 hz2)) fun H4 e4 => q H4 (((e1.trans e2).trans e3).trans e4)
theorem ok_encode (T : Txt K mg base P) : FnOk P w K mg base CX0 4 T.f_encode T.d_encode ["item"] (spEnc K 3) := ok_encode_at T 3


/-! ### _law_same -/
/-- data of nesting at most n -/
inductive Gd : Nat → PyData → Prop
  | non (n : Nat) : Gd n .none
  | bl (n : Nat) (b : Bool) : Gd n (.bool b)
  | int (n : Nat) (i : Int) : Gd n (.int i)
  | str (n : Nat) (z : Str) : Gd n (.str z)
  | tup {n : Nat} {ds : List PyData} (h : ∀ d ∈ ds, Gd n d) (hl : ds.length ≤ 40000) : Gd (n + 1) (.tuple ds)
  | lst {n : Nat} {ds : List PyData} (h : ∀ d ∈ ds, Gd n d) (hl : ds.length ≤ 40000) : Gd (n + 1) (.list ds)
def spSameG (K : PySem.W.Frag) (n : Nat) : Sp := fun vs H Q _ => ∃ (u v : V) (d : PyData), vs = [u, v] ∧ Dp K H u d ∧ Dp K H v d ∧ Gd n d ∧ ∀ H', Ex H H' → Q (.bl true) H'
theorem cv_sameG {K : PySem.W.Frag} {n : Nat} {u v : V} {d : PyData} {H : Hp} (h : Dp K H u d) (h2 : Dp K H v d) (hf : Gd n d) : SpV (spSameG K n) [u, v] H (.bl true) := fun H1 e Q q E => ⟨u, v, d, rfl, dp_mono e h, dp_mono e h2, hf, fun H2 e2 => q H2 e2⟩
theorem dp_sc {K : PySem.W.Frag} {H : Hp} {u v : V} {d : PyData} (hs : isTup d = false) (hl : isLst d = false) (h : Dp K H u d) (k : Dp K H v d) : u = v := by
  cases h <;> cases k <;> first | rfl | (simp [isTup] at hs; done) | (simp [isLst] at hl; done)
theorem same_flat {K : PySem.W.Frag} {u v : V} {d : PyData} {H : Hp} {Q : VK} {n : Nat} (hU : Dp K H u d) (hV : Dp K H v d) (hs : isTup d = false) (hl : isLst d = false) (q : ∀ H', Ex H H' → Q (.bl true) H') {nx : L2.St → Hp → Prop} {x : Option V}
    {t1 t2 : TS} :
    tSeq (tIfS (tTest (tOp (fun x y H Q => y = .non ∧ Q (.bl (decide (x = .non))) H) (tVar 1) (tC .non))) (tRet (tOp (fun x y H Q => y = .non ∧ Q (.bl (decide (x = .non))) H) (tVar 0) (tC .non))) tNext)
      (tSeq (tIfS (tOr (tB (tCB (rIsi K) (tCons (tVar 1) (tCons (tC (.ty "list")) tNil)))) (tB (tCB (rIsi K) (tCons (tVar 1) (tCons (tC (.ty "tuple")) tNil))))) t1 tNext)
        (tSeq (tIfS (tOr (tTest (tOp rNe (tCB (rIsi K) (tCons (tVar 1) (tCons (tC (.ty "bool")) tNil))) (tCB (rIsi K) (tCons (tVar 0) (tCons (tC (.ty "bool")) tNil))))) (tTest (tOp rNe (tCB (rIsi K) (tCons (tVar 1) (tCons (tC (.ty "int")) tNil))) (tCB (rIsi K) (tCons (tVar 0) (tCons (tC (.ty "int")) tNil)))))) t2 tNext)
          (tRet (tAndV (tOp rEq (tCB (rIsi K) (tCons (tVar 1) (tCons (tC (.ty "str")) tNil))) (tCB (rIsi K) (tCons (tVar 0) (tCons (tC (.ty "str")) tNil)))) (tOp rEq (tVar 0) (tVar 1))))))
      { nx := nx, rt := Q } [some u, some v, x] H := by
  have huv : u = v := dp_sc hs hl hU hV
  subst huv
  refine q_when (et_test (ev_isN (ev_var rfl))) (fun hb H1 e1 => ?_) (fun hb H1 e1 => ?_)
  · exact s_ret (ev_is (ev_isN (ev_var rfl)) (congrArg V.bl hb)) fun H2 e2 => q H2 (e1.trans e2)
  refine q_when (b := false) (et_is (et_or (et_B (ev_isL (ev_var rfl) (dp_mono e1 hV))) fun _ => et_B (ev_isT (ev_var rfl) (dp_mono e1 hV))) (by rw [hs, hl] <;> rfl)) (fun z => nomatch z) fun _ H2 e2 => ?_
  have E2 := e1.trans e2
  have hV2 := dp_mono E2 hV
  refine q_when (b := false) (et_is (et_or (et_test (ev_neB (ev_isBl (ev_var rfl) hV2) (ev_isBl (ev_var rfl) hV2))) fun _ => et_test (ev_neB (ev_isNum (ev_var rfl) hV2) (ev_isNum (ev_var rfl) hV2))) (by simp)) (fun z => nomatch z) fun _ H3 e3 => ?_
  have hV3 := dp_mono e3 hV2
  refine s_ret (v := .bl true) (ev_is (ev_andV (ev_eqB (ev_isS (ev_var rfl) hV3) (ev_isS (ev_var rfl) hV3)) fun _ => ev_is (ev_op (ev_var rfl) (ev_var rfl) (rv_eq (x := u) (y := u) ?_)) (congrArg V.bl (decide_eq_true rfl))) (by simp)) fun H4 e4 => q H4 ((E2.trans e3).trans e4)
  cases hV <;> first | rfl | (simp [isTup] at hs; done) | (simp [isLst] at hl; done)
theorem ok_law_same_at (T : Txt K mg base P) : ∀ n : Nat, FnOk P w K mg base CX0 (n + 1) T.f_law_same T.d_law_same ["actual", "due"] (spSameG K n)
  | 0 => by
    refine T.F_law_same.ok sc_law_same (fun vs H Q E h => ?_) (fun cdv A outer s H vs Q E hr h => ?_)
    · obtain ⟨u, v, d, rfl, _⟩ := h
      rfl
    · obtain ⟨u, v, d, rfl, hU, hV, hf, q⟩ := h
      refine ⟨_, pss_cons (ps_if (pt_cmpR op_isN (pv 1) (pe_non) (nomark _))
      (pss_one (ps_ret (pe_cmpR op_isN (pv 0) (pe_non) (nomark _))))
      (pss_nil))
      (pss_cons (ps_if (PW.pt (pw_or (pt_val (pe_callB (r := rIsi K) call_isi (by rfl) T.m_isinstance (by decide +kernel) (pa_cons (pv 1) (pa_cons (pe_bltn (v := .ty "list") (by rfl) T.m_list (by decide +kernel) rfl) (pa_nil))))) (pw_or1 (pt_val (pe_callB (r := rIsi K) call_isi (by rfl) T.m_isinstance (by decide +kernel) (pa_cons (pv 1) (pa_cons (pe_bltn (v := .ty "tuple") (by rfl) T.m_tuple (by decide +kernel) rfl) (pa_nil))))))))
      (pss_cons (ps_if (PW.pt (pw_or (pt_cmpR op_ne (pe_callB (r := rIsi K) call_isi (by rfl) T.m_isinstance (by decide +kernel) (pa_cons (pv 1) (pa_cons (pe_bltn (v := .ty "list") (by rfl) T.m_list (by decide +kernel) rfl) (pa_nil)))) (pe_callB (r := rIsi K) call_isi (by rfl) T.m_isinstance (by decide +kernel) (pa_cons (pv 0) (pa_cons (pe_bltn (v := .ty "list") (by rfl) T.m_list (by decide +kernel) rfl) (pa_nil)))) (nomark _)) (pw_or1 (pt_cmpR op_ne (pe_callB (r := rIsi K) call_isi (by rfl) T.m_isinstance (by decide +kernel) (pa_cons (pv 1) (pa_cons (pe_bltn (v := .ty "tuple") (by rfl) T.m_tuple (by decide +kernel) rfl) (pa_nil)))) (pe_callB (r := rIsi K) call_isi (by rfl) T.m_isinstance (by decide +kernel) (pa_cons (pv 0) (pa_cons (pe_bltn (v := .ty "tuple") (by rfl) T.m_tuple (by decide +kernel) rfl) (pa_nil)))) (nomark _)))))
      (pss_one (ps_ret (pe_bl)))
      (pss_nil))
      (pss_cons (ps_if (pt_cmpR op_ne (pe_callB (r := rLenQ K) call_len_seq (by rfl) T.m_len (by decide +kernel) (pa_cons (pv 0) (pa_nil))) (pe_callB (r := rLenQ K) call_len_seq (by rfl) T.m_len (by decide +kernel) (pa_cons (pv 1) (pa_nil))) (nomark _))
      (pss_one (ps_ret (pe_bl)))
      (pss_nil))
      (pss_cons (ps_for PassesOwn.never rfl (pi_range1 (by rfl) T.m_range (pa_cons (pe_callB (r := rLenQ K) call_len_seq (by rfl) T.m_len (by decide +kernel) (pa_cons (pv 1) (pa_nil))) (pa_nil))) (pg_name (i := 2) sc_law_same.nd rfl (by first | exact Or.inl rfl | exact Or.inr rfl))
      (pss_one (ps_never)))
      (pss_one (ps_ret (pe_bl))))))
      (pss_nil))
      (pss_cons (ps_if (PW.pt (pw_or (pt_cmpR op_ne (pe_callB (r := rIsi K) call_isi (by rfl) T.m_isinstance (by decide +kernel) (pa_cons (pv 1) (pa_cons (pe_bltn (v := .ty "bool") (by rfl) T.m_bool (by decide +kernel) rfl) (pa_nil)))) (pe_callB (r := rIsi K) call_isi (by rfl) T.m_isinstance (by decide +kernel) (pa_cons (pv 0) (pa_cons (pe_bltn (v := .ty "bool") (by rfl) T.m_bool (by decide +kernel) rfl) (pa_nil)))) (nomark _)) (pw_or1 (pt_cmpR op_ne (pe_callB (r := rIsi K) call_isi (by rfl) T.m_isinstance (by decide +kernel) (pa_cons (pv 1) (pa_cons (pe_bltn (v := .ty "int") (by rfl) T.m_int (by decide +kernel) rfl) (pa_nil)))) (pe_callB (r := rIsi K) call_isi (by rfl) T.m_isinstance (by decide +kernel) (pa_cons (pv 0) (pa_cons (pe_bltn (v := .ty "int") (by rfl) T.m_int (by decide +kernel) rfl) (pa_nil)))) (nomark _)))))
      (pss_one (ps_ret (pe_bl)))
      (pss_nil))
      (pss_one (ps_ret (pe_and (pe_cmpR op_eq (pe_callB (r := rIsi K) call_isi (by rfl) T.m_isinstance (by decide +kernel) (pa_cons (pv 1) (pa_cons (pe_bltn (v := .ty "str") (by rfl) T.m_str (by decide +kernel) rfl) (pa_nil)))) (pe_callB (r := rIsi K) call_isi (by rfl) T.m_isinstance (by decide +kernel) (pa_cons (pv 0) (pa_cons (pe_bltn (v := .ty "str") (by rfl) T.m_str (by decide +kernel) rfl) (pa_nil)))) (nomark _)) (pe_one (pe_cmpR op_eq (pv 0) (pv 1) (nomark _)))))))), ?_⟩
      exact same_flat (n := 0) hU hV (by cases hf <;> rfl) (by cases hf <;> rfl) q
  | n + 1 => by
    have IH := ok_law_same_at T n
    refine T.F_law_same.ok sc_law_same (fun vs H Q E h => ?_) (fun cdv A outer s H vs Q E hr h => ?_)
    · obtain ⟨u, v, d, rfl, _⟩ := h
      rfl
    · obtain ⟨u, v, d, rfl, hU, hV, hf, q⟩ := h
      refine ⟨_, pss_cons (ps_if (pt_cmpR op_isN (pv 1) (pe_non) (nomark _))
      (pss_one (ps_ret (pe_cmpR op_isN (pv 0) (pe_non) (nomark _))))
      (pss_nil))
      (pss_cons (ps_if (PW.pt (pw_or (pt_val (pe_callB (r := rIsi K) call_isi (by rfl) T.m_isinstance (by decide +kernel) (pa_cons (pv 1) (pa_cons (pe_bltn (v := .ty "list") (by rfl) T.m_list (by decide +kernel) rfl) (pa_nil))))) (pw_or1 (pt_val (pe_callB (r := rIsi K) call_isi (by rfl) T.m_isinstance (by decide +kernel) (pa_cons (pv 1) (pa_cons (pe_bltn (v := .ty "tuple") (by rfl) T.m_tuple (by decide +kernel) rfl) (pa_nil))))))))
      (pss_cons (ps_if (PW.pt (pw_or (pt_cmpR op_ne (pe_callB (r := rIsi K) call_isi (by rfl) T.m_isinstance (by decide +kernel) (pa_cons (pv 1) (pa_cons (pe_bltn (v := .ty "list") (by rfl) T.m_list (by decide +kernel) rfl) (pa_nil)))) (pe_callB (r := rIsi K) call_isi (by rfl) T.m_isinstance (by decide +kernel) (pa_cons (pv 0) (pa_cons (pe_bltn (v := .ty "list") (by rfl) T.m_list (by decide +kernel) rfl) (pa_nil)))) (nomark _)) (pw_or1 (pt_cmpR op_ne (pe_callB (r := rIsi K) call_isi (by rfl) T.m_isinstance (by decide +kernel) (pa_cons (pv 1) (pa_cons (pe_bltn (v := .ty "tuple") (by rfl) T.m_tuple (by decide +kernel) rfl) (pa_nil)))) (pe_callB (r := rIsi K) call_isi (by rfl) T.m_isinstance (by decide +kernel) (pa_cons (pv 0) (pa_cons (pe_bltn (v := .ty "tuple") (by rfl) T.m_tuple (by decide +kernel) rfl) (pa_nil)))) (nomark _)))))
      (pss_one (ps_ret (pe_bl)))
      (pss_nil))
      (pss_cons (ps_if (pt_cmpR op_ne (pe_callB (r := rLenQ K) call_len_seq (by rfl) T.m_len (by decide +kernel) (pa_cons (pv 0) (pa_nil))) (pe_callB (r := rLenQ K) call_len_seq (by rfl) T.m_len (by decide +kernel) (pa_cons (pv 1) (pa_nil))) (nomark _))
      (pss_one (ps_ret (pe_bl)))
      (pss_nil))
      (pss_cons (ps_for PassesOwn.never rfl (pi_range1 (by rfl) T.m_range (pa_cons (pe_callB (r := rLenQ K) call_len_seq (by rfl) T.m_len (by decide +kernel) (pa_cons (pv 1) (pa_nil))) (pa_nil))) (pg_name (i := 2) sc_law_same.nd rfl (by first | exact Or.inl rfl | exact Or.inr rfl))
      (pss_one (ps_if (pt_not (pt_val (pe_call IH (hr.mono (by omega)) (by rfl) T.g_law_same T.F_law_same.kp T.b_law_same .nil pass0 (pa_cons (pe_ix (r := rIxD K) (ix_any ix_list ix_tup) (pv 0) (pv 2) (fun _ _ => rfl)) (pa_cons (pe_ix (r := rIxD K) (ix_any ix_list ix_tup) (pv 1) (pv 2) (fun _ _ => rfl)) (pa_nil))))))
      (pss_one (ps_ret (pe_bl)))
      (pss_nil))))
      (pss_one (ps_ret (pe_bl))))))
      (pss_nil))
      (pss_cons (ps_if (PW.pt (pw_or (pt_cmpR op_ne (pe_callB (r := rIsi K) call_isi (by rfl) T.m_isinstance (by decide +kernel) (pa_cons (pv 1) (pa_cons (pe_bltn (v := .ty "bool") (by rfl) T.m_bool (by decide +kernel) rfl) (pa_nil)))) (pe_callB (r := rIsi K) call_isi (by rfl) T.m_isinstance (by decide +kernel) (pa_cons (pv 0) (pa_cons (pe_bltn (v := .ty "bool") (by rfl) T.m_bool (by decide +kernel) rfl) (pa_nil)))) (nomark _)) (pw_or1 (pt_cmpR op_ne (pe_callB (r := rIsi K) call_isi (by rfl) T.m_isinstance (by decide +kernel) (pa_cons (pv 1) (pa_cons (pe_bltn (v := .ty "int") (by rfl) T.m_int (by decide +kernel) rfl) (pa_nil)))) (pe_callB (r := rIsi K) call_isi (by rfl) T.m_isinstance (by decide +kernel) (pa_cons (pv 0) (pa_cons (pe_bltn (v := .ty "int") (by rfl) T.m_int (by decide +kernel) rfl) (pa_nil)))) (nomark _)))))
      (pss_one (ps_ret (pe_bl)))
      (pss_nil))
      (pss_one (ps_ret (pe_and (pe_cmpR op_eq (pe_callB (r := rIsi K) call_isi (by rfl) T.m_isinstance (by decide +kernel) (pa_cons (pv 1) (pa_cons (pe_bltn (v := .ty "str") (by rfl) T.m_str (by decide +kernel) rfl) (pa_nil)))) (pe_callB (r := rIsi K) call_isi (by rfl) T.m_isinstance (by decide +kernel) (pa_cons (pv 0) (pa_cons (pe_bltn (v := .ty "str") (by rfl) T.m_str (by decide +kernel) rfl) (pa_nil)))) (nomark _)) (pe_one (pe_cmpR op_eq (pv 0) (pv 1) (nomark _)))))))), ?_⟩
      by_cases hsc : isTup d = false ∧ isLst d = false
      · exact same_flat (n := n) hU hV hsc.1 hsc.2 q
      obtain ⟨a, b, xs, ys, ds, rfl, rfl, hx, hy, hdx, hdy, hds, hl⟩ : ∃ a b xs ys ds, u = .ref a ∧ v = .ref b ∧ (SqL K H a xs ∧ SqL K H b ys ∧ d = .list ds ∨ SqT K H a xs ∧ SqT K H b ys ∧ d = .tuple ds) ∧ True ∧ DpAll K H xs ds ∧ DpAll K H ys ds ∧ (∀ d ∈ ds, Gd n d) ∧ ds.length ≤ 40000 := by
        cases hf with
        | tup h hl =>
          cases hU with
          | tup hs r =>
            cases hV with
            | tup hs2 r2 => exact ⟨_, _, _, _, _, rfl, rfl, .inr ⟨hs, hs2, rfl⟩, trivial, r, r2, h, hl⟩
        | lst h hl =>
          cases hU with
          | lst hs r =>
            cases hV with
            | lst hs2 r2 => exact ⟨_, _, _, _, _, rfl, rfl, .inl ⟨hs, hs2, rfl⟩, trivial, r, r2, h, hl⟩
        | _ => exact absurd ⟨rfl, rfl⟩ hsc
      have lx := dpa_len hdx
      have ly := dpa_len hdy
      refine q_when (b := false) (et_test (ev_isNf (ev_var rfl))) (fun z => nomatch z) fun _ H1 e1 => ?_
      have eor : (isLst d || isTup d) = true := by rcases hx with ⟨_, _, rfl⟩ | ⟨_, _, rfl⟩ <;> rfl
      refine q_when (b := true) (et_is (et_or (et_B (ev_isL (ev_var rfl) (dp_mono e1 hV))) fun _ => et_B (ev_isT (ev_var rfl) (dp_mono e1 hV))) eor) (fun _ H2 e2 => ?_) (fun z => nomatch z)
      have E2 := e1.trans e2
      refine q_when (b := false) (et_is (et_or (et_test (ev_neB (ev_isL (ev_var rfl) (dp_mono E2 hV)) (ev_isL (ev_var rfl) (dp_mono E2 hU)))) fun _ => et_test (ev_neB (ev_isT (ev_var rfl) (dp_mono E2 hV)) (ev_isT (ev_var rfl) (dp_mono E2 hU)))) (by simp)) (fun z => nomatch z) fun _ H3 e3 => ?_
      have E3 := E2.trans e3
      have len : ∀ {H' : Hp} {σ : L2.St}, Ex H H' → σ[0]? = some (some (V.ref a)) → σ[1]? = some (some (V.ref b)) → Ev (tCB (rLenQ K) (tCons (tVar 0) tNil)) σ H' (.int (ds.length : Int)) ∧ Ev (tCB (rLenQ K) (tCons (tVar 1) tNil)) σ H' (.int (ds.length : Int)) := fun {H' σ} e h0 h1 => by
        rcases hx with ⟨p1, p2, _⟩ | ⟨p1, p2, _⟩
        · exact ⟨ev_is (ev_lenQ (ev_var h0) (ex_l e p1)) (by rw [lx]), ev_is (ev_lenQ (ev_var h1) (ex_l e p2)) (by rw [ly])⟩
        · exact ⟨ev_is (ev_lenT (ev_var h0) (ex_t e p1)) (by rw [lx]), ev_is (ev_lenT (ev_var h1) (ex_t e p2)) (by rw [ly])⟩
      refine q_when (b := false) (et_is (et_test (ev_neI (len E3 rfl rfl).1 (len E3 rfl rfl).2)) (by simp)) (fun z => nomatch z) fun _ H4 e4 => ?_
      have E4 := E3.trans e4
      refine q_forR1 (n := (ds.length : Int)) (ea_cons (len E4 rfl rfl).2 ea_nil) (by omega) (fun i σ' H' => ∃ kv : Option V, σ' = [some (.ref a), some (.ref b), kv] ∧ Ex H H') (fun H4 e4 => ⟨none, rfl, E4.trans e4⟩) (fun i σ' H' hi hP => ?_) (fun σ' H' hP => ?_)
      · obtain ⟨kv, rfl, eH⟩ := hP
        have hi2 : i < ds.length := by omega
        obtain ⟨d1, h1⟩ : ∃ d1, ds[i]? = some d1 := ⟨_, List.getElem?_eq_getElem hi2⟩
        obtain ⟨v1, g1, g2⟩ := dpa_get hdx h1
        obtain ⟨v2, k1, k2⟩ := dpa_get hdy h1
        have it : ∀ {j : Nat} {c : Addr} {zs : List V} {v : V} {σ : L2.St}, (SqL K H c zs ∨ SqT K H c zs) → σ[j]? = some (some (V.ref c)) → σ[2]? = some (some (V.int (i : Int))) → zs[i]? = some v → Ev (tOp (rIxD K) (tVar j) (tVar 2)) σ H' v := fun hq hj h2 hv => by
          rcases hq with hq | hq
          · exact ev_op (ev_var hj) (ev_var h2) fun H1 e1 Q q => .inl ((rv_ixL (ex_l eH hq) (at_nat hv)) H1 e1 Q q)
          · exact ev_op (ev_var hj) (ev_var h2) fun H1 e1 Q q => .inr ((rv_ixT (ex_t eH hq) (at_nat hv)) H1 e1 Q q)
        refine s_when (b := false) (et_is (et_not (et_B (ev_call (ea_cons (it (j := 0) (hx.imp (fun z => z.1) fun z => z.1) rfl rfl g1) (ea_cons (it (j := 1) (hx.imp (fun z => z.2.1) fun z => z.2.1) rfl rfl k1) ea_nil)) (cv_sameG (dp_mono eH g2) (dp_mono eH k2) (hds d1 (List.mem_of_getElem? h1)))))) rfl) (fun z => nomatch z) fun _ H4 e4 => ⟨_, rfl, eH.trans e4⟩
      · obtain ⟨kv, rfl, eH⟩ := hP
        exact s_ret ev_c fun H4 e4 => q H4 (eH.trans e4)
theorem ok_law_same (T : Txt K mg base P) : FnOk P w K mg base CX0 3 T.f_law_same T.d_law_same ["actual", "due"] (spSameG K 2) := ok_law_same_at T 2
theorem Gd.mono2 : ∀ {n m : Nat} {d : PyData}, Gd n d → n ≤ m → Gd m d
  | _, _, _, .non _, _ => .non _
  | _, _, _, .bl _ b, _ => .bl _ b
  | _, _, _, .int _ i, _ => .int _ i
  | _, _, _, .str _ z, _ => .str _ z
  | n + 1, m + 1, _, .tup h l, e => .tup (fun d hd => (h d hd).mono2 (by omega)) l
  | n + 1, m + 1, _, .lst h l, e => .lst (fun d hd => (h d hd).mono2 (by omega)) l
  | n + 1, 0, _, .tup h l, e => by omega
  | n + 1, 0, _, .lst h l, e => by omega


/-! ### Chunks.get -/
def spCkA (C CM : Addr) : Sp := fun vs H Q E => ∃ (p b t : Addr) (r n : Int) (kvs : List (Key × V)), vs = [.ref p, .int n] ∧ CkAt C H p b t r kvs ∧
  ((∃ v, valV kvs (Sum.inl n : Key) = some v ∧ ∀ H', CkAt C H' p b t (r + 1) kvs → But [p] H H' → Q v H') ∨
   (valV kvs (Sum.inl n : Key) = none ∧ n.natAbs.log2 < 1920 ∧ ∀ (dx : Addr) H', H dx = none → H' dx = some (.xd [(Str.ofString "address", .int n)]) → CkAt C H' p b t (r + 1) kvs → But [p] H H' → E (.ref CM) (some dx) H'))
theorem ok_Chunks_get_any (T : Txt K mg base P) : FnOk P w K mg base (L2N.CX P w) 3 T.f_Chunks_get T.d_Chunks_get ["self", "address"] (spCkA T.C_Chunks T.C_MissingChunk) := by
  refine okN T.F_Chunks_get sc_Chunks_get (fun vs H Q E h => ?_) (fun cdv A outer s H vs Q E hr h => ?_)
  · obtain ⟨p, b, t, r, n, kvs, rfl, _⟩ := h
    rfl
  · obtain ⟨p, b, t, r, n, kvs, rfl, ⟨⟨dx, hp⟩, ht⟩, q⟩ := h
    have hu := hu_of hr
    have npt : p ≠ t := ne_of hp ht (by intro z; cases z)
    refine ⟨_, pss_cons (ps_fldaug (pv 0) (pe_int) in_add)
      (pss_cons (ps_if (pt_cmp (pc_dnotin hu (pv 1) (pe_fld (pv 0) rfl)))
      (pss_one (L2N.ps_raise rfl (L2N.takes_of rfl rfl rfl rfl) (pmkN_oex T.e_MissingChunk.o T.F_MissingChunk___init.iC T.F_MissingChunk___init.tI (ok_MissingChunk___init T) (hr.mono (by first | decide | omega)) T.b_MissingChunk___init pass0 (by rfl) T.e_MissingChunk.g (pa_cons (pv 1) (pa_nil)))))
      (pss_nil))
      (pss_one (ps_ret (pe_dget hu (pe_fld (pv 0) rfl) (pv 1) (fun _ _ => rfl))))), ?_⟩
    refine ⟨_, rfl, p, T.C_Chunks, dx, _, _, rfl, hp, T.cl_Chunks, T.na_Chunks_reads, cF_reads b r t, r, 1, rfl, rfl, dx, _, hp, (by show 3 < 1000; decide), ?_⟩
    rw [cF_put]
    have ht1 : upd H p (.ins T.C_Chunks dx (cF b (r + 1) t)) t = some (.dK kvs) := by rw [upd_ne npt.symm]; exact ht
    refine ⟨_, rfl, _, rfl, p, T.C_Chunks, dx, _, _, rfl, upd_same, T.cl_Chunks, T.na_Chunks__texts, cF_texts b (r + 1) t, t, _, rfl, DGet.k (k := Sum.inl n) ht1, ?_⟩
    rcases q with ⟨v, hv, q⟩ | ⟨hv, hb, q⟩
    · rw [hv]
      refine ⟨_, rfl, iteF ?_⟩
      exact ⟨_, rfl, p, T.C_Chunks, dx, _, _, rfl, upd_same, T.cl_Chunks, T.na_Chunks__texts, cF_texts b (r + 1) t, _, rfl, t, v, rfl, (by rw [← hv]; exact DGet.k (k := Sum.inl n) ht1), q _ ⟨⟨dx, upd_same⟩, ht1⟩ (But.put (List.mem_singleton.mpr rfl))⟩
    rw [hv]
    refine ⟨_, rfl, iteT ?_⟩
    refine ⟨_, rfl, by show 1 ≤ 1000; decide, fun a ha => ⟨a, n, rfl, upd_same, hb, fun H3 e3 d h1 h2 => ⟨rfl, d, _, upd_same, by rw [upd_ne h2, upd_same], ?_, ?_⟩⟩⟩
    · have z := fresh_back e3 h1
      rw [upd_ne h2] at z
      exact z
    · have z := fresh_back e3 h1
      rw [upd_ne h2] at z
      have hd0 : H d = none := by
        by_cases hx : d = p
        · rw [hx, upd_same] at z; cases z
        · rw [upd_ne hx] at z; exact z
      have st : ∀ c o, upd H p (.ins T.C_Chunks dx (cF b (r + 1) t)) c = some o → upd (del (upd (upd H3 d (exd d [(Str.ofString "address", V.int n)])) a (exo a T.C_MissingChunk (some d))) a) d (.xd [(Str.ofString "address", V.int n)]) c = some o := fun c o e => by
        have c1 : c ≠ d := ne_of_none e z
        have c2 : c ≠ a := ne_of_none e ha
        rw [upd_ne c1, del_ne c2, upd_ne c2, upd_ne c1]
        exact e3 _ _ (by rw [upd_ne c2]; exact e)
      exact q d _ hd0 upd_same ⟨⟨dx, st _ _ upd_same⟩, st _ _ ht1⟩ fun c o e nc => st _ _ (by rw [upd_ne (fun y => nc (by rw [y]; exact List.mem_singleton.mpr rfl))]; exact e)
def spCkG (C : Addr) : Sp := fun vs H Q _ => ∃ (p b t : Addr) (r n : Int) (kvs : List (Key × V)) (v : V), vs = [.ref p, .int n] ∧ CkAt C H p b t r kvs ∧ valV kvs (Sum.inl n : Key) = some v ∧ ∀ H', CkAt C H' p b t (r + 1) kvs → But [p] H H' → Q v H'
theorem ok_Chunks_get (T : Txt K mg base P) : FnOk P w K mg base CX0 3 T.f_Chunks_get T.d_Chunks_get ["self", "address"] (spCkG T.C_Chunks) := (ok_Chunks_get_any T).calm fun vs H Q E ⟨p, b, t, r, n, kvs, v, e, hc, hv, q⟩ => ⟨p, b, t, r, n, kvs, e, hc, .inl ⟨v, hv, q⟩⟩


/-! ### _sign_at -/
def spSign : Sp := fun vs H Q _ => ∃ (z : Str) (i c : Nat), vs = [.str z, .int (i : Int)] ∧ z.length ≤ 16000000 ∧ z.cps.toList[i]? = some c ∧ ∀ H', Ex H H' → Q (.str ⟨#[c]⟩) H'
theorem cv_sign {z : Str} {i c : Nat} {H : Hp} (hz : z.length ≤ 16000000) (h : z.cps.toList[i]? = some c) : SpV spSign [.str z, .int (i : Int)] H (.str ⟨#[c]⟩) := fun H1 e Q q E => ⟨z, i, c, rfl, hz, h, fun H2 e2 => q H2 e2⟩
theorem ok_sign_at (T : Txt K mg base P) : FnOk P w K mg base CX0 1 T.f_sign_at T.d_sign_at ["text", "index"] spSign := by
  refine T.F_sign_at.ok sc_sign_at (fun vs H Q E h => ?_) (fun cdv A outer s H vs Q E hr h => ?_)
  · obtain ⟨z, i, c, rfl, _⟩ := h
    rfl
  · obtain ⟨z, i, c, rfl, hz, hc, q⟩ := h
    have hl : i < z.length := by
      rw [str_len]
      exact (List.getElem?_eq_some_iff.mp hc).1
    refine ⟨_, pss_cons (ps_if (pt_cmpR op_eq (pv 1) (pe_callB call_len_str (by rfl) T.m_len (by decide +kernel) (pa_cons (pv 0) (pa_nil))) (nomark _))
      (pss_one (ps_never))
      (pss_nil))
      (pss_one (ps_ret (pe_ix ix_str (pv 0) (pv 1) (fun _ _ => rfl)))), ?_⟩
    refine q_when (b := false) (et_is (et_test (ev_eqI (ev_var rfl) (ev_lenB (ev_var rfl) (by omega)))) (decide_eq_false (by omega))) (fun z => nomatch z) fun _ H1 e1 => ?_
    exact s_ret (ev_ixB (ev_var rfl) (ev_var rfl) (by omega) (at_natS hc)) fun H2 e2 => q H2 (e1.trans e2)


/-! ### _end_of_digits -/
def spEnd : Sp := fun vs H Q _ => ∃ (z : Str) (a ds r : List Nat) (cl most : Nat), vs = [.str z, .int (a.length : Int), .int (most : Int), .str ⟨#[cl]⟩] ∧ z.length ≤ 16000000 ∧ z.cps.toList = a ++ (ds ++ (cl :: r)) ∧ Digs ds most ∧ ¬ (48 ≤ cl ∧ cl ≤ 57) ∧ ∀ H', Ex H H' → Q (.int ((a.length + ds.length : Nat) : Int)) H'
theorem cv_end {z : Str} {a ds r : List Nat} {cl most : Nat} {H : Hp} (hz : z.length ≤ 16000000) (h : z.cps.toList = a ++ (ds ++ (cl :: r))) (hd : Digs ds most) (hc : ¬ (48 ≤ cl ∧ cl ≤ 57)) : SpV spEnd [.str z, .int (a.length : Int), .int (most : Int), .str ⟨#[cl]⟩] H (.int ((a.length + ds.length : Nat) : Int)) := fun H1 e Q q E => ⟨z, a, ds, r, cl, most, rfl, hz, h, hd, hc, fun H2 e2 => q H2 e2⟩
theorem ok_end_of_digits (T : Txt K mg base P) : FnOk P w K mg base CX0 2 T.f_end_of_digits T.d_end_of_digits ["text", "first", "most", "closing"] spEnd := by
  refine T.F_end_of_digits.ok sc_end_of_digits (fun vs H Q E h => ?_) (fun cdv A outer s H vs Q E hr h => ?_)
  · obtain ⟨z, a, ds, r, cl, most, rfl, _⟩ := h
    rfl
  · obtain ⟨z, a, ds, r, cl, most, rfl, hz, hl, hd, hcl, q⟩ := h
    have at1 : ∀ j, j ≤ ds.length → ∃ c, z.cps.toList[a.length + j]? = some c ∧ (j < ds.length → ds[j]? = some c) ∧ (j = ds.length → c = cl) := fun j hj => by
      rw [hl, List.getElem?_append_right (by omega), Nat.add_sub_cancel_left]
      by_cases h : j < ds.length
      · rw [List.getElem?_append_left h]
        exact ⟨ds[j], List.getElem?_eq_getElem h, fun _ => List.getElem?_eq_getElem h, fun z => by omega⟩
      · have : j = ds.length := by omega
        subst this
        rw [List.getElem?_append_right (by omega), Nat.sub_self]
        exact ⟨cl, rfl, fun z => absurd z h, fun _ => rfl⟩
    have h0 : 0 < ds.length := List.length_pos_iff.mpr hd.ne
    refine ⟨_, pss_cons (ps_set (i := 4) sc_end_of_digits.nd rfl (by first | exact Or.inl rfl | exact Or.inr rfl) (pv 1))
      (pss_cons (ps_set (i := 5) sc_end_of_digits.nd rfl (by first | exact Or.inl rfl | exact Or.inr rfl) (pe_call (ok_sign_at T) (hr.mono (by first | decide | omega)) (by rfl) T.g_sign_at T.F_sign_at.kp T.b_sign_at .nil pass0 (pa_cons (pv 0) (pa_cons (pv 4) (pa_nil)))))
      (pss_cons (ps_while PassesOwn.never (pt_chain op_le_str op_le_str (pe_str) (pv 5) (pe_str))
      (pss_cons (ps_set (i := 6) sc_end_of_digits.nd rfl (by first | exact Or.inl rfl | exact Or.inr rfl) (pe_op op_sub (pv 4) (pv 1)))
      (pss_cons (ps_if (PW.pt (pw_or (pt_cmpR op_eq (pv 6) (pv 2) (nomark _)) (pw_or1 (PW.pt (pw_and (pt_cmpR op_eq (pv 6) (pe_int) (nomark _)) (pw_and1 (pt_cmpR op_eq (pe_ix ix_str (pv 0) (pv 1) (fun _ _ => rfl)) (pe_str) (nomark _))))))))
      (pss_one (ps_never))
      (pss_nil))
      (pss_cons (ps_aug (i := 4) sc_end_of_digits.nd rfl (by first | exact Or.inl rfl | exact Or.inr rfl) (pe_int) ip_add)
      (pss_one (ps_set (i := 5) sc_end_of_digits.nd rfl (by first | exact Or.inl rfl | exact Or.inr rfl) (pe_call (ok_sign_at T) (hr.mono (by first | decide | omega)) (by rfl) T.g_sign_at T.F_sign_at.kp T.b_sign_at .nil pass0 (pa_cons (pv 0) (pa_cons (pv 4) (pa_nil))))))))))
      (pss_cons (ps_if (PW.pt (pw_or (pt_cmpR op_eq (pv 4) (pv 1) (nomark _)) (pw_or1 (pt_cmpR op_ne (pv 5) (pv 3) (nomark _)))))
      (pss_one (ps_never))
      (pss_nil))
      (pss_one (ps_ret (pv 4)))))), ?_⟩
    refine q_asg (ev_var rfl) fun H1 e1 => ?_
    obtain ⟨c0, hc0, _, _⟩ := at1 0 (Nat.zero_le _)
    refine q_asg (ev_call (ea_cons (ev_var rfl) (ea_cons (ev_var rfl) ea_nil)) (cv_sign (i := a.length) hz (by simpa using hc0))) fun H2 e2 => ?_
    refine q_while (fun m σ' H' => ∃ (j c : Nat) (cv : Option V), m = ds.length - j ∧ j ≤ ds.length ∧ σ' = [some (.str z), some (.int (a.length : Int)), some (.int (most : Int)), some (.str ⟨#[cl]⟩), some (.int ((a.length + j : Nat) : Int)), some (.str ⟨#[c]⟩), cv] ∧ z.cps.toList[a.length + j]? = some c ∧ Ex H H') ds.length ⟨0, c0, none, rfl, Nat.zero_le _, rfl, hc0, e1.trans e2⟩ (fun m σ' H' hW => ?_)
    obtain ⟨j, c, cv, rfl, hj, rfl, hc, eH⟩ := hW
    obtain ⟨c', hc', hin, hout⟩ := at1 j hj
    have ecc : c' = c := Option.some.inj (hc'.symm.trans hc)
    subst ecc
    refine ⟨_, et_dig (ev_var rfl), fun hb H3 e3 => ?_, fun hb H3 e3 => ?_⟩
    · have hdig := of_decide_eq_true hb
      have hjl : j < ds.length := by
        by_cases h : j < ds.length
        · exact h
        · have := hout (by omega)
          rw [this] at hdig
          exact absurd hdig hcl
      have hlen := hd.len
      obtain ⟨c2, hc2, _, _⟩ := at1 (j + 1) (by omega)
      refine ⟨fun σ' H' => ∃ cv : Option V, σ' = [some (.str z), some (.int (a.length : Int)), some (.int (most : Int)), some (.str ⟨#[cl]⟩), some (.int ((a.length + (j + 1) : Nat) : Int)), some (.str ⟨#[c2]⟩), cv] ∧ Ex H H', fun σ2 H2 hN => ?_, ?_⟩
      · obtain ⟨cv, rfl, eN⟩ := hN
        exact ⟨ds.length - (j + 1), by omega, j + 1, c2, cv, rfl, by omega, rfl, hc2, eN⟩
      · refine q_asg (v := .int (j : Int)) (ev_is (ev_bin0 (ev_var rfl) (ev_var rfl)) (congrArg V.int (by omega))) fun H4 e4 => ?_
        refine q_when (b := false) (et_is (et_or (a := false) (b := false) (et_is (et_test (ev_eqI (ev_var rfl) (ev_var rfl))) (decide_eq_false (by omega))) fun _ => ?_) rfl) (fun z => nomatch z) fun _ H5 e5 => ?_
        · by_cases h1 : j = 1
          · obtain ⟨d0, hd0, hin0, _⟩ := at1 0 (Nat.zero_le _)
            have hd0' := hin0 h0
            have hne : d0 ≠ 48 := fun z => by
              rcases hd.lead with h | h
              · omega
              · apply h
                rw [← z, List.head?_eq_getElem?]
                exact hd0'
            refine et_is (et_and (a := true) (b := false) (et_is (et_test (ev_eqI (ev_var rfl) ev_c)) (decide_eq_true (by omega))) fun _ => et_is (et_test (ev_eqS (ev_ixB (c := d0) (ev_var rfl) (ev_var rfl) (by omega) (at_natS (by simpa using hd0))) ev_c)) ?_) rfl
            have e0 : (Str.ofString "0") = ⟨#[48]⟩ := by decide +kernel
            rw [e0, str1_eq]
            exact decide_eq_false hne
          · exact et_is (et_and (a := false) (b := false) (et_is (et_test (ev_eqI (ev_var rfl) ev_c)) (decide_eq_false (by omega))) fun z => nomatch z) rfl
        · refine q_asgAug (b := 1) rfl ev_c fun H6 e6 => ?_
          have ei : (((a.length + j : Nat) : Int) + 1) = ((a.length + (j + 1) : Nat) : Int) := by omega
          rw [ei]
          exact s_asg (ev_call (ea_cons (ev_var rfl) (ea_cons (ev_var rfl) ea_nil)) (cv_sign hz hc2)) fun H7 e7 => ⟨some (.int (j : Int)), rfl, ((((eH.trans e3).trans e4).trans e5).trans e6).trans e7⟩
    · have hdig := of_decide_eq_false hb
      have hjl : j = ds.length := by
        by_cases h : j < ds.length
        · have := hd.all _ (List.mem_of_getElem? (hin h))
          exact absurd this hdig
        · omega
      have hcc := hout hjl
      subst hjl
      subst hcc
      refine q_when (b := false) (et_is (et_or (a := false) (b := false) (et_is (et_test (ev_eqI (ev_var rfl) (ev_var rfl))) (decide_eq_false (by omega))) fun _ => et_is (et_test (ev_neS (ev_var rfl) (ev_var rfl))) (by simp)) rfl) (fun z => nomatch z) fun _ H4 e4 => ?_
      exact s_ret (ev_var rfl) fun H5 e5 => q H5 (((eH.trans e3).trans e4).trans e5)


/-! ### _read_integer -/
/-- a pair (value, place) -/
def spPair (K : PySem.W.Frag) (d : It) (e : Int) (H : Hp) (Q : VK) : Prop := ∀ t H' v, Ex H H' → H' t = some (.tup [v, .int e]) → Dv K H' v d → Q (.ref t) H'
theorem eu_ret2 {σ : L2.St} {H : Hp} {ta tb : TE} {D : Ends} {x y : V} (ha : Ev ta σ H x) (hb : Ev tb σ H y) (k : ∀ t H1, Ex H H1 → H1 t = some (.tup [x, y]) → D.rt (.ref t) H1) : tRet (tTup (tCons ta (tCons tb tNil))) D σ H :=
  s_retU (eu_tup (ea_cons ha (ea_cons hb ea_nil)) (by show 2 ≤ 100000; decide)) fun t H1 _ e1 ht => k t H1 e1 ht
theorem ev_intT {σ : L2.St} {H : Hp} {te : TE} {z : Str} {n : Int} (h : Ev te σ H (.str z)) (hn : PySem.intText? z = some n) (hl : z.length ≤ 640) : Ev (tCB (fun xs H Q => ∃ a n, xs = [V.str a] ∧ PySem.intText? a = some n ∧ a.length ≤ 640 ∧ Q (.int n) H) (tCons te tNil)) σ H (.int n) := fun H1 e Q q =>
  h H1 e _ fun H2 e2 => ⟨z, n, rfl, hn, hl, q H2 e2⟩
def spRInt (K : PySem.W.Frag) : Sp := fun vs H Q _ => ∃ (z : Str) (a r : List Nat) (i : Int), vs = [.str z, .int (a.length : Int)] ∧ z.length ≤ 16000000 ∧ z.cps.toList = a ++ (numC i ++ (59 :: r)) ∧ (-(10 ^ 60) < i ∧ i < 10 ^ 60) ∧ spPair K (.int i) ((a.length + (numC i).length + 1 : Nat) : Int) H Q
theorem ok_read_integer (T : Txt K mg base P) : FnOk P w K mg base CX0 3 T.f_read_integer T.d_read_integer ["text", "index"] (spRInt K) := by
  refine T.F_read_integer.ok sc_read_integer (fun vs H Q E h => ?_) (fun cdv A outer s H vs Q E hr h => ?_)
  · obtain ⟨z, a, r, i, rfl, _⟩ := h
    rfl
  · obtain ⟨z, a, r, i, rfl, hz, hl, hi, q⟩ := h
    obtain ⟨hti, htl⟩ := int_at hi
    have e60 : (10 : Int) ^ 60 = 1000000000000000000000000000000000000000000000000000000000000 := by decide
    have n60 : (10 : Nat) ^ 60 = 1000000000000000000000000000000000000000000000000000000000000 := by decide
    have e58 : (Str.ofString ";") = ⟨#[59]⟩ := by decide +kernel
    have e45 : (Str.ofString "-") = ⟨#[45]⟩ := by decide +kernel
    have e48 : (Str.ofString "0") = ⟨#[48]⟩ := by decide +kernel
    have cz := cutS_at hl
    refine ⟨_, pss_cons (ps_set (i := 2) sc_read_integer.nd rfl (by first | exact Or.inl rfl | exact Or.inr rfl) (pv 1))
      (pss_cut (ps_if (pt_cmpR op_eq (pe_call (ok_sign_at T) (hr.mono (by first | decide | omega)) (by rfl) T.g_sign_at T.F_sign_at.kp T.b_sign_at .nil pass0 (pa_cons (pv 0) (pa_cons (pv 1) (pa_nil)))) (pe_str) (nomark _))
      (pss_cons (ps_set (i := 2) sc_read_integer.nd rfl (by first | exact Or.inl rfl | exact Or.inr rfl) (pe_op op_add (pv 1) (pe_int)))
      (pss_one (ps_if (pt_cmpR op_eq (pe_call (ok_sign_at T) (hr.mono (by first | decide | omega)) (by rfl) T.g_sign_at T.F_sign_at.kp T.b_sign_at .nil pass0 (pa_cons (pv 0) (pa_cons (pv 2) (pa_nil)))) (pe_str) (nomark _))
      (pss_one (ps_never))
      (pss_nil))))
      (pss_nil))
      (pss_cons (ps_set (i := 3) sc_read_integer.nd rfl (by first | exact Or.inl rfl | exact Or.inr rfl) (pe_call (ok_end_of_digits T) (hr.mono (by first | decide | omega)) (by rfl) T.g_end_of_digits T.F_end_of_digits.kp T.b_end_of_digits .nil pass0 (pa_cons (pv 0) (pa_cons (pv 2) (pa_cons (pe_glob (v := .int 60) rfl T.k_MOST_DIGITS ⟨_, rfl⟩) (pa_cons (pe_str) (pa_nil)))))))
      (pss_one (ps_ret (pe_tup (pa_cons (pe_callTy call_int_str (by rfl) T.m_int (by decide +kernel) (pa_cons (pe_slice sl_str (pv 0) (po_some (pv 1)) (po_some (pv 3))) (pa_nil))) (pa_cons (pe_op op_add (pv 3) (pe_int)) (pa_nil)))))))), ?_⟩
    refine q_asg (ev_var rfl) fun H1 e1 => ?_
    refine q_cut (M := fun σ' H' => ∃ (b : List Nat) (n : Nat), σ' = [some (.str z), some (.int (a.length : Int)), some (.int (b.length : Int)), none] ∧ Ex H H' ∧ z.cps.toList = b ++ (TL.numL n ++ (59 :: r)) ∧ n < 10 ^ 60 ∧ b.length + (TL.numL n).length = a.length + (numC i).length) ?_ fun σ' H' hM => ?_
    · cases i with
      | ofNat n =>
        have hn : n < 10 ^ 60 := by
          rw [n60]
          have := hi.2
          rw [e60] at this
          have h2 : ((n : Nat) : Int) < 1000000000000000000000000000000000000000000000000000000000000 := this
          omega
        have el : z.cps.toList = a ++ (TL.numL n ++ (59 :: r)) := by
          rw [hl, show numC (Int.ofNat n) = TL.numL n from numC_nat n]
        cases ec : TL.numL n with
        | nil => exact absurd ec (TL.numL_ne n)
        | cons c cs =>
          have hc : z.cps.toList[a.length]? = some c := by
            rw [el, ec, List.getElem?_append_right (Nat.le_refl _), Nat.sub_self] <;> rfl
          have hdig := TL.numL_digits n c (by rw [ec]; exact List.mem_cons_self ..)
          refine s_when (b := false) (et_is (et_test (ev_eqS (ev_call (ea_cons (ev_var rfl) (ea_cons (ev_var rfl) ea_nil)) (cv_sign hz hc)) ev_c)) ?_) (fun z => nomatch z) fun _ H2 e2 => ⟨a, n, rfl, e1.trans e2, el, hn, by rw [show numC (Int.ofNat n) = TL.numL n from numC_nat n]⟩
          rw [e45, str1_eq]
          exact decide_eq_false (by omega)
      | negSucc n =>
        have hn : n + 1 < 10 ^ 60 := by
          rw [n60]
          have := hi.1
          rw [e60] at this
          omega
        have el0 : z.cps.toList = a ++ (45 :: (TL.numL (n + 1) ++ (59 :: r))) := by
          rw [hl, numC_neg] <;> rfl
        have el : z.cps.toList = (a ++ [45]) ++ (TL.numL (n + 1) ++ (59 :: r)) := by
          rw [el0, List.append_assoc] <;> rfl
        have hc : z.cps.toList[a.length]? = some 45 := by
          rw [el0, List.getElem?_append_right (Nat.le_refl _), Nat.sub_self] <;> rfl
        refine s_when (b := true) (et_is (et_test (ev_eqS (ev_call (ea_cons (ev_var rfl) (ea_cons (ev_var rfl) ea_nil)) (cv_sign hz hc)) ev_c)) (by rw [e45]; exact decide_eq_true rfl)) (fun _ H2 e2 => ?_) (fun z => nomatch z)
        refine q_asg (v := .int ((a ++ [45]).length : Int)) (ev_is (ev_bin0 (ev_var rfl) ev_c) (congrArg V.int (by rw [List.length_append] <;> rfl))) fun H3 e3 => ?_
        cases ec : TL.numL (n + 1) with
        | nil => exact absurd ec (TL.numL_ne (n + 1))
        | cons c cs =>
          have hc2 : z.cps.toList[(a ++ [45]).length]? = some c := by
            rw [el, ec, List.getElem?_append_right (Nat.le_refl _), Nat.sub_self] <;> rfl
          have hne : c ≠ 48 := fun z => by
            rcases numL_head (n + 1) with h | h
            · rw [ec] at h
              have hr : cs = [] := List.length_eq_zero_iff.mp (by simpa using h)
              have hv := TL.numL_val (n + 1)
              rw [ec, hr, z] at hv
              have : (0 : Nat) = n + 1 := hv
              omega
            · rw [ec, z] at h
              exact h rfl
          refine s_when (b := false) (et_is (et_test (ev_eqS (ev_call (ea_cons (ev_var rfl) (ea_cons (ev_var rfl) ea_nil)) (cv_sign hz hc2)) ev_c)) ?_) (fun z => nomatch z) fun _ H4 e4 => ⟨a ++ [45], n + 1, rfl, ((e1.trans e2).trans e3).trans e4, el, hn, ?_⟩
          · rw [e48, str1_eq]
            exact decide_eq_false hne
          · simp only [numC_neg, List.length_append, List.length_cons, List.length_nil]
            omega
    · obtain ⟨b, n, rfl, eM, el, hn, hlen⟩ := hM
      have dg : Digs (TL.numL n) 60 := digs_num (by decide) hn
      refine q_asg (v := .int ((b.length + (TL.numL n).length : Nat) : Int)) (ev_call (ea_cons (ev_var rfl) (ea_cons (ev_var rfl) (ea_cons ev_c (ea_cons (ev_is ev_c (congrArg V.str e58)) ea_nil)))) (cv_end (most := 60) hz el dg (by omega))) fun H2 e2 => ?_
      rw [hlen]
      refine eu_ret2 (ev_intT (ev_is (ev_slB (ev_var rfl) (eo_some (ev_var rfl)) (eo_some (ev_var rfl)) (by omega)) (congrArg V.str cz)) hti htl) (ev_is (ev_bin0 (ev_var rfl) ev_c) (congrArg V.int (show ((a.length + (numC i).length : Nat) : Int) + 1 = ((a.length + (numC i).length + 1 : Nat) : Int) by omega))) fun t H3 e3 ht => q t H3 (.int i) (eM.trans (e2.trans e3)) ht (.int i)


/-! ### _read_text -/
def spRText (K : PySem.W.Frag) : Sp := fun vs H Q _ => ∃ (z : Str) (a r : List Nat) (x : Str), vs = [.str z, .int (a.length : Int)] ∧ z.length ≤ 16000000 ∧ z.cps.toList = a ++ (numC (x.length : Int) ++ (58 :: (x.cps.toList ++ r))) ∧ x.length ≤ 999999 ∧ spPair K (.str x) ((a.length + (numC (x.length : Int)).length + 1 + x.length : Nat) : Int) H Q
theorem ok_read_text (T : Txt K mg base P) : FnOk P w K mg base CX0 3 T.f_read_text T.d_read_text ["text", "index"] (spRText K) := by
  refine T.F_read_text.ok sc_read_text (fun vs H Q E h => ?_) (fun cdv A outer s H vs Q E hr h => ?_)
  · obtain ⟨z, a, r, x, rfl, _⟩ := h
    rfl
  · obtain ⟨z, a, r, x, rfl, hz, hl, hx, q⟩ := h
    have e58 : (Str.ofString ":") = ⟨#[58]⟩ := by decide +kernel
    have hx6 : x.length < 10 ^ 6 := by
      show x.length < 1000000
      omega
    have hn : numC (x.length : Int) = TL.numL x.length := numC_nat _
    rw [hn] at hl q
    have dg : Digs (TL.numL x.length) 6 := digs_num (by decide) hx6
    have d6 := dg.len
    have cz := cutS_at hl
    have hlen : z.length = a.length + ((TL.numL x.length).length + (1 + (x.length + r.length))) := by
      rw [str_len, hl, List.length_append, List.length_append, List.length_cons, List.length_append, ← str_len]
      omega
    have hl2 : z.cps.toList = (a ++ (TL.numL x.length ++ [58])) ++ (x.cps.toList ++ r) := by
      rw [hl]
      simp
    have la : (a ++ (TL.numL x.length ++ [58])).length = a.length + (TL.numL x.length).length + 1 := by
      rw [List.length_append, List.length_append, List.length_singleton]
      omega
    have cx := cutS_at hl2
    rw [la, ← str_len] at cx
    have ex : (⟨x.cps.toList.toArray⟩ : Str) = x := str_ext rfl
    rw [ex] at cx
    have hti : intText? (⟨(TL.numL x.length).toArray⟩ : Str) = some (x.length : Int) := by
      have e : (⟨(TL.numL x.length).toArray⟩ : Str) = Str.ofString (toString ((x.length : Nat) : Int)) := str_ext (TL.tl_num x.length).symm
      rw [e]
      exact TL.int_num (by omega)
    refine ⟨_, pss_cons (ps_set (i := 2) sc_read_text.nd rfl (by first | exact Or.inl rfl | exact Or.inr rfl) (pe_call (ok_end_of_digits T) (hr.mono (by first | decide | omega)) (by rfl) T.g_end_of_digits T.F_end_of_digits.kp T.b_end_of_digits .nil pass0 (pa_cons (pv 0) (pa_cons (pv 1) (pa_cons (pe_glob (v := .int 6) rfl T.k_MOST_LENGTH_DIGITS ⟨_, rfl⟩) (pa_cons (pe_str) (pa_nil)))))))
      (pss_cons (ps_set (i := 3) sc_read_text.nd rfl (by first | exact Or.inl rfl | exact Or.inr rfl) (pe_op op_add (pv 2) (pe_int)))
      (pss_cons (ps_set (i := 4) sc_read_text.nd rfl (by first | exact Or.inl rfl | exact Or.inr rfl) (pe_op op_add (pv 3) (pe_callTy call_int_str (by rfl) T.m_int (by decide +kernel) (pa_cons (pe_slice sl_str (pv 0) (po_some (pv 1)) (po_some (pv 2))) (pa_nil)))))
      (pss_cons (ps_if (pt_cmpR op_gt (pv 4) (pe_callB call_len_str (by rfl) T.m_len (by decide +kernel) (pa_cons (pv 0) (pa_nil))) (nomark _))
      (pss_one (ps_never))
      (pss_nil))
      (pss_one (ps_ret (pe_tup (pa_cons (pe_slice sl_str (pv 0) (po_some (pv 3)) (po_some (pv 4))) (pa_cons (pv 4) (pa_nil))))))))), ?_⟩
    refine q_asg (v := .int ((a.length + (TL.numL x.length).length : Nat) : Int)) (ev_call (ea_cons (ev_var rfl) (ea_cons (ev_var rfl) (ea_cons ev_c (ea_cons (ev_is ev_c (congrArg V.str e58)) ea_nil)))) (cv_end (most := 6) hz hl dg (by omega))) fun H1 e1 => ?_
    refine q_asg (v := .int ((a.length + (TL.numL x.length).length + 1 : Nat) : Int)) (ev_is (ev_bin0 (ev_var rfl) ev_c) (congrArg V.int (by omega))) fun H2 e2 => ?_
    refine q_asg (v := .int ((a.length + (TL.numL x.length).length + 1 + x.length : Nat) : Int)) (ev_is (ev_bin0 (ev_var rfl) (ev_intT (ev_is (ev_slB (ev_var rfl) (eo_some (ev_var rfl)) (eo_some (ev_var rfl)) (by omega)) (congrArg V.str cz)) hti (by show (TL.numL x.length).toArray.size ≤ 640; rw [List.size_toArray]; omega))) (congrArg V.int (by omega))) fun H3 e3 => ?_
    refine q_when (b := false) (et_is (et_test (ev_bin0 (ev_var rfl) (ev_lenB (ev_var rfl) (by omega)))) (decide_eq_false (by omega))) (fun z => nomatch z) fun _ H4 e4 => ?_
    refine eu_ret2 (ev_is (ev_slB (ev_var rfl) (eo_some (ev_var rfl)) (eo_some (ev_var rfl)) (by omega)) (congrArg V.str cx)) (ev_var rfl) fun t H5 e5 ht => q t H5 (.str x) ((((e1.trans e2).trans e3).trans e4).trans e5) ht (.str x)


/-! ### _read_item -/
/-- the item d stands in the text behind a -/
def spItem (K : PySem.W.Frag) (n : Nat) : Sp := fun vs H Q _ => ∃ (z : Str) (a r : List Nat) (level : Nat) (d : It), vs = [.str z, .int (a.length : Int), .int (level : Int)] ∧ z.length ≤ 16000000 ∧ z.cps.toList = a ++ (encC d ++ r) ∧ d.fit n ∧ level + n ≤ 12 ∧ spPair K d ((a.length + (encC d).length : Nat) : Int) H Q
/-- the parts ds and a closing sign stand behind a -/
def spTup (K : PySem.W.Frag) (n : Nat) : Sp := fun vs H Q _ => ∃ (z : Str) (a r : List Nat) (level : Nat) (ds : List It), vs = [.str z, .int (a.length : Int), .int (level : Int)] ∧ z.length ≤ 16000000 ∧ z.cps.toList = a ++ (encL ds ++ (41 :: r)) ∧ (∀ d ∈ ds, It.fit n d) ∧ ds.length ≤ 1000 ∧ level + n ≤ 12 ∧ spPair K (.tup ds) ((a.length + (encL ds).length + 1 : Nat) : Int) H Q
theorem encC_first (d : It) : ∃ c rest, encC d = c :: rest ∧ c ≠ 41 := by
  cases d with
  | non => exact ⟨110, [], rfl, by decide⟩
  | int i => exact ⟨105, _, rfl, by decide⟩
  | str z => exact ⟨116, _, rfl, by decide⟩
  | tup xs => exact ⟨40, _, rfl, by decide⟩
theorem sg (c : Nat) (s : String) (x : Nat) (h : (Str.ofString s) = ⟨#[x]⟩) : decide ((⟨#[c]⟩ : Str) = Str.ofString s) = decide (c = x) := by rw [h, str1_eq]
/-- part, index = f(text, index, level) -/
theorem q_part {sp : Sp} {E : XK} {K : PySem.W.Frag} {σ : L2.St} {H : Hp} {ta tb tc : TE} {x y u : V} {tz : TS} {D : Ends} {n i j : Nat} (ha : Ev ta σ H x) (hb : Ev tb σ H y) (hc : Ev tc σ H u) (hn : 2 = n)
    (h : ∀ H1, Ex H H1 → sp [x, y, u] H1 (fun v H2 => gTup K 2 (gCons (gName i) (gCons (gName j) gNil)) v σ H2 fun σ' H' => tz D σ' H') E) : tSeq (tAsg (tCall sp [] E (tCons ta (tCons tb (tCons tc tNil)))) (gTup K n (gCons (gName i) (gCons (gName j) gNil)))) tz D σ H := by
  subst hn
  exact ha H (Ex.refl H) _ fun H1 e1 => hb H1 e1 _ fun H2 e2 => hc H2 (e1.trans e2) _ fun H3 e3 => h H3 ((e1.trans e2).trans e3)
/-- a pair of a new tuple and a value -/
theorem eu_pair' {σ : L2.St} {H : Hp} {ta tb : TE} {xs : List V} {y : V} (h : EvU ta σ H xs) (hb : Ev tb σ H y) : ∀ H1, Ex H H1 → ∀ Q : VK, (∀ t u H2, Ex H1 H2 → H2 u = some (.tup xs) → H2 t = some (.tup [.ref u, y]) → Q (.ref t) H2) → tTup (tCons ta (tCons tb tNil)) σ H1 Q := fun H1 e Q q =>
  h H1 e _ fun u H2 _ e2 hu => hb H2 (e.trans e2) _ fun H3 e3 => ⟨(by show 2 ≤ sizeLine; decide), fun t ht => q t u _ ((e2.trans e3).trans (Ex.new ht)) (by rw [upd_ne (ne_of_none (e3 _ _ hu) ht)]; exact e3 _ _ hu) upd_same⟩
theorem s_retPr {σ : L2.St} {H : Hp} {ta tb : TE} {xs : List V} {y : V} {D : Ends} (h : EvU ta σ H xs) (hb : Ev tb σ H y) (k : ∀ t u H2, Ex H H2 → H2 u = some (.tup xs) → H2 t = some (.tup [.ref u, y]) → D.rt (.ref t) H2) : tRet (tTup (tCons ta (tCons tb tNil))) D σ H := eu_pair' h hb H (Ex.refl H) _ k
theorem s_callP {sp : Sp} {E : XK} {σ : L2.St} {H : Hp} {ta tb : TE} {x y : V} {D : Ends} (ha : Ev ta σ H x) (hb : Ev tb σ H y) (h : ∀ H1, Ex H H1 → sp [x, y] H1 D.rt E) : tRet (tCall sp [] E (tCons ta (tCons tb tNil))) D σ H :=
  ha H (Ex.refl H) _ fun H1 e1 => hb H1 e1 _ fun H2 e2 => h H2 (e1.trans e2)
theorem s_callP3 {sp : Sp} {E : XK} {σ : L2.St} {H : Hp} {ta tb tc : TE} {x y u : V} {D : Ends} (ha : Ev ta σ H x) (hb : Ev tb σ H y) (hc : Ev tc σ H u) (h : ∀ H1, Ex H H1 → sp [x, y, u] H1 D.rt E) : tRet (tCall sp [] E (tCons ta (tCons tb (tCons tc tNil)))) D σ H :=
  ha H (Ex.refl H) _ fun H1 e1 => hb H1 e1 _ fun H2 e2 => hc H2 (e1.trans e2) _ fun H3 e3 => h H3 ((e1.trans e2).trans e3)
theorem ok_read_tuple_of {n k : Nat} (T : Txt K mg base P) (hk : 4 ≤ k) (IHI : FnOk P w K mg base CX0 k T.f_read_item T.d_read_item ["text", "index", "level"] (spItem K n)) : FnOk P w K mg base CX0 (k + 1) T.f_read_tuple T.d_read_tuple ["text", "index", "level"] (spTup K n) := by
  refine T.F_read_tuple.ok sc_read_tuple (fun vs H Q E h => ?_) (fun cdv A outer s H vs Q E hr h => ?_)
  · obtain ⟨z, a, r, l, ds, rfl, _⟩ := h
    rfl
  · obtain ⟨z, a, r, l, ds, rfl, hz, hl, hf, h1000, hlv, q⟩ := h
    have ec : (Str.ofString ")") = ⟨#[41]⟩ := by decide +kernel
    refine ⟨_, pss_cons (ps_set (i := 3) sc_read_tuple.nd rfl (by first | exact Or.inl rfl | exact Or.inr rfl) (pe_lst (pa_nil)))
      (pss_cons (ps_while PassesOwn.never (pt_cmpR op_ne (pe_call (ok_sign_at T) (hr.mono (by first | decide | omega)) (by rfl) T.g_sign_at T.F_sign_at.kp T.b_sign_at .nil pass0 (pa_cons (pv 0) (pa_cons (pv 1) (pa_nil)))) (pe_str) (nomark _))
      (pss_cons (ps_asg (pe_call IHI (hr.mono (by omega)) (by rfl) T.g_read_item T.F_read_item.kp T.b_read_item .nil pass0 (pa_cons (pv 0) (pa_cons (pv 1) (pa_cons (pv 2) (pa_nil))))) (pg_tup rfl (pgs_cons (pg_name (i := 4) sc_read_tuple.nd rfl (by first | exact Or.inl rfl | exact Or.inr rfl)) (pgs_cons (pg_name (i := 1) sc_read_tuple.nd rfl (by first | exact Or.inl rfl | exact Or.inr rfl)) (pgs_nil)))))
      (pss_one (ps_expr (pe_bm PySem.F.plainAttrs_list PySem.F.slot_list_append PySem.F.type_list_append mt_append (pv 3) (pa_cons (pv 4) (pa_nil)))))))
      (pss_one (ps_ret (pe_tup (pa_cons (pe_callTy (r := rTupOf K) call_tuple_of (by rfl) T.m_tuple (by decide +kernel) (pa_cons (pv 3) (pa_nil))) (pa_cons (pe_op op_add (pv 1) (pe_int)) (pa_nil))))))), ?_⟩
    refine q_asgL (el_lst ea_nil (by decide)) fun p H1 np e1 hp => ?_
    have cat : ∀ j, encL ds = encL (ds.take j) ++ encL (ds.drop j) := fun j => by rw [← encL_app, List.take_append_drop]
    refine q_while (fun m σ' H' => ∃ (j : Nat) (vs : List V) (pv : Option V), m = ds.length - j ∧ j ≤ ds.length ∧ σ' = [some (.str z), some (.int ((a.length + (encL (ds.take j)).length : Nat) : Int)), some (.int (l : Int)), some (.ref p), pv] ∧ Ex H H' ∧ H' p = some (.lst vs) ∧ DvL K H' vs (ds.take j)) ds.length ⟨0, [], none, rfl, Nat.zero_le _, rfl, e1, hp, .nil⟩ (fun m σ' H' hW => ?_)
    obtain ⟨j, vs, pv, rfl, hj, rfl, eH, hp, hv⟩ := hW
    have hvl : vs.length = j := by
      rw [hv.len, List.length_take]
      omega
    by_cases hjl : j < ds.length
    · have hdj : ds.drop j = ds[j] :: ds.drop (j + 1) := List.drop_eq_getElem_cons hjl
      have el : z.cps.toList = (a ++ encL (ds.take j)) ++ (encC ds[j] ++ (encL (ds.drop (j + 1)) ++ (41 :: r))) := by
        rw [hl, cat j, hdj]
        show a ++ ((encL (ds.take j) ++ (encC ds[j] ++ encL (ds.drop (j + 1)))) ++ (41 :: r)) = _
        simp
      have la : (a ++ encL (ds.take j)).length = a.length + (encL (ds.take j)).length := List.length_append ..
      obtain ⟨c, rest, hc1, hc2⟩ := encC_first ds[j]
      have hc : z.cps.toList[a.length + (encL (ds.take j)).length]? = some c := by
        rw [el, hc1, ← la, List.getElem?_append_right (Nat.le_refl _), Nat.sub_self] <;> rfl
      refine ⟨true, et_is (et_test (ev_neS (ev_call (ea_cons (ev_var rfl) (ea_cons (ev_var rfl) ea_nil)) (cv_sign hz hc)) ev_c)) (by rw [ec, str1_eq, decide_eq_false hc2] <;> rfl), fun _ H2 e2 => ?_, fun z => nomatch z⟩
      refine ⟨fun σ' H' => ∃ (vs : List V) (pv : Option V), σ' = [some (.str z), some (.int ((a.length + (encL (ds.take (j + 1))).length : Nat) : Int)), some (.int (l : Int)), some (.ref p), pv] ∧ Ex H H' ∧ H' p = some (.lst vs) ∧ DvL K H' vs (ds.take (j + 1)), fun σ2 H3 hN => ?_, ?_⟩
      · obtain ⟨vs, pv, rfl, e3, h3, h4⟩ := hN
        exact ⟨ds.length - (j + 1), by omega, j + 1, vs, pv, rfl, by omega, rfl, e3, h3, h4⟩
      · have tk : ds.take (j + 1) = ds.take j ++ [ds[j]] := by rw [List.take_add_one, List.getElem?_eq_getElem hjl] <;> rfl
        have lk : (encL (ds.take (j + 1))).length = (encL (ds.take j)).length + (encC ds[j]).length := by
          rw [tk, encL_app, List.length_append]
          show _ + (encC ds[j] ++ []).length = _
          rw [List.append_nil]
        refine q_part (ev_var rfl) (ev_is (ev_var rfl) (congrArg V.int (by rw [la]))) (ev_var rfl) (by rfl) fun H4 e4 => ⟨z, a ++ encL (ds.take j), _, l, ds[j], rfl, hz, el, hf _ (List.getElem_mem hjl), hlv, fun t H5 v e5 h5 hv5 => ⟨t, _, rfl, st_of h5, rfl, v, _, rfl, _, _, rfl, rfl, ?_⟩⟩
        have ei : (((a ++ encL (ds.take j)).length + (encC ds[j]).length : Nat) : Int) = ((a.length + (encL (ds.take (j + 1))).length : Nat) : Int) := by
          rw [la, lk]
          omega
        rw [ei]
        have E5 := (e2.trans e4).trans e5
        refine s_app (K := K) (E5 _ _ hp) (ev_var rfl) (ev_var rfl) (by omega) fun H6 e6 => ⟨vs ++ [v], some v, rfl, ((eH.trans E5).trans e6).mut np, upd_same, ?_⟩
        rw [tk]
        exact ((hv.mono (E5.trans e6)).app (.cons (hv5.mono e6) .nil)).monoN (.upd ((E5.trans e6) _ _ hp))
    · have hje : j = ds.length := by omega
      subst hje
      rw [List.take_length] at hv
      rw [List.take_length]
      have hc : z.cps.toList[a.length + (encL ds).length]? = some 41 := by
        rw [hl, ← List.append_assoc, ← List.length_append, List.getElem?_append_right (Nat.le_refl _), Nat.sub_self] <;> rfl
      refine ⟨false, et_is (et_test (ev_neS (ev_call (ea_cons (ev_var rfl) (ea_cons (ev_var rfl) ea_nil)) (cv_sign hz hc)) ev_c)) (by rw [ec, str1_eq, decide_eq_true rfl] <;> rfl), (fun z => nomatch z), fun _ H2 e2 => ?_⟩
      refine s_retPr (eu_ofL (K := K) (ev_var rfl) (sq_of (e2 _ _ hp))) (ev_is (ev_bin0 (ev_var rfl) ev_c) (congrArg V.int (show ((a.length + (encL ds).length : Nat) : Int) + 1 = ((a.length + (encL ds).length + 1 : Nat) : Int) by omega))) fun t u H3 e3 hu ht => q t H3 (.ref u) ((eH.trans e2).trans e3) ht (.tup (st_of hu) (hv.mono (e2.trans e3)))
theorem ok_item_at (T : Txt K mg base P) : ∀ n : Nat, FnOk P w K mg base CX0 (2 * n + 4) T.f_read_item T.d_read_item ["text", "index", "level"] (spItem K n)
  | 0 => by
    refine T.F_read_item.ok sc_read_item (fun vs H Q E h => ?_) (fun cdv A outer s H vs Q E hr h => ?_)
    · obtain ⟨z, a, r, l, d, rfl, _⟩ := h
      rfl
    · obtain ⟨z, a, r, l, d, rfl, hz, hl, hf, hlv, q⟩ := h
      have en : (Str.ofString "n") = ⟨#[110]⟩ := by decide +kernel
      have ei : (Str.ofString "i") = ⟨#[105]⟩ := by decide +kernel
      have et : (Str.ofString "t") = ⟨#[116]⟩ := by decide +kernel
      have eo : (Str.ofString "(") = ⟨#[40]⟩ := by decide +kernel
      have hd0 : ∀ c rest, encC d = c :: rest → z.cps.toList[a.length]? = some c := fun c rest e => by
        rw [hl, e, List.getElem?_append_right (Nat.le_refl _), Nat.sub_self] <;> rfl
      have hs : ∀ (c x : Nat), c ≠ x → ∀ s, (Str.ofString s) = ⟨#[x]⟩ → decide ((⟨#[c]⟩ : Str) = Str.ofString s) = false := fun c x h s hx => by
        rw [hx, str1_eq]
        exact decide_eq_false h
      have ht : ∀ (x : Nat) (s : String), (Str.ofString s) = ⟨#[x]⟩ → decide ((⟨#[x]⟩ : Str) = Str.ofString s) = true := fun x s hx => by
        rw [hx]
        exact decide_eq_true rfl
      refine ⟨_, pss_cons (ps_set (i := 3) sc_read_item.nd rfl (by first | exact Or.inl rfl | exact Or.inr rfl) (pe_call (ok_sign_at T) (hr.mono (by first | decide | omega)) (by rfl) T.g_sign_at T.F_sign_at.kp T.b_sign_at .nil pass0 (pa_cons (pv 0) (pa_cons (pv 1) (pa_nil)))))
      (pss_cons (ps_if (pt_cmpR op_eq (pv 3) (pe_str) (nomark _))
      (pss_one (ps_ret (pe_tup (pa_cons (pe_non) (pa_cons (pe_op op_add (pv 1) (pe_int)) (pa_nil))))))
      (pss_nil))
      (pss_cons (ps_if (pt_cmpR op_eq (pv 3) (pe_str) (nomark _))
      (pss_one (ps_ret (pe_call (ok_read_integer T) (hr.mono (by first | decide | omega)) (by rfl) T.g_read_integer T.F_read_integer.kp T.b_read_integer .nil pass0 (pa_cons (pv 0) (pa_cons (pe_op op_add (pv 1) (pe_int)) (pa_nil))))))
      (pss_nil))
      (pss_cons (ps_if (pt_cmpR op_eq (pv 3) (pe_str) (nomark _))
      (pss_one (ps_ret (pe_call (ok_read_text T) (hr.mono (by first | decide | omega)) (by rfl) T.g_read_text T.F_read_text.kp T.b_read_text .nil pass0 (pa_cons (pv 0) (pa_cons (pe_op op_add (pv 1) (pe_int)) (pa_nil))))))
      (pss_nil))
      (pss_cons (ps_if (PW.pt (pw_and (pt_cmpR op_eq (pv 3) (pe_str) (nomark _)) (pw_and1 (pt_cmpR op_lt (pv 2) (pe_glob (v := .int 12) rfl T.k_MOST_LEVELS ⟨_, rfl⟩) (nomark _)))))
      (pss_one (ps_never))
      (pss_nil))
      (pss_one (ps_never)))))), ?_⟩
      cases d with
      | non =>
        refine q_asg (ev_call (ea_cons (ev_var rfl) (ea_cons (ev_var rfl) ea_nil)) (cv_sign hz (hd0 110 [] rfl))) fun H1 e1 => ?_
        refine q_when (b := true) (et_is (et_test (ev_eqS (ev_var rfl) ev_c)) (ht 110 _ en)) (fun _ H2 e2 => ?_) (fun z => nomatch z)
        exact eu_ret2 ev_c (ev_is (ev_bin0 (ev_var rfl) ev_c) (congrArg V.int (show (a.length : Int) + 1 = ((a.length + (encC .non).length : Nat) : Int) by show _ = ((a.length + 1 : Nat) : Int); omega))) fun t H3 e3 h3 => q t H3 .non ((e1.trans e2).trans e3) h3 .non
      | int i =>
        refine q_asg (ev_call (ea_cons (ev_var rfl) (ea_cons (ev_var rfl) ea_nil)) (cv_sign hz (hd0 105 _ rfl))) fun H1 e1 => ?_
        refine q_when (b := false) (et_is (et_test (ev_eqS (ev_var rfl) ev_c)) (hs 105 110 (by decide) _ en)) (fun z => nomatch z) fun _ H2 e2 => ?_
        refine q_when (b := true) (et_is (et_test (ev_eqS (ev_var rfl) ev_c)) (ht 105 _ ei)) (fun _ H3 e3 => ?_) (fun z => nomatch z)
        have hl2 : z.cps.toList = (a ++ [105]) ++ (numC i ++ (59 :: r)) := by
          rw [hl]
          show a ++ ((105 :: (numC i ++ [59])) ++ r) = _
          simp
        refine s_callP (ev_var rfl) (ev_is (ev_bin0 (ev_var rfl) ev_c) (congrArg V.int (show (a.length : Int) + 1 = ((a ++ [105]).length : Int) by rw [List.length_append] <;> rfl))) fun H4 e4 => ⟨z, a ++ [105], r, i, rfl, hz, hl2, fit_int60 hf, fun t H5 v e5 h5 hv => ?_⟩
        refine q t H5 v ((((e1.trans e2).trans e3).trans e4).trans e5) ?_ hv
        rw [h5]
        have : (a ++ [105]).length + (numC i).length + 1 = a.length + (encC (.int i)).length := by
          show _ = a.length + (105 :: (numC i ++ [59])).length
          simp only [List.length_append, List.length_cons, List.length_nil]
          omega
        rw [this]
      | str x =>
        refine q_asg (ev_call (ea_cons (ev_var rfl) (ea_cons (ev_var rfl) ea_nil)) (cv_sign hz (hd0 116 _ rfl))) fun H1 e1 => ?_
        refine q_when (b := false) (et_is (et_test (ev_eqS (ev_var rfl) ev_c)) (hs 116 110 (by decide) _ en)) (fun z => nomatch z) fun _ H2 e2 => ?_
        refine q_when (b := false) (et_is (et_test (ev_eqS (ev_var rfl) ev_c)) (hs 116 105 (by decide) _ ei)) (fun z => nomatch z) fun _ H3 e3 => ?_
        refine q_when (b := true) (et_is (et_test (ev_eqS (ev_var rfl) ev_c)) (ht 116 _ et)) (fun _ H4 e4 => ?_) (fun z => nomatch z)
        have hl2 : z.cps.toList = (a ++ [116]) ++ (numC (x.length : Int) ++ (58 :: (x.cps.toList ++ r))) := by
          rw [hl]
          show a ++ ((116 :: (numC (x.length : Int) ++ (58 :: x.cps.toList))) ++ r) = _
          simp
        refine s_callP (ev_var rfl) (ev_is (ev_bin0 (ev_var rfl) ev_c) (congrArg V.int (show (a.length : Int) + 1 = ((a ++ [116]).length : Int) by rw [List.length_append] <;> rfl))) fun H5 e5 => ⟨z, a ++ [116], r, x, rfl, hz, hl2, fit_str hf, fun t H6 v e6 h6 hv => ?_⟩
        refine q t H6 v (((((e1.trans e2).trans e3).trans e4).trans e5).trans e6) ?_ hv
        rw [h6]
        have : (a ++ [116]).length + (numC (x.length : Int)).length + 1 + x.length = a.length + (encC (.str x)).length := by
          show _ = a.length + (116 :: (numC (x.length : Int) ++ (58 :: x.cps.toList))).length
          simp only [List.length_append, List.length_cons, List.length_nil, str_len]
          omega
        rw [this]
      | tup ds =>
        exact hf.elim
  | n + 1 => by
    have IHT := ok_read_tuple_of T (by omega) (ok_item_at T n)
    refine T.F_read_item.ok sc_read_item (fun vs H Q E h => ?_) (fun cdv A outer s H vs Q E hr h => ?_)
    · obtain ⟨z, a, r, l, d, rfl, _⟩ := h
      rfl
    · obtain ⟨z, a, r, l, d, rfl, hz, hl, hf, hlv, q⟩ := h
      have en : (Str.ofString "n") = ⟨#[110]⟩ := by decide +kernel
      have ei : (Str.ofString "i") = ⟨#[105]⟩ := by decide +kernel
      have et : (Str.ofString "t") = ⟨#[116]⟩ := by decide +kernel
      have eo : (Str.ofString "(") = ⟨#[40]⟩ := by decide +kernel
      have hd0 : ∀ c rest, encC d = c :: rest → z.cps.toList[a.length]? = some c := fun c rest e => by
        rw [hl, e, List.getElem?_append_right (Nat.le_refl _), Nat.sub_self] <;> rfl
      have hs : ∀ (c x : Nat), c ≠ x → ∀ s, (Str.ofString s) = ⟨#[x]⟩ → decide ((⟨#[c]⟩ : Str) = Str.ofString s) = false := fun c x h s hx => by
        rw [hx, str1_eq]
        exact decide_eq_false h
      have ht : ∀ (x : Nat) (s : String), (Str.ofString s) = ⟨#[x]⟩ → decide ((⟨#[x]⟩ : Str) = Str.ofString s) = true := fun x s hx => by
        rw [hx]
        exact decide_eq_true rfl
      refine ⟨_, pss_cons (ps_set (i := 3) sc_read_item.nd rfl (by first | exact Or.inl rfl | exact Or.inr rfl) (pe_call (ok_sign_at T) (hr.mono (by first | decide | omega)) (by rfl) T.g_sign_at T.F_sign_at.kp T.b_sign_at .nil pass0 (pa_cons (pv 0) (pa_cons (pv 1) (pa_nil)))))
      (pss_cons (ps_if (pt_cmpR op_eq (pv 3) (pe_str) (nomark _))
      (pss_one (ps_ret (pe_tup (pa_cons (pe_non) (pa_cons (pe_op op_add (pv 1) (pe_int)) (pa_nil))))))
      (pss_nil))
      (pss_cons (ps_if (pt_cmpR op_eq (pv 3) (pe_str) (nomark _))
      (pss_one (ps_ret (pe_call (ok_read_integer T) (hr.mono (by first | decide | omega)) (by rfl) T.g_read_integer T.F_read_integer.kp T.b_read_integer .nil pass0 (pa_cons (pv 0) (pa_cons (pe_op op_add (pv 1) (pe_int)) (pa_nil))))))
      (pss_nil))
      (pss_cons (ps_if (pt_cmpR op_eq (pv 3) (pe_str) (nomark _))
      (pss_one (ps_ret (pe_call (ok_read_text T) (hr.mono (by first | decide | omega)) (by rfl) T.g_read_text T.F_read_text.kp T.b_read_text .nil pass0 (pa_cons (pv 0) (pa_cons (pe_op op_add (pv 1) (pe_int)) (pa_nil))))))
      (pss_nil))
      (pss_cons (ps_if (PW.pt (pw_and (pt_cmpR op_eq (pv 3) (pe_str) (nomark _)) (pw_and1 (pt_cmpR op_lt (pv 2) (pe_glob (v := .int 12) rfl T.k_MOST_LEVELS ⟨_, rfl⟩) (nomark _)))))
      (pss_one (ps_ret (pe_call IHT (hr.mono (by omega)) (by rfl) T.g_read_tuple T.F_read_tuple.kp T.b_read_tuple .nil pass0 (pa_cons (pv 0) (pa_cons (pe_op op_add (pv 1) (pe_int)) (pa_cons (pe_op op_add (pv 2) (pe_int)) (pa_nil)))))))
      (pss_nil))
      (pss_one (ps_never)))))), ?_⟩
      cases d with
      | non =>
        refine q_asg (ev_call (ea_cons (ev_var rfl) (ea_cons (ev_var rfl) ea_nil)) (cv_sign hz (hd0 110 [] rfl))) fun H1 e1 => ?_
        refine q_when (b := true) (et_is (et_test (ev_eqS (ev_var rfl) ev_c)) (ht 110 _ en)) (fun _ H2 e2 => ?_) (fun z => nomatch z)
        exact eu_ret2 ev_c (ev_is (ev_bin0 (ev_var rfl) ev_c) (congrArg V.int (show (a.length : Int) + 1 = ((a.length + (encC .non).length : Nat) : Int) by show _ = ((a.length + 1 : Nat) : Int); omega))) fun t H3 e3 h3 => q t H3 .non ((e1.trans e2).trans e3) h3 .non
      | int i =>
        refine q_asg (ev_call (ea_cons (ev_var rfl) (ea_cons (ev_var rfl) ea_nil)) (cv_sign hz (hd0 105 _ rfl))) fun H1 e1 => ?_
        refine q_when (b := false) (et_is (et_test (ev_eqS (ev_var rfl) ev_c)) (hs 105 110 (by decide) _ en)) (fun z => nomatch z) fun _ H2 e2 => ?_
        refine q_when (b := true) (et_is (et_test (ev_eqS (ev_var rfl) ev_c)) (ht 105 _ ei)) (fun _ H3 e3 => ?_) (fun z => nomatch z)
        have hl2 : z.cps.toList = (a ++ [105]) ++ (numC i ++ (59 :: r)) := by
          rw [hl]
          show a ++ ((105 :: (numC i ++ [59])) ++ r) = _
          simp
        refine s_callP (ev_var rfl) (ev_is (ev_bin0 (ev_var rfl) ev_c) (congrArg V.int (show (a.length : Int) + 1 = ((a ++ [105]).length : Int) by rw [List.length_append] <;> rfl))) fun H4 e4 => ⟨z, a ++ [105], r, i, rfl, hz, hl2, fit_int60 hf, fun t H5 v e5 h5 hv => ?_⟩
        refine q t H5 v ((((e1.trans e2).trans e3).trans e4).trans e5) ?_ hv
        rw [h5]
        have : (a ++ [105]).length + (numC i).length + 1 = a.length + (encC (.int i)).length := by
          show _ = a.length + (105 :: (numC i ++ [59])).length
          simp only [List.length_append, List.length_cons, List.length_nil]
          omega
        rw [this]
      | str x =>
        refine q_asg (ev_call (ea_cons (ev_var rfl) (ea_cons (ev_var rfl) ea_nil)) (cv_sign hz (hd0 116 _ rfl))) fun H1 e1 => ?_
        refine q_when (b := false) (et_is (et_test (ev_eqS (ev_var rfl) ev_c)) (hs 116 110 (by decide) _ en)) (fun z => nomatch z) fun _ H2 e2 => ?_
        refine q_when (b := false) (et_is (et_test (ev_eqS (ev_var rfl) ev_c)) (hs 116 105 (by decide) _ ei)) (fun z => nomatch z) fun _ H3 e3 => ?_
        refine q_when (b := true) (et_is (et_test (ev_eqS (ev_var rfl) ev_c)) (ht 116 _ et)) (fun _ H4 e4 => ?_) (fun z => nomatch z)
        have hl2 : z.cps.toList = (a ++ [116]) ++ (numC (x.length : Int) ++ (58 :: (x.cps.toList ++ r))) := by
          rw [hl]
          show a ++ ((116 :: (numC (x.length : Int) ++ (58 :: x.cps.toList))) ++ r) = _
          simp
        refine s_callP (ev_var rfl) (ev_is (ev_bin0 (ev_var rfl) ev_c) (congrArg V.int (show (a.length : Int) + 1 = ((a ++ [116]).length : Int) by rw [List.length_append] <;> rfl))) fun H5 e5 => ⟨z, a ++ [116], r, x, rfl, hz, hl2, fit_str hf, fun t H6 v e6 h6 hv => ?_⟩
        refine q t H6 v (((((e1.trans e2).trans e3).trans e4).trans e5).trans e6) ?_ hv
        rw [h6]
        have : (a ++ [116]).length + (numC (x.length : Int)).length + 1 + x.length = a.length + (encC (.str x)).length := by
          show _ = a.length + (116 :: (numC (x.length : Int) ++ (58 :: x.cps.toList))).length
          simp only [List.length_append, List.length_cons, List.length_nil, str_len]
          omega
        rw [this]
      | tup ds =>
        refine q_asg (ev_call (ea_cons (ev_var rfl) (ea_cons (ev_var rfl) ea_nil)) (cv_sign hz (hd0 40 _ rfl))) fun H1 e1 => ?_
        refine q_when (b := false) (et_is (et_test (ev_eqS (ev_var rfl) ev_c)) (hs 40 110 (by decide) _ en)) (fun z => nomatch z) fun _ H2 e2 => ?_
        refine q_when (b := false) (et_is (et_test (ev_eqS (ev_var rfl) ev_c)) (hs 40 105 (by decide) _ ei)) (fun z => nomatch z) fun _ H3 e3 => ?_
        refine q_when (b := false) (et_is (et_test (ev_eqS (ev_var rfl) ev_c)) (hs 40 116 (by decide) _ et)) (fun z => nomatch z) fun _ H4 e4 => ?_
        refine q_when (b := true) (et_is (et_and (a := true) (b := true) (et_is (et_test (ev_eqS (ev_var rfl) ev_c)) (ht 40 _ eo)) fun _ => et_is (et_test (ev_bin0 (ev_var rfl) ev_c)) (decide_eq_true (by omega))) rfl) (fun _ H5 e5 => ?_) (fun z => nomatch z)
        have hl2 : z.cps.toList = (a ++ [40]) ++ (encL ds ++ (41 :: r)) := by
          rw [hl]
          show a ++ ((40 :: (encL ds ++ [41])) ++ r) = _
          simp
        refine s_callP3 (ev_var rfl) (ev_is (ev_bin0 (ev_var rfl) ev_c) (congrArg V.int (show (a.length : Int) + 1 = ((a ++ [40]).length : Int) by rw [List.length_append] <;> rfl))) (ev_is (ev_bin0 (ev_var rfl) ev_c) (congrArg V.int (show (l : Int) + 1 = ((l + 1 : Nat) : Int) by omega))) fun H6 e6 => ⟨z, a ++ [40], r, l + 1, ds, rfl, hz, hl2, hf.2, hf.1, by omega, fun t H7 v e7 h7 hv => ?_⟩
        refine q t H7 v ((((((e1.trans e2).trans e3).trans e4).trans e5).trans e6).trans e7) ?_ hv
        rw [h7]
        have : (a ++ [40]).length + (encL ds).length + 1 = a.length + (encC (.tup ds)).length := by
          rw [enc_tup_len, List.length_append, List.length_singleton]
          omega
        rw [this]
theorem ok_read_item (T : Txt K mg base P) : FnOk P w K mg base CX0 28 T.f_read_item T.d_read_item ["text", "index", "level"] (spItem K 12) := ok_item_at T 12


/-! ### decode_prefix -/
theorem ok_decode_prefix (T : Txt K mg base P) : FnOk P w K mg base CX0 29 T.f_decode_prefix T.d_decode_prefix ["text", "index"] (fun vs H Q E => ∃ x y : V, vs = [x, y] ∧ spItem K 12 [x, y, .int 0] H Q E) := by
  refine T.F_decode_prefix.ok sc_decode_prefix (fun vs H Q E h => ?_) (fun cdv A outer s H vs Q E hr h => ?_)
  · obtain ⟨x, y, rfl, _⟩ := h
    rfl
  · obtain ⟨x, y, rfl, h⟩ := h
    obtain ⟨z, a, r, l, d, eq, hz, hl, hf, hlv, q⟩ := h
    refine ⟨_, pss_one (ps_ret (pe_call (ok_read_item T) (hr.mono (by first | decide | omega)) (by rfl) T.g_read_item T.F_read_item.kp T.b_read_item .nil pass0 (pa_cons (pv 0) (pa_cons (pv 1) (pa_cons (pe_int) (pa_nil)))))), ?_⟩
    refine s_callP3 (ev_var rfl) (ev_var rfl) ev_c fun H4 e4 => ⟨z, a, r, l, d, eq, hz, hl, hf, hlv, fun t H5 v e5 h5 hv => q t H5 v (e4.trans e5) h5 hv⟩


/-! ### decode -/
theorem q_part2 {sp : Sp} {E : XK} {K : PySem.W.Frag} {σ : L2.St} {H : Hp} {ta tb : TE} {x y : V} {tz : TS} {D : Ends} {n i j : Nat} (ha : Ev ta σ H x) (hb : Ev tb σ H y) (hn : 2 = n)
    (h : ∀ H1, Ex H H1 → sp [x, y] H1 (fun v H2 => gTup K 2 (gCons (gName i) (gCons (gName j) gNil)) v σ H2 fun σ' H' => tz D σ' H') E) : tSeq (tAsg (tCall sp [] E (tCons ta (tCons tb tNil))) (gTup K n (gCons (gName i) (gCons (gName j) gNil)))) tz D σ H := by
  subst hn
  exact ha H (Ex.refl H) _ fun H1 e1 => hb H1 e1 _ fun H2 e2 => h H2 (e1.trans e2)
theorem ok_decode (T : Txt K mg base P) : FnOk P w K mg base CX0 30 T.f_decode T.d_decode ["text"] (spDec K) := by
  refine T.F_decode.ok sc_decode (fun vs H Q E h => ?_) (fun cdv A outer s H vs Q E hr h => ?_)
  · obtain ⟨z, d, rfl, _⟩ := h
    rfl
  · obtain ⟨z, d, rfl, hz, hf, hl, q⟩ := h
    have el : z.length = (encC d).length := by rw [hz, str_len]
    refine ⟨_, pss_cons (ps_try_thru0 (pss_one (ps_asg (pe_call (ok_decode_prefix T) (hr.mono (by first | decide | omega)) (by rfl) T.g_decode_prefix T.F_decode_prefix.kp T.b_decode_prefix .nil pass0 (pa_cons (pv 0) (pa_cons (pe_int) (pa_nil)))) (pg_tup rfl (pgs_cons (pg_name (i := 1) sc_decode.nd rfl (by first | exact Or.inl rfl | exact Or.inr rfl)) (pgs_cons (pg_name (i := 2) sc_decode.nd rfl (by first | exact Or.inl rfl | exact Or.inr rfl)) (pgs_nil)))))))
      (pss_cons (ps_if (pt_cmpR op_lt (pv 2) (pe_callB call_len_str (by rfl) T.m_len (by decide +kernel) (pa_cons (pv 0) (pa_nil))) (nomark _))
      (pss_one (ps_never))
      (pss_nil))
      (pss_one (ps_ret (pv 1)))), ?_⟩
    refine q_part2 (ev_var rfl) ev_c (by rfl) fun H1 e1 => ⟨_, _, rfl, z, [], [], 0, d, rfl, by omega, by rw [hz]; simp, hf, by omega, fun t H2 v e2 h2 hv => ⟨t, _, rfl, st_of h2, rfl, v, _, rfl, _, _, rfl, rfl, ?_⟩⟩
    have ez : (([] : List Nat).length + (encC d).length : Nat) = z.length := by rw [el]; simp
    refine q_when (b := false) (et_is (et_test (ev_bin0 (ev_var rfl) (ev_lenB (ev_var rfl) (by omega)))) (decide_eq_false (by rw [ez]; omega))) (fun z => nomatch z) fun _ H3 e3 => ?_
    exact s_ret (ev_var rfl) fun H4 e4 => q v H4 (((e1.trans e2).trans e3).trans e4) (hv.mono (e3.trans e4))


/-! ### write_state -/
/-! ### commits and their texts -/
def cmMsg : Nat → Str
  | 0 => Str.ofString ""
  | n + 1 => Str.ofString "m" ++ (toString ((n : Nat) : Int) : Str)
def cI (st : Int) (q : List Int) (m : Str) : It := .tup [.str (Str.ofString "commit"), .int st, .tup (q.map It.int), .str m]
def stI : It := .tup [.str (Str.ofString "state"), .tup []]
def txt (d : It) : Str := ⟨(encC d).toArray⟩
def cmT (j : Nat) (q : List Int) : Str := txt (cI 1 q (cmMsg j))
def cmZ (ps : List (List Int)) : List Str := txt stI :: ps.mapIdx cmT
/-- what stands behind the last colon, backwards -/
def kz (z : Str) : List Nat := z.cps.toList.reverse.takeWhile fun c => c != 58
def mkey (j : Nat) : List Nat := 41 :: (cmMsg j).cps.toList.reverse
theorem takeW {p : Nat → Bool} : ∀ {l : List Nat} {c : Nat} {r : List Nat}, (∀ x ∈ l, p x = true) → p c = false → (l ++ c :: r).takeWhile p = l
  | [], c, r, _, h => by simp [List.takeWhile, h]
  | x :: l, c, r, h, h2 => by
    rw [List.cons_append, List.takeWhile_cons_of_pos (h x List.mem_cons_self), takeW (fun y hy => h y (List.mem_cons_of_mem _ hy)) h2]
theorem msg_no : ∀ j : Fin 64, ((cmMsg j.val).cps.toList.all fun c => c != 58) = true := by decide +kernel
theorem keys_nd : (kz (txt stI) :: (List.range 64).map mkey).Nodup := by decide +kernel
theorem cm_tail (st : Int) (q : List Int) (m : Str) : ∃ pre, encC (cI st q m) = pre ++ 58 :: (m.cps.toList ++ [41]) := by
  refine ⟨40 :: (encC (.str (Str.ofString "commit")) ++ (encC (.int st) ++ (encC (.tup (q.map It.int)) ++ (116 :: numC (m.length : Int))))), ?_⟩
  show 40 :: (encL [.str (Str.ofString "commit"), .int st, .tup (q.map It.int), .str m] ++ [41]) = _
  show 40 :: ((encC (.str (Str.ofString "commit")) ++ (encC (.int st) ++ (encC (.tup (q.map It.int)) ++ ((116 :: (numC (m.length : Int) ++ (58 :: m.cps.toList))) ++ [])))) ++ [41]) = _
  simp
theorem kz_cm (j : Fin 64) (q : List Int) : kz (cmT j.val q) = mkey j.val := by
  obtain ⟨pre, h⟩ := cm_tail 1 q (cmMsg j.val)
  have hn := msg_no j
  unfold kz mkey cmT txt
  rw [h]
  show ((pre ++ 58 :: ((cmMsg j.val).cps.toList ++ [41])).toArray.toList.reverse).takeWhile _ = _
  rw [List.toList_toArray, List.reverse_append, List.reverse_cons, List.reverse_append, List.append_assoc, List.append_assoc]
  show (([41] ++ (cmMsg j.val).cps.toList.reverse) ++ ([58] ++ pre.reverse)).takeWhile _ = _
  refine takeW (fun x hx => ?_) rfl
  rcases List.mem_append.mp hx with h1 | h1
  · rw [List.mem_singleton.mp h1] <;> rfl
  · exact List.all_eq_true.mp hn x (List.mem_reverse.mp h1)
theorem kz_map {ps : List (List Int)} (h : ps.length ≤ 64) : (cmZ ps).map kz = (kz (txt stI) :: (List.range 64).map mkey).take (ps.length + 1) := by
  show kz (txt stI) :: (ps.mapIdx cmT).map kz = kz (txt stI) :: ((List.range 64).map mkey).take ps.length
  congr 1
  refine List.ext_getElem? fun i => ?_
  rw [List.getElem?_map, List.getElem?_mapIdx, List.getElem?_take, List.getElem?_map]
  by_cases hi : i < ps.length
  · rw [if_pos hi, List.getElem?_eq_getElem hi, List.getElem?_range (by omega)]
    exact congrArg some (kz_cm ⟨i, by omega⟩ _)
  · rw [if_neg hi, List.getElem?_eq_none (by omega)] <;> rfl
theorem cmZ_nodup {ps : List (List Int)} (h : ps.length ≤ 64) : (cmZ ps).Nodup := by
  have h1 : ((cmZ ps).map kz).Nodup := by
    rw [kz_map h]
    exact (List.take_sublist _ _).nodup keys_nd
  exact List.Pairwise.of_map (S := (· ≠ ·)) kz (fun a b h z => h (by rw [z])) h1
theorem cmZ_len (ps : List (List Int)) : (cmZ ps).length = ps.length + 1 := by
  show (ps.mapIdx cmT).length + 1 = _
  rw [List.length_mapIdx]
theorem cmZ_app (ps : List (List Int)) (q : List Int) : cmZ (ps ++ [q]) = cmZ ps ++ [cmT ps.length q] := by
  show txt stI :: (ps ++ [q]).mapIdx cmT = _
  rw [List.mapIdx_concat] <;> rfl
theorem cmZ_at {ps : List (List Int)} {j : Nat} {q : List Int} (h : ps[j]? = some q) : (cmZ ps)[j + 1]? = some (cmT j q) := by
  show (ps.mapIdx cmT)[j]? = _
  rw [List.getElem?_mapIdx, h] <;> rfl
/-- a new commit's text is new -/
theorem cmZ_new {ps : List (List Int)} (h : ps.length < 64) (q : List Int) : addZ (cmZ ps) (cmT ps.length q) = cmZ (ps ++ [q]) ∧ posZ (cmT ps.length q) (cmZ (ps ++ [q])) = ps.length + 1 := by
  have nd := cmZ_nodup (ps := ps ++ [q]) (by rw [List.length_append]; show ps.length + 1 ≤ 64; omega)
  have e := cmZ_app ps q
  have hn : cmT ps.length q ∉ cmZ ps := by
    rw [e] at nd
    exact fun hm => (List.nodup_append.mp nd).2.2 _ hm _ (List.mem_singleton.mpr rfl) rfl
  refine ⟨by unfold addZ; rw [if_neg hn, e], ?_⟩
  rw [e, posZ_end hn, cmZ_len]
theorem posZ_is {zs : List Str} {z : Str} {j : Nat} (nd : zs.Nodup) (h : zs[j]? = some z) : addZ zs z = zs ∧ posZ z (addZ zs z) = j := by
  have hm := List.mem_of_getElem? h
  have e : addZ zs z = zs := by unfold addZ; rw [if_pos hm]
  exact ⟨e, by rw [e]; exact posZ_uniq nd h⟩
/-- a store over a book with these texts -/
structure StH (CC CB : Addr) (H : Hp) (p b t d : Addr) (r : Int) (zs : List Str) (kvs : List (Key × V)) (m : Nat) : Prop where
  ck : CkAt CC H p b t r kvs
  bk : BkAt CB H b d (bkL 1 zs)
  dt : d ≠ t
  bp : b ≠ p
  nd : zs.Nodup
  lz : zs.length ≤ 100
  lk : kvs.length ≤ m
section
variable {CC CB : Addr} {H H' : Hp} {p b t d : Addr} {r r' : Int} {zs zs' : List Str} {kvs kvs' : List (Key × V)} {m m' : Nat}
theorem StH.mono (h : StH CC CB H p b t d r zs kvs m) (e : Ex H H') : StH CC CB H' p b t d r zs kvs m := { h with ck := h.ck.mono e, bk := h.bk.mono e }
theorem StH.up (h : StH CC CB H p b t d r zs kvs m) (e : m ≤ m') : StH CC CB H p b t d r zs kvs m' := { h with lk := Nat.le_trans h.lk e }
theorem StH.ne (h : StH CC CB H p b t d r zs kvs m) : p ≠ t ∧ p ≠ d ∧ b ≠ t ∧ b ≠ d := by
  obtain ⟨⟨dx, hp⟩, ht⟩ := h.ck
  obtain ⟨⟨bx, hb⟩, hd⟩ := h.bk
  exact ⟨ne_of hp ht (by intro z; cases z), ne_of hp hd (by intro z; cases z), ne_of hb ht (by intro z; cases z), ne_of hb hd (by intro z; cases z)⟩
/-- what is no part of the store may change -/
theorem StH.but {S : List Addr} (h : StH CC CB H p b t d r zs kvs m) (f : But S H H') (hp : p ∉ S) (hb : b ∉ S) (ht : t ∉ S) (hd : d ∉ S) : StH CC CB H' p b t d r zs kvs m := by
  obtain ⟨⟨dx, h1⟩, h2⟩ := h.ck
  obtain ⟨⟨bx, h3⟩, h4⟩ := h.bk
  exact { h with ck := ⟨⟨dx, f _ _ h1 hp⟩, f _ _ h2 ht⟩, bk := ⟨⟨bx, f _ _ h3 hb⟩, f _ _ h4 hd⟩ }
theorem StH.read (h : StH CC CB H p b t d r zs kvs m) (c : CkAt CC H' p b t r' kvs) (f : But [p] H H') : StH CC CB H' p b t d r' zs kvs m := by
  obtain ⟨⟨bx, h3⟩, h4⟩ := h.bk
  have n := h.ne
  exact { h with ck := c, bk := ⟨⟨bx, f _ _ h3 (fun z => h.bp (List.mem_singleton.mp z))⟩, f _ _ h4 (fun z => n.2.1 (List.mem_singleton.mp z).symm)⟩ }
theorem StH.drop (h : StH CC CB H p b t d r zs kvs m) {k : Key} (h2 : H' t = some (.dK (dropK kvs k))) (f : But [t] H H') : StH CC CB H' p b t d r zs (dropK kvs k) m := by
  obtain ⟨⟨dx, h1⟩, _⟩ := h.ck
  obtain ⟨⟨bx, h3⟩, h4⟩ := h.bk
  have n := h.ne
  exact { h with ck := ⟨⟨dx, f _ _ h1 (fun z => n.1 (List.mem_singleton.mp z))⟩, h2⟩, bk := ⟨⟨bx, f _ _ h3 (fun z => n.2.2.1 (List.mem_singleton.mp z))⟩, f _ _ h4 (fun z => h.dt (List.mem_singleton.mp z))⟩, lk := Nat.le_trans (List.length_filter_le _ _) h.lk }
theorem putK_le (kvs : List (Key × V)) (k : Key) (v : V) : (putK kvs k v).length ≤ kvs.length + 1 := by
  unfold putK
  split
  · rw [List.length_map]; omega
  · rw [List.length_append]; exact Nat.le_refl _
/-- chunks.put(text) -/
theorem put_run {z : Str} {Q : VK} {E : XK} (h : StH CC CB H p b t d r zs kvs m) (hm : m ≤ 900) (hz : zs.length < 100)
    (k : ∀ (n : Int) H', n = 1 + (posZ z (addZ zs z) : Nat) → StH CC CB H' p b t d r (addZ zs z) (putK kvs (Sum.inl n : Key) (.str z)) (m + 1) → But [d, t] H H' → Q (.int n) H') : spCkP CC CB [.ref p, .str z] H Q E := by
  obtain ⟨⟨dx, h1⟩, h2⟩ := h.ck
  obtain ⟨⟨bx, h3⟩, h4⟩ := h.bk
  have n := h.ne
  refine ⟨p, b, t, d, r, kvs, bkL 1 zs, z, rfl, h.ck, h.bk, nums_bk 1 zs, h.dt, by rw [bkL_len]; omega, by have := h.lk; omega, fun i H' hv hd ht f => ?_⟩
  rw [addK_bk] at hv hd
  rw [bkL_val, if_pos (addZ_mem zs z)] at hv
  have hi : i = 1 + (posZ z (addZ zs z) : Nat) := (V.int.inj (Option.some.inj hv)).symm
  refine k i H' hi ⟨⟨⟨dx, f _ _ h1 ?_⟩, ht⟩, ⟨⟨bx, f _ _ h3 ?_⟩, hd⟩, h.dt, h.bp, addZ_nodup h.nd, Nat.le_trans (addZ_len zs z) hz, Nat.le_trans (putK_le _ _ _) (Nat.succ_le_succ h.lk)⟩ f
  · simp only [List.mem_cons, List.not_mem_nil, or_false, not_or]
    exact ⟨n.2.1, n.1⟩
  · simp only [List.mem_cons, List.not_mem_nil, or_false, not_or]
    exact ⟨n.2.2.2, n.2.2.1⟩
end
/-- the store holds all texts of the book -/
def Full (zs : List Str) (kvs : List (Key × V)) : Prop := ∀ (j : Nat) (z : Str), zs[j]? = some z → valV kvs (Sum.inl (1 + (j : Int)) : Key) = some (.str z)
theorem full_nil {kvs : List (Key × V)} : Full [] kvs := fun j z h => by simp at h
theorem Full.put {zs : List Str} {kvs : List (Key × V)} (h : Full zs kvs) (nd : zs.Nodup) (z : Str) : Full (addZ zs z) (putK kvs (Sum.inl (1 + (posZ z (addZ zs z) : Nat)) : Key) (.str z)) := fun j y hy => by
  have nd2 := addZ_nodup (z := z) nd
  rw [valV_put]
  by_cases e : y = z
  · rw [e] at hy
    rw [if_pos (by rw [posZ_uniq nd2 hy] <;> rfl), e]
  · rw [if_neg (fun q => e ?_)]
    · refine h j y ?_
      unfold addZ at hy
      split at hy
      · exact hy
      · by_cases hj : j < zs.length
        · rw [List.getElem?_append_left hj] at hy; exact hy
        · rw [List.getElem?_append_right (by omega)] at hy
          have : y = z := by
            have := List.mem_of_getElem? hy
            exact List.mem_singleton.mp this
          exact absurd this e
    · have e2 : ((1 : Int) + (j : Int)) = 1 + (posZ z (addZ zs z) : Nat) := by
        first | exact Sum.inl.inj q | exact (Sum.inl.inj q).symm
      have ej : posZ z (addZ zs z) = j := by omega
      have := posZ_at (addZ_mem zs z)
      rw [ej, hy] at this
      exact Option.some.inj this
/-! ### written tuples -/
theorem q_asgE {te : TE} {σ : L2.St} {H : Hp} {tz : TS} {D : Ends} {i : Nat} (R : V → Hp → Prop) (h : ∀ Q : VK, (∀ v H1, R v H1 → Q v H1) → te σ H Q) (k : ∀ v H1, R v H1 → tz D (σ.set i (some v)) H1) : tSeq (tAsg te (gName i)) tz D σ H := h _ k
theorem enc_run {K : PySem.W.Frag} {n : Nat} {E : XK} {ta : TA} {σ : L2.St} {H : Hp} {Q : VK} {ds : List It} (h : ∀ R : List V → Hp → Prop, (∀ vs H1, Ex H H1 → DvL K H1 vs ds → R vs H1) → ta σ H R) (hf : It.fit (n + 1) (.tup ds)) (hz : (encC (.tup ds)).length ≤ 16000000)
    (k : ∀ H1, Ex H H1 → Q (.str (txt (.tup ds))) H1) : tCall (spEnc K (n + 1)) [] E (tCons (tTup ta) tNil) σ H Q :=
  call_run (cons_run (tup_run (h _ fun vs H1 e1 hd => ⟨sizeOk (by rw [hd.len]; have := hf.1; omega), fun p hp => ⟨.ref p, .tup ds, rfl, .tup (st_of upd_same) (hd.mono (Ex.new hp)), hf, hz, fun H2 e2 => k H2 ((e1.trans (Ex.new hp)).trans e2)⟩⟩)))
/-- chunks.put(x), the store being variable j -/
theorem put_call {K : PySem.W.Frag} {CC CB : Addr} {E : XK} {te : TE} {σ : L2.St} {H : Hp} {Q : VK} {j : Nat} {p b t d : Addr} {r : Int} {zs : List Str} {kvs : List (Key × V)} {m : Nat} {z : Str} (hj : σ[j]? = some (some (.ref p))) (h : StH CC CB H p b t d r zs kvs m) (hm : m ≤ 900) (hz : zs.length < 100)
    (he : ∀ Q2 : VK, (∀ H1, Ex H H1 → Q2 (.str z) H1) → te σ H Q2) (k : ∀ (n : Int) H', n = 1 + (posZ z (addZ zs z) : Nat) → StH CC CB H' p b t d r (addZ zs z) (putK kvs (Sum.inl n : Key) (.str z)) (m + 1) → But [d, t] H H' → Q (.int n) H') :
    tMeth CC (Str.ofString "put") (spCkP CC CB) [] E (tVar j) (tCons te tNil) σ H Q := by
  obtain ⟨⟨dx, h1⟩, h2⟩ := id h.ck
  exact ⟨_, hj, p, dx, _, rfl, h1, cF_no b r t (by decide +kernel) (by decide +kernel) (by decide +kernel), he _ fun H1 e1 => put_run (E := E) (h.mono e1) hm hz fun n H' hn h' f => k n H' hn h' ((But.of e1).trans f)⟩
/-! ### a commit's item -/
structure CiOk (st : Int) (q : List Int) (m : Str) : Prop where
  hs : -(10 ^ 6) < st ∧ st < 10 ^ 6
  hq : ∀ x ∈ q, -(10 ^ 6) < x ∧ x < 10 ^ 6
  ql : q.length ≤ 10
  ml : m.length ≤ 200
theorem int_fit {i : Int} {n : Nat} (h : -(10 ^ 6) < i ∧ i < 10 ^ 6) : It.fit n (.int i) := by
  have e60 : (10 : Int) ^ 60 = 1000000000000000000000000000000000000000000000000000000000000 := by decide
  cases n <;> (show -(10 ^ 60) < i ∧ i < 10 ^ 60; rw [e60]; omega)
theorem str_fit {z : Str} {n : Nat} (h : z.length ≤ 200) : It.fit n (.str z) := by
  cases n <;> (show z.length ≤ 999999; omega)
theorem CiOk.fit {st : Int} {q : List Int} {m : Str} (h : CiOk st q m) {n : Nat} : (cI st q m).fit (n + 2) := by
  refine ⟨by show 4 ≤ 1000; decide, fun y hy => ?_⟩
  simp only [List.mem_cons, List.not_mem_nil, or_false] at hy
  rcases hy with rfl | rfl | rfl | rfl
  · exact str_fit (by decide +kernel)
  · exact int_fit h.hs
  · refine ⟨by rw [List.length_map]; have := h.ql; omega, fun y hy => ?_⟩
    obtain ⟨x, hx, rfl⟩ := List.mem_map.mp hy
    exact int_fit (h.hq x hx)
  · exact str_fit h.ml
theorem CiOk.size {st : Int} {q : List Int} {m : Str} (h : CiOk st q m) : (encC (cI st q m)).length ≤ 16000000 := by
  have i60 : ∀ {i : Int}, -(10 ^ 6) < i ∧ i < 10 ^ 6 → (encC (.int i)).length ≤ 100000 := fun hi => Nat.le_trans (enc_int_len (fit_int (n := 0) (int_fit hi))) (by decide)
  have hq : (encL (q.map It.int)).length ≤ (q.map It.int).length * 100000 := encL_len fun d hd => by
    obtain ⟨x, hx, rfl⟩ := List.mem_map.mp hd
    exact i60 (h.hq x hx)
  rw [List.length_map] at hq
  have hql := h.ql
  have hall : ∀ d ∈ [It.str (Str.ofString "commit"), .int st, .tup (q.map It.int), .str m], (encC d).length ≤ 2000000 := fun d hd => by
    simp only [List.mem_cons, List.not_mem_nil, or_false] at hd
    rcases hd with rfl | rfl | rfl | rfl
    · have := enc_str_len (z := Str.ofString "commit") (by decide +kernel)
      have e : (Str.ofString "commit").length ≤ 100 := by decide +kernel
      omega
    · have := i60 h.hs
      omega
    · rw [enc_tup_len]
      omega
    · have := h.ml
      have := enc_str_len (z := m) (by omega)
      omega
  have := encL_len hall
  show (encC (.tup [It.str (Str.ofString "commit"), .int st, .tup (q.map It.int), .str m])).length ≤ 16000000
  rw [enc_tup_len]
  have e4 : [It.str (Str.ofString "commit"), .int st, .tup (q.map It.int), .str m].length = 4 := rfl
  rw [e4] at this
  omega
theorem dvl_ints {K : PySem.W.Frag} {H : Hp} : ∀ {q : List Int}, DvL K H (q.map V.int) (q.map It.int)
  | [] => .nil
  | x :: r => .cons (.int x) dvl_ints
theorem dvl_ints_eq {K : PySem.W.Frag} {H : Hp} : ∀ {q : List Int} {ys : List V}, DvL K H ys (q.map It.int) → ys = q.map V.int
  | [], _, h => by
    cases h
    rfl
  | x :: r, _, h => by
    cases h with
    | cons h1 h2 =>
      cases h1
      rw [dvl_ints_eq h2] <;> rfl
theorem dv_ci {K : PySem.W.Frag} {H : Hp} {v : V} {st : Int} {q : List Int} {m : Str} (h : Dv K H v (cI st q m)) : ∃ x y, v = .ref x ∧ SqT K H x [.str (Str.ofString "commit"), .int st, .ref y, .str m] ∧ SqT K H y (q.map V.int) := by
  cases h with
  | tup hs r =>
    cases r with
    | cons h1 r =>
      cases r with
      | cons h2 r =>
        cases r with
        | cons h3 r =>
          cases r with
          | cons h4 r =>
            cases r
            cases h1
            cases h2
            cases h4
            cases h3 with
            | tup hy ry =>
              rw [dvl_ints_eq ry] at hy
              exact ⟨_, _, rfl, hs, hy⟩
theorem sl1_post {K : PySem.W.Frag} {H : Hp} {a : Addr} {x : V} {xs : List V} {Q : VK} (hx : SqT K H a (x :: xs)) (k : ∀ p, H p = none → Q (.ref p) (upd H p (.tup xs))) : rSlA K (.ref a) (some 1) none H Q := by
  have z1 : HT.sIx (x :: xs).length 0 (some 1) = 1 := by
    show HT.sIx (xs.length + 1) 0 (some ((1 : Nat) : Int)) = 1
    rw [HT.sIx_nat]
    omega
  refine ⟨a, x :: xs, rfl, hx, fun z => ?_, fun _ p hp => ?_⟩
  · have := z.1
    rw [z1] at this
    cases this
  · have ec : cutV (x :: xs) (some 1) none = xs := by
      unfold cutV
      rw [z1, HT.sIx_none]
      show (xs.take (xs.length + 1 - 1)) = xs
      exact List.take_of_length_le (Nat.le_refl _)
    rw [ec]
    exact k p hp
theorem But.fresh {p : Addr} {H H' : Hp} {a : Addr} {o : HO} (f : But [p] H H') (hp : H' p = some o) (ha : H' a = none) : H a = none := by
  cases e : H a with
  | none => rfl
  | some u =>
    have n : a ∉ [p] := fun z => by rw [List.mem_singleton.mp z, hp] at ha; cases ha
    rw [f _ _ e n] at ha
    cases ha
theorem But.none_of {S : List Addr} {H H' : Hp} {a : Addr} (f : But S H H') (h : H' a = none) (n : a ∉ S := by simp) : H a = none := by
  cases e : H a with
  | none => rfl
  | some u => rw [f _ _ e n] at h; cases h
/-- the first parents from a commit on: the commits, and the one that lacks -/
inductive Ln (kvs : List (Key × V)) : Int → List Int → Option Int → Prop
  | last {n st : Int} {m : Str} (h : valV kvs (Sum.inl n : Key) = some (.str (txt (cI st [] m)))) (c : CiOk st [] m) : Ln kvs n [n] none
  | step {n q0 st : Int} {q l : List Int} {m : Str} {e : Option Int} (h : valV kvs (Sum.inl n : Key) = some (.str (txt (cI st (q0 :: q) m)))) (c : CiOk st (q0 :: q) m) (r : Ln kvs q0 l e) : Ln kvs n (n :: l) e
  | lost {n : Int} (h : valV kvs (Sum.inl n : Key) = none) (b : n.natAbs.log2 < 1920) : Ln kvs n [n] (some n)
def spRC (K : PySem.W.Frag) (C CM : Addr) : Sp := fun vs H Q E => ∃ (p b t : Addr) (r n : Int) (kvs : List (Key × V)), vs = [.ref p, .int n] ∧ CkAt C H p b t r kvs ∧
  ((∃ (st : Int) (q : List Int) (m : Str), valV kvs (Sum.inl n : Key) = some (.str (txt (cI st q m))) ∧ CiOk st q m ∧ ∀ H' x y, CkAt C H' p b t (r + 1) kvs → But [p] H H' → SqT K H' x [.int st, .ref y, .str m] → SqT K H' y (q.map V.int) → Q (.ref x) H') ∨
   (valV kvs (Sum.inl n : Key) = none ∧ n.natAbs.log2 < 1920 ∧ ∀ (dx : Addr) H', H dx = none → H' dx = some (.xd [(Str.ofString "address", .int n)]) → CkAt C H' p b t (r + 1) kvs → But [p] H H' → E (.ref CM) (some dx) H'))
/-! ### write_state -/
def lamQW : Str := ((Str.ofString "write_state") ++ (Str.ofString ".<locals>.")) ++ Str.ofString "<lambda>"
theorem LamTab.but {S : List Addr} {H H' : Hp} {P : Addr} {pos : Pos} {q : Str} (h : LamTab H P pos q) (f : But S H H') (n : ∀ c ∈ S, ∃ kvs, H c = some (.dK kvs)) : LamTab H' P pos q := by
  obtain ⟨c', h1, h2⟩ := h
  refine ⟨c', f _ _ h1 fun z => ?_, f _ _ h2 fun z => ?_⟩
  · obtain ⟨k, hk⟩ := n _ z
    rw [h1] at hk
    cases hk
  · obtain ⟨k, hk⟩ := n _ z
    exact ne_of h2 hk (by intro z; cases z) rfl
theorem msg_len : ∀ j : Fin 64, (cmMsg j.val).length ≤ 200 := by decide +kernel

def spWS (K : PySem.W.Frag) (CC CB P : Addr) (pos : Pos) : Sp := fun vs H Q _ => ∃ (p b t d a : Addr) (r : Int) (zs : List Str) (kvs : List (Key × V)) (m : Nat), vs = [.ref p, .ref a] ∧ SqL K H a [] ∧ StH CC CB H p b t d r zs kvs m ∧ m ≤ 800 ∧ zs.length < 100 ∧ (LamTab H P pos lamQW ∨ H P = some (.tbl #[])) ∧
  ∀ (n : Int) H', n = 1 + (posZ (txt stI) (addZ zs (txt stI)) : Nat) → StH CC CB H' p b t d r (addZ zs (txt stI)) (putK kvs (Sum.inl n : Key) (.str (txt stI))) (m + 1) → But [P, d, t] H H' → LamTab H' P pos lamQW → Q (.int n) H'
theorem ok_write_state (T : Txt K mg base P) : FnOk P w K mg base CX0 5 T.f_write_state T.d_write_state ["chunks", "tables"] (spWS K T.C_Chunks T.C_Book T.P_write_state ⟨92, 33, 92, 55⟩) := by
  refine fun_code T.F_write_state T.cd_write_state sc_write_state (fun vs H Q E h => ?_) (fun A outer s H vs Q E hr h => ?_)
  · obtain ⟨p, b, t, d, a, r, zs, kvs, m, rfl, _⟩ := h
    rfl
  · obtain ⟨p, b, t, d, a, r, zs, kvs, m, rfl, hS, hst, hm, hzl, hP, q⟩ := h
    obtain ⟨P0, hP0⟩ : ∃ P0, P0 = T.P_write_state := ⟨_, rfl⟩
    rw [← hP0] at q hP
    refine ⟨_, pss_cons (ps_set (i := 2) sc_write_state.nd rfl (by first | exact Or.inl rfl | exact Or.inr rfl) (pe_sortLam (hr.mono (by first | decide | omega)) T.tb_write_state rfl (pa_cons (pv 1) pa_nil) (by rfl) T.m_sorted))
      (pss_one (ps_ret (pe_meth (pv 0) T.cl_Chunks T.me_Chunks_put (ok_Chunks_put T) (hr.mono (by first | decide | omega)) T.b_Chunks_put .nil pass0 (pa_cons (pe_call (ok_encode T) (hr.mono (by first | decide | omega)) (by rfl) T.g_encode T.F_encode.kp T.b_encode .nil pass0 (pa_cons (pe_tup (pa_cons (pe_str) (pa_cons (pe_callTy (r := rTupOf K) call_tuple_of (by rfl) T.m_tuple (by decide +kernel) (pa_cons (pv 2) (pa_nil))) (pa_nil)))) (pa_nil))) (pa_nil))))), ?_⟩
    obtain ⟨⟨px, hp1⟩, ht1⟩ := id hst.ck
    obtain ⟨⟨bx, hb1⟩, hd1⟩ := id hst.bk
    refine q_asgE (fun v H1 => ∃ l, v = .ref l ∧ H1 l = some (.lst []) ∧ But [P0] H H1 ∧ LamTab H1 P0 ⟨92, 33, 92, 55⟩ lamQW) (fun Q2 k2 => ?_) fun v H1 ⟨l, ev, hl, f1, lt⟩ => ?_
    · refine ⟨.ref a, rfl, ?_⟩
      rw [← hP0]
      have e0 : (([] : List (V × Str)).mergeSort leK).map (·.1) = [] := by simp
      rcases hP with ⟨c', hP, hc'⟩ | hP
      · refine .inr ⟨c', hP, hc', fun f hf => ⟨a, f, c', [], rfl, rfl, ex_l (Ex.new hf) hS, (fun _ z => nomatch z), upd_same, (Ex.new hf) _ _ hc', fun l hl => ?_⟩⟩
        rw [e0]
        have E2 : Ex H (upd (upd H f (LamO f c' lamQW _ _ _)) l (.lst [])) := (Ex.new hf).trans (Ex.new hl)
        exact k2 _ _ ⟨l, rfl, upd_same, But.of E2, c', E2 _ _ hP, E2 _ _ hc'⟩
      · refine .inl ⟨hP, fun c' f hc' hf hcf => ?_⟩
        have nP : ∀ {b : Addr}, H b = none → b ≠ P0 := fun hb z => by rw [z, hP] at hb; cases hb
        have n1 : (upd H P0 (.tbl (tabOf ⟨92, 33, 92, 55⟩ c'))) c' = none := by rw [upd_ne (nP hc')]; exact hc'
        have E1 := Ex.new (o := LamX.CodeO c' lamQW) n1
        have n2 : (upd (upd H P0 (.tbl (tabOf ⟨92, 33, 92, 55⟩ c'))) c' (LamX.CodeO c' lamQW)) f = none := by rw [upd_ne hcf.symm, upd_ne (nP hf)]; exact hf
        have hS3 : ∀ o, SqL K (upd (upd (upd H P0 (.tbl (tabOf ⟨92, 33, 92, 55⟩ c'))) c' (LamX.CodeO c' lamQW)) f o) a [] := fun o => ex_l (Ex.new n2) (ex_l E1 (xn_l (fun b o hb n => by rw [upd_ne (fun z => n _ (Option.some.inj (hb.symm.trans (by rw [z]; exact hP))))]; exact hb) hS))
        refine ⟨a, f, c', [], rfl, rfl, hS3 _, (fun _ z => nomatch z), upd_same, (Ex.new n2) _ _ upd_same, fun l hl => ?_⟩
        rw [e0]
        have E3 := (E1.trans (Ex.new n2)).trans (Ex.new (o := .lst []) hl)
        exact k2 _ _ ⟨l, rfl, upd_same, (But.put (List.mem_singleton.mpr rfl)).trans (But.of E3), c', E3 _ _ upd_same, (Ex.new hl) _ _ ((Ex.new n2) _ _ upd_same)⟩
    · subst ev
      have hd0 : stI.fit 3 := by
        refine ⟨by decide, fun y hy => ?_⟩
        simp only [List.mem_cons, List.not_mem_nil, or_false] at hy
        rcases hy with rfl | rfl
        · show (Str.ofString "state").length ≤ 999999; decide +kernel
        · exact ⟨by decide, fun y hy => nomatch hy⟩
      have nP : ∀ {c : Addr} {o : HO}, H c = some o → (∀ ps, o ≠ .tbl ps) → c ∉ [P0] := fun {c o} hc no z => by
        have hz := List.mem_singleton.mp z
        rw [hz] at hc
        rcases hP with ⟨c', h1, _⟩ | h1
        · exact no _ (Option.some.inj (hc.symm.trans h1))
        · exact no _ (Option.some.inj (hc.symm.trans h1))
      have hst1 := hst.but f1 (nP hp1 (by intro _ z; cases z)) (nP hb1 (by intro _ z; cases z)) (nP ht1 (by intro _ z; cases z)) (nP hd1 (by intro _ z; cases z))
      refine ret_run (put_call (K := K) rfl hst1 (by omega) hzl (fun Q2 k2 => enc_run (K := K) (n := 2) (fun R hR => ?_) hd0 (by decide +kernel) k2) fun n H' hn h' f => q n H' hn h' ?_ ?_)
      · exact cons_run (c_run (cons_run ⟨_, rfl, l, [], rfl, .inl ⟨sq_of hl, fun t2 ht2 => hR _ _ (Ex.new ht2) (.cons (.str _) (.cons (.tup (st_of upd_same) .nil) .nil))⟩⟩))
      · exact (f1.sub (by simp)).trans (f.sub (by simp))
      · obtain ⟨c', h1, h2⟩ := lt
        exact ⟨c', f _ _ h1 (by simp; exact ⟨ne_of h1 (hst1.bk.2) (by intro z; cases z), ne_of h1 (hst1.ck.2) (by intro z; cases z)⟩), f _ _ h2 (by simp; exact ⟨ne_of h2 (hst1.bk.2) (by intro z; cases z), ne_of h2 (hst1.ck.2) (by intro z; cases z)⟩)⟩


/-! ### write_commit -/
def spWC (K : PySem.W.Frag) (CC CB : Addr) : Sp := fun vs H Q _ => ∃ (p b t d a : Addr) (r : Int) (zs : List Str) (kvs : List (Key × V)) (m : Nat) (st : Int) (q : List Int) (ms : Str), vs = [.ref p, .int st, .ref a, .str ms] ∧ SqT K H a (q.map V.int) ∧ StH CC CB H p b t d r zs kvs m ∧ m ≤ 800 ∧ zs.length < 100 ∧ CiOk st q ms ∧
  ∀ (n : Int) H', n = 1 + (posZ (txt (cI st q ms)) (addZ zs (txt (cI st q ms))) : Nat) → StH CC CB H' p b t d r (addZ zs (txt (cI st q ms))) (putK kvs (Sum.inl n : Key) (.str (txt (cI st q ms)))) (m + 1) → But [d, t] H H' → Q (.int n) H'
theorem ok_write_commit (T : Txt K mg base P) : FnOk P w K mg base CX0 5 T.f_write_commit T.d_write_commit ["chunks", "state", "parents", "message"] (spWC K T.C_Chunks T.C_Book) := by
  refine T.F_write_commit.ok sc_write_commit (fun vs H Q E h => ?_) (fun cdv A outer s H vs Q E hr h => ?_)
  · obtain ⟨p, b, t, d, a, r, zs, kvs, m, st, q, ms, rfl, _⟩ := h
    rfl
  · obtain ⟨p, b, t, d, a, r, zs, kvs, m, st, q, ms, rfl, hS, hst, hm, hzl, hc, k⟩ := h
    refine ⟨_, pss_one (ps_ret (pe_meth (pv 0) T.cl_Chunks T.me_Chunks_put (ok_Chunks_put T) (hr.mono (by first | decide | omega)) T.b_Chunks_put .nil pass0 (pa_cons (pe_call (ok_encode T) (hr.mono (by first | decide | omega)) (by rfl) T.g_encode T.F_encode.kp T.b_encode .nil pass0 (pa_cons (pe_tup (pa_cons (pe_str) (pa_cons (pv 1) (pa_cons (pv 2) (pa_cons (pv 3) (pa_nil)))))) (pa_nil))) (pa_nil)))), ?_⟩
    exact ret_run (put_call (K := K) rfl hst (by omega) hzl (fun Q2 k2 => enc_run (K := K) (n := 2) (fun R hR => cons_run (c_run (cons_run (var_run rfl (cons_run (var_run rfl (cons_run (var_run rfl (hR _ _ (Ex.refl _) (.cons (.str _) (.cons (.int _) (.cons (.tup hS dvl_ints) (.cons (.str _) .nil))))))))))))) hc.fit hc.size k2) k)


/-! ### root_commit -/
def spRoot (K : PySem.W.Frag) (CC CB P : Addr) (pos : Pos) : Sp := fun vs H Q _ => ∃ (p b t d : Addr) (r : Int) (kvs : List (Key × V)) (m : Nat), vs = [.ref p] ∧ StH CC CB H p b t d r [txt stI] kvs m ∧ Full [txt stI] kvs ∧ m ≤ 700 ∧ (LamTab H P pos lamQW ∨ H P = some (.tbl #[])) ∧
  ∀ kvs' H', StH CC CB H' p b t d r (cmZ [[]]) kvs' (m + 2) → Full (cmZ [[]]) kvs' → But [P, d, t] H H' → LamTab H' P pos lamQW → Q (.int 2) H'
theorem ok_root_commit (T : Txt K mg base P) : FnOk P w K mg base CX0 6 T.f_root_commit T.d_root_commit ["chunks"] (spRoot K T.C_Chunks T.C_Book T.P_write_state ⟨92, 33, 92, 55⟩) := by
  refine T.F_root_commit.ok sc_root_commit (fun vs H Q E h => ?_) (fun cdv A outer s H vs Q E hr h => ?_)
  · obtain ⟨p, b, t, d, r, kvs, m, rfl, _⟩ := h
    rfl
  · obtain ⟨p, b, t, d, r, kvs, m, rfl, hst, hf, hm, hP, k⟩ := h
    refine ⟨_, pss_one (ps_ret (pe_call (ok_write_commit T) (hr.mono (by first | decide | omega)) (by rfl) T.g_write_commit T.F_write_commit.kp T.b_write_commit .nil pass0 (pa_cons (pv 0) (pa_cons (pe_call (ok_write_state T) (hr.mono (by first | decide | omega)) (by rfl) T.g_write_state T.F_write_state.kp T.b_write_state .nil pass0 (pa_cons (pv 0) (pa_cons (pe_lst (pa_nil)) (pa_nil)))) (pa_cons (pe_tup (pa_nil)) (pa_cons (pe_str) (pa_nil))))))), ?_⟩
    refine ret_run (call_run (cons_run (var_run rfl (cons_run (call_run (cons_run (var_run rfl (cons_run (lst_run ⟨by show 0 ≤ sizeLine; decide, fun l hl => ?_⟩)))))))))
    have e1 := Ex.new (o := .lst []) hl
    have hP1 : LamTab (upd H l (.lst [])) T.P_write_state ⟨92, 33, 92, 55⟩ lamQW ∨ (upd H l (.lst [])) T.P_write_state = some (.tbl #[]) := hP.imp (LamTab.mono e1) (e1 _ _)
    have pz := posZ_is hst.nd (j := 0) (z := txt stI) rfl
    refine ⟨p, b, t, d, l, r, [txt stI], kvs, m, rfl, sq_of upd_same, hst.mono e1, by omega, by decide, hP1, fun n H1 hn h1 f1 lt => ?_⟩
    have en : n = 1 := by rw [hn, pz.2] <;> rfl
    have hf1 := hf.put hst.nd (txt stI)
    rw [← hn] at hf1
    rw [pz.1] at h1 hf1
    subst en
    refine cons_run (tup_run ⟨by show 0 ≤ sizeLine; decide, fun a ha => cons_run (c_run ?_)⟩)
    have e2 := Ex.new (o := .tup []) ha
    refine ⟨p, b, t, d, a, r, [txt stI], _, m + 1, 1, [], Str.ofString "", rfl, st_of upd_same, h1.mono e2, by omega, by decide, ⟨by decide, (fun _ z => nomatch z), by decide, by decide +kernel⟩, fun n2 H2 hn2 h2 f2 => ?_⟩
    have nw := cmZ_new (ps := []) (by decide) []
    have e3 : addZ [txt stI] (txt (cI 1 [] (Str.ofString ""))) = cmZ [[]] := nw.1
    have e4 : posZ (txt (cI 1 [] (Str.ofString ""))) (cmZ [[]]) = 1 := nw.2
    have hf2 := hf1.put hst.nd (txt (cI 1 [] (Str.ofString "")))
    rw [← hn2, e3] at hf2
    rw [e3] at h2 hn2
    rw [e4] at hn2
    have en2 : n2 = 2 := by rw [hn2] <;> rfl
    subst en2
    refine k _ H2 h2 hf2 ((((But.of e1).trans f1).trans (But.of e2)).trans (f2.sub (by simp))) ((lt.mono e2).but f2 fun c hc => ?_)
    simp only [List.mem_cons, List.not_mem_nil, or_false] at hc
    rcases hc with rfl | rfl
    · exact ⟨_, e2 _ _ h1.bk.2⟩
    · exact ⟨_, e2 _ _ h1.ck.2⟩


/-! ### read_commit -/
theorem ok_read_commit_any (T : Txt K mg base P) : FnOk P w K mg base (L2N.CX P w) 31 T.f_read_commit T.d_read_commit ["chunks", "commit"] (spRC K T.C_Chunks T.C_MissingChunk) := by
  refine okN T.F_read_commit sc_read_commit (fun vs H Q E h => ?_) (fun cdv A outer s H vs Q E hr h => ?_)
  · obtain ⟨p, b, t, r, n, kvs, rfl, _⟩ := h
    rfl
  · obtain ⟨p, b, t, r, n, kvs, rfl, hc, q⟩ := h
    refine ⟨_, pss_one (ps_ret (pe_slice (r := rSlA K) sl_tupA (pe_call (ok_decode T) (hr.mono (by first | decide | omega)) (by rfl) T.g_decode T.F_decode.kp T.b_decode .nil pass0 (pa_cons (pe_meth (pv 0) T.cl_Chunks T.me_Chunks_get (ok_Chunks_get_any T) (hr.mono (by first | decide | omega)) T.b_Chunks_get .nil (L2N.passes_call (L2N.takes_of rfl rfl rfl rfl) fun _ _ _ _ h => h) (pa_cons (pv 1) (pa_nil))) (pa_nil))) (po_some (pe_int)) (po_none))), ?_⟩
    obtain ⟨⟨px, hp1⟩, ht1⟩ := id hc
    refine ret_run (call_run (cons_run ⟨_, rfl, p, px, _, rfl, hp1, cF_no b r t (by decide +kernel) (by decide +kernel) (by decide +kernel), _, rfl, p, b, t, r, n, kvs, rfl, hc, ?_⟩))
    rcases q with ⟨st, q0, m, hv, ok, q⟩ | ⟨hv, hb, q⟩
    · refine .inl ⟨_, hv, fun H1 hc1 f1 => ⟨_, _, rfl, rfl, ok.fit, ok.size, fun v H2 e2 hd => ?_⟩⟩
      obtain ⟨x, y, rfl, hx, hy⟩ := dv_ci hd
      refine ⟨1, rfl, sl1_post hx fun p2 hp2 => ?_⟩
      exact q _ p2 y ((hc1.mono e2).mono (Ex.new hp2)) ((f1.trans (But.of e2)).trans (But.of (Ex.new hp2))) (st_of upd_same) (ex_t (Ex.new hp2) hy)
    · exact .inr ⟨hv, hb, fun dx H' h0 h1 h2 h3 => q dx H' h0 h1 h2 h3⟩
/-! ### a graph of commits -/
def cmL (n : Nat) : List V := (List.range n).map fun (j : Nat) => V.int (2 + (j : Int))
theorem cmL_len (n : Nat) : (cmL n).length = n := by unfold cmL; rw [List.length_map, List.length_range]
theorem cmL_at {n j : Nat} (h : j < n) : (cmL n)[j]? = some (.int (2 + (j : Int))) := by
  unfold cmL
  rw [List.getElem?_map, List.getElem?_range h] <;> rfl
theorem cmL_app (n : Nat) : cmL (n + 1) = cmL n ++ [.int (2 + (n : Int))] := by
  unfold cmL
  rw [List.range_succ, List.map_append] <;> rfl
/-- an index from behind -/
theorem at_back {α : Type} {xs : List α} {k : Int} (h0 : 0 ≤ k) (h : k < xs.length) : atI xs (-1 - k) = xs[xs.length - 1 - k.toNat]? := by
  have e : ixN xs.length (-1 - k) = some (xs.length - 1 - k.toNat) := by
    unfold ixN
    rw [if_neg (by omega), if_pos (by omega)]
    congr 1
    omega
  unfold atI
  rw [e] <;> rfl
theorem pick {n : Nat} {x mn : Int} (h1 : 1 ≤ mn) (h2 : mn ≤ n) : ∃ j : Nat, j < n ∧ atI (cmL n) (-1 - x % mn) = some (.int (2 + (j : Int))) := by
  have a := Int.emod_nonneg x (by omega : mn ≠ 0)
  have b := Int.emod_lt_of_pos x (by omega : 0 < mn)
  refine ⟨n - 1 - (x % mn).toNat, by omega, ?_⟩
  rw [at_back a (by rw [cmL_len]; omega), cmL_len]
  exact cmL_at (by omega)
/-- the parents of the commits, by their places -/
structure PsOk (ps : List (List Int)) : Prop where
  z : ps[0]? = some []
  s : ∀ (j : Nat) (q : List Int), ps[j + 1]? = some q → q ≠ [] ∧ q.length ≤ 2 ∧ ∀ x ∈ q, ∃ i : Nat, i ≤ j ∧ x = 2 + (i : Int)
  l : ps.length ≤ 64
theorem PsOk.app {ps : List (List Int)} (h : PsOk ps) {q : List Int} (hl : ps.length < 64) (h1 : q ≠ []) (h2 : q.length ≤ 2) (h3 : ∀ x ∈ q, ∃ i : Nat, i < ps.length ∧ x = 2 + (i : Int)) : PsOk (ps ++ [q]) := by
  have h0 : 0 < ps.length := (List.getElem?_eq_some_iff.mp h.z).1
  refine ⟨by rw [List.getElem?_append_left h0]; exact h.z, fun j y hy => ?_, by rw [List.length_append]; exact hl⟩
  by_cases hj : j + 1 < ps.length
  · rw [List.getElem?_append_left hj] at hy
    exact h.s j y hy
  · rw [List.getElem?_append_right (by omega)] at hy
    have e : y = q := List.mem_singleton.mp (List.mem_of_getElem? hy)
    have e0 : j + 1 - ps.length = 0 := by
      have := (List.getElem?_eq_some_iff.mp hy).1
      rw [List.length_singleton] at this
      omega
    subst e
    exact ⟨h1, h2, fun x hx => by
      obtain ⟨i, hi, e⟩ := h3 x hx
      exact ⟨i, by omega, e⟩⟩
/-- the dict of the parents -/
def AbAt (H : Hp) (ad cl : Addr) (ps : List (List Int)) : Prop := ∃ kvs : List (Key × V), H ad = some (.dK kvs) ∧ kvs.length ≤ ps.length ∧ ∀ (j : Nat) (q : List Int), ps[j]? = some q → ∃ a, valV kvs (Sum.inl (2 + (j : Int)) : Key) = some (.ref a) ∧ H a = some (.lst (q.map V.int)) ∧ a ≠ cl
structure GS (CC CB : Addr) (H : Hp) (p b t d cl ad : Addr) (r : Int) (ps : List (List Int)) (kvs : List (Key × V)) (m : Nat) : Prop where
  st : StH CC CB H p b t d r (cmZ ps) kvs m
  fl : Full (cmZ ps) kvs
  hcl : H cl = some (.lst (cmL ps.length))
  ab : AbAt H ad cl ps
  nt : ad ≠ t
  nd : ad ≠ d
  ok : PsOk ps
section
variable {CC CB : Addr} {H H' : Hp} {p b t d cl ad : Addr} {r r' : Int} {ps : List (List Int)} {kvs kvs' : List (Key × V)} {m m' : Nat}
theorem AbAt.but {S : List Addr} (h : AbAt H ad cl ps) (f : But S H H') (h1 : ad ∉ S) (h2 : ∀ (a : Addr) (xs : List V), H a = some (.lst xs) → a ≠ cl → a ∉ S) : AbAt H' ad cl ps := by
  obtain ⟨kvs, e, l, k⟩ := h
  refine ⟨kvs, f _ _ e h1, l, fun j q hq => ?_⟩
  obtain ⟨a, e1, e2, e3⟩ := k j q hq
  exact ⟨a, e1, f _ _ e2 (h2 _ _ e2 e3), e3⟩
theorem GS.mono (h : GS CC CB H p b t d cl ad r ps kvs m) (e : Ex H H') : GS CC CB H' p b t d cl ad r ps kvs m := by
  refine { h with st := h.st.mono e, hcl := e _ _ h.hcl, ab := h.ab.but (But.of (S := []) e) (by simp) (by simp) }
/-- none of the store's own -/
theorem GS.own (h : GS CC CB H p b t d cl ad r ps kvs m) {a : Addr} {xs : List V} (ha : H a = some (.lst xs)) : a ∉ [p, t, d] := by
  obtain ⟨⟨px, h1⟩, h2⟩ := h.st.ck
  have h3 := h.st.bk.2
  simp only [List.mem_cons, List.not_mem_nil, or_false, not_or]
  exact ⟨ne_of ha h1 (by intro z; cases z), ne_of ha h2 (by intro z; cases z), ne_of ha h3 (by intro z; cases z)⟩
theorem GS.adn (h : GS CC CB H p b t d cl ad r ps kvs m) : ad ∉ [p, t, d] := by
  obtain ⟨⟨px, h1⟩, h2⟩ := h.st.ck
  obtain ⟨k2, h3, _⟩ := h.ab
  simp only [List.mem_cons, List.not_mem_nil, or_false, not_or]
  exact ⟨ne_of h3 h1 (by intro z; cases z), h.nt, h.nd⟩
/-- the store alone has changed -/
theorem GS.step (h : GS CC CB H p b t d cl ad r ps kvs m) (f : But [p, t, d] H H') (hs : StH CC CB H' p b t d r' (cmZ ps) kvs' m') (hf : Full (cmZ ps) kvs') : GS CC CB H' p b t d cl ad r' ps kvs' m' :=
  { h with st := hs, fl := hf, hcl := f _ _ h.hcl (h.own h.hcl), ab := h.ab.but f h.adn fun a xs ha _ => h.own ha }
/-- reads -/
theorem GS.read (h : GS CC CB H p b t d cl ad r ps kvs m) (c : CkAt CC H' p b t r' kvs) (f : But [p] H H') : GS CC CB H' p b t d cl ad r' ps kvs m := h.step (f.sub (by simp)) (h.st.read c f) h.fl
end
theorem but_l {K : PySem.W.Frag} {S : List Addr} {H H' : Hp} {a : Addr} {xs : List V} (f : But S H H') (n : ∀ c ∈ S, ∀ o, H c = some o → (∃ ps, o = .tbl ps) ∨ (∃ kvs, o = .dK kvs) ∨ ∃ C dx fs, o = .ins C dx fs) (h : SqL K H a xs) : SqL K H' a xs := by
  rcases h with (h | ⟨o, h⟩) | h
  · refine .inl (.inl (f _ _ h fun z => ?_))
    rcases n _ z _ h with ⟨_, e⟩ | ⟨_, e⟩ | ⟨_, _, _, e⟩ <;> cases e
  · refine .inl (.inr ⟨o, f _ _ h fun z => ?_⟩)
    rcases n _ z _ h with ⟨_, e⟩ | ⟨_, e⟩ | ⟨_, _, _, e⟩ <;> cases e
  · exact .inr h
theorem q_asgV {te : TE} {σ : L2.St} {H : Hp} {tz : TS} {D : Ends} {i : Nat} {v : V} (σ' : L2.St) (h : Ev te σ H v) (es : σ.set i (some v) = σ') (k : ∀ H1, Ex H H1 → tz D σ' H1) : tSeq (tAsg te (gName i)) tz D σ H := q_asg h fun H1 e => by rw [es]; exact k H1 e
theorem q_asgLS {te : TE} {σ : L2.St} {H : Hp} {tz : TS} {D : Ends} {i : Nat} {xs : List V} (σ' : Addr → L2.St) (h : EvL te σ H xs) (hs : ∀ p, σ.set i (some (.ref p)) = σ' p) (k : ∀ p H1, H p = none → Ex H H1 → H1 p = some (.lst xs) → tz D (σ' p) H1) : tSeq (tAsg te (gName i)) tz D σ H := q_asgL h fun p H1 a b c => by rw [hs]; exact k p H1 a b c
theorem ev_min2 {σ : L2.St} {H : Hp} {ta tb : TE} {i j : Int} (ha : Ev ta σ H (.int i)) (hb : Ev tb σ H (.int j)) : Ev (tCB (fun xs H Q => ∃ i j, xs = [V.int i, V.int j] ∧ Q (.int (if j < i then j else i)) H) (tCons ta (tCons tb tNil))) σ H (.int (if j < i then j else i)) := fun H1 e Q q =>
  ha H1 e _ fun H2 e2 => hb H2 (e.trans e2) _ fun H3 e3 => ⟨i, j, rfl, q H3 (e2.trans e3)⟩
/-- commits[-1 - x % mn] -/
theorem ev_pick {K : PySem.W.Frag} {σ : L2.St} {H : Hp} {ta tx tm : TE} {cl : Addr} {n : Nat} {x mn : Int} {v : V} (ha : Ev ta σ H (.ref cl)) (hx : Ev tx σ H (.int x)) (hm : Ev tm σ H (.int mn)) (hc : H cl = some (.lst (cmL n))) (h1 : 0 < mn) (hv : atI (cmL n) (-1 - x % mn) = some v) :
    Ev (tOp (rIxL K) ta (tOp (rI0 fun i j => .int (i - j)) (tUn (rU fun i => .int (-i)) (tC (.int 1))) (tOp (rI (fun _ j => 0 < j) fun i j => .int (i % j)) tx tm))) σ H v := ev_ixL ha (ev_bin0 (ev_neg ev_c) (ev_bin hx hm h1)) (sq_of hc) hv
abbrev hS (p s : Addr) (f c : Int) (cl ad : Addr) (x8 x9 x10 x11 x12 x13 : Option V) : L2.St := [some (.ref p), some (.ref s), some (.int f), some (.int c), some (.int 1), some (.int 2), some (.ref cl), some (.ref ad), x8, x9, x10, x11, x12, x13]

/-! ### first parents, by the law's own dict -/
theorem dpa_ints {K : PySem.W.Frag} {H : Hp} : ∀ zs : List Int, DpAll K H (zs.map V.int) (zs.map PyData.int)
  | [] => .nil
  | z :: r => .cons (.int z) (dpa_ints r)
/-- a list of ints == [] -/
theorem ev_eqEI {K : PySem.W.Frag} {σ : L2.St} {H : Hp} {ta : TE} {p : Addr} {zs : List Int} (h : Ev ta σ H (.ref p)) (hp : SqL K H p (zs.map V.int)) : Ev (tOp (rEqD K) ta (tLst tNil)) σ H (.bl zs.isEmpty) := by
  refine ev_opL h (el_lst ea_nil (by decide)) fun r H1 hr e1 => rv_val fun H2 e2 Q k => ⟨.list (zs.map PyData.int), .list [], .lst (ex_l (e1.trans e2) hp) (dpa_ints zs), .lst (sq_of (e2 _ _ hr)) .nil, shaped_lst (n := 0) (fun d hd => ?_) (by decide), by decide, ?_⟩
  · obtain ⟨z, hz', rfl⟩ := List.mem_map.mp hd
    exact .int 0 z
  · have : PyData.eqv (.list (zs.map PyData.int)) (.list []) = zs.isEmpty := by cases zs <;> simp [PyData.eqv, PyData.eqvAll]
    rw [this]
    exact k
theorem at_last {xs : List V} {v : V} : atI (xs ++ [v]) (-1) = some v := by
  have h := at_back (xs := xs ++ [v]) (k := 0) (by decide) (by rw [List.length_append, List.length_singleton]; omega)
  rw [show (-1 - 0 : Int) = -1 from rfl, List.length_append, List.length_singleton] at h
  rw [h, List.getElem?_append_right (by simp)]
  simp
theorem at_lastI {l : List Int} {n : Int} : atI ((l ++ [n]).map V.int) (-1) = some (.int n) := by rw [List.map_append]; exact at_last
inductive Lp (ps : List (List Int)) : Nat → List Int → Prop
  | last {j : Nat} (h : ps[j]? = some []) : Lp ps j [2 + (j : Int)]
  | step {j i : Nat} {q l : List Int} (h : ps[j]? = some ((2 + (i : Int)) :: q)) (r : Lp ps i l) : Lp ps j ((2 + (j : Int)) :: l)
/-- every commit has its line -/
theorem PsOk.line {ps : List (List Int)} (h : PsOk ps) : ∀ j : Nat, j < ps.length → ∃ l, Lp ps j l ∧ l.length ≤ j + 1 ∧ (∃ l', l = l' ++ [2]) ∧ (0 < j → ∃ x y r, l = x :: y :: r) := fun j => by
  induction j using Nat.strongRecOn with
  | _ j ih =>
    intro hj
    cases j with
    | zero => exact ⟨_, .last h.z, Nat.le_refl _, ⟨[], rfl⟩, fun z => absurd z (Nat.lt_irrefl 0)⟩
    | succ j =>
      have hq : ps[j + 1]? = some ps[j + 1] := List.getElem?_eq_getElem hj
      obtain ⟨q1, q2, q3⟩ := h.s j _ hq
      cases e : ps[j + 1] with
      | nil => exact absurd e q1
      | cons x r =>
        rw [e] at q3 hq
        obtain ⟨i, hi, rfl⟩ := q3 x List.mem_cons_self
        obtain ⟨l, h1, h2, ⟨l', h3⟩, _⟩ := ih i (by omega) (by omega)
        refine ⟨_, .step hq h1, by rw [List.length_cons]; omega, ⟨(2 + ((j + 1 : Nat) : Int)) :: l', by rw [h3] <;> rfl⟩, fun _ => ?_⟩
        cases h1 with
        | last _ => exact ⟨_, _, _, rfl⟩
        | step _ _ => exact ⟨_, _, _, rfl⟩
theorem Lp.pos {ps : List (List Int)} {j : Nat} {l : List Int} (h : Lp ps j l) : ∃ r, l = (2 + (j : Int)) :: r := by
  cases h with
  | last _ => exact ⟨_, rfl⟩
  | step _ _ => exact ⟨_, rfl⟩
theorem Lp.mem {ps : List (List Int)} {j : Nat} {l : List Int} (h : Lp ps j l) : ∀ x ∈ l, ∃ (i : Nat) (q : List Int), ps[i]? = some q ∧ x = 2 + (i : Int) := by
  induction h with
  | last h => exact fun x hx => ⟨_, _, h, List.mem_singleton.mp hx⟩
  | step h _ ih =>
    intro x hx
    rcases List.mem_cons.mp hx with rfl | hx
    · exact ⟨_, _, h, rfl⟩
    · exact ih x hx
theorem PsOk.ci {ps : List (List Int)} (h : PsOk ps) {j : Nat} {q : List Int} (hq : ps[j]? = some q) : CiOk 1 q (cmMsg j) := by
  have hj := (List.getElem?_eq_some_iff.mp hq).1
  have hl := h.l
  have e6' : (10 : Int) ^ 6 = 1000000 := by decide
  have hm := msg_len ⟨j, by omega⟩
  cases j with
  | zero =>
    obtain rfl : ([] : List Int) = q := Option.some.inj (h.z.symm.trans hq)
    exact ⟨by decide, (fun _ z => nomatch z), by decide, hm⟩
  | succ j =>
    obtain ⟨q1, q2, q3⟩ := h.s j q hq
    refine ⟨by decide, fun x hx => ?_, by omega, hm⟩
    obtain ⟨i, hi, rfl⟩ := q3 x hx
    rw [e6']
    omega
/-- what the store says of a commit -/
theorem Full.at {ps : List (List Int)} {kvs : List (Key × V)} (h : Full (cmZ ps) kvs) {j : Nat} {q : List Int} (hq : ps[j]? = some q) : valV kvs (Sum.inl (2 + (j : Int)) : Key) = some (.str (txt (cI 1 q (cmMsg j)))) := by
  have := h (j + 1) _ (cmZ_at hq)
  rw [show (1 : Int) + ((j + 1 : Nat) : Int) = 2 + (j : Int) by omega] at this
  exact this
/-- all but one commit are held -/
def Lack (ps : List (List Int)) (kvs : List (Key × V)) (n : Int) : Prop := valV kvs (Sum.inl n : Key) = none ∧ ∀ (j : Nat) (q : List Int), ps[j]? = some q → 2 + (j : Int) ≠ n → valV kvs (Sum.inl (2 + (j : Int)) : Key) = some (.str (txt (cI 1 q (cmMsg j))))
theorem Lp.full {ps : List (List Int)} {kvs : List (Key × V)} (h : PsOk ps) (f : Full (cmZ ps) kvs) {j : Nat} {l : List Int} (hl : Lp ps j l) : Ln kvs (2 + (j : Int)) l none := by
  induction hl with
  | last hq => exact .last (f.at hq) (h.ci hq)
  | step hq _ ih => exact .step (f.at hq) (h.ci hq) ih
theorem Lp.lack {ps : List (List Int)} {kvs : List (Key × V)} (h : PsOk ps) {n : Int} (f : Lack ps kvs n) (hb : n.natAbs.log2 < 1920) {j : Nat} {l : List Int} (hl : Lp ps j l) (hn : n ∈ l) : ∃ l', Ln kvs (2 + (j : Int)) l' (some n) ∧ l'.length ≤ l.length := by
  induction hl with
  | last hq =>
    obtain rfl := List.mem_singleton.mp hn
    exact ⟨_, .lost f.1 hb, Nat.le_refl _⟩
  | @step j i q l hq r ih =>
    by_cases e : 2 + (j : Int) = n
    · subst e
      exact ⟨_, .lost f.1 hb, by simp⟩
    · obtain ⟨l', h1, h2⟩ := ih ((List.mem_cons.mp hn).resolve_left fun z => e z.symm)
      exact ⟨_, .step (f.2 j _ hq e) (h.ci hq) h1, by rw [List.length_cons, List.length_cons]; omega⟩



/-! ### follow -/
/-! ### ancestors of a commit -/
inductive Anc (ps : List (List Int)) : Nat → Nat → Prop
  | refl (j : Nat) : Anc ps j j
  | step {j i k : Nat} {q : List Int} (h : ps[j]? = some q) (hm : (2 + (i : Int)) ∈ q) (r : Anc ps i k) : Anc ps j k
theorem Anc.snoc {ps : List (List Int)} {j i k : Nat} {q : List Int} (h : Anc ps j i) (hq : ps[i]? = some q) (hm : (2 + (k : Int)) ∈ q) : Anc ps j k := by
  induction h with
  | refl j => exact .step hq hm (.refl _)
  | step h1 h2 _ ih => exact .step h1 h2 (ih hq)
theorem PsOk.par {ps : List (List Int)} (h : PsOk ps) {j : Nat} {q : List Int} (hq : ps[j]? = some q) {x : Int} (hx : x ∈ q) : ∃ i : Nat, i < j ∧ x = 2 + (i : Int) := by
  cases j with
  | zero =>
    obtain rfl : ([] : List Int) = q := Option.some.inj (h.z.symm.trans hq)
    cases hx
  | succ j =>
    obtain ⟨i, hi, e⟩ := (h.s j q hq).2.2 x hx
    exact ⟨i, by omega, e⟩
theorem Anc.le {ps : List (List Int)} (h : PsOk ps) {j k : Nat} (a : Anc ps j k) : k ≤ j := by
  induction a with
  | refl j => exact Nat.le_refl _
  | step h1 h2 _ ih =>
    obtain ⟨i, hi, e⟩ := h.par h1 h2
    omega
/-- a set with j that is closed under parents not below lo holds the ancestors not below lo -/
theorem Anc.closed {ps : List (List Int)} (h : PsOk ps) {S : List Int} {lo : Int} (hc : ∀ (i : Nat) (q : List Int), 2 + (i : Int) ∈ S → ps[i]? = some q → ∀ y ∈ q, lo ≤ y → y ∈ S) {j k : Nat} (a : Anc ps j k) (hj : 2 + (j : Int) ∈ S) (hk : lo ≤ 2 + (k : Int)) : 2 + (k : Int) ∈ S := by
  induction a with
  | refl j => exact hj
  | step h1 h2 r ih =>
    have := r.le h
    exact ih (hc _ _ hj h1 _ h2 (by omega)) hk
def AncP (ps : List (List Int)) (j : Nat) (lo : Int) (y : Int) : Prop := y = 2 + (j : Int) ∨ ∃ i : Nat, y = 2 + (i : Int) ∧ Anc ps j i ∧ lo ≤ y
theorem nd_len : ∀ {xs ys : List Int}, xs.Nodup → (∀ x ∈ xs, x ∈ ys) → xs.length ≤ ys.length
  | [], _, _, _ => Nat.zero_le _
  | x :: xs, ys, nd, h => by
    have n := List.nodup_cons.mp nd
    have hx := h x List.mem_cons_self
    have := nd_len (xs := xs) (ys := ys.erase x) n.2 fun y hy => (List.mem_erase_of_ne (fun e => n.1 (by rw [← e]; exact hy))).mpr (h y (List.mem_cons_of_mem _ hy))
    rw [List.length_erase_of_mem hx] at this
    have h2 := List.length_pos_of_mem hx
    rw [List.length_cons]
    omega
def rngI (n : Nat) : List Int := (List.range n).map fun (j : Nat) => 2 + (j : Int)
theorem rng_len {n : Nat} {xs : List Int} (nd : xs.Nodup) (h : ∀ x ∈ xs, ∃ i : Nat, i < n ∧ x = 2 + (i : Int)) : xs.length ≤ n := by
  have := nd_len (ys := rngI n) nd fun x hx => by
    obtain ⟨i, hi, rfl⟩ := h x hx
    exact List.mem_map.mpr ⟨i, List.mem_range.mpr hi, rfl⟩
  rwa [rngI, List.length_map, List.length_range] at this
/-- sorted lists of the same ints -/
theorem sort_eq {xs ys : List Int} (s1 : xs.Pairwise (· ≤ ·)) (s2 : ys.Pairwise (· ≤ ·)) (n1 : xs.Nodup) (n2 : ys.Nodup) (h : ∀ x, x ∈ xs ↔ x ∈ ys) : xs = ys :=
  List.Perm.eq_of_pairwise (le := (· ≤ ·)) (fun a b _ _ h1 h2 => Int.le_antisymm h1 h2) s1 s2 ((List.perm_ext_iff_of_nodup n1 n2).mpr h)
/-- a dict from ints to True -/
def fdK (fs : List Int) : List (Key × V) := fs.map fun x => ((Sum.inl x : Key), V.bl true)
theorem fdK_val (x : Int) : ∀ fs : List Int, (valV (fdK fs) (Sum.inl x : Key)).isSome = decide (x ∈ fs)
  | [] => by simp [fdK, valV]
  | y :: r => by
    show (valV ((((Sum.inl y : Key)), V.bl true) :: fdK r) (Sum.inl x : Key)).isSome = _
    by_cases e : y = x
    · subst e
      rw [valV_pos (p := ((Sum.inl y : Key), V.bl true)) rfl]
      simp
    · rw [valV_neg (p := ((Sum.inl y : Key), V.bl true)) (fun q => e (Sum.inl.inj q)), fdK_val x r]
      have : (x ∈ y :: r) ↔ (x ∈ r) := ⟨fun h => (List.mem_cons.mp h).resolve_left fun q => e q.symm, fun h => List.mem_cons_of_mem _ h⟩
      exact decide_eq_decide.mpr this.symm
theorem fdK_put {fs : List Int} {x : Int} (h : x ∉ fs) : putK (fdK fs) (Sum.inl x : Key) (.bl true) = fdK (fs ++ [x]) := by
  have hv : valV (fdK fs) (Sum.inl x : Key) = none := by
    have := fdK_val x fs
    rw [decide_eq_false h] at this
    exact Option.not_isSome_iff_eq_none.mp (by rw [this]; decide)
  rw [putK_new _ hv]
  unfold fdK
  rw [List.map_append] <;> rfl
theorem fdK_keys (fs : List Int) : (fdK fs).map (·.1) = fs.map Sum.inl := by unfold fdK; rw [List.map_map] <;> rfl
theorem fdK_len (fs : List Int) : (fdK fs).length = fs.length := by unfold fdK; rw [List.length_map]
theorem but_t {K : PySem.W.Frag} {S : List Addr} {H H' : Hp} {a : Addr} {xs : List V} (f : But S H H') (n : ∀ c ∈ S, ∀ o, H c = some o → (∃ ys, o = .lst ys) ∨ (∃ kvs, o = .dK kvs) ∨ ∃ C dx fs, o = .ins C dx fs) (h : SqT K H a xs) : SqT K H' a xs := by
  rcases h with (h | ⟨o, h⟩) | h
  · refine .inl (.inl (f _ _ h fun z => ?_))
    rcases n _ z _ h with ⟨_, e⟩ | ⟨_, e⟩ | ⟨_, _, _, e⟩ <;> cases e
  · refine .inl (.inr ⟨o, f _ _ h fun z => ?_⟩)
    rcases n _ z _ h with ⟨_, e⟩ | ⟨_, e⟩ | ⟨_, _, _, e⟩ <;> cases e
  · exact .inr h
theorem s_forTR {K : PySem.W.Frag} {te : TE} {tu : TS} {D : Ends} {σ : L2.St} {H : Hp} {j : Nat} (h : ∀ J : VK, (∀ y xs H1, SqT K H1 y xs → (∃ Pv : Nat → L2.St → Hp → Prop, Pv 0 σ H1 ∧ (∀ i σ' H', i ≤ xs.length → Pv i σ' H' → SqT K H' y xs) ∧ (∀ i x σ' H', xs[i]? = some x → Pv i σ' H' → tu { D with nx := Pv (i + 1), ct := Pv (i + 1), bk := D.nx } (σ'.set j (some x)) H') ∧ (∀ σ' H', Pv xs.length σ' H' → D.nx σ' H')) → J (.ref y) H1) → te σ H J) : tFor (iTup K te) (gName j) tu D σ H :=
  h _ fun y xs H1 hy ⟨Pv, a, b, c, d⟩ => ⟨y, rfl, ⟨xs, hy⟩, for_tup Pv a b c d⟩
theorem pop_last {xs : List V} {y : V} : (xs ++ [y])[(xs ++ [y]).length - 1]? = some y := by simp
theorem pop_go {K : PySem.W.Frag} {σ : L2.St} {H : Hp} {j : Nat} {wa : Addr} {xs : List V} {y : V} {Q : VK} (ha : σ[j]? = some (some (.ref wa))) (hp : H wa = some (.lst (xs ++ [y]))) (k : Q y (upd H wa (.lst xs))) : tBM0 K "list" rPop (tVar j) σ H Q :=
  ⟨_, ha, .inl ⟨rfl, _, sq_of hp⟩, wa, xs ++ [y], y, rfl, rfl, hp, pop_last, by rw [List.dropLast_concat]; exact k⟩
theorem q_dput {td ty tv : TE} {tz : TS} {D : Ends} {σ : L2.St} {H : Hp} (h : tv σ H fun v H1 => td σ H1 fun x H2 => ty σ H2 fun y H3 => ∃ a H4, x = .ref a ∧ DPut H3 a y v H4 ∧ tz D σ H4) : tSeq (sDPut td ty tv) tz D σ H := h
/-- read_commit(chunks, x)[1], x's reading leading to the heap H0 -/
theorem rc_go {K : PySem.W.Frag} {C CM p b t : Addr} {r n : Int} {kvs : List (Key × V)} {σ : L2.St} {H H0 : Hp} {te : TE} {E : XK} {Q : VK} (hp : σ[0]? = some (some (.ref p))) (hc : CkAt C H0 p b t r kvs) (he : ∀ Q2 : VK, Q2 (.int n) H0 → te σ H Q2)
    (k : (∃ (st : Int) (q : List Int) (m : Str), valV kvs (Sum.inl n : Key) = some (.str (txt (cI st q m))) ∧ CiOk st q m ∧ ∀ H' y, CkAt C H' p b t (r + 1) kvs → But [p] H0 H' → SqT K H' y (q.map V.int) → Q (.ref y) H') ∨
     (valV kvs (Sum.inl n : Key) = none ∧ n.natAbs.log2 < 1920 ∧ ∀ (dx : Addr) H', H0 dx = none → H' dx = some (.xd [(Str.ofString "address", .int n)]) → CkAt C H' p b t (r + 1) kvs → But [p] H0 H' → E (.ref CM) (some dx) H')) :
    tOp (rIxT K) (tCall (spRC K C CM) [] E (tCons (tVar 0) (tCons te tNil))) (tC (.int 1)) σ H Q := by
  refine op_run (call_run (cons_run (var_run hp (cons_run (he _ ?_)))))
  refine ⟨p, b, t, r, n, kvs, rfl, hc, ?_⟩
  rcases k with ⟨st, q, m, hv, ok, k⟩ | ⟨hv, hb, k⟩
  · exact .inl ⟨st, q, m, hv, ok, fun H' x y hc' f hx hy => ⟨x, _, 1, .ref y, rfl, rfl, hx, rfl, k H' y hc' f hy⟩⟩
  · exact .inr ⟨hv, hb, k⟩
/-- what the store says, but for a lost one -/
def Held (ps : List (List Int)) (kvs : List (Key × V)) (lost : Option Int) : Prop := (∀ n, lost = some n → valV kvs (Sum.inl n : Key) = none ∧ n.natAbs.log2 < 1920) ∧ ∀ (j : Nat) (q : List Int), ps[j]? = some q → lost ≠ some (2 + (j : Int)) → valV kvs (Sum.inl (2 + (j : Int)) : Key) = some (.str (txt (cI 1 q (cmMsg j))))
theorem Full.held {ps : List (List Int)} {kvs : List (Key × V)} (h : Full (cmZ ps) kvs) : Held ps kvs none := ⟨(fun n z => nomatch z), fun j q hq _ => h.at hq⟩
theorem Lack.held {ps : List (List Int)} {kvs : List (Key × V)} {n : Int} (h : Lack ps kvs n) (hb : n.natAbs.log2 < 1920) : Held ps kvs (some n) := ⟨fun m e => by obtain rfl := Option.some.inj e; exact ⟨h.1, hb⟩, fun j q hq hn => h.2 j q hq fun e => hn (by rw [e])⟩
def spAF (C CM : Addr) : Sp := fun vs H Q E => ∃ (p b t : Addr) (r lo : Int) (kvs : List (Key × V)) (ps : List (List Int)) (j : Nat) (lost : Option Int), vs = [.ref p, .int (2 + (j : Int)), .int lo] ∧ CkAt C H p b t r kvs ∧ PsOk ps ∧ j < ps.length ∧ ps.length < 64 ∧ Held ps kvs lost ∧
  ((∀ n, lost = some n → ¬ AncP ps j lo n) → ∀ (L : List Int) x H' r', L.Pairwise (· ≤ ·) → L.Nodup → (∀ y, y ∈ L ↔ AncP ps j lo y) → H x = none → CkAt C H' p b t r' kvs → But [p] H H' → H' x = some (.lst (L.map V.int)) → Q (.ref x) H') ∧
  (∀ n, lost = some n → AncP ps j lo n → ∀ (dx : Addr) H' r', H dx = none → H' dx = some (.xd [(Str.ofString "address", .int n)]) → CkAt C H' p b t r' kvs → But [p] H H' → E (.ref CM) (some dx) H')

/-! ### str.index; walks -/
theorem mt_sindex {X : Cx} : MtR X "str.index" (fun x xs H Q => ∃ a b i rest, x = .str a ∧ xs = [.str b] ∧ Builtin.Str.occurrences a b 0 a.length 1 = i :: rest ∧ Q (.int (i : Int)) H) := by
  intro pins s σ H x xs v us Q I rx rs h
  obtain ⟨a, b, i, rest, rfl, rfl, ho, h⟩ := h
  obtain ⟨t, rfl⟩ := rx
  cases rs with
  | cons r1 rs =>
    cases rs
    obtain ⟨u, rfl⟩ := r1
    exact PySem.SC.index ho ⟨.int (i : Int), H, I.tok _, ⟨_, rfl⟩, h⟩
def stepP (c : Nat) : Nat := if c = 94 then 1 else 0
theorem occ_step {c : Nat} (h : c = 126 ∨ c = 94) : ∃ rest, Builtin.Str.occurrences (Str.ofString "~^") ⟨#[c]⟩ 0 (Str.ofString "~^").length 1 = stepP c :: rest := by
  rcases h with rfl | rfl
  · exact ⟨[], by decide +kernel⟩
  · exact ⟨[], by decide +kernel⟩
/-- the place of a step -/
theorem ev_place {σ : L2.St} {H : Hp} {ta te : TE} {c : Nat} (ha : Ev ta σ H (.str (Str.ofString "~^"))) (h : Ev te σ H (.str ⟨#[c]⟩)) (hc : c = 126 ∨ c = 94) : Ev (tM1 (fun x xs H Q => ∃ a b i rest, x = .str a ∧ xs = [.str b] ∧ Builtin.Str.occurrences a b 0 a.length 1 = i :: rest ∧ Q (.int (i : Int)) H) ta te) σ H (.int (stepP c : Nat)) := fun H1 e Q q => by
  obtain ⟨rest, ho⟩ := occ_step hc
  exact ha H1 e _ fun H2 e2 => ⟨⟨_, rfl⟩, h H2 (e.trans e2) _ fun H3 e3 => ⟨_, _, _, rest, rfl, rfl, ho, q H3 (e2.trans e3)⟩⟩
def wlk (ps : List (List Int)) : Nat → List Nat → Option Nat
  | j, [] => some j
  | j, c :: r => match (ps.getD j [])[stepP c]? with
    | some x => wlk ps (x - 2).toNat r
    | none => none
theorem wlk_some {ps : List (List Int)} {j i c : Nat} {q : List Int} {r : List Nat} (hq : ps[j]? = some q) (h : q[stepP c]? = some (2 + (i : Int))) : wlk ps j (c :: r) = wlk ps i r := by
  have e : ps.getD j [] = q := by rw [List.getD_eq_getElem?_getD, hq] <;> rfl
  have e2 : (2 + (i : Int) - 2).toNat = i := by omega
  simp only [wlk, e, h, e2]
theorem wlk_none {ps : List (List Int)} {j c : Nat} {q : List Int} {r : List Nat} (hq : ps[j]? = some q) (h : q[stepP c]? = none) : wlk ps j (c :: r) = none := by
  have e : ps.getD j [] = q := by rw [List.getD_eq_getElem?_getD, hq] <;> rfl
  simp only [wlk, e, h]
theorem stepP_le (c : Nat) : stepP c ≤ 1 := by unfold stepP; split <;> omega

def spFo (C CM CU : Addr) : Sp := fun vs H Q E => ∃ (p b t : Addr) (r : Int) (kvs : List (Key × V)) (ps : List (List Int)) (j : Nat) (z : Str), vs = [.ref p, .int (2 + (j : Int)), .str z] ∧ CkAt C H p b t r kvs ∧
  ((PsOk ps ∧ j < ps.length ∧ Held ps kvs none ∧ (∀ c ∈ z.cps.toList, c = 126 ∨ c = 94) ∧ (∀ (i : Nat) H' r', wlk ps j z.cps.toList = some i → i < ps.length → CkAt C H' p b t r' kvs → But [p] H H' → Q (.int (2 + (i : Int))) H') ∧ (∀ H' r', wlk ps j z.cps.toList = none → CkAt C H' p b t r' kvs → But [p] H H' → E (.ref CU) none H')) ∨
   (z.cps.toList ≠ [] ∧ valV kvs (Sum.inl (2 + (j : Int)) : Key) = none ∧ (2 + (j : Int)).natAbs.log2 < 1920 ∧ ∀ (dx : Addr) H' r', H dx = none → H' dx = some (.xd [(Str.ofString "address", .int (2 + (j : Int)))]) → CkAt C H' p b t r' kvs → But [p] H H' → E (.ref CM) (some dx) H'))
theorem s_raiseJB {X : Cx} {ts : List TE} {ys : List Str} {σ : L2.St} {H H0 : Hp} {C : Addr} {E : XK} (h : EvJ σ H ts ys) (hz : (ys.map (·.length)).sum ≤ 16777216) (hr : Raises X (.ref C)) (k : ∀ H1, Ex H H1 → (∀ a, H1 a = none → H0 a = none) ∧ E (.ref C) none H1) :
    tJs ts Str.empty σ H fun _ H1 => ∀ a, H1 a = none → ∃ a' cls, V.ref a = .ref a' ∧ upd H1 a (ExO (.ref C) a) a' = some (ExO cls a') ∧ Fr0 H0 a' ∧ Raises X cls ∧ E cls none (delH (upd H1 a (ExO (.ref C) a)) a') :=
  ev_joined h hz H (Ex.refl H) (fun _ H1 => ∀ a, H1 a = none → ∃ a' cls, V.ref a = .ref a' ∧ upd H1 a (ExO (.ref C) a) a' = some (ExO cls a') ∧ Fr0 H0 a' ∧ Raises X cls ∧ E cls none (delH (upd H1 a (ExO (.ref C) a)) a')) fun H1 e1 a ha => ⟨a, _, rfl, upd_same, fr0_none ((k H1 e1).1 a ha), hr, by rw [delH_new ha]; exact (k H1 e1).2⟩
theorem ok_follow_any (T : Txt K mg base P) : FnOk P w K mg base (L2N.CX P w) 32 T.f_follow T.d_follow ["chunks", "commit", "steps"] (spFo T.C_Chunks T.C_MissingChunk T.C_UnknownVersion) := by
  refine okN T.F_follow sc_follow (fun vs H Q E h => ?_) (fun cdv A outer s H vs Q E hr h => ?_)
  · obtain ⟨p, b, t, r, kvs, ps, j, z, rfl, _⟩ := h
    rfl
  · obtain ⟨p, b, t, r, kvs, ps, j, z, rfl, hc, h⟩ := h
    refine ⟨_, pss_cons (ps_for (L2.passes_of rfl) rfl (pi_str (pv 2)) (pg_name (i := 3) sc_follow.nd rfl (by first | exact Or.inl rfl | exact Or.inr rfl))
      (pss_cons (ps_set (i := 4) sc_follow.nd rfl (by first | exact Or.inl rfl | exact Or.inr rfl) (pe_ix (r := rIxT K) ix_tup (pe_call (ok_read_commit_any T) (hr.mono (by first | decide | omega)) (by rfl) T.g_read_commit T.F_read_commit.kp T.b_read_commit .nil (L2N.passes_call (L2N.takes_of rfl rfl rfl rfl) fun _ _ _ _ h => h) (pa_cons (pv 0) (pa_cons (pv 1) (pa_nil)))) (pe_int) (fun _ _ => rfl)))
      (pss_cons (ps_set (i := 5) sc_follow.nd rfl (by first | exact Or.inl rfl | exact Or.inr rfl) (pe_m1 PySem.F.slot_str_index PySem.F.type_str_index mt_sindex (pe_glob (v := .str (Str.ofString "~^")) rfl T.k_STEPS ⟨_, rfl⟩) (pv 3)))
      (pss_cons (ps_if (pt_cmpR op_ge (pv 5) (pe_callB (r := rLenQ K) call_len_seq (by rfl) T.m_len (by decide +kernel) (pa_cons (pv 4) (pa_nil))) (nomark _))
      (pss_one (L2N.ps_raise rfl (L2N.takes_of rfl rfl rfl rfl) (pmk_retN rfl (pe_exc1 PySem.F.excBase_ValueError T.e_UnknownVersion.x T.e_UnknownVersion.g T.e_UnknownVersion.kp (by rfl) (pe_joined (.cons (pe_str) (.cons (pe_fmt (pv 1)) (.cons (pe_str) (.cons (pe_fmt (pv 3)) (.nil))))))))))
      (pss_nil))
      (pss_one (ps_set (i := 1) sc_follow.nd rfl (by first | exact Or.inl rfl | exact Or.inr rfl) (pe_ix (r := rIxT K) ix_tup (pv 4) (pv 5) (fun _ _ => rfl))))))))
      (pss_one (ps_ret (pv 1))), ?_⟩
    rcases h with ⟨hok, hj, hh, hz, q, x⟩ | ⟨hne, hv, hb, x⟩
    · refine q_forS (ev_var rfl) (fun i σ' H' => ∃ (j' : Nat) (r' : Int) (x3 x4 x5 : Option V), σ' = [some (.ref p), some (.int (2 + (j' : Int))), some (.str z), x3, x4, x5] ∧ wlk ps j z.cps.toList = wlk ps j' (z.cps.toList.drop i) ∧ j' < ps.length ∧ CkAt T.C_Chunks H' p b t r' kvs ∧ But [p] H H')
        (fun H1 e1 => ⟨j, r, none, none, none, rfl, rfl, hj, hc.mono e1, But.of e1⟩) (fun i c σ' H' hi hI => ?_) (fun σ' H' hI => ?_)
      · obtain ⟨j', r', x3, x4, x5, rfl, hw, hj', hc', fH⟩ := hI
        have hcz := hz c (List.mem_of_getElem? hi)
        obtain ⟨q0, hq0⟩ : ∃ q0, ps[j']? = some q0 := ⟨_, List.getElem?_eq_getElem hj'⟩
        have hdr : z.cps.toList.drop i = c :: z.cps.toList.drop (i + 1) := by
          have hl := (List.getElem?_eq_some_iff.mp hi).1
          rw [List.drop_eq_getElem_cons hl]
          congr 1
          exact (List.getElem?_eq_some_iff.mp hi).2
        rw [hdr] at hw
        refine q_asgK (rc_go (K := K) rfl hc' (fun Q2 k2 => var_run rfl k2) (.inl ⟨1, q0, cmMsg j', hh.2 j' q0 hq0 (fun z => nomatch z), hok.ci hq0, fun H3 y hc3 f3 hy => ?_⟩))
        refine q_asgV [some (.ref p), some (.int (2 + (j' : Int))), some (.str z), some (.str ⟨#[c]⟩), some (.ref y), some (.int (stepP c : Nat))] (ev_place (ev_c) (ev_var rfl) hcz) rfl fun H4 e4 => ?_
        have hy4 := ex_t e4 hy
        have sp := stepP_le c
        refine q_when (b := decide ((q0.length : Int) ≤ (stepP c : Nat))) (et_test (ev_bin0 (ev_var rfl) (ev_is (ev_lenT (K := K) (ev_var rfl) hy4) (by rw [List.length_map])))) (fun hb H5 e5 => ?_) (fun hb H5 e5 => ?_)
        · have hl := of_decide_eq_true hb
          have hn : wlk ps j z.cps.toList = none := by
            rw [hw, wlk_none hq0 (List.getElem?_eq_none (by omega))]
          have h6 := hc3.mono (e4.trans e5)
          have f6 := (fH.trans f3).trans (But.of (e4.trans e5))
          have hlg : (2 + (j' : Int)).natAbs.log2 < 70 := by
            have := hok.l
            exact PySem.Flt.log2_lt_of (k := 70) (by decide) (by omega)
          have hsz : ([Str.ofString "the commit ", (toString (2 + (j' : Int)) : Str), Str.ofString " has no such parent: ", (⟨#[c]⟩ : Str)].map (·.length)).sum ≤ 16777216 := by
            have h1 := int_text_length_le (k := 70) (by decide) hlg
            have h2 : (toString (2 + (j' : Int)) : Str).length ≤ 100 := by
              show (Str.ofString (toString (2 + (j' : Int)))).length ≤ 100
              rw [PySem.ofString_length]
              omega
            have h3 : (Str.ofString "the commit ").length ≤ 100 := by decide +kernel
            have h4 : (Str.ofString " has no such parent: ").length ≤ 100 := by decide +kernel
            show (Str.ofString "the commit ").length + ((toString (2 + (j' : Int)) : Str).length + ((Str.ofString " has no such parent: ").length + (1 + 0))) ≤ 16777216
            omega
          exact s_raiseJB (.cons ev_c (.cons (ev_fmtI (ev_var rfl) (by omega)) (.cons ev_c (.cons (ev_fmtS (ev_var rfl) (by show 1 ≤ 16777216; decide)) .nil)))) hsz (L2.raises_own T.e_UnknownVersion.b T.e_UnknownVersion.t) fun H1 e1 => ⟨fun a ha => (f6.trans (But.of e1)).fresh (h6.mono e1).1.choose_spec ha, x H1 _ hn (h6.mono e1) (f6.trans (But.of e1))⟩
        · have hl := of_decide_eq_false hb
          obtain ⟨y0, hy0⟩ : ∃ y0, q0[stepP c]? = some y0 := ⟨_, List.getElem?_eq_getElem (by omega)⟩
          obtain ⟨i1, hi1, rfl⟩ := hok.par hq0 (List.mem_of_getElem? hy0)
          refine s_asg (ev_ixT (K := K) (v := .int (2 + (i1 : Int))) (ev_var rfl) (ev_var rfl) (ex_t e5 hy4) (at_nat (by rw [List.getElem?_map, hy0] <;> rfl))) fun H6 e6 => ⟨i1, r' + 1, _, _, _, rfl, by rw [hw, wlk_some hq0 hy0], by omega, ((hc3.mono e4).mono e5).mono e6, (fH.trans f3).trans (But.of ((e4.trans e5).trans e6))⟩
      · obtain ⟨j', r', x3, x4, x5, rfl, hw, hj', hc', fH⟩ := hI
        rw [List.drop_length] at hw
        exact s_ret (ev_var rfl) fun H1 e1 => q j' H1 r' hw hj' (hc'.mono e1) (fH.trans (But.of e1))
    · cases hzl : z.cps.toList with
      | nil => exact absurd hzl hne
      | cons c0 rest =>
      refine q_forS (ev_var rfl) (fun i σ' H' => i = 0 ∧ σ' = [some (.ref p), some (.int (2 + (j : Int))), some (.str z), none, none, none] ∧ Ex H H') (fun H1 e1 => ⟨rfl, rfl, e1⟩) (fun i c σ' H' hi hI => ?_) (fun σ' H' hI => ?_)
      · obtain ⟨rfl, rfl, eH⟩ := hI
        exact q_asgK (rc_go (K := K) rfl (hc.mono eH) (fun Q2 k2 => var_run rfl k2) (.inr ⟨hv, hb, fun dx H3 d0 d1 d2 d3 => x dx H3 _ ((But.of (S := []) eH).none_of d0 (by simp)) d1 d2 ((But.of eH).trans d3)⟩))
      · obtain ⟨h0, _, _⟩ := hI
        rw [hzl] at h0
        cases h0
def spFo0 (C : Addr) : Sp := fun vs H Q _ => ∃ (p b t : Addr) (r : Int) (kvs : List (Key × V)) (ps : List (List Int)) (j i : Nat) (z : Str), vs = [.ref p, .int (2 + (j : Int)), .str z] ∧ CkAt C H p b t r kvs ∧ PsOk ps ∧ j < ps.length ∧ Held ps kvs none ∧ (∀ c ∈ z.cps.toList, c = 126 ∨ c = 94) ∧ wlk ps j z.cps.toList = some i ∧ ∀ H' r', CkAt C H' p b t r' kvs → But [p] H H' → Q (.int (2 + (i : Int))) H'
theorem ok_follow (T : Txt K mg base P) : FnOk P w K mg base CX0 32 T.f_follow T.d_follow ["chunks", "commit", "steps"] (spFo0 T.C_Chunks) := (ok_follow_any T).calm fun vs H Q E ⟨p, b, t, r, kvs, ps, j, i, z, e, hc, hok, hj, hh, hz, hw, q⟩ => ⟨p, b, t, r, kvs, ps, j, z, e, hc, .inl ⟨hok, hj, hh, hz, fun i' H' r' h1 _ h2 h3 => by
  rw [hw] at h1
  cases h1
  exact q H' r' h2 h3, fun H' r' h1 => by rw [hw] at h1; cases h1⟩⟩


/-! ### _law_history -/
def spHist (K : PySem.W.Frag) (CC CB P : Addr) (pos : Pos) : Sp := fun vs H Q _ => ∃ (p b t d s : Addr) (r : Int) (kvs : List (Key × V)) (m : Nat) (ns : List Int) (f c : Nat), vs = [.ref p, .ref s, .int (f : Int), .int (c : Int), .int 1] ∧ StH CC CB H p b t d r [txt stI] kvs m ∧ Full [txt stI] kvs ∧ m ≤ 600 ∧ (LamTab H P pos lamQW ∨ H P = some (.tbl #[])) ∧
  SqL K H s (ns.map V.int) ∧ (∀ n ∈ ns, Wd n) ∧ f ≤ 1000 ∧ c ≤ 61 ∧
  ∀ (ps : List (List Int)) (kvs' : List (Key × V)) (x cl ad : Addr) H', GS CC CB H' p b t d cl ad r ps kvs' (m + 2 + c) → ps.length = c + 1 → But [P, d, t] H H' → SqT K H' x [.ref cl, .ref ad] → Q (.ref x) H'
theorem ok_law_history (T : Txt K mg base P) : FnOk P w K mg base CX0 7 T.f_law_history T.d_law_history ["chunks", "script", "first", "count", "state"] (spHist K T.C_Chunks T.C_Book T.P_write_state ⟨92, 33, 92, 55⟩) := by
  refine T.F_law_history.ok sc_law_history (fun vs H Q E h => ?_) (fun cdv A outer s H vs Q E hr h => ?_)
  · obtain ⟨p, b, t, d, s, r, kvs, m, ns, f, c, rfl, _⟩ := h
    rfl
  · obtain ⟨p, b, t, d, s', r, kvs, m, ns, f, c, rfl, hst, hf, hm, hP, hScr, hW, hf1, hc, k⟩ := h
    have hu := hu_of hr
    refine ⟨_, pss_cons (ps_set (i := 5) sc_law_history.nd rfl (by first | exact Or.inl rfl | exact Or.inr rfl) (pe_call (ok_root_commit T) (hr.mono (by first | decide | omega)) (by rfl) T.g_root_commit T.F_root_commit.kp T.b_root_commit .nil pass0 (pa_cons (pv 0) (pa_nil))))
      (pss_cons (ps_set (i := 6) sc_law_history.nd rfl (by first | exact Or.inl rfl | exact Or.inr rfl) (pe_lst (pa_cons (pv 5) (pa_nil))))
      (pss_cons (ps_set (i := 7) sc_law_history.nd rfl (by first | exact Or.inl rfl | exact Or.inr rfl) (pe_disp (pps_cons (pv 5) (pe_lst (pa_nil)) (pps_nil)) (by rfl) (by rfl) (fun z => by cases z) (by decide)))
      (pss_cons (ps_for PassesOwn.never rfl (pi_range1 (by rfl) T.m_range (pa_cons (pv 3) (pa_nil))) (pg_name (i := 8) sc_law_history.nd rfl (by first | exact Or.inl rfl | exact Or.inr rfl))
      (pss_cons (ps_set (i := 9) sc_law_history.nd rfl (by first | exact Or.inl rfl | exact Or.inr rfl) (pe_call (ok_law_numbers T) (hr.mono (by first | decide | omega)) (by rfl) T.g_law_numbers T.F_law_numbers.kp T.b_law_numbers .nil pass0 (pa_cons (pe_call (ok_law_cell T) (hr.mono (by first | decide | omega)) (by rfl) T.g_law_cell T.F_law_cell.kp T.b_law_cell .nil pass0 (pa_cons (pv 1) (pa_cons (pe_op op_add (pv 2) (pv 8)) (pa_nil)))) (pa_cons (pe_int) (pa_nil)))))
      (pss_cons (ps_set (i := 10) sc_law_history.nd rfl (by first | exact Or.inl rfl | exact Or.inr rfl) (pe_ix (r := rIxL K) ix_list (pe_lst (pa_cons (pe_int) (pa_cons (pe_int) (pa_cons (pe_int) (pa_cons (pe_callB (r := rLenQ K) call_len_seq (by rfl) T.m_len (by decide +kernel) (pa_cons (pv 6) (pa_nil))) (pa_nil)))))) (pe_op op_mod (pe_ix (r := rIxL K) ix_list (pv 9) (pe_int) (fun _ _ => rfl)) (pe_int)) (fun _ _ => rfl)))
      (pss_cons (ps_set (i := 11) sc_law_history.nd rfl (by first | exact Or.inl rfl | exact Or.inr rfl) (pe_lst (pa_cons (pe_ix (r := rIxL K) ix_list (pv 6) (pe_op op_sub (pe_un un_neg (pe_int)) (pe_op op_mod (pe_ix (r := rIxL K) ix_list (pv 9) (pe_int) (fun _ _ => rfl)) (pe_callB (call_min2 rfl) (by rfl) T.m_min (by decide +kernel) (pa_cons (pe_callB (r := rLenQ K) call_len_seq (by rfl) T.m_len (by decide +kernel) (pa_cons (pv 6) (pa_nil))) (pa_cons (pv 10) (pa_nil)))))) (fun _ _ => rfl)) (pa_nil))))
      (pss_cons (ps_set (i := 12) sc_law_history.nd rfl (by first | exact Or.inl rfl | exact Or.inr rfl) (pe_ix (r := rIxL K) ix_list (pv 6) (pe_op op_sub (pe_un un_neg (pe_int)) (pe_op op_mod (pe_ix (r := rIxL K) ix_list (pv 9) (pe_int) (fun _ _ => rfl)) (pe_callB (call_min2 rfl) (by rfl) T.m_min (by decide +kernel) (pa_cons (pe_callB (r := rLenQ K) call_len_seq (by rfl) T.m_len (by decide +kernel) (pa_cons (pv 6) (pa_nil))) (pa_cons (pe_op op_add (pv 10) (pe_int)) (pa_nil)))))) (fun _ _ => rfl)))
      (pss_cut (ps_if (PW.pt (pw_and (pt_cmpR op_eq (pe_op op_mod (pe_ix (r := rIxL K) ix_list (pv 9) (pe_int) (fun _ _ => rfl)) (pe_int)) (pe_int) (nomark _)) (pw_and1 (pt_cmpR op_ne (pv 12) (pe_ix (r := rIxL K) ix_list (pv 11) (pe_int) (fun _ _ => rfl)) (nomark _)))))
      (pss_one (ps_expr (pe_bm PySem.F.plainAttrs_list PySem.F.slot_list_append PySem.F.type_list_append mt_append (pv 11) (pa_cons (pv 12) (pa_nil)))))
      (pss_nil))
      (pss_cons (ps_set (i := 13) sc_law_history.nd rfl (by first | exact Or.inl rfl | exact Or.inr rfl) (pe_call (ok_write_commit T) (hr.mono (by first | decide | omega)) (by rfl) T.g_write_commit T.F_write_commit.kp T.b_write_commit .nil pass0 (pa_cons (pv 0) (pa_cons (pv 4) (pa_cons (pe_callTy (r := rTupOf K) call_tuple_of (by rfl) T.m_tuple (by decide +kernel) (pa_cons (pv 11) (pa_nil))) (pa_cons (pe_op op_add_str (pe_str) (pe_callTy call_str_int (by rfl) T.m_str (by decide +kernel) (pa_cons (pv 8) (pa_nil)))) (pa_nil)))))))
      (pss_cons (ps_expr (pe_bm PySem.F.plainAttrs_list PySem.F.slot_list_append PySem.F.type_list_append mt_append (pv 6) (pa_cons (pv 13) (pa_nil))))
      (pss_one (ps_dput hu (pv 7) (pv 13) (pv 11) rfl))))))))))
      (pss_one (ps_ret (pe_tup (pa_cons (pv 6) (pa_cons (pv 7) (pa_nil))))))))), ?_⟩
    refine q_asgK (call_run (cons_run (var_run rfl ?_)))
    refine ⟨p, b, t, d, r, kvs, m, rfl, hst, hf, by omega, hP, fun kvs1 H1 hst1 hfl1 f1 lt1 => ?_⟩
    have nS : ∀ {a : Addr}, H1 a = none → a ∉ [T.P_write_state, d, t] := fun {a} ha z => by
      simp only [List.mem_cons, List.not_mem_nil, or_false] at z
      rcases z with z | z | z
      · obtain ⟨c', h1, _⟩ := lt1
        rw [z, h1] at ha
        cases ha
      · rw [z, hst1.bk.2] at ha
        cases ha
      · rw [z, hst1.ck.2] at ha
        cases ha
    refine q_asgLS (fun cl => [some (.ref p), some (.ref s'), some (.int f), some (.int c), some (.int 1), some (.int 2), some (.ref cl), none, none, none, none, none, none, none]) (xs := [.int 2]) (el_lst (ea_cons (ev_var rfl) ea_nil) (by show 1 ≤ 100000; decide)) (fun _ => rfl) fun cl H2 hcl e2 hcl2 => ?_
    intro ad had
    refine ⟨_, rfl, by show 0 ≤ sizeLine; decide, fun al hal => ⟨?_, [((Sum.inl 2 : Key), V.ref al)], rfl, by show 1 ≤ 15; decide, ?_⟩⟩
    · rw [upd_ne (ne_of_none upd_same hal)]
      exact upd_same
    obtain ⟨H3, eH3⟩ : ∃ H3, H3 = upd (upd (upd H2 ad (.dK [])) al (.lst [])) ad (.dK (mergeK [] [((Sum.inl 2 : Key), V.ref al)])) := ⟨_, rfl⟩
    rw [← eH3]
    have naa : ad ≠ al := ne_of_none upd_same hal
    have hal2 : H2 al = none := by rw [upd_ne naa.symm] at hal; exact hal
    have e3 : Ex H2 H3 := by rw [eH3]; exact ((Ex.new had).trans (Ex.new hal)).mut had
    have h3ad : H3 ad = some (.dK [((Sum.inl 2 : Key), V.ref al)]) := by rw [eH3]; exact upd_same
    have h3al : H3 al = some (.lst []) := by rw [eH3, upd_ne naa.symm]; exact upd_same
    have hcl0 : H cl = none := f1.none_of hcl (nS hcl)
    have had1 : H1 ad = none := fresh_back e2 had
    have had0 : H ad = none := f1.none_of had1 (nS had1)
    have e13 := e2.trans e3
    have st3 := hst1.mono e13
    refine q_forR1 (n := (c : Int)) (ea_cons (ev_var rfl) ea_nil) (by omega) (fun i σ' H' => ∃ (ps : List (List Int)) (kvs : List (Key × V)) (x8 x9 x10 x11 x12 x13 : Option V), σ' = hS p s' f c cl ad x8 x9 x10 x11 x12 x13 ∧ GS T.C_Chunks T.C_Book H' p b t d cl ad r ps kvs (m + 2 + i) ∧ ps.length = i + 1 ∧ But [T.P_write_state, d, t] H H')
      (fun H4 e4 => ⟨[[]], kvs1, none, none, none, none, none, none, rfl, ?_, rfl, f1.trans (But.of (e13.trans e4))⟩) (fun i σ' H' hi hI => ?_) (fun σ' H' hI => ?_)
    · have g3 : GS T.C_Chunks T.C_Book H3 p b t d cl ad r [[]] kvs1 (m + 2) := by
        refine ⟨st3, hfl1, e3 _ _ hcl2, ⟨_, h3ad, by show 1 ≤ 1; decide, fun j q hq => ?_⟩, fun z => ?_, fun z => ?_, ⟨rfl, fun j q hq => by simp at hq, by decide⟩⟩
        · cases j with
          | zero =>
            obtain rfl : ([] : List Int) = q := Option.some.inj hq
            exact ⟨al, rfl, h3al, fun z => by rw [z, hcl2] at hal2; cases hal2⟩
          | succ j => simp at hq
        · rw [z, (hst1.mono e2).ck.2] at had; cases had
        · rw [z, (hst1.mono e2).bk.2] at had; cases had
      exact g3.mono e4
    · obtain ⟨ps, kv, x8, x9, x10, x11, x12, x13, rfl, g, hpl, fH⟩ := hI
      have hS' : SqL K H' s' (ns.map V.int) := but_l fH (fun c hc o ho => by
        simp only [List.mem_cons, List.not_mem_nil, or_false] at hc
        rcases hc with rfl | rfl | rfl
        · rcases hP with ⟨c', h1, _⟩ | h1
          · exact .inl ⟨_, Option.some.inj (ho.symm.trans h1)⟩
          · exact .inl ⟨_, Option.some.inj (ho.symm.trans h1)⟩
        · exact .inr (.inl ⟨_, Option.some.inj (ho.symm.trans hst.bk.2)⟩)
        · exact .inr (.inl ⟨_, Option.some.inj (ho.symm.trans hst.ck.2)⟩)) hScr
      refine q_asgK (call_run (cons_run (ev_run (ev_call (ea_cons (ev_var rfl) (ea_cons (ev_is (ev_bin0 (ev_var rfl) (ev_var rfl)) (congrArg V.int (show (f : Int) + (i : Int) = ((f + i : Nat) : Int) by omega))) ea_nil)) (cv_cell (k := f + i) hS')) fun H4 e4 => ?_)))
      refine ⟨_, 4, rfl, Wd.cell hW _, by decide, fun nl xs H5 hnl e5 hxs hlen hrng => ?_⟩
      obtain ⟨n0, n1, n2, n3, rfl⟩ : ∃ a b c d, xs = [a, b, c, d] := by
        match xs, hlen with
        | [a, b, c, d], _ => exact ⟨a, b, c, d, rfl⟩
      have g5 := g.mono (e4.trans e5)
      have hl1 : (1 : Int) ≤ ps.length := by omega
      obtain ⟨rc, hrc, hat⟩ : ∃ rc : Int, 1 ≤ rc ∧ atI [V.int 1, .int 2, .int 3, .int (ps.length : Int)] (n3 % 4) = some (.int rc) := by
        have h4 : n3 % 4 = 0 ∨ n3 % 4 = 1 ∨ n3 % 4 = 2 ∨ n3 % 4 = 3 := by omega
        rcases h4 with h | h | h | h <;> rw [h]
        · exact ⟨1, by decide, rfl⟩
        · exact ⟨2, by decide, rfl⟩
        · exact ⟨3, by decide, rfl⟩
        · exact ⟨_, hl1, rfl⟩
      have lenE : ∀ {H' : Hp} {σ : L2.St}, Ex H5 H' → σ[6]? = some (some (V.ref cl)) → Ev (tCB (rLenQ K) (tCons (tVar 6) tNil)) σ H' (.int (ps.length : Int)) := fun e h => ev_is (ev_lenQ (K := K) (ev_var h) (sq_of (e _ _ g5.hcl))) (by rw [cmL_len])
      refine q_asgV (hS p s' f c cl ad (some (.int i)) (some (.ref nl)) (some (.int rc)) x11 x12 x13) (ev_ixN (K := K) (el_lst (ea_cons ev_c (ea_cons ev_c (ea_cons ev_c (ea_cons (lenE (Ex.refl _) rfl) ea_nil)))) (by show 4 ≤ 100000; decide)) (fun H6 e6 => ev_bin (ev_ixL (K := K) (ev_var rfl) ev_c (sq_of (e6 _ _ hxs)) (at_nat (j := 3) rfl)) ev_c (by decide)) hat) rfl fun H6 e6 => ?_
      obtain ⟨mn0, hm0⟩ : ∃ mn0 : Int, mn0 = if rc < (ps.length : Int) then rc else (ps.length : Int) := ⟨_, rfl⟩
      have hb0 : 1 ≤ mn0 ∧ mn0 ≤ ps.length := by rw [hm0]; split <;> omega
      obtain ⟨jp, hjp, hvp⟩ := pick (x := n0) hb0.1 hb0.2
      refine q_asgLS (fun pl => hS p s' f c cl ad (some (.int i)) (some (.ref nl)) (some (.int rc)) (some (.ref pl)) x12 x13) (xs := [.int (2 + (jp : Int))]) (el_lst (ea_cons (ev_pick (K := K) (ev_var rfl) (ev_ixL (K := K) (ev_var rfl) ev_c (sq_of (e6 _ _ hxs)) (at_nat (j := 0) rfl)) (ev_is (ev_min2 (lenE e6 rfl) (ev_var rfl)) (congrArg V.int hm0.symm)) (e6 _ _ g5.hcl) (by omega) hvp) ea_nil) (by show 1 ≤ 100000; decide)) (fun _ => rfl) fun pl H7 hpl7 e7 hp7 => ?_
      obtain ⟨mn1, hm1⟩ : ∃ mn1 : Int, mn1 = if rc + 2 < (ps.length : Int) then rc + 2 else (ps.length : Int) := ⟨_, rfl⟩
      have hb1 : 1 ≤ mn1 ∧ mn1 ≤ ps.length := by rw [hm1]; split <;> omega
      obtain ⟨jo, hjo, hvo⟩ := pick (x := n1) hb1.1 hb1.2
      have e57 := e6.trans e7
      refine q_asgV (hS p s' f c cl ad (some (.int i)) (some (.ref nl)) (some (.int rc)) (some (.ref pl)) (some (.int (2 + (jo : Int)))) x13) (ev_pick (K := K) (ev_var rfl) (ev_ixL (K := K) (ev_var rfl) ev_c (sq_of (e57 _ _ hxs)) (at_nat (j := 1) rfl)) (ev_is (ev_min2 (lenE e57 rfl) (ev_bin0 (ev_var rfl) ev_c)) (congrArg V.int hm1.symm)) (e57 _ _ g5.hcl) (by omega) hvo) rfl fun H8 e8 => ?_
      refine q_cut (M := fun σ2 H9 => σ2 = hS p s' f c cl ad (some (.int i)) (some (.ref nl)) (some (.int rc)) (some (.ref pl)) (some (.int (2 + (jo : Int)))) x13 ∧ Ex H6 H9 ∧ ∃ q : List Int, H9 pl = some (.lst (q.map V.int)) ∧ q ≠ [] ∧ q.length ≤ 2 ∧ ∀ x ∈ q, ∃ i : Nat, i < ps.length ∧ x = 2 + (i : Int)) ?_ fun σ2 H9 hM => ?_
      · have e58 := e57.trans e8
        refine s_if (b := decide (n2 % 2 = 1) && !decide ((2 + (jo : Int)) = 2 + (jp : Int))) (et_and (et_test (ev_eqI (ev_bin (ev_ixL (K := K) (ev_var rfl) ev_c (sq_of (e58 _ _ hxs)) (at_nat (j := 2) rfl)) ev_c (by decide)) ev_c)) fun _ => et_test (ev_neI (ev_var rfl) (ev_ixL (K := K) (ev_var rfl) ev_c (sq_of (e8 _ _ hp7)) (at_nat (j := 0) rfl)))) (fun _ H9 e9 => ?_) (fun _ H9 e9 => ?_)
        · refine s_app (K := K) (e9 _ _ (e8 _ _ hp7)) (ev_var rfl) (ev_var rfl) (by show 1 < 100000; decide) fun H10 e10 => ⟨rfl, ((e7.trans e8).trans (e9.trans e10)).mut hpl7, [2 + (jp : Int), 2 + (jo : Int)], upd_same, by simp, by show 2 ≤ 2; decide, fun x hx => ?_⟩
          simp only [List.mem_cons, List.not_mem_nil, or_false] at hx
          rcases hx with rfl | rfl
          · exact ⟨jp, hjp, rfl⟩
          · exact ⟨jo, hjo, rfl⟩
        · exact ⟨rfl, (e7.trans e8).trans e9, [2 + (jp : Int)], e9 _ _ (e8 _ _ hp7), by simp, by show 1 ≤ 2; decide, fun x hx => ⟨jp, hjp, List.mem_singleton.mp hx⟩⟩
      obtain ⟨rfl, e69, q, hq9, hq1, hq2, hq3⟩ := hM
      have g9 := g5.mono (e6.trans e69)
      have hlog : ((i : Nat) : Int).natAbs.log2 < 1920 := Nat.lt_trans (PySem.Flt.log2_lt_of (k := 64) (by decide) (by omega)) (by decide)
      have hsz : (Str.ofString "m").length + (toString ((i : Nat) : Int) : Str).length ≤ 16777216 := by
        have h1 := int_text_length_le (k := 1920) (by decide) hlog
        have h2 : (toString ((i : Nat) : Int) : Str).length ≤ 2000 := by
          show (Str.ofString (toString ((i : Nat) : Int))).length ≤ 2000
          rw [PySem.ofString_length]
          omega
        have h3 : (Str.ofString "m").length = 1 := by decide +kernel
        omega
      have et : txt (cI 1 q (cmMsg (i + 1))) = cmT ps.length q := by rw [hpl] <;> rfl
      have nw := cmZ_new (ps := ps) (by omega) q
      have ci : CiOk 1 q (cmMsg (i + 1)) := ⟨by decide, fun x hx => by
        obtain ⟨j, hj, rfl⟩ := hq3 x hx
        have e6' : (10 : Int) ^ 6 = 1000000 := by decide
        rw [e6']
        omega, by omega, msg_len ⟨i + 1, by omega⟩⟩
      refine q_asgK (call_run (cons_run (var_run rfl (cons_run (var_run rfl (cons_run ⟨_, rfl, pl, _, rfl, .inl ⟨sq_of hq9, fun tq htq => cons_run (ev_run (ev_addS ev_c (ev_strI (ev_var rfl) hlog) hsz) fun H10 e10 => ?_)⟩⟩))))))
      have e9t := (Ex.new (o := .tup (q.map V.int)) htq).trans e10
      have g10 := g9.mono e9t
      refine ⟨p, b, t, d, tq, r, cmZ ps, kv, m + 2 + i, 1, q, cmMsg (i + 1), rfl, st_of (e10 _ _ upd_same), g10.st, by omega, by rw [cmZ_len]; omega, ci, fun n H11 hn h11 f11 => ?_⟩
      rw [et, nw.1, nw.2] at hn
      have hfl := g10.fl.put g10.st.nd (cmT ps.length q)
      rw [nw.1, nw.2] at hfl
      rw [et, nw.1] at h11
      have en : n = 2 + (ps.length : Int) := by omega
      rw [← hn] at hfl
      subst en
      have own : ∀ {a : Addr} {xs : List V}, H10 a = some (.lst xs) → a ∉ [d, t] := fun ha z => g10.own ha (by
        simp only [List.mem_cons, List.not_mem_nil, or_false] at z ⊢
        rcases z with z | z
        · exact .inr (.inr z)
        · exact .inr (.inl z))
      have hcl11 := f11 _ _ g10.hcl (own g10.hcl)
      obtain ⟨kA, hA, lA, kk⟩ := g10.ab.but f11 (fun z => g10.adn (by
        simp only [List.mem_cons, List.not_mem_nil, or_false] at z ⊢
        rcases z with z | z
        · exact .inr (.inr z)
        · exact .inr (.inl z))) fun a xs ha _ => own ha
      have hpl10 := e9t _ _ hq9
      have hpl11 := f11 _ _ hpl10 (own hpl10)
      have npc : pl ≠ cl := fun z => by
        have := e6 _ _ g5.hcl
        rw [z, this] at hpl7
        cases hpl7
      have nca : cl ≠ ad := ne_of hcl11 hA (by intro z; cases z)
      have npa : pl ≠ ad := ne_of hpl11 hA (by intro z; cases z)
      refine q_app (K := K) hcl11 (ev_var rfl) (ev_var rfl) (by rw [cmL_len]; omega) fun H12 e12 => ?_
      have hA12 : (upd H12 cl (.lst (cmL ps.length ++ [.int (2 + (ps.length : Int))]))) ad = some (.dK kA) := by rw [upd_ne nca.symm]; exact e12 _ _ hA
      refine ⟨_, rfl, _, rfl, _, rfl, ad, _, rfl, DPut.k (k := Sum.inl (2 + (ps.length : Int))) hA12 (szk (by omega)), ?_⟩
      have st12 := h11.mono e12
      have keep : ∀ {c : Addr} {o : HO}, H12 c = some o → c ≠ cl → c ≠ ad → (upd (upd H12 cl (.lst (cmL ps.length ++ [.int (2 + (ps.length : Int))]))) ad (.dK (putK kA (Sum.inl (2 + (ps.length : Int)) : Key) (.ref pl)))) c = some o := fun h n1 n2 => by rw [upd_ne n2, upd_ne n1]; exact h
      have fb : But [cl, ad] H12 (upd (upd H12 cl (.lst (cmL ps.length ++ [.int (2 + (ps.length : Int))]))) ad (.dK (putK kA (Sum.inl (2 + (ps.length : Int)) : Key) (.ref pl)))) := fun c o h nc => by
        simp only [List.mem_cons, List.not_mem_nil, or_false, not_or] at nc
        exact keep h nc.1 nc.2
      have hcl12 := e12 _ _ hcl11
      have hA12' := e12 _ _ hA
      obtain ⟨⟨px, c1⟩, c2⟩ := id st12.ck
      obtain ⟨⟨bx, c3⟩, c4⟩ := id st12.bk
      have nin : ∀ {c : Addr} {o : HO}, H12 c = some o → (∀ xs, o ≠ .lst xs) → c ≠ ad → c ∉ [cl, ad] := fun h no n2 => by
        simp only [List.mem_cons, List.not_mem_nil, or_false, not_or]
        exact ⟨fun z => no _ (Option.some.inj (h.symm.trans (by rw [z]; exact hcl12))), n2⟩
      refine ⟨ps ++ [q], _, _, _, _, _, _, _, rfl, ⟨st12.but fb (nin c1 (by intro _ z; cases z) (ne_of c1 hA12' (by intro z; cases z))) (nin c3 (by intro _ z; cases z) (ne_of c3 hA12' (by intro z; cases z))) (nin c2 (by intro _ z; cases z) g.nt.symm) (nin c4 (by intro _ z; cases z) g.nd.symm), hfl, ?_, ⟨_, upd_same, ?_, fun j y hy => ?_⟩, g.nt, g.nd, g.ok.app (by omega) hq1 hq2 hq3⟩, by rw [List.length_append, hpl] <;> rfl, ?_⟩
      · rw [upd_ne nca, upd_same, List.length_append]
        show _ = some (HO.lst (cmL (ps.length + 1)))
        rw [cmL_app]
      · rw [List.length_append]
        exact Nat.le_trans (putK_le _ _ _) (Nat.succ_le_succ lA)
      · rw [valV_put]
        by_cases hj : j < ps.length
        · rw [List.getElem?_append_left hj] at hy
          obtain ⟨a, k1, k2, k3⟩ := kk j y hy
          have na : a ≠ ad := ne_of k2 hA (by intro z; cases z)
          exact ⟨a, by rw [if_neg (fun z => by have := Sum.inl.inj z; omega)]; exact k1, keep (e12 _ _ k2) k3 na, k3⟩
        · have hjl := (List.getElem?_eq_some_iff.mp hy).1
          rw [List.length_append, List.length_singleton] at hjl
          have ej : j = ps.length := by omega
          subst ej
          rw [List.getElem?_append_right (Nat.le_refl _), Nat.sub_self] at hy
          obtain rfl : q = y := Option.some.inj hy
          exact ⟨pl, if_pos rfl, keep (e12 _ _ hpl11) npc npa, npc⟩
      · refine fun c o hco hnc => keep (e12 _ _ (f11 _ _ (e9t _ _ (e69 _ _ (e6 _ _ (e5 _ _ (e4 _ _ (fH _ _ hco hnc)))))) fun z => hnc ?_)) (ne_of_none hco hcl0) (ne_of_none hco had0)
        simp only [List.mem_cons, List.not_mem_nil, or_false] at z ⊢
        exact .inr z
    · obtain ⟨ps, kv, x8, x9, x10, x11, x12, x13, rfl, g, hpl, fH⟩ := hI
      have ec : (c : Int).toNat = c := by omega
      rw [ec] at g hpl
      refine s_retU (eu_tup (ea_cons (ev_var rfl) (ea_cons (ev_var rfl) ea_nil)) (by show 2 ≤ 100000; decide)) fun x H4 hx e4 hx4 => k ps kv x cl ad H4 (g.mono e4) hpl (fH.trans (But.of e4)) (st_of hx4)


/-! ### _law_walk -/
def wlkV (ps : List (List Int)) (j : Nat) (cs : List Nat) : Int := match wlk ps j cs with
  | some i => 2 + (i : Int)
  | none => 0
def spWalk : Sp := fun vs H Q _ => ∃ (ad cl : Addr) (ps : List (List Int)) (j : Nat) (z : Str), vs = [.ref ad, .int (2 + (j : Int)), .str z] ∧ AbAt H ad cl ps ∧ PsOk ps ∧ j < ps.length ∧ (∀ c ∈ z.cps.toList, c = 126 ∨ c = 94) ∧ ∀ H', Ex H H' → Q (.int (wlkV ps j z.cps.toList)) H'
theorem ok_law_walk (T : Txt K mg base P) : FnOk P w K mg base CX0 1 T.f_law_walk T.d_law_walk ["above", "tip", "steps"] spWalk := by
  refine T.F_law_walk.ok sc_law_walk (fun vs H Q E h => ?_) (fun cdv A outer s H vs Q E hr h => ?_)
  · obtain ⟨ad, cl, ps, j, z, rfl, _⟩ := h
    rfl
  · obtain ⟨ad, cl, ps, j, z, rfl, hab, hok, hj, hz, q⟩ := h
    have hu := hu_of hr
    refine ⟨_, pss_cons (ps_for PassesOwn.never rfl (pi_str (pv 2)) (pg_name (i := 3) sc_law_walk.nd rfl (by first | exact Or.inl rfl | exact Or.inr rfl))
      (pss_cons (ps_set (i := 4) sc_law_walk.nd rfl (by first | exact Or.inl rfl | exact Or.inr rfl) (pe_m1 PySem.F.slot_str_index PySem.F.type_str_index mt_sindex (pe_str) (pv 3)))
      (pss_cons (ps_if (PW.pt (pw_or (pt_cmpR op_eq (pv 1) (pe_int) (nomark _)) (pw_or1 (pt_cmpR op_ge (pv 4) (pe_callB (r := rLenQ K) call_len_seq (by rfl) T.m_len (by decide +kernel) (pa_cons (pe_dget hu (pv 0) (pv 1) (fun _ _ => rfl)) (pa_nil))) (nomark _)))))
      (pss_one (ps_ret (pe_int)))
      (pss_nil))
      (pss_one (ps_set (i := 1) sc_law_walk.nd rfl (by first | exact Or.inl rfl | exact Or.inr rfl) (pe_ix (r := rIxL K) ix_list (pe_dget hu (pv 0) (pv 1) (fun _ _ => rfl)) (pv 4) (fun _ _ => rfl)))))))
      (pss_one (ps_ret (pv 1))), ?_⟩
    refine q_forS (ev_var rfl) (fun i σ' H' => ∃ (j' : Nat) (x3 x4 : Option V), σ' = [some (.ref ad), some (.int (2 + (j' : Int))), some (.str z), x3, x4] ∧ wlk ps j z.cps.toList = wlk ps j' (z.cps.toList.drop i) ∧ j' < ps.length ∧ Ex H H')
      (fun H1 e1 => ⟨j, none, none, rfl, rfl, hj, e1⟩) (fun i c σ' H' hi hI => ?_) (fun σ' H' hI => ?_)
    · obtain ⟨j', x3, x4, rfl, hw, hj', eH⟩ := hI
      have hcz := hz c (List.mem_of_getElem? hi)
      obtain ⟨q0, hq0⟩ : ∃ q0, ps[j']? = some q0 := ⟨_, List.getElem?_eq_getElem hj'⟩
      have hdr : z.cps.toList.drop i = c :: z.cps.toList.drop (i + 1) := by
        have hl := (List.getElem?_eq_some_iff.mp hi).1
        rw [List.drop_eq_getElem_cons hl]
        congr 1
        exact (List.getElem?_eq_some_iff.mp hi).2
      rw [hdr] at hw
      obtain ⟨kvs, hk1, _, hk2⟩ := hab.but (S := []) (But.of eH) (by simp) (by simp)
      obtain ⟨aq, v1, v2, _⟩ := hk2 j' _ hq0
      have key : ∀ {H2 : Hp} {σ : L2.St}, Ex H' H2 → σ[0]? = some (some (V.ref ad)) → σ[1]? = some (some (V.int (2 + (j' : Int)))) → Ev (tDGet (tVar 0) (tVar 1)) σ H2 (.ref aq) := fun e s0 s1 => ev_dgetK (k := Sum.inl (2 + (j' : Int))) (ev_var s0) (ev_var s1) (e _ _ hk1) v1
      have sp := stepP_le c
      refine q_asgV [some (.ref ad), some (.int (2 + (j' : Int))), some (.str z), some (.str ⟨#[c]⟩), some (.int (stepP c : Nat))] (ev_place ev_c (ev_var rfl) hcz) rfl fun H4 e4 => ?_
      refine q_when (b := decide ((q0.length : Int) ≤ (stepP c : Nat))) (et_is (et_or (a := false) (b := decide ((q0.length : Int) ≤ (stepP c : Nat))) (et_is (et_test (ev_eqI (ev_var rfl) ev_c)) (decide_eq_false (by omega))) fun _ => et_test (ev_bin0 (ev_var rfl) (ev_is (ev_lenQ (K := K) (key e4 rfl rfl) (sq_of (e4 _ _ v2))) (by rw [List.length_map])))) (Bool.false_or _)) (fun hb H5 e5 => ?_) (fun hb H5 e5 => ?_)
      · have hl := of_decide_eq_true hb
        have hn : wlkV ps j z.cps.toList = 0 := by
          unfold wlkV
          rw [hw, wlk_none hq0 (List.getElem?_eq_none (by omega))]
        rw [hn] at q
        exact s_ret ev_c fun H6 e6 => q H6 ((eH.trans e4).trans (e5.trans e6))
      · have hl := of_decide_eq_false hb
        obtain ⟨y0, hy0⟩ : ∃ y0, q0[stepP c]? = some y0 := ⟨_, List.getElem?_eq_getElem (by omega)⟩
        obtain ⟨i1, hi1, rfl⟩ := hok.par hq0 (List.mem_of_getElem? hy0)
        refine s_asg (ev_ixL (K := K) (v := .int (2 + (i1 : Int))) (key (e4.trans e5) rfl rfl) (ev_var rfl) (sq_of (e5 _ _ (e4 _ _ v2))) (at_nat (by rw [List.getElem?_map, hy0] <;> rfl))) fun H6 e6 => ⟨i1, _, _, rfl, by rw [hw, wlk_some hq0 hy0], by omega, (eH.trans e4).trans (e5.trans e6)⟩
    · obtain ⟨j', x3, x4, rfl, hw, hj', eH⟩ := hI
      rw [List.drop_length] at hw
      have hn : wlkV ps j z.cps.toList = 2 + (j' : Int) := by
        unfold wlkV
        rw [hw] <;> rfl
      rw [hn] at q
      exact s_ret (ev_var rfl) fun H1 e1 => q H1 (eH.trans e1)


/-! ### _law_told -/
theorem ev_int1B {σ : L2.St} {H : Hp} {te : TE} (h : Ev te σ H (.bl true)) : Ev (tCB (fun xs H Q => (∃ i, xs = [V.int i] ∧ Q (.int i) H) ∨ ∃ k, xs = [V.bl k] ∧ Q (.int (if k = true then 1 else 0)) H) (tCons te tNil)) σ H (.int 1) := fun H1 e Q q => h H1 e _ fun H2 e2 => .inr ⟨true, rfl, q H2 e2⟩
def toldD (ps : List (List Int)) (j : Nat) (cs : List Nat) : PyData := match wlk ps j cs with
  | some i => .tuple [.str (Str.ofString "at"), .int (2 + (i : Int))]
  | none => .str (Str.ofString "none")
def spTold (K : PySem.W.Frag) (C : Addr) : Sp := fun vs H Q _ => ∃ (p b t : Addr) (r : Int) (kvs : List (Key × V)) (ps : List (List Int)) (j : Nat) (z : Str), vs = [.ref p, .int (2 + (j : Int)), .str z] ∧ CkAt C H p b t r kvs ∧ PsOk ps ∧ j < ps.length ∧ Held ps kvs none ∧ (∀ c ∈ z.cps.toList, c = 126 ∨ c = 94) ∧ ∀ v H' r', Dp K H' v (toldD ps j z.cps.toList) → CkAt C H' p b t r' kvs → But [p] H H' → Q v H'
theorem ok_law_told (T : Txt K mg base P) : FnOk P w K mg base CX0 33 T.f_law_told T.d_law_told ["chunks", "tip", "steps"] (spTold K T.C_Chunks) := by
  refine T.F_law_told.ok sc_law_told (fun vs H Q E h => ?_) (fun cdv A outer s H vs Q E hr h => ?_)
  · obtain ⟨p, b, t, r, kvs, ps, j, z, rfl, _⟩ := h
    rfl
  · obtain ⟨p, b, t, r, kvs, ps, j, z, rfl, hc, hok, hj, hh, hz, q⟩ := h
    unfold toldD at q
    cases hw : wlk ps j z.cps.toList with
    | some i =>
      rw [hw] at q
      refine ⟨_, pss_one (ps_try_thru0 (pss_one (ps_ret (pe_tup (pa_cons (pe_str) (pa_cons (pe_call (ok_follow T) (hr.mono (by first | decide | omega)) (by rfl) T.g_follow T.F_follow.kp T.b_follow .nil pass0 (pa_cons (pv 0) (pa_cons (pv 1) (pa_cons (pv 2) (pa_nil))))) (pa_nil))))))), ?_⟩
      refine ret_run (tup_run (cons_run (c_run (cons_run (call_run (cons_run (var_run rfl (cons_run (var_run rfl (cons_run (var_run rfl ?_)))))))))))
      refine ⟨p, b, t, r, kvs, ps, j, i, z, rfl, hc, hok, hj, hh, hz, hw, fun H1 r1 hc1 f1 => ⟨by show 2 ≤ sizeLine; decide, fun x hx => ?_⟩⟩
      have e2 := Ex.new (o := .tup [.str (Str.ofString "at"), .int (2 + (i : Int))]) hx
      exact q _ _ r1 (.tup (st_of upd_same) (.cons (.str _) (.cons (.int _) .nil))) (hc1.mono e2) (f1.trans (But.of e2))
    | none =>
      rw [hw] at q
      refine ⟨_, pss_one (L2N.ps_try_as (i := 3) (c := .ref T.C_UnknownVersion) (Wout := fun _ _ _ _ => False) rfl rfl sc_law_told.nd rfl rfl ⟨rfl, by decide, .inl T.e_UnknownVersion.g⟩ takes0N
        (fun W pn xe tk _ => pss_one (ps_ret (pe_tup (pa_cons (pe_str) (pa_cons (pe_callS (ok_follow_any T) (hr.mono (by first | decide | omega)) (by rfl) T.g_follow T.F_follow.kp T.b_follow (fun σ => L2N.passAt tk σ) (pa_cons (pv 0) (pa_cons (pv 1) (pa_cons (pv 2) (pa_nil))))) (pa_nil))))))
        (fun a oe cls d pn hz0 hf => pss_given (P := cls = .ref T.C_UnknownVersion) fun pc => have hz := zc1 pc hz0; pss_one (ps_ret (pe_ix (r := rIxL K) ix_list (pe_lst (pa_cons (pe_str) (pa_cons (pe_str) (pa_nil)))) (pe_callTy call_int1 (by rfl) T.m_int (by decide +kernel) (pa_cons (pe_and (pe_callB (call_isEi T.e_UnknownVersion.is hz hf) (by rfl) T.m_isinstance (by decide +kernel) (pa_cons (pv 3) (pa_cons (pe_glob (v := .ref T.C_VersionError) rfl T.g_VersionError rfl) (pa_nil)))) (pe_one (pe_not (pe_callB (call_isEi T.e_UnknownVersion.is hz hf) (by rfl) T.m_isinstance (by decide +kernel) (pa_cons (pv 3) (pa_cons (pe_glob (v := .ref T.C_InvalidVersion) rfl T.e_InvalidVersion.g rfl) (pa_nil))))))) (pa_nil))) (fun _ _ => rfl))))), ?_⟩
      refine ret_run (tup_run (cons_run (c_run (cons_run ?_))))
      refine ⟨_, rfl, _, rfl, _, rfl, p, b, t, r, kvs, ps, j, z, rfl, hc, .inl ⟨hok, hj, hh, hz, (fun i H' r' h1 => by rw [hw] at h1; cases h1), fun H1 r1 _ hc1 f1 => ?_⟩⟩
      refine ⟨true, T.e_UnknownVersion.self, fun _ a ha => ⟨rfl, ?_⟩, fun z => nomatch z⟩
      have is : ∀ {σ : L2.St} {H' : Hp} {te : TE} {c : V} {cv : Value} {o : Bool}, Ev te σ H' (.ref a) → (∀ u, RelV c u → u = cv) → PySem.W.kitOne K (.ref T.C_UnknownVersion) cv = some o → Ev (tCB (fun xs H Q => (∀ d, (none : Option Addr) = some d → ∃ fs, H d = some (.xd fs)) ∧ rIsE K T.C_UnknownVersion a xs H Q) (tCons te (tCons (tC c) tNil))) σ H' (.bl o) :=
        fun h hc hk => ev_isEi h (fun d z => nomatch z) hc hk
      refine s_ret (ev_ixN (K := K) (xs := [.str (Str.ofString "?"), .str (Str.ofString "none")]) (i := 1) (el_lst (ea_cons ev_c (ea_cons ev_c ea_nil)) (by decide)) (fun H2 e2 => ev_int1B (ev_is (ev_andV (a := true) (is (c := .ref T.C_VersionError) (cv := .ref T.C_VersionError) (ev_var rfl) (fun u h => h) T.ku_UnknownVersion_VersionError) fun _ => ev_is (ev_notV (is (c := .ref T.C_InvalidVersion) (cv := .ref T.C_InvalidVersion) (ev_var rfl) (fun u h => h) T.kt_UnknownVersion_InvalidVersion)) (by rfl)) rfl)) rfl) fun H2 e2 => ?_
      exact q _ H2 r1 (.str _) (hc1.mono e2) (f1.trans (But.of e2))


/-! ### law -/
/-! ### the laws of the graph: shared steps -/
theorem q_ifNotB {te : TE} {tu tz : TS} {σ : L2.St} {H : Hp} {D : Ends} (h : te σ H fun v H1 => ∃ k : Bool, v = .bl k ∧ if (!k) = true then tu { D with nx := tz D } σ H1 else tz D σ H1) : tSeq (tIfS (tNot (tB te)) tu tNext) tz D σ H := h
theorem mk_store {CC CB : Addr} {E E' : XK} {σ : L2.St} {H : Hp} {Q : VK} (k : ∀ p t b d H', Ex H H' → StH CC CB H' p b t d 0 [] [] 0 → Q (.ref p) H') : tMake CC (spCkI CC) [] E (tCons (tMake CB (spBkI CB) [] E' tNil) tNil) σ H Q := by
  intro b dx0 x1 x2 x3
  refine ⟨b, dx0, rfl, upd_same, fun d H2 x4 x5 hb hd kb => ⟨rfl, fun p dx y1 y2 y3 => ⟨p, dx, b, rfl, upd_same, fun t H3 y4 y5 hc kp => ⟨rfl, ?_⟩⟩⟩⟩
  have e2 : Ex H H2 := fun c o e => kb c o (by rw [upd_ne (ne_of_none e x1), upd_ne (ne_of_none e x2)]; exact e) (ne_of_none e x1)
  have e3 : Ex H2 H3 := fun c o e => kp c o (by rw [upd_ne (ne_of_none e y1), upd_ne (ne_of_none e y2)]; exact e) fun z => ne_of_none e y1 (List.mem_singleton.mp z)
  refine k p t b d H3 (e2.trans e3) ⟨hc, BkAt.mono ⟨⟨dx0, hb⟩, hd⟩ e3, fun z => ?_, ne_of_none hb y1, List.nodup_nil, by decide, by decide⟩
  rw [← z] at y4
  have := ne_of_none hd y1
  have h2 := ne_of_none hd y2
  rw [upd_ne this, upd_ne h2, hd] at y4
  cases y4
/-- a loop over the numbers -/
theorem q_forNums {K : PySem.W.Frag} {tl : TE} {tu tz : TS} {σ : L2.St} {H : Hp} {D : Ends} {j c : Nat} (h : ∀ J : VK, (∀ p (ns : List Int) H1, H p = none → Ex H H1 → H1 p = some (.lst (ns.map V.int)) → ns.length = c → (∀ n ∈ ns, 0 ≤ n ∧ n < 1000) → J (.ref p) H1) → tl σ H J)
    (k : ∀ p (ns : List Int) H1, H p = none → Ex H H1 → H1 p = some (.lst (ns.map V.int)) → ns.length = c → (∀ n ∈ ns, 0 ≤ n ∧ n < 1000) → ∃ Pv : Nat → L2.St → Hp → Prop, Pv 0 σ H1 ∧ (∀ i σ' H', Pv i σ' H' → SqL K H' p (ns.map V.int)) ∧
      (∀ i n σ' H', ns[i]? = some n → Pv i σ' H' → tu { D with nx := Pv (i + 1), ct := Pv (i + 1), bk := tz D } (σ'.set j (some (.int n))) H') ∧ (∀ σ' H', Pv c σ' H' → tz D σ' H')) : tSeq (tFor (iList K tl) (gName j) tu) tz D σ H :=
  h _ fun p ns H1 hp e1 h1 hc hn => ⟨p, rfl, ⟨_, sq_of h1⟩, by
    obtain ⟨Pv, a, b, c', d⟩ := k p ns H1 hp e1 h1 hc hn
    refine for_list (D := { D with nx := tz D }) Pv a (fun i σ' H' _ z => b i σ' H' z) (fun i x σ' H' hx z => ?_) (fun σ' H' z => ?_)
    · rw [List.getElem?_map] at hx
      cases e : ns[i]? with
      | none => rw [e] at hx; cases hx
      | some n =>
        rw [e] at hx
        obtain rfl : V.int n = x := Option.some.inj hx
        exact c' i n σ' H' e z
    · rw [List.length_map, hc] at z
      exact d σ' H' z⟩
theorem valV_dropNe {kvs : List (Key × V)} {k j : Key} (h : j ≠ k) : valV (dropK kvs k) j = valV kvs j := by
  induction kvs with
  | nil => rfl
  | cons a r ih =>
    by_cases e : a.1 = k
    · have ed : dropK (a :: r) k = dropK r k := by simp [dropK, e]
      rw [ed, ih, valV_neg (fun z => h (z.symm.trans e))]
    · have ed : dropK (a :: r) k = a :: dropK r k := by simp [dropK, e]
      rw [ed]
      by_cases ej : a.1 = j
      · rw [valV_pos ej, valV_pos ej]
      · rw [valV_neg ej, valV_neg ej, ih]
theorem valV_dropSelf {kvs : List (Key × V)} {k : Key} : valV (dropK kvs k) k = none := by
  induction kvs with
  | nil => rfl
  | cons a r ih =>
    by_cases e : a.1 = k
    · have ed : dropK (a :: r) k = dropK r k := by simp [dropK, e]
      rw [ed, ih]
    · have ed : dropK (a :: r) k = a :: dropK r k := by simp [dropK, e]
      rw [ed, valV_neg e, ih]
theorem Full.lack {ps : List (List Int)} {kvs : List (Key × V)} (h : Full (cmZ ps) kvs) (n : Int) : Lack ps (dropK kvs (Sum.inl n : Key)) n := ⟨valV_dropSelf, fun j q hq hn => by rw [valV_dropNe (fun z => hn (Sum.inl.inj z))]; exact h.at hq⟩
/-- dropped and put again -/
theorem Full.back {zs : List Str} {kvs : List (Key × V)} (h : Full zs kvs) (nd : zs.Nodup) {j : Nat} {z : Str} (hz : zs[j]? = some z) {n : Int} (hn : n = 1 + (j : Int)) : Full zs (putK (dropK kvs (Sum.inl n : Key)) (Sum.inl n : Key) (.str z)) := fun i y hy => by
  subst hn
  rw [valV_put]
  by_cases e : i = j
  · subst e
    rw [hz] at hy
    rw [if_pos rfl, Option.some.inj hy]
  · have ne : (Sum.inl (1 + (i : Int)) : Key) ≠ Sum.inl (1 + (j : Int)) := fun q => e (by have := Sum.inl.inj q; omega)
    rw [if_neg ne, valV_dropNe ne]
    exact h i y hy
theorem q_dropK {te : TE} {tz : TS} {σ : L2.St} {H : Hp} {D : Ends} (h : te σ H fun _ H1 => tz D σ H1) : tSeq (tDrop te) tz D σ H := h
theorem s_ifOrNB {te : TE} {t2 : TT} {tu : TS} {σ : L2.St} {H : Hp} {D : Ends} (h : te σ H fun v H1 => ∃ k : Bool, v = .bl k ∧ if (!k) = true then (if true = true then tu D σ H1 else D.nx σ H1) else t2 σ H1 fun b H2 => if b = true then tu D σ H2 else D.nx σ H2) : tIfS (tOr (tNot (tB te)) t2) tu tNext D σ H := h
theorem GS.side {CC CB : Addr} {H H' H2 : Hp} {p b t d cl ad x : Addr} {r r' : Int} {ps : List (List Int)} {kvs : List (Key × V)} {m : Nat} {o : HO} {ys : List V} (g : GS CC CB H p b t d cl ad r ps kvs m) (hx : H x = none) (f : But [p] H H') (c : CkAt CC H' p b t r' kvs) (h : H' x = some (.lst ys)) (e : Ex H' H2) : GS CC CB (upd H2 x o) p b t d cl ad r' ps kvs m := by
  have st := (g.st.read c f).mono e
  have hx2 := e _ _ h
  obtain ⟨⟨px, c1⟩, c2⟩ := id st.ck
  obtain ⟨⟨bx, c3⟩, c4⟩ := id st.bk
  refine g.step (fun c' u hu hn => ?_) (st.but (But.put (List.mem_singleton.mpr rfl)) (fun z => ?_) (fun z => ?_) (fun z => ?_) (fun z => ?_)) g.fl
  · rw [upd_ne (ne_of_none hu hx)]
    exact e _ _ (f _ _ hu fun z => hn (by rw [List.mem_singleton.mp z]; simp))
  · exact ne_of c1 hx2 (by intro z; cases z) (List.mem_singleton.mp z)
  · exact ne_of c3 hx2 (by intro z; cases z) (List.mem_singleton.mp z)
  · exact ne_of c2 hx2 (by intro z; cases z) (List.mem_singleton.mp z)
  · exact ne_of c4 hx2 (by intro z; cases z) (List.mem_singleton.mp z)
theorem GS.up {CC CB : Addr} {H : Hp} {p b t d cl ad : Addr} {r : Int} {ps : List (List Int)} {kvs : List (Key × V)} {m m' : Nat} (g : GS CC CB H p b t d cl ad r ps kvs m) (h : m ≤ m') : GS CC CB H p b t d cl ad r ps kvs m' := { g with st := g.st.up h }

theorem gd_ints {n : Nat} {zs : List Int} (h : zs.length ≤ 1000) : Gd (n + 1) (.list (zs.map PyData.int)) := .lst (fun d hd => by
  obtain ⟨z, _, rfl⟩ := List.mem_map.mp hd
  exact .int n z) (by rw [List.length_map]; omega)
/-- _law_same of two lists of the same ints -/
theorem cv_sameI {K : PySem.W.Frag} {n : Nat} {H : Hp} {x y : Addr} {l : List Int} (h : H x = some (.lst (l.map V.int))) (h2 : H y = some (.lst (l.map V.int))) (hz : l.length ≤ 1000) : SpV (spSameG K (n + 1)) [.ref x, .ref y] H (.bl true) := cv_sameG (.lst (sq_of h) (dpa_ints l)) (.lst (sq_of h2) (dpa_ints l)) (gd_ints hz)

/-- the start of the graph's laws: chunks, state, commits and above -/
theorem start_hist {K : PySem.W.Frag} {CC CB P a : Addr} {pos : Pos} {E1 E2 E3 E4 E5 : XK} {H : Hp} {D : Ends} {ns : List Int} {mod first n : Nat} {tz : TS} (hlen : 0 < mod ∧ mod ≤ 61) (hf : first ≤ 1000)
    (hs : SqL K H a (ns.map V.int)) (hW : ∀ z ∈ ns, Wd z) (hP : H P = some (.tbl #[]))
    (k : ∀ (p t b d cl ad : Addr) (ps : List (List Int)) (kvs : List (Key × V)) (m : Nat) H', GS CC CB H' p b t d cl ad 0 ps kvs m → m ≤ 70 → ps.length ≤ 61 → SqL K H' a (ns.map V.int) → tz D (some (.ref a) :: some (.ref p) :: some (.int 1) :: some (.ref cl) :: some (.ref ad) :: List.replicate n none) H') :
    tSeq (tAsg (tMake CC (spCkI CC) [] E1 (tCons (tMake CB (spBkI CB) [] E2 tNil) tNil)) (gName 1))
      (tSeq (tAsg (tCall (spWS K CC CB P pos) [] E3 (tCons (tVar 1) (tCons (tLst tNil) tNil))) (gName 2))
        (tSeq (tAsg (tCall (spHist K CC CB P pos) [] E4 (tCons (tVar 1) (tCons (tVar 0) (tCons (tC (.int (first : Int))) (tCons (tOp (rI (fun _ j => 0 < j) fun i j => .int (i % j)) (tCB (fun xs H Q => (∃ i, xs = [V.int i] ∧ Q (.int i) H) ∨ ∃ k, xs = [V.bl k] ∧ Q (.int (if k = true then 1 else 0)) H) (tCons (tCall (sp_cell K) [] E5 (tCons (tVar 0) (tCons (tC (.int 0)) tNil))) tNil)) (tC (.int (mod : Int)))) (tCons (tVar 2) tNil)))))) (gTup K 2 (gCons (gName 3) (gCons (gName 4) gNil)))) tz)) D
      (some (.ref a) :: List.replicate (n + 4) none) H := by
  refine q_asgK (mk_store fun p t b d H1 e1 h1 => ?_)
  refine q_asgK (call_run (cons_run (var_run rfl (cons_run (lst_run ⟨by show 0 ≤ sizeLine; decide, fun l hl => ?_⟩)))))
  have el := Ex.new (o := .lst []) hl
  have hP1 := el _ _ (e1 _ _ hP)
  refine ⟨p, b, t, d, l, 0, [], [], 0, rfl, sq_of upd_same, h1.mono el, by decide, by decide, .inr hP1, fun n1 H2 hn h2 f2 lt2 => ?_⟩
  have ez : addZ [] (txt stI) = [txt stI] := by simp [addZ]
  have pz : posZ (txt stI) [txt stI] = 0 := by simp [posZ]
  have hfl := (full_nil (kvs := [])).put List.nodup_nil (txt stI)
  rw [ez] at hn h2 hfl
  rw [← hn] at hfl
  rw [pz] at hn
  obtain rfl : n1 = 1 := hn
  obtain ⟨c, hc, hc61⟩ : ∃ c : Nat, cellZ ns 0 % (mod : Int) = (c : Int) ∧ c < mod := by
    have h0 := Int.emod_nonneg (cellZ ns 0) (by omega : (mod : Int) ≠ 0)
    have h1 := Int.emod_lt_of_pos (cellZ ns 0) (by omega : 0 < (mod : Int))
    exact ⟨(cellZ ns 0 % (mod : Int)).toNat, by omega, by omega⟩
  have s2 : SqL K H2 a (ns.map V.int) := but_l f2 (fun x hx o ho => by
    have h1 := h1.mono el
    simp only [List.mem_cons, List.not_mem_nil, or_false] at hx
    rcases hx with rfl | rfl | rfl
    · exact .inl ⟨_, Option.some.inj (ho.symm.trans hP1)⟩
    · exact .inr (.inl ⟨_, Option.some.inj (ho.symm.trans h1.bk.2)⟩)
    · exact .inr (.inl ⟨_, Option.some.inj (ho.symm.trans h1.ck.2)⟩)) (ex_l (e1.trans el) hs)
  show (tCall (spHist K CC CB P pos) [] E4 _) _ H2 _
  refine call_run (cons_run (var_run rfl (cons_run (var_run rfl (cons_run (c_run (cons_run (ev_run (ev_is (ev_bin (ev_intI (ev_call (ea_cons (ev_var rfl) (ea_cons ev_c ea_nil)) (cv_cell (k := 0) s2))) ev_c (by omega)) (congrArg V.int hc)) fun H3 e3 => cons_run (var_run rfl ?_)))))))))
  refine ⟨p, b, t, d, a, 0, _, 1, ns, first, c, rfl, h2.mono e3, hfl, by decide, .inl (lt2.mono e3), ex_l e3 s2, hW, hf, by omega, fun ps kvs' x cl ad H4 g hpl f4 hx => ?_⟩
  refine ⟨x, _, rfl, hx, rfl, _, _, rfl, _, _, rfl, rfl, k p t b d cl ad ps kvs' _ H4 g (by omega) (by omega) (but_l f4 (fun x hx o ho => ?_) (ex_l e3 s2))⟩
  have h2 := h2.mono e3
  obtain ⟨c', hl1, _⟩ := lt2.mono e3
  simp only [List.mem_cons, List.not_mem_nil, or_false] at hx
  rcases hx with rfl | rfl | rfl
  · exact .inl ⟨_, Option.some.inj (ho.symm.trans hl1)⟩
  · exact .inr (.inl ⟨_, Option.some.inj (ho.symm.trans h2.bk.2)⟩)
  · exact .inr (.inl ⟨_, Option.some.inj (ho.symm.trans h2.ck.2)⟩)

def spLaw (K : PySem.W.Frag) (P : Addr) : Sp := fun vs H Q _ => ∃ (a : Addr) (ns : List Int), vs = [.ref a] ∧ SqL K H a (ns.map V.int) ∧ ns.length ≤ 63 ∧ (∀ z ∈ ns, Builtin.Int.intBits z ≤ 1048576) ∧ H P = some (.tbl #[]) ∧ ∀ H', Q (.bl true) H'
theorem small_log' {n : Int} (h0 : 0 ≤ n) (h : n ≤ 100000) : n.natAbs.log2 < 1920 := Nat.lt_trans (PySem.Flt.log2_lt_of (k := 64) (by decide) (by omega)) (by decide)
abbrev lS (a p cl ad : Addr) (x5 x6 x7 x8 x9 x10 : Option V) : L2.St := [some (.ref a), some (.ref p), some (.int 1), some (.ref cl), some (.ref ad), x5, x6, x7, x8, x9, x10, none]
def cdOf (n : Int) : Nat := if n % 4 = 3 then 94 else 126
theorem gd_told {ps : List (List Int)} {j : Nat} {cs : List Nat} : Gd 2 (toldD ps j cs) := by
  unfold toldD
  split
  · exact .tup (fun d hd => by
      simp only [List.mem_cons, List.not_mem_nil, or_false] at hd
      rcases hd with rfl | rfl
      · exact .str _ _
      · exact .int _ _) (by show 2 ≤ 40000; decide)
  · exact .str _ _
def DueAt (H : Hp) (ps : List (List Int)) (j : Nat) (cs : List Nat) (v : V) : Prop := (wlk ps j cs = none ∧ v = .str (Str.ofString "none")) ∨ ∃ (i : Nat) (du : Addr), wlk ps j cs = some i ∧ v = .ref du ∧ H du = some (.tup [.str (Str.ofString "at"), .int (2 + (i : Int))])
theorem DueAt.dp {K : PySem.W.Frag} {H : Hp} {ps : List (List Int)} {j : Nat} {cs : List Nat} {v : V} (h : DueAt H ps j cs v) : Dp K H v (toldD ps j cs) := by
  unfold toldD
  rcases h with ⟨h, rfl⟩ | ⟨i, du, h, rfl, h2⟩
  · rw [h]; exact .str _
  · rw [h]; exact .tup (st_of h2) (.cons (.str _) (.cons (.int _) .nil))
theorem DueAt.but {S : List Addr} {H H' : Hp} {ps : List (List Int)} {j : Nat} {cs : List Nat} {v : V} (h : DueAt H ps j cs v) (f : But S H H') (n : ∀ c ∈ S, ∀ o, H c = some o → ∃ C dx fs, o = .ins C dx fs) : DueAt H' ps j cs v := by
  rcases h with h | ⟨i, du, h, h1, h2⟩
  · exact .inl h
  · refine .inr ⟨i, du, h, h1, f _ _ h2 fun z => ?_⟩
    obtain ⟨_, _, _, e⟩ := n du z _ h2
    cases e
theorem cv_walk {H : Hp} {ad cl : Addr} {ps : List (List Int)} {j : Nat} {z : Str} (h : AbAt H ad cl ps) (hok : PsOk ps) (hj : j < ps.length) (hz : ∀ c ∈ z.cps.toList, c = 126 ∨ c = 94) : SpV spWalk [.ref ad, .int (2 + (j : Int)), .str z] H (.int (wlkV ps j z.cps.toList)) := fun H1 e Q q E => ⟨ad, cl, ps, j, z, rfl, h.but (S := []) (But.of e) (by simp) (by simp), hok, hj, hz, fun H2 e2 => q H2 e2⟩
set_option maxHeartbeats 4000000 in
theorem ok_law (T : Txt K mg base P) : FnOk P w K mg base CX0 34 T.f_law T.d_law ["script"] (spLaw K T.P_write_state) := by
  refine T.F_law.ok sc_law (fun vs H Q E h => ?_) (fun cdv A outer s H vs Q E hr h => ?_)
  · obtain ⟨a, ns, rfl, _⟩ := h
    rfl
  · obtain ⟨a, ns, rfl, hS, hns, hb, hP, q⟩ := h
    have hW : ∀ z ∈ ns, Wd z := fun z hz => Wd.bits (hb z hz)
    refine ⟨_, pss_cons (ps_set (i := 1) sc_law.nd rfl (by first | exact Or.inl rfl | exact Or.inr rfl) (pe_make T.mk_Chunks (ok_Chunks___init T) (hr.mono (by first | decide | omega)) (by rfl) T.g_Chunks T.b_Chunks___init .nil pass0 (pa_cons (pe_make0 T.mk_Book (ok_Book___init T) (hr.mono (by first | decide | omega)) (by rfl) T.g_Book T.b_Book___init .nil pass0) (pa_nil))))
      (pss_cons (ps_set (i := 2) sc_law.nd rfl (by first | exact Or.inl rfl | exact Or.inr rfl) (pe_call (ok_write_state T) (hr.mono (by first | decide | omega)) (by rfl) T.g_write_state T.F_write_state.kp T.b_write_state .nil pass0 (pa_cons (pv 1) (pa_cons (pe_lst (pa_nil)) (pa_nil)))))
      (pss_cons (ps_asg (pe_call (ok_law_history T) (hr.mono (by first | decide | omega)) (by rfl) T.g_law_history T.F_law_history.kp T.b_law_history .nil pass0 (pa_cons (pv 1) (pa_cons (pv 0) (pa_cons (pe_int) (pa_cons (pe_op op_mod (pe_callTy call_int1 (by rfl) T.m_int (by decide +kernel) (pa_cons (pe_call (ok_law_cell T) (hr.mono (by first | decide | omega)) (by rfl) T.g_law_cell T.F_law_cell.kp T.b_law_cell .nil pass0 (pa_cons (pv 0) (pa_cons (pe_int) (pa_nil)))) (pa_nil))) (pe_int)) (pa_cons (pv 2) (pa_nil))))))) (pg_tup rfl (pgs_cons (pg_name (i := 3) sc_law.nd rfl (by first | exact Or.inl rfl | exact Or.inr rfl)) (pgs_cons (pg_name (i := 4) sc_law.nd rfl (by first | exact Or.inl rfl | exact Or.inr rfl)) (pgs_nil)))))
      (pss_cons (ps_for PassesOwn.never rfl (pi_range1 (by rfl) T.m_range (pa_cons (pe_int) (pa_nil))) (pg_name (i := 5) sc_law.nd rfl (by first | exact Or.inl rfl | exact Or.inr rfl))
      (pss_cons (ps_set (i := 6) sc_law.nd rfl (by first | exact Or.inl rfl | exact Or.inr rfl) (pe_call (ok_law_numbers T) (hr.mono (by first | decide | omega)) (by rfl) T.g_law_numbers T.F_law_numbers.kp T.b_law_numbers .nil pass0 (pa_cons (pe_op op_add (pe_call (ok_law_cell T) (hr.mono (by first | decide | omega)) (by rfl) T.g_law_cell T.F_law_cell.kp T.b_law_cell .nil pass0 (pa_cons (pv 0) (pa_cons (pe_int) (pa_nil)))) (pv 5)) (pa_cons (pe_int) (pa_nil)))))
      (pss_cons (ps_set (i := 7) sc_law.nd rfl (by first | exact Or.inl rfl | exact Or.inr rfl) (pe_ix (r := rIxL K) ix_list (pv 3) (pe_op op_sub (pe_un un_neg (pe_int)) (pe_op op_mod (pe_ix (r := rIxL K) ix_list (pv 6) (pe_int) (fun _ _ => rfl)) (pe_callB (r := rLenQ K) call_len_seq (by rfl) T.m_len (by decide +kernel) (pa_cons (pv 3) (pa_nil))))) (fun _ _ => rfl)))
      (pss_cons (ps_set (i := 8) sc_law.nd rfl (by first | exact Or.inl rfl | exact Or.inr rfl) (pe_join (pe_str) (pe_lc (own := [("number", 9)]) (g := gName 9) (tt := tYes) rfl sc_law.nd (pi_list (pe_slice (r := rSlL K) sl_list (pv 6) (po_some (pe_int)) (po_some (pe_op op_add (pe_int) (pe_op op_mod (pe_ix (r := rIxL K) ix_list (pv 6) (pe_int) (fun _ _ => rfl)) (pe_int)))))) (blkOk_by (N := ["script", "chunks", "state", "commits", "above", "k", "numbers", "tip", "steps", "number", "due", "e"]) (sc := defScope s_law) (by decide +kernel)) (fun _ _ _ _ _ => pg_name (i := 9) sc_law.nd rfl (Or.inl rfl)) (fun _ _ _ _ _ => pts_nil) (fun _ _ _ _ _ => pe_ix ix_str (pe_str) (pe_op op_mod (pv 9) (pe_int)) (fun _ _ => rfl)))))
      (pss_cons (ps_set (i := 10) sc_law.nd rfl (by first | exact Or.inl rfl | exact Or.inr rfl) (pe_tup (pa_cons (pe_str) (pa_cons (pe_call (ok_law_walk T) (hr.mono (by first | decide | omega)) (by rfl) T.g_law_walk T.F_law_walk.kp T.b_law_walk .nil pass0 (pa_cons (pv 4) (pa_cons (pv 7) (pa_cons (pv 8) (pa_nil))))) (pa_nil)))))
      (pss_cut (ps_if (pt_cmpR op_eq (pe_ix (r := rIxT K) ix_tup (pv 10) (pe_int) (fun _ _ => rfl)) (pe_int) (nomark _))
      (pss_one (ps_set (i := 10) sc_law.nd rfl (by first | exact Or.inl rfl | exact Or.inr rfl) (pe_str)))
      (pss_nil))
      (pss_one (ps_if (pt_not (pt_val (pe_call (ok_law_same T) (hr.mono (by first | decide | omega)) (by rfl) T.g_law_same T.F_law_same.kp T.b_law_same .nil pass0 (pa_cons (pe_call (ok_law_told T) (hr.mono (by first | decide | omega)) (by rfl) T.g_law_told T.F_law_told.kp T.b_law_told .nil pass0 (pa_cons (pv 1) (pa_cons (pv 7) (pa_cons (pv 8) (pa_nil))))) (pa_cons (pv 10) (pa_nil))))))
      (pss_one (ps_ret (pe_bl)))
      (pss_nil)))))))))
      (pss_cons (ps_if (pt_not (pt_val (pe_call (ok_law_same T) (hr.mono (by first | decide | omega)) (by rfl) T.g_law_same T.F_law_same.kp T.b_law_same .nil pass0 (pa_cons (pe_call (ok_follow T) (hr.mono (by first | decide | omega)) (by rfl) T.g_follow T.F_follow.kp T.b_follow .nil pass0 (pa_cons (pv 1) (pa_cons (pe_ix (r := rIxL K) ix_list (pv 3) (pe_un un_neg (pe_int)) (fun _ _ => rfl)) (pa_cons (pe_str) (pa_nil))))) (pa_cons (pe_ix (r := rIxL K) ix_list (pv 3) (pe_un un_neg (pe_int)) (fun _ _ => rfl)) (pa_nil))))))
      (pss_one (ps_ret (pe_bl)))
      (pss_nil))
      (pss_cons (ps_if (pt_cmpR op_eq (pe_callB (r := rLenQ K) call_len_seq (by rfl) T.m_len (by decide +kernel) (pa_cons (pv 3) (pa_nil))) (pe_int) (nomark _))
      (pss_one (ps_ret (pe_bl)))
      (pss_nil))
      (pss_cons (ps_expr (pe_meth (pv 1) T.cl_Chunks T.me_Chunks_drop (ok_Chunks_drop T) (hr.mono (by first | decide | omega)) T.b_Chunks_drop .nil pass0 (pa_cons (pe_ix (r := rIxL K) ix_list (pv 3) (pe_un un_neg (pe_int)) (fun _ _ => rfl)) (pa_nil))))
      (pss_cons (L2N.ps_try_as (i := 11) (c := .ref T.C_MissingChunk) (Wout := fun _ _ _ _ => False) rfl rfl sc_law.nd rfl rfl ⟨rfl, by decide, .inl T.e_MissingChunk.g⟩ takes0N
        (fun W pn xe tk _ => pss_one (ps_expr (pe_callS (ok_follow_any T) (hr.mono (by first | decide | omega)) (by rfl) T.g_follow T.F_follow.kp T.b_follow (fun σ => L2N.passAt tk σ) (pa_cons (pv 1) (pa_cons (pe_ix (r := rIxL K) ix_list (pv 3) (pe_un un_neg (pe_int)) (fun _ _ => rfl)) (pa_cons (pe_str) (pa_nil)))))))
        (fun a oe cls d pn hz0 hf => pss_given (P := cls = .ref T.C_MissingChunk) fun pc => have hz := zc1 pc hz0; pss_one (ps_ret (pe_cmpR op_eq (pe_xf T.e_MissingChunk.xf T.na_MissingChunk_address hz hf (pv 11)) (pe_ix (r := rIxL K) ix_list (pv 3) (pe_un un_neg (pe_int)) (fun _ _ => rfl)) (nomark _))))) pss_never))))))), ?_⟩
    refine start_hist (mod := 41) (first := 3) (n := 7) ⟨by decide, by decide⟩ (by decide) hS hW hP fun p t b d cl ad ps kvs m H1 g1 hm hpl s1 => ?_
    have h0 := (List.getElem?_eq_some_iff.mp g1.ok.z).1
    have len : ∀ {H' : Hp} {σ : L2.St}, H' cl = some (.lst (cmL ps.length)) → σ[3]? = some (some (.ref cl)) → Ev (tCB (rLenQ K) (tCons (tVar 3) tNil)) σ H' (.int (ps.length : Int)) := fun h e => ev_is (ev_lenQ (K := K) (ev_var e) (sq_of h)) (by rw [cmL_len])
    refine q_forR1 (n := 10) (ea_cons ev_c ea_nil) (by decide) (fun i σ' H' => ∃ (r : Int) (x5 x6 x7 x8 x9 x10 : Option V), σ' = lS a p cl ad x5 x6 x7 x8 x9 x10 ∧ GS T.C_Chunks T.C_Book H' p b t d cl ad r ps kvs m ∧ SqL K H' a (ns.map V.int))
      (fun H4 e4 => ⟨0, none, none, none, none, none, none, rfl, g1.mono e4, ex_l e4 s1⟩) (fun i σ' H' hi hI => ?_) (fun σ' H' hI => ?_)
    · obtain ⟨r, x5, x6, x7, x8, x9, x10, rfl, g, hs⟩ := hI
      refine q_asgK (call_run (cons_run (ev_run (ev_bin0 (ev_call (ea_cons (ev_var rfl) (ea_cons ev_c ea_nil)) (cv_cell (k := 1) hs)) (ev_var rfl)) fun H2 e2 => ⟨_, 13, rfl, Wd.cellAdd hb 1 (by omega) (by decide) (by decide), by decide, fun np xs H3 hnp e3 hxs hlen hrng => ?_⟩)))
      have num : ∀ k : Nat, k < 13 → ∃ x, xs[k]? = some x ∧ 0 ≤ x := fun k hk => ⟨_, List.getElem?_eq_getElem (by omega), (hrng _ (List.getElem_mem _)).1⟩
      obtain ⟨y0, hy0, hy00⟩ := num 0 (by decide)
      obtain ⟨y1, hy1, hy10⟩ := num 1 (by decide)
      have g3 := g.mono (e2.trans e3)
      obtain ⟨j, hj, hv⟩ := pick (x := y0) (mn := (ps.length : Int)) (n := ps.length) (by omega) (Int.le_refl _)
      refine q_asgV (lS a p cl ad (some (.int i)) (some (.ref np)) (some (.int (2 + (j : Int)))) x8 x9 x10) (ev_pick (K := K) (ev_var rfl) (ev_ixL (K := K) (v := .int y0) (ev_var rfl) ev_c (sq_of hxs) (at_nat (j := 0) (by rw [List.getElem?_map, hy0] <;> rfl))) (len g3.hcl rfl) g3.hcl (by omega) hv) rfl fun H4 e4 => ?_
      obtain ⟨ms, hms, hml, hmm⟩ := cutV_map xs (some 3) (some (3 + y1 % 11))
      have hstr : ∀ n : Int, atI (Str.ofString "~~~^").cps.toList (n % 4) = some (cdOf n) := fun n => by
        have h4 : n % 4 = 0 ∨ n % 4 = 1 ∨ n % 4 = 2 ∨ n % 4 = 3 := by omega
        unfold cdOf
        rcases h4 with h | h | h | h <;> rw [h] <;> decide +kernel
      refine q_asgV (v := .str ⟨(ms.map cdOf).toArray⟩) (lS a p cl ad (some (.int i)) (some (.ref np)) (some (.int (2 + (j : Int)))) (some (.str ⟨(ms.map cdOf).toArray⟩)) x9 x10) (ev_is (ev_joinN (K := K) (ys := (ms.map cdOf).map fun c => (⟨#[c]⟩ : Str)) ev_c ?_ ?_) (by rw [join_signs])) rfl fun H5 e5 => ?_
      · have eL : (((ms.map cdOf).map fun c => (⟨#[c]⟩ : Str)).map V.str) = ms.map (fun n => V.str ⟨#[cdOf n]⟩) := by rw [List.map_map, List.map_map] <;> rfl
        rw [eL]
        refine el_mapN (K := K) (by rw [← hms]; exact el_sl (ev_var rfl) (eo_some ev_c) (eo_some (ev_bin0 ev_c (ev_bin (ev_ixL (K := K) (v := .int y1) (ev_var rfl) ev_c (sq_of (e4 _ _ hxs)) (at_nat (j := 1) (by rw [List.getElem?_map, hy1] <;> rfl))) ev_c (by decide)))) (sq_of (e4 _ _ hxs))) (by omega) (fun x => rfl) fun n hn H6 e6 => ev_ixS ev_c (ev_bin (ev_var rfl) ev_c (by decide)) (by decide +kernel) (hstr n)
      · rw [sum_ones, show (Str.ofString "").length = 0 from by decide +kernel, List.length_map]
        omega
      have g5 := (g3.mono e4).mono e5
      obtain ⟨z, hzd⟩ : ∃ z : Str, z = ⟨(ms.map cdOf).toArray⟩ := ⟨_, rfl⟩
      rw [← hzd]
      have hz : ∀ c ∈ z.cps.toList, c = 126 ∨ c = 94 := fun c hc => by
        rw [hzd] at hc
        have hc : c ∈ ms.map cdOf := by simpa using hc
        obtain ⟨n, _, rfl⟩ := List.mem_map.mp hc
        unfold cdOf
        split
        · exact .inr rfl
        · exact .inl rfl
      refine q_asgK (tup_run (cons_run (c_run (cons_run (ev_run (ev_call (ea_cons (ev_var rfl) (ea_cons (ev_var rfl) (ea_cons (ev_var rfl) ea_nil))) (cv_walk g5.ab g5.ok hj hz)) fun H6 e6 => ⟨by show 2 ≤ sizeLine; decide, fun du hdu => ?_⟩)))))
      have e7 := e6.trans (Ex.new (o := .tup [.str (Str.ofString "at"), .int (wlkV ps j z.cps.toList)]) hdu)
      have hdu7 : (upd H6 du (.tup [.str (Str.ofString "at"), .int (wlkV ps j z.cps.toList)])) du = some (.tup [.str (Str.ofString "at"), .int (wlkV ps j z.cps.toList)]) := upd_same
      show tCut _ _ _ _ (upd H6 du (.tup [.str (Str.ofString "at"), .int (wlkV ps j z.cps.toList)]))
      generalize upd H6 du (.tup [.str (Str.ofString "at"), .int (wlkV ps j z.cps.toList)]) = H7 at e7 hdu7 ⊢
      refine q_cut (M := fun σ2 H8 => ∃ dv, σ2 = lS a p cl ad (some (.int i)) (some (.ref np)) (some (.int (2 + (j : Int)))) (some (.str z)) x9 (some dv) ∧ DueAt H8 ps j z.cps.toList dv ∧ Ex H7 H8) ?_ fun σ2 H8 hM => ?_
      · refine s_if (b := decide (wlkV ps j z.cps.toList = 0)) (et_test (ev_eqI (ev_ixT (K := K) (v := .int (wlkV ps j z.cps.toList)) (ev_var rfl) ev_c (st_of hdu7) (at_nat (j := 1) rfl)) ev_c)) (fun hb2 H8 e8 => ?_) (fun hb2 H8 e8 => ?_)
        · have hw := of_decide_eq_true hb2
          refine s_asg ev_c fun H9 e9 => ⟨_, rfl, .inl ⟨?_, rfl⟩, e8.trans e9⟩
          cases hk : wlk ps j z.cps.toList with
          | none => rfl
          | some i =>
            unfold wlkV at hw
            rw [hk] at hw
            have hw : (2 + (i : Int)) = 0 := hw
            omega
        · have hw := of_decide_eq_false hb2
          refine ⟨_, rfl, ?_, e8⟩
          cases hk : wlk ps j z.cps.toList with
          | none =>
            unfold wlkV at hw
            rw [hk] at hw
            exact absurd rfl hw
          | some i =>
            refine .inr ⟨i, du, hk, rfl, ?_⟩
            have : wlkV ps j z.cps.toList = 2 + (i : Int) := by unfold wlkV; rw [hk]
            rw [this] at hdu7
            exact e8 _ _ hdu7
      obtain ⟨dv, rfl, hda, e78⟩ := hM
      have g8 := (g5.mono e7).mono e78
      have hs8 := ex_l ((((e2.trans e3).trans e4).trans e5).trans (e7.trans e78)) hs
      show tIfS (tNot (tB _)) _ tNext _ _ _
      refine call_run (cons_run (call_run (cons_run (var_run rfl (cons_run (var_run rfl (cons_run (var_run rfl ?_))))))))
      refine ⟨p, b, t, r, kvs, ps, j, z, rfl, g8.st.ck, g8.ok, hj, g8.fl.held, hz, fun v H9 r9 hd9 hc9 f9 => ?_⟩
      have g9 := g8.read hc9 f9
      obtain ⟨px, hpx⟩ := g8.st.ck.1
      have pins : ∀ c ∈ [p], ∀ o, H8 c = some o → ∃ C dx fs, o = .ins C dx fs := fun c hc o ho => by
        obtain rfl := List.mem_singleton.mp hc
        exact ⟨_, _, _, Option.some.inj (ho.symm.trans hpx)⟩
      have hda9 := hda.but f9 pins
      have hs9 : SqL K H9 a (ns.map V.int) := but_l f9 (fun c hc o ho => .inr (.inr (pins c hc o ho))) hs8
      exact cons_run (var_run rfl ⟨_, _, _, rfl, hd9, hda9.dp, gd_told, fun H10 e10 => ⟨true, rfl, iteF ⟨r9, _, _, _, _, _, _, rfl, g9.mono e10, ex_l e10 hs9⟩⟩⟩)
    · obtain ⟨r, x5, x6, x7, x8, x9, x10, rfl, g, hs⟩ := hI
      have lastV : atI (cmL ps.length) (-1) = some (.int (2 + ((ps.length - 1 : Nat) : Int))) := by
        have h := at_back (xs := cmL ps.length) (k := 0) (by decide) (by rw [cmL_len]; omega)
        rw [show (-1 - 0 : Int) = -1 from rfl, cmL_len] at h
        rw [h]
        exact cmL_at (by omega)
      have ez : (Str.ofString "").cps.toList = [] := by decide +kernel
      refine q_ifNotB ?_
      refine call_run (cons_run (call_run (cons_run (var_run rfl (cons_run (ev_run (ev_ixL (K := K) (ev_var rfl) (ev_neg ev_c) (sq_of g.hcl) lastV) fun H2 e2 => cons_run (c_run ?_)))))))
      have g2 := g.mono e2
      refine ⟨p, b, t, r, kvs, ps, ps.length - 1, ps.length - 1, Str.ofString "", rfl, g2.st.ck, g2.ok, by omega, g2.fl.held, (fun c hc => by rw [ez] at hc; cases hc), (by rw [ez] <;> rfl), fun H3 r3 hc3 f3 => ?_⟩
      have g3 := g2.read hc3 f3
      refine cons_run (ev_run (ev_ixL (K := K) (ev_var rfl) (ev_neg ev_c) (sq_of g3.hcl) lastV) fun H4 e4 => ⟨_, _, .int (2 + ((ps.length - 1 : Nat) : Int)), rfl, .int _, .int _, .int _ _, fun H5 e5 => ⟨true, rfl, iteF ?_⟩⟩)
      have g5 := (g3.mono e4).mono e5
      refine q_when (b := decide ((ps.length : Int) = 1)) (et_test (ev_eqI (len g5.hcl rfl) ev_c)) (fun _ H6 e6 => s_ret ev_c fun H7 e7 => q H7) fun hb6 H6 e6 => ?_
      have g6 := g5.mono e6
      obtain ⟨⟨px, hp6⟩, ht6⟩ := id g6.st.ck
      refine q_dropK ⟨_, rfl, p, px, _, rfl, hp6, cF_no b r3 t (by decide +kernel) (by decide +kernel) (by decide +kernel), cons_run (ev_run (ev_ixL (K := K) (ev_var rfl) (ev_neg ev_c) (sq_of g6.hcl) lastV) fun H7 e7 => ?_)⟩
      have g7 := g6.mono e7
      refine ⟨p, b, t, r3, _, kvs, rfl, g7.st.ck, fun H8 ht8 f8 => ?_⟩
      have st8 := g7.st.drop ht8 f8
      have hcl8 : H8 cl = some (.lst (cmL ps.length)) := f8 _ _ g7.hcl fun z => g7.own g7.hcl (by rw [List.mem_singleton.mp z]; simp)
      refine ⟨_, rfl, cons_run (ev_run (ev_ixL (K := K) (ev_var rfl) (ev_neg ev_c) (sq_of hcl8) lastV) fun H9 e9 => cons_run (c_run ?_))⟩
      have st9 := st8.mono e9
      have hcl9 := e9 _ _ hcl8
      refine ⟨p, b, t, r3, _, ps, ps.length - 1, Str.ofString "~", rfl, st9.ck, .inr ⟨by decide +kernel, valV_dropSelf, small_log' (by omega) (by omega), fun dd H10 r10 d0 h2 hc10 f10 => ?_⟩⟩
      refine ⟨true, T.e_MissingChunk.self, fun _ a ha => ⟨rfl, ?_⟩, fun z => nomatch z⟩
      have hcl10 := f10 _ _ hcl9 (fun z => by
        obtain ⟨px9, hp9⟩ := st9.ck.1
        exact ne_of hcl9 hp9 (by intro z; cases z) (List.mem_singleton.mp z))
      exact s_ret (ev_is (ev_eqI (ev_xf (f := Str.ofString "address") (v := .int (2 + ((ps.length - 1 : Nat) : Int))) (ev_var rfl) rfl rfl h2 (by simp [List.lookup])) (ev_ixL (K := K) (ev_var rfl) (ev_neg ev_c) (sq_of hcl10) lastV)) (by simp)) fun H11 e11 => q H11


end

def pOf (o : Obj) : Option Addr := match o.data with
  | .fields vs => (match (vs[11]? : Option Value) with
    | some (.ref P) => some P
    | _ => none)
  | _ => none

theorem all_mk {l : PySem.W.OpenLaw} {w : World} {K : PySem.W.Frag} {h : Heap} {mg : Str → Option Value} {fa C_Book C_Chunks C_InvalidVersion C_UnknownVersion C_MissingChunk C_VersionError f_Book___init f_Chunks___init f_Chunks_drop f_law_cell f_law_numbers f_Book_address f_Chunks_put f_encode f_law_same f_Chunks_get f_sign_at f_end_of_digits f_read_integer f_read_text f_read_tuple f_read_item f_decode_prefix f_decode f_write_state f_write_commit f_root_commit f_read_commit f_follow f_law_history f_law_walk f_law_told f_law : Addr} {f_MissingChunk___init cc_MissingChunk___init ca_MissingChunk___init : Addr} {od_MissingChunk___init an_MissingChunk___init : Option Addr} {sl_MissingChunk___init : Array (Option Value)} {oc_MissingChunk___init kV_MissingChunk___init dc_MissingChunk___init pm_MissingChunk___init ct_MissingChunk___init : Value}
    {od_Book___init an_Book___init : Option Addr} {sl_Book___init : Array (Option Value)} {oc_Book___init kV_Book___init dc_Book___init pm_Book___init cd_Book___init ct_Book___init : Value}
    {od_Chunks___init an_Chunks___init : Option Addr} {sl_Chunks___init : Array (Option Value)} {oc_Chunks___init kV_Chunks___init dc_Chunks___init pm_Chunks___init cd_Chunks___init ct_Chunks___init : Value}
    {od_Chunks_drop an_Chunks_drop : Option Addr} {sl_Chunks_drop : Array (Option Value)} {oc_Chunks_drop kV_Chunks_drop dc_Chunks_drop pm_Chunks_drop cd_Chunks_drop ct_Chunks_drop : Value}
    {od_law_cell an_law_cell : Option Addr} {sl_law_cell : Array (Option Value)} {oc_law_cell kV_law_cell dc_law_cell pm_law_cell cd_law_cell ct_law_cell : Value}
    {od_law_numbers an_law_numbers : Option Addr} {sl_law_numbers : Array (Option Value)} {oc_law_numbers kV_law_numbers dc_law_numbers pm_law_numbers cd_law_numbers ct_law_numbers : Value}
    {od_Book_address an_Book_address : Option Addr} {sl_Book_address : Array (Option Value)} {oc_Book_address kV_Book_address dc_Book_address pm_Book_address cd_Book_address ct_Book_address : Value}
    {od_Chunks_put an_Chunks_put : Option Addr} {sl_Chunks_put : Array (Option Value)} {oc_Chunks_put kV_Chunks_put dc_Chunks_put pm_Chunks_put cd_Chunks_put ct_Chunks_put : Value}
    {od_encode an_encode : Option Addr} {sl_encode : Array (Option Value)} {oc_encode kV_encode dc_encode pm_encode cd_encode ct_encode : Value}
    {od_law_same an_law_same : Option Addr} {sl_law_same : Array (Option Value)} {oc_law_same kV_law_same dc_law_same pm_law_same cd_law_same ct_law_same : Value}
    {od_Chunks_get an_Chunks_get : Option Addr} {sl_Chunks_get : Array (Option Value)} {oc_Chunks_get kV_Chunks_get dc_Chunks_get pm_Chunks_get cd_Chunks_get ct_Chunks_get : Value}
    {od_sign_at an_sign_at : Option Addr} {sl_sign_at : Array (Option Value)} {oc_sign_at kV_sign_at dc_sign_at pm_sign_at cd_sign_at ct_sign_at : Value}
    {od_end_of_digits an_end_of_digits : Option Addr} {sl_end_of_digits : Array (Option Value)} {oc_end_of_digits kV_end_of_digits dc_end_of_digits pm_end_of_digits cd_end_of_digits ct_end_of_digits : Value}
    {od_read_integer an_read_integer : Option Addr} {sl_read_integer : Array (Option Value)} {oc_read_integer kV_read_integer dc_read_integer pm_read_integer cd_read_integer ct_read_integer : Value}
    {od_read_text an_read_text : Option Addr} {sl_read_text : Array (Option Value)} {oc_read_text kV_read_text dc_read_text pm_read_text cd_read_text ct_read_text : Value}
    {od_read_tuple an_read_tuple : Option Addr} {sl_read_tuple : Array (Option Value)} {oc_read_tuple kV_read_tuple dc_read_tuple pm_read_tuple cd_read_tuple ct_read_tuple : Value}
    {od_read_item an_read_item : Option Addr} {sl_read_item : Array (Option Value)} {oc_read_item kV_read_item dc_read_item pm_read_item cd_read_item ct_read_item : Value}
    {od_decode_prefix an_decode_prefix : Option Addr} {sl_decode_prefix : Array (Option Value)} {oc_decode_prefix kV_decode_prefix dc_decode_prefix pm_decode_prefix cd_decode_prefix ct_decode_prefix : Value}
    {od_decode an_decode : Option Addr} {sl_decode : Array (Option Value)} {oc_decode kV_decode dc_decode pm_decode cd_decode ct_decode : Value}
    {od_write_state an_write_state : Option Addr} {sl_write_state : Array (Option Value)} {oc_write_state kV_write_state dc_write_state pm_write_state ct_write_state : Value}
    {od_write_commit an_write_commit : Option Addr} {sl_write_commit : Array (Option Value)} {oc_write_commit kV_write_commit dc_write_commit pm_write_commit cd_write_commit ct_write_commit : Value}
    {od_root_commit an_root_commit : Option Addr} {sl_root_commit : Array (Option Value)} {oc_root_commit kV_root_commit dc_root_commit pm_root_commit cd_root_commit ct_root_commit : Value}
    {od_read_commit an_read_commit : Option Addr} {sl_read_commit : Array (Option Value)} {oc_read_commit kV_read_commit dc_read_commit pm_read_commit cd_read_commit ct_read_commit : Value}
    {od_follow an_follow : Option Addr} {sl_follow : Array (Option Value)} {oc_follow kV_follow dc_follow pm_follow cd_follow ct_follow : Value}
    {od_law_history an_law_history : Option Addr} {sl_law_history : Array (Option Value)} {oc_law_history kV_law_history dc_law_history pm_law_history cd_law_history ct_law_history : Value}
    {od_law_walk an_law_walk : Option Addr} {sl_law_walk : Array (Option Value)} {oc_law_walk kV_law_walk dc_law_walk pm_law_walk cd_law_walk ct_law_walk : Value}
    {od_law_told an_law_told : Option Addr} {sl_law_told : Array (Option Value)} {oc_law_told kV_law_told dc_law_told pm_law_told cd_law_told ct_law_told : Value}
    {od_law an_law : Option Addr} {sl_law : Array (Option Value)} {oc_law kV_law dc_law pm_law cd_law ct_law : Value}
    {t_MOST_LEVELS : Tok}
    {t_MOST_DIGITS : Tok}
    {t_MOST_LENGTH_DIGITS : Tok}
    {t_STEPS : Tok}
    {cc_write_state P_write_state : Addr} {oK_write_state : Obj} (X : K.In h) (G : h.Ns mainGlobals mg) (hfa : mg "law" = some (.ref fa))
    (aC_Book : PySem.W.nsIn K mainGlobals "Book" = some (some (.ref C_Book))) (pg_Book : PySem.W.plainGet K C_Book Str.empty = true) (hd_Book : PySem.W.hasDictIn K C_Book = true) (po_Book : PySem.W.plainOver K C_Book = true) (sa_Book : PySem.W.findIn K (.ref C_Book) "__setattr__" = some (some (.builtin "object.__setattr__"))) (mk_Book : PySem.W.makesIn K C_Book = true) (kc_Book : PySem.W.keepIn K (.ref C_Book) = true)
    (na_Book__addresses : PySem.W.findIn K (.ref C_Book) "_addresses" = some none)
    (aC_Chunks : PySem.W.nsIn K mainGlobals "Chunks" = some (some (.ref C_Chunks))) (pg_Chunks : PySem.W.plainGet K C_Chunks Str.empty = true) (hd_Chunks : PySem.W.hasDictIn K C_Chunks = true) (po_Chunks : PySem.W.plainOver K C_Chunks = true) (sa_Chunks : PySem.W.findIn K (.ref C_Chunks) "__setattr__" = some (some (.builtin "object.__setattr__"))) (mk_Chunks : PySem.W.makesIn K C_Chunks = true) (kc_Chunks : PySem.W.keepIn K (.ref C_Chunks) = true)
    (na_Chunks_book : PySem.W.findIn K (.ref C_Chunks) "book" = some none)
    (na_Chunks_reads : PySem.W.findIn K (.ref C_Chunks) "reads" = some none)
    (na_Chunks__texts : PySem.W.findIn K (.ref C_Chunks) "_texts" = some none)
    (ax_InvalidVersion : PySem.W.nsIn K mainGlobals "InvalidVersion" = some (some (.ref C_InvalidVersion)))
    (xx_InvalidVersion : PySem.W.excIn K C_InvalidVersion [.type "ValueError", .type "Exception", .type "BaseException", .type "object"] "ValueError.__new__" = true)
    (xk_InvalidVersion : PySem.W.keepIn K (.ref C_InvalidVersion) = true)
    (xb_InvalidVersion : PySem.W.subIn K (.ref C_InvalidVersion) (.type "BaseException") = some true)
    (xt_InvalidVersion : PySem.W.typeIn K (.ref C_InvalidVersion) = some (.type "type"))
    (xs_InvalidVersion : PySem.W.subIn K (.ref C_InvalidVersion) (.ref C_InvalidVersion) = some true)
    (xg_InvalidVersion : PySem.W.findIn K (.ref C_InvalidVersion) "__getattribute__" = some (some (.builtin "BaseException.__getattribute__")))
    (xq_InvalidVersion : PySem.W.findIn K (.ref C_InvalidVersion) "__getattr__" = some none)
    (xd_InvalidVersion : PySem.W.hasDictIn K C_InvalidVersion = true)
    (xa_InvalidVersion : PySem.W.findIn K (.ref C_InvalidVersion) "__class__" = some (some (.builtin "object.__class__")))
    (xn_InvalidVersion : PySem.W.specialIn K (.builtin "object.__class__") "__get__" = some (some (.builtin "getset_descriptor.__get__")))
    (xi_InvalidVersion : PySem.W.takesIn K (.builtin "object.__class__") = some true)
    (xm_InvalidVersion : PySem.W.mroIn K C_InvalidVersion (.type "object") = some true)
    (xv_InvalidVersion : PySem.W.kitOne K (.ref C_InvalidVersion) (.type "ValueError") = some true)
    (ax_UnknownVersion : PySem.W.nsIn K mainGlobals "UnknownVersion" = some (some (.ref C_UnknownVersion)))
    (xx_UnknownVersion : PySem.W.excIn K C_UnknownVersion [.type "ValueError", .type "Exception", .type "BaseException", .type "object"] "ValueError.__new__" = true)
    (xk_UnknownVersion : PySem.W.keepIn K (.ref C_UnknownVersion) = true)
    (xb_UnknownVersion : PySem.W.subIn K (.ref C_UnknownVersion) (.type "BaseException") = some true)
    (xt_UnknownVersion : PySem.W.typeIn K (.ref C_UnknownVersion) = some (.type "type"))
    (xs_UnknownVersion : PySem.W.subIn K (.ref C_UnknownVersion) (.ref C_UnknownVersion) = some true)
    (xg_UnknownVersion : PySem.W.findIn K (.ref C_UnknownVersion) "__getattribute__" = some (some (.builtin "BaseException.__getattribute__")))
    (xq_UnknownVersion : PySem.W.findIn K (.ref C_UnknownVersion) "__getattr__" = some none)
    (xd_UnknownVersion : PySem.W.hasDictIn K C_UnknownVersion = true)
    (xa_UnknownVersion : PySem.W.findIn K (.ref C_UnknownVersion) "__class__" = some (some (.builtin "object.__class__")))
    (xn_UnknownVersion : PySem.W.specialIn K (.builtin "object.__class__") "__get__" = some (some (.builtin "getset_descriptor.__get__")))
    (xi_UnknownVersion : PySem.W.takesIn K (.builtin "object.__class__") = some true)
    (xm_UnknownVersion : PySem.W.mroIn K C_UnknownVersion (.type "object") = some true)
    (xv_UnknownVersion : PySem.W.kitOne K (.ref C_UnknownVersion) (.type "ValueError") = some true)
    (ax_MissingChunk : PySem.W.nsIn K mainGlobals "MissingChunk" = some (some (.ref C_MissingChunk)))
    (xo_MissingChunk : oexB K C_MissingChunk = true)
    (xz_MissingChunk : PySem.W.findIn K (.ref C_MissingChunk) "__setattr__" = some (some (.builtin "object.__setattr__")))
    (xk_MissingChunk : PySem.W.keepIn K (.ref C_MissingChunk) = true)
    (xb_MissingChunk : PySem.W.subIn K (.ref C_MissingChunk) (.type "BaseException") = some true)
    (xt_MissingChunk : PySem.W.typeIn K (.ref C_MissingChunk) = some (.type "type"))
    (xs_MissingChunk : PySem.W.subIn K (.ref C_MissingChunk) (.ref C_MissingChunk) = some true)
    (xg_MissingChunk : PySem.W.findIn K (.ref C_MissingChunk) "__getattribute__" = some (some (.builtin "BaseException.__getattribute__")))
    (xq_MissingChunk : PySem.W.findIn K (.ref C_MissingChunk) "__getattr__" = some none)
    (xd_MissingChunk : PySem.W.hasDictIn K C_MissingChunk = true)
    (xa_MissingChunk : PySem.W.findIn K (.ref C_MissingChunk) "__class__" = some (some (.builtin "object.__class__")))
    (xn_MissingChunk : PySem.W.specialIn K (.builtin "object.__class__") "__get__" = some (some (.builtin "getset_descriptor.__get__")))
    (xi_MissingChunk : PySem.W.takesIn K (.builtin "object.__class__") = some true)
    (xm_MissingChunk : PySem.W.mroIn K C_MissingChunk (.type "object") = some true)
    (xv_MissingChunk : PySem.W.kitOne K (.ref C_MissingChunk) (.type "ValueError") = some true)
    (ni_MissingChunk : PySem.W.findIn K (.ref C_MissingChunk) "__init__" = some (some (.ref f_MissingChunk___init)))
    (na_MissingChunk : PySem.W.findIn K (.ref C_MissingChunk) "address" = some none)
    (nl_MissingChunk : K.lookup f_MissingChunk___init = some ⟨oc_MissingChunk___init, od_MissingChunk___init, .func (PySem.W.fnX "__init__" "MissingChunk.__init__" (defArgs s_MissingChunk___init) (defBody s_MissingChunk___init) (defScope s_MissingChunk___init) [(Str.ofString "__class__", cc_MissingChunk___init)] .none kV_MissingChunk___init dc_MissingChunk___init pm_MissingChunk___init an_MissingChunk___init (.ref ca_MissingChunk___init) ct_MissingChunk___init), sl_MissingChunk___init⟩)
    (nc_MissingChunk : PySem.W.codeIn K (.ref ca_MissingChunk___init) "MissingChunk.__init__" = true)
    (nt_MissingChunk : PySem.W.typeIn K (.ref f_MissingChunk___init) = some (.type "function"))
    (nb_MissingChunk : supB K l.prog C_MissingChunk cc_MissingChunk___init ca_MissingChunk___init = true)
    (ns_MissingChunk : PySem.W.ks_superIn K C_MissingChunk C_MissingChunk "__init__" = some (some (.builtin "ValueError.__init__")))
    (np_MissingChunk : PySem.W.nsIn K cStatics "thirdparty.any" = some none)
    (nm_MissingChunk : PySem.W.mroIn K C_MissingChunk (.ref C_MissingChunk) = some true)
    (nv_MissingChunk : PySem.W.subIn K (.ref C_MissingChunk) (.type "ValueError") = some true)
    (ko_InvalidVersion_UnknownVersion : PySem.W.kitOne K (.ref C_InvalidVersion) (.ref C_UnknownVersion) = some false)
    (ko_InvalidVersion_MissingChunk : PySem.W.kitOne K (.ref C_InvalidVersion) (.ref C_MissingChunk) = some false)
    (ko_UnknownVersion_InvalidVersion : PySem.W.kitOne K (.ref C_UnknownVersion) (.ref C_InvalidVersion) = some false)
    (ko_UnknownVersion_MissingChunk : PySem.W.kitOne K (.ref C_UnknownVersion) (.ref C_MissingChunk) = some false)
    (ko_MissingChunk_InvalidVersion : PySem.W.kitOne K (.ref C_MissingChunk) (.ref C_InvalidVersion) = some false)
    (ko_MissingChunk_UnknownVersion : PySem.W.kitOne K (.ref C_MissingChunk) (.ref C_UnknownVersion) = some false)
    (ay_VersionError : PySem.W.nsIn K mainGlobals "VersionError" = some (some (.ref C_VersionError)))
    (kp_InvalidVersion_VersionError : PySem.W.kitOne K (.ref C_InvalidVersion) (.ref C_VersionError) = some true)
    (kp_UnknownVersion_VersionError : PySem.W.kitOne K (.ref C_UnknownVersion) (.ref C_VersionError) = some true)
    (kp_MissingChunk_VersionError : PySem.W.kitOne K (.ref C_MissingChunk) (.ref C_VersionError) = some true)
    (a_Book___init : PySem.W.findIn K (.ref C_Book) "__init__" = some (some (.ref f_Book___init))) (i_Book___init : PySem.W.isFn K (.ref f_Book___init) = true) (l_Book___init : K.lookup f_Book___init = some ⟨oc_Book___init, od_Book___init, .func (PySem.W.fnOf "__init__" "Book.__init__" (defArgs s_Book___init) (defBody s_Book___init) (defScope s_Book___init) .none kV_Book___init dc_Book___init pm_Book___init an_Book___init cd_Book___init ct_Book___init), sl_Book___init⟩) (c_Book___init : PySem.W.codeIn K cd_Book___init "Book.__init__" = true) (k_Book___init : PySem.W.keepIn K (.ref f_Book___init) = true)
    (a_Chunks___init : PySem.W.findIn K (.ref C_Chunks) "__init__" = some (some (.ref f_Chunks___init))) (i_Chunks___init : PySem.W.isFn K (.ref f_Chunks___init) = true) (l_Chunks___init : K.lookup f_Chunks___init = some ⟨oc_Chunks___init, od_Chunks___init, .func (PySem.W.fnOf "__init__" "Chunks.__init__" (defArgs s_Chunks___init) (defBody s_Chunks___init) (defScope s_Chunks___init) .none kV_Chunks___init dc_Chunks___init pm_Chunks___init an_Chunks___init cd_Chunks___init ct_Chunks___init), sl_Chunks___init⟩) (c_Chunks___init : PySem.W.codeIn K cd_Chunks___init "Chunks.__init__" = true) (k_Chunks___init : PySem.W.keepIn K (.ref f_Chunks___init) = true)
    (a_Chunks_drop : PySem.W.findIn K (.ref C_Chunks) "drop" = some (some (.ref f_Chunks_drop))) (i_Chunks_drop : PySem.W.isFn K (.ref f_Chunks_drop) = true) (l_Chunks_drop : K.lookup f_Chunks_drop = some ⟨oc_Chunks_drop, od_Chunks_drop, .func (PySem.W.fnOf "drop" "Chunks.drop" (defArgs s_Chunks_drop) (defBody s_Chunks_drop) (defScope s_Chunks_drop) .none kV_Chunks_drop dc_Chunks_drop pm_Chunks_drop an_Chunks_drop cd_Chunks_drop ct_Chunks_drop), sl_Chunks_drop⟩) (c_Chunks_drop : PySem.W.codeIn K cd_Chunks_drop "Chunks.drop" = true) (k_Chunks_drop : PySem.W.keepIn K (.ref f_Chunks_drop) = true)
    (a_law_cell : PySem.W.nsIn K mainGlobals "_law_cell" = some (some (.ref f_law_cell))) (l_law_cell : K.lookup f_law_cell = some ⟨oc_law_cell, od_law_cell, .func (PySem.W.fnOf "_law_cell" "_law_cell" (defArgs s_law_cell) (defBody s_law_cell) (defScope s_law_cell) .none kV_law_cell dc_law_cell pm_law_cell an_law_cell cd_law_cell ct_law_cell), sl_law_cell⟩) (c_law_cell : PySem.W.codeIn K cd_law_cell "_law_cell" = true) (k_law_cell : PySem.W.keepIn K (.ref f_law_cell) = true)
    (a_law_numbers : PySem.W.nsIn K mainGlobals "_law_numbers" = some (some (.ref f_law_numbers))) (l_law_numbers : K.lookup f_law_numbers = some ⟨oc_law_numbers, od_law_numbers, .func (PySem.W.fnOf "_law_numbers" "_law_numbers" (defArgs s_law_numbers) (defBody s_law_numbers) (defScope s_law_numbers) .none kV_law_numbers dc_law_numbers pm_law_numbers an_law_numbers cd_law_numbers ct_law_numbers), sl_law_numbers⟩) (c_law_numbers : PySem.W.codeIn K cd_law_numbers "_law_numbers" = true) (k_law_numbers : PySem.W.keepIn K (.ref f_law_numbers) = true)
    (a_Book_address : PySem.W.findIn K (.ref C_Book) "address" = some (some (.ref f_Book_address))) (i_Book_address : PySem.W.isFn K (.ref f_Book_address) = true) (l_Book_address : K.lookup f_Book_address = some ⟨oc_Book_address, od_Book_address, .func (PySem.W.fnOf "address" "Book.address" (defArgs s_Book_address) (defBody s_Book_address) (defScope s_Book_address) .none kV_Book_address dc_Book_address pm_Book_address an_Book_address cd_Book_address ct_Book_address), sl_Book_address⟩) (c_Book_address : PySem.W.codeIn K cd_Book_address "Book.address" = true) (k_Book_address : PySem.W.keepIn K (.ref f_Book_address) = true)
    (a_Chunks_put : PySem.W.findIn K (.ref C_Chunks) "put" = some (some (.ref f_Chunks_put))) (i_Chunks_put : PySem.W.isFn K (.ref f_Chunks_put) = true) (l_Chunks_put : K.lookup f_Chunks_put = some ⟨oc_Chunks_put, od_Chunks_put, .func (PySem.W.fnOf "put" "Chunks.put" (defArgs s_Chunks_put) (defBody s_Chunks_put) (defScope s_Chunks_put) .none kV_Chunks_put dc_Chunks_put pm_Chunks_put an_Chunks_put cd_Chunks_put ct_Chunks_put), sl_Chunks_put⟩) (c_Chunks_put : PySem.W.codeIn K cd_Chunks_put "Chunks.put" = true) (k_Chunks_put : PySem.W.keepIn K (.ref f_Chunks_put) = true)
    (a_encode : PySem.W.nsIn K mainGlobals "encode" = some (some (.ref f_encode))) (l_encode : K.lookup f_encode = some ⟨oc_encode, od_encode, .func (PySem.W.fnOf "encode" "encode" (defArgs s_encode) (defBody s_encode) (defScope s_encode) .none kV_encode dc_encode pm_encode an_encode cd_encode ct_encode), sl_encode⟩) (c_encode : PySem.W.codeIn K cd_encode "encode" = true) (k_encode : PySem.W.keepIn K (.ref f_encode) = true)
    (a_law_same : PySem.W.nsIn K mainGlobals "_law_same" = some (some (.ref f_law_same))) (l_law_same : K.lookup f_law_same = some ⟨oc_law_same, od_law_same, .func (PySem.W.fnOf "_law_same" "_law_same" (defArgs s_law_same) (defBody s_law_same) (defScope s_law_same) .none kV_law_same dc_law_same pm_law_same an_law_same cd_law_same ct_law_same), sl_law_same⟩) (c_law_same : PySem.W.codeIn K cd_law_same "_law_same" = true) (k_law_same : PySem.W.keepIn K (.ref f_law_same) = true)
    (a_Chunks_get : PySem.W.findIn K (.ref C_Chunks) "get" = some (some (.ref f_Chunks_get))) (i_Chunks_get : PySem.W.isFn K (.ref f_Chunks_get) = true) (l_Chunks_get : K.lookup f_Chunks_get = some ⟨oc_Chunks_get, od_Chunks_get, .func (PySem.W.fnOf "get" "Chunks.get" (defArgs s_Chunks_get) (defBody s_Chunks_get) (defScope s_Chunks_get) .none kV_Chunks_get dc_Chunks_get pm_Chunks_get an_Chunks_get cd_Chunks_get ct_Chunks_get), sl_Chunks_get⟩) (c_Chunks_get : PySem.W.codeIn K cd_Chunks_get "Chunks.get" = true) (k_Chunks_get : PySem.W.keepIn K (.ref f_Chunks_get) = true)
    (a_sign_at : PySem.W.nsIn K mainGlobals "_sign_at" = some (some (.ref f_sign_at))) (l_sign_at : K.lookup f_sign_at = some ⟨oc_sign_at, od_sign_at, .func (PySem.W.fnOf "_sign_at" "_sign_at" (defArgs s_sign_at) (defBody s_sign_at) (defScope s_sign_at) .none kV_sign_at dc_sign_at pm_sign_at an_sign_at cd_sign_at ct_sign_at), sl_sign_at⟩) (c_sign_at : PySem.W.codeIn K cd_sign_at "_sign_at" = true) (k_sign_at : PySem.W.keepIn K (.ref f_sign_at) = true)
    (a_end_of_digits : PySem.W.nsIn K mainGlobals "_end_of_digits" = some (some (.ref f_end_of_digits))) (l_end_of_digits : K.lookup f_end_of_digits = some ⟨oc_end_of_digits, od_end_of_digits, .func (PySem.W.fnOf "_end_of_digits" "_end_of_digits" (defArgs s_end_of_digits) (defBody s_end_of_digits) (defScope s_end_of_digits) .none kV_end_of_digits dc_end_of_digits pm_end_of_digits an_end_of_digits cd_end_of_digits ct_end_of_digits), sl_end_of_digits⟩) (c_end_of_digits : PySem.W.codeIn K cd_end_of_digits "_end_of_digits" = true) (k_end_of_digits : PySem.W.keepIn K (.ref f_end_of_digits) = true)
    (a_read_integer : PySem.W.nsIn K mainGlobals "_read_integer" = some (some (.ref f_read_integer))) (l_read_integer : K.lookup f_read_integer = some ⟨oc_read_integer, od_read_integer, .func (PySem.W.fnOf "_read_integer" "_read_integer" (defArgs s_read_integer) (defBody s_read_integer) (defScope s_read_integer) .none kV_read_integer dc_read_integer pm_read_integer an_read_integer cd_read_integer ct_read_integer), sl_read_integer⟩) (c_read_integer : PySem.W.codeIn K cd_read_integer "_read_integer" = true) (k_read_integer : PySem.W.keepIn K (.ref f_read_integer) = true)
    (a_read_text : PySem.W.nsIn K mainGlobals "_read_text" = some (some (.ref f_read_text))) (l_read_text : K.lookup f_read_text = some ⟨oc_read_text, od_read_text, .func (PySem.W.fnOf "_read_text" "_read_text" (defArgs s_read_text) (defBody s_read_text) (defScope s_read_text) .none kV_read_text dc_read_text pm_read_text an_read_text cd_read_text ct_read_text), sl_read_text⟩) (c_read_text : PySem.W.codeIn K cd_read_text "_read_text" = true) (k_read_text : PySem.W.keepIn K (.ref f_read_text) = true)
    (a_read_tuple : PySem.W.nsIn K mainGlobals "_read_tuple" = some (some (.ref f_read_tuple))) (l_read_tuple : K.lookup f_read_tuple = some ⟨oc_read_tuple, od_read_tuple, .func (PySem.W.fnOf "_read_tuple" "_read_tuple" (defArgs s_read_tuple) (defBody s_read_tuple) (defScope s_read_tuple) .none kV_read_tuple dc_read_tuple pm_read_tuple an_read_tuple cd_read_tuple ct_read_tuple), sl_read_tuple⟩) (c_read_tuple : PySem.W.codeIn K cd_read_tuple "_read_tuple" = true) (k_read_tuple : PySem.W.keepIn K (.ref f_read_tuple) = true)
    (a_read_item : PySem.W.nsIn K mainGlobals "_read_item" = some (some (.ref f_read_item))) (l_read_item : K.lookup f_read_item = some ⟨oc_read_item, od_read_item, .func (PySem.W.fnOf "_read_item" "_read_item" (defArgs s_read_item) (defBody s_read_item) (defScope s_read_item) .none kV_read_item dc_read_item pm_read_item an_read_item cd_read_item ct_read_item), sl_read_item⟩) (c_read_item : PySem.W.codeIn K cd_read_item "_read_item" = true) (k_read_item : PySem.W.keepIn K (.ref f_read_item) = true)
    (a_decode_prefix : PySem.W.nsIn K mainGlobals "decode_prefix" = some (some (.ref f_decode_prefix))) (l_decode_prefix : K.lookup f_decode_prefix = some ⟨oc_decode_prefix, od_decode_prefix, .func (PySem.W.fnOf "decode_prefix" "decode_prefix" (defArgs s_decode_prefix) (defBody s_decode_prefix) (defScope s_decode_prefix) .none kV_decode_prefix dc_decode_prefix pm_decode_prefix an_decode_prefix cd_decode_prefix ct_decode_prefix), sl_decode_prefix⟩) (c_decode_prefix : PySem.W.codeIn K cd_decode_prefix "decode_prefix" = true) (k_decode_prefix : PySem.W.keepIn K (.ref f_decode_prefix) = true)
    (a_decode : PySem.W.nsIn K mainGlobals "decode" = some (some (.ref f_decode))) (l_decode : K.lookup f_decode = some ⟨oc_decode, od_decode, .func (PySem.W.fnOf "decode" "decode" (defArgs s_decode) (defBody s_decode) (defScope s_decode) .none kV_decode dc_decode pm_decode an_decode cd_decode ct_decode), sl_decode⟩) (c_decode : PySem.W.codeIn K cd_decode "decode" = true) (k_decode : PySem.W.keepIn K (.ref f_decode) = true)
    (a_write_state : PySem.W.nsIn K mainGlobals "write_state" = some (some (.ref f_write_state))) (l_write_state : K.lookup f_write_state = some ⟨oc_write_state, od_write_state, .func (PySem.W.fnOf "write_state" "write_state" (defArgs s_write_state) (defBody s_write_state) (defScope s_write_state) .none kV_write_state dc_write_state pm_write_state an_write_state (.ref cc_write_state) ct_write_state), sl_write_state⟩) (c_write_state : PySem.W.codeIn K (.ref cc_write_state) "write_state" = true) (k_write_state : PySem.W.keepIn K (.ref f_write_state) = true)
    (a_write_commit : PySem.W.nsIn K mainGlobals "write_commit" = some (some (.ref f_write_commit))) (l_write_commit : K.lookup f_write_commit = some ⟨oc_write_commit, od_write_commit, .func (PySem.W.fnOf "write_commit" "write_commit" (defArgs s_write_commit) (defBody s_write_commit) (defScope s_write_commit) .none kV_write_commit dc_write_commit pm_write_commit an_write_commit cd_write_commit ct_write_commit), sl_write_commit⟩) (c_write_commit : PySem.W.codeIn K cd_write_commit "write_commit" = true) (k_write_commit : PySem.W.keepIn K (.ref f_write_commit) = true)
    (a_root_commit : PySem.W.nsIn K mainGlobals "root_commit" = some (some (.ref f_root_commit))) (l_root_commit : K.lookup f_root_commit = some ⟨oc_root_commit, od_root_commit, .func (PySem.W.fnOf "root_commit" "root_commit" (defArgs s_root_commit) (defBody s_root_commit) (defScope s_root_commit) .none kV_root_commit dc_root_commit pm_root_commit an_root_commit cd_root_commit ct_root_commit), sl_root_commit⟩) (c_root_commit : PySem.W.codeIn K cd_root_commit "root_commit" = true) (k_root_commit : PySem.W.keepIn K (.ref f_root_commit) = true)
    (a_read_commit : PySem.W.nsIn K mainGlobals "read_commit" = some (some (.ref f_read_commit))) (l_read_commit : K.lookup f_read_commit = some ⟨oc_read_commit, od_read_commit, .func (PySem.W.fnOf "read_commit" "read_commit" (defArgs s_read_commit) (defBody s_read_commit) (defScope s_read_commit) .none kV_read_commit dc_read_commit pm_read_commit an_read_commit cd_read_commit ct_read_commit), sl_read_commit⟩) (c_read_commit : PySem.W.codeIn K cd_read_commit "read_commit" = true) (k_read_commit : PySem.W.keepIn K (.ref f_read_commit) = true)
    (a_follow : PySem.W.nsIn K mainGlobals "follow" = some (some (.ref f_follow))) (l_follow : K.lookup f_follow = some ⟨oc_follow, od_follow, .func (PySem.W.fnOf "follow" "follow" (defArgs s_follow) (defBody s_follow) (defScope s_follow) .none kV_follow dc_follow pm_follow an_follow cd_follow ct_follow), sl_follow⟩) (c_follow : PySem.W.codeIn K cd_follow "follow" = true) (k_follow : PySem.W.keepIn K (.ref f_follow) = true)
    (a_law_history : PySem.W.nsIn K mainGlobals "_law_history" = some (some (.ref f_law_history))) (l_law_history : K.lookup f_law_history = some ⟨oc_law_history, od_law_history, .func (PySem.W.fnOf "_law_history" "_law_history" (defArgs s_law_history) (defBody s_law_history) (defScope s_law_history) .none kV_law_history dc_law_history pm_law_history an_law_history cd_law_history ct_law_history), sl_law_history⟩) (c_law_history : PySem.W.codeIn K cd_law_history "_law_history" = true) (k_law_history : PySem.W.keepIn K (.ref f_law_history) = true)
    (a_law_walk : PySem.W.nsIn K mainGlobals "_law_walk" = some (some (.ref f_law_walk))) (l_law_walk : K.lookup f_law_walk = some ⟨oc_law_walk, od_law_walk, .func (PySem.W.fnOf "_law_walk" "_law_walk" (defArgs s_law_walk) (defBody s_law_walk) (defScope s_law_walk) .none kV_law_walk dc_law_walk pm_law_walk an_law_walk cd_law_walk ct_law_walk), sl_law_walk⟩) (c_law_walk : PySem.W.codeIn K cd_law_walk "_law_walk" = true) (k_law_walk : PySem.W.keepIn K (.ref f_law_walk) = true)
    (a_law_told : PySem.W.nsIn K mainGlobals "_law_told" = some (some (.ref f_law_told))) (l_law_told : K.lookup f_law_told = some ⟨oc_law_told, od_law_told, .func (PySem.W.fnOf "_law_told" "_law_told" (defArgs s_law_told) (defBody s_law_told) (defScope s_law_told) .none kV_law_told dc_law_told pm_law_told an_law_told cd_law_told ct_law_told), sl_law_told⟩) (c_law_told : PySem.W.codeIn K cd_law_told "_law_told" = true) (k_law_told : PySem.W.keepIn K (.ref f_law_told) = true)
    (a_law : PySem.W.nsIn K mainGlobals "law" = some (some (.ref f_law))) (l_law : K.lookup f_law = some ⟨oc_law, od_law, .func (PySem.W.fnOf "law" "law" (defArgs s_law) (defBody s_law) (defScope s_law) .none kV_law dc_law pm_law an_law cd_law ct_law), sl_law⟩) (c_law : PySem.W.codeIn K cd_law "law" = true) (k_law : PySem.W.keepIn K (.ref f_law) = true)
    (z_ValueError : PySem.W.nsIn K mainGlobals "ValueError" = some none)
    (z_bool : PySem.W.nsIn K mainGlobals "bool" = some none)
    (z_int : PySem.W.nsIn K mainGlobals "int" = some none)
    (z_isinstance : PySem.W.nsIn K mainGlobals "isinstance" = some none)
    (z_len : PySem.W.nsIn K mainGlobals "len" = some none)
    (z_list : PySem.W.nsIn K mainGlobals "list" = some none)
    (z_max : PySem.W.nsIn K mainGlobals "max" = some none)
    (z_min : PySem.W.nsIn K mainGlobals "min" = some none)
    (z_range : PySem.W.nsIn K mainGlobals "range" = some none)
    (z_sorted : PySem.W.nsIn K mainGlobals "sorted" = some none)
    (z_str : PySem.W.nsIn K mainGlobals "str" = some none)
    (z_super : PySem.W.nsIn K mainGlobals "super" = some none)
    (z_tuple : PySem.W.nsIn K mainGlobals "tuple" = some none)
    (z_MOST_LEVELS : PySem.W.nsIn K mainGlobals "MOST_LEVELS" = some (some (.int 12 t_MOST_LEVELS)))
    (z_MOST_DIGITS : PySem.W.nsIn K mainGlobals "MOST_DIGITS" = some (some (.int 60 t_MOST_DIGITS)))
    (z_MOST_LENGTH_DIGITS : PySem.W.nsIn K mainGlobals "MOST_LENGTH_DIGITS" = some (some (.int 6 t_MOST_LENGTH_DIGITS)))
    (z_STEPS : PySem.W.nsIn K mainGlobals "STEPS" = some (some (.str (Str.ofString "~^") t_STEPS)))
    (oc2_write_state : K.lookup cc_write_state = some oK_write_state) (op_write_state : pOf oK_write_state = some P_write_state) (oh_write_state : PySem.W.codeHdIn K cc_write_state P_write_state = true) (on_write_state : K.lookup P_write_state = none) (ot_write_state : h.get? P_write_state = some { cls := .none, data := .fields #[] }) :
    LamX.LawAtS l w K CX0 34 63 "script" mg fa h := by
  have e := hfa.symm.trans (PySem.W.mg_of X G a_law)
  cases e
  refine ⟨PySem.W.fnOf "law" "law" (defArgs s_law) (defBody s_law) (defScope s_law) .none kV_law dc_law pm_law an_law cd_law ct_law, [(cc_write_state, P_write_state)], spLaw K P_write_state, (fun p hp => by
    simp only [List.mem_cons, List.not_mem_nil, or_false] at hp
    subst hp
    · exact ot_write_state), (fun p hp => by
    simp only [List.mem_cons, List.not_mem_nil, or_false] at hp
    subst hp
    · exact on_write_state), (fun p hp => by
    simp only [List.mem_cons, List.not_mem_nil, or_false] at hp
    subst hp
    · exact PySem.W.codeHd_of_K X oh_write_state), fun s v => .of_eq rfl, fun H a ns hl hb hT hS => ⟨a, ns, rfl, hS, hl, hb, hT (cc_write_state, P_write_state) (by simp), fun _ => rfl⟩, fun base _ _ TB => ?_⟩
  have F_Book___init := fun_mk (st := s_Book___init) l_Book___init c_Book___init k_Book___init
  have F_Chunks___init := fun_mk (st := s_Chunks___init) l_Chunks___init c_Chunks___init k_Chunks___init
  have F_Chunks_drop := fun_mk (st := s_Chunks_drop) l_Chunks_drop c_Chunks_drop k_Chunks_drop
  have F_law_cell := fun_mk (st := s_law_cell) l_law_cell c_law_cell k_law_cell
  have F_law_numbers := fun_mk (st := s_law_numbers) l_law_numbers c_law_numbers k_law_numbers
  have F_Book_address := fun_mk (st := s_Book_address) l_Book_address c_Book_address k_Book_address
  have F_Chunks_put := fun_mk (st := s_Chunks_put) l_Chunks_put c_Chunks_put k_Chunks_put
  have F_encode := fun_mk (st := s_encode) l_encode c_encode k_encode
  have F_law_same := fun_mk (st := s_law_same) l_law_same c_law_same k_law_same
  have F_Chunks_get := fun_mk (st := s_Chunks_get) l_Chunks_get c_Chunks_get k_Chunks_get
  have F_sign_at := fun_mk (st := s_sign_at) l_sign_at c_sign_at k_sign_at
  have F_end_of_digits := fun_mk (st := s_end_of_digits) l_end_of_digits c_end_of_digits k_end_of_digits
  have F_read_integer := fun_mk (st := s_read_integer) l_read_integer c_read_integer k_read_integer
  have F_read_text := fun_mk (st := s_read_text) l_read_text c_read_text k_read_text
  have F_read_tuple := fun_mk (st := s_read_tuple) l_read_tuple c_read_tuple k_read_tuple
  have F_read_item := fun_mk (st := s_read_item) l_read_item c_read_item k_read_item
  have F_decode_prefix := fun_mk (st := s_decode_prefix) l_decode_prefix c_decode_prefix k_decode_prefix
  have F_decode := fun_mk (st := s_decode) l_decode c_decode k_decode
  have F_write_state := fun_mk (st := s_write_state) l_write_state c_write_state k_write_state
  have F_write_commit := fun_mk (st := s_write_commit) l_write_commit c_write_commit k_write_commit
  have F_root_commit := fun_mk (st := s_root_commit) l_root_commit c_root_commit k_root_commit
  have F_read_commit := fun_mk (st := s_read_commit) l_read_commit c_read_commit k_read_commit
  have F_follow := fun_mk (st := s_follow) l_follow c_follow k_follow
  have F_law_history := fun_mk (st := s_law_history) l_law_history c_law_history k_law_history
  have F_law_walk := fun_mk (st := s_law_walk) l_law_walk c_law_walk k_law_walk
  have F_law_told := fun_mk (st := s_law_told) l_law_told c_law_told k_law_told
  have F_law := fun_mk (st := s_law) l_law c_law k_law
  exact ok_law ({
    C_Book := C_Book, g_Book := PySem.W.mg_of X G aC_Book, cl_Book := ⟨pg_Book, hd_Book, po_Book, sa_Book⟩,
    na_Book__addresses := na_Book__addresses,
    C_Chunks := C_Chunks, g_Chunks := PySem.W.mg_of X G aC_Chunks, cl_Chunks := ⟨pg_Chunks, hd_Chunks, po_Chunks, sa_Chunks⟩,
    na_Chunks_book := na_Chunks_book,
    na_Chunks_reads := na_Chunks_reads,
    na_Chunks__texts := na_Chunks__texts,
    C_InvalidVersion := C_InvalidVersion, e_InvalidVersion := ⟨PySem.W.mg_of X G ax_InvalidVersion, xx_InvalidVersion, xk_InvalidVersion, xb_InvalidVersion, xt_InvalidVersion, xs_InvalidVersion, ⟨xg_InvalidVersion, xq_InvalidVersion, xb_InvalidVersion, xd_InvalidVersion, xa_InvalidVersion, xn_InvalidVersion, xi_InvalidVersion, xm_InvalidVersion⟩⟩, kv_InvalidVersion := xv_InvalidVersion,
    C_UnknownVersion := C_UnknownVersion, e_UnknownVersion := ⟨PySem.W.mg_of X G ax_UnknownVersion, xx_UnknownVersion, xk_UnknownVersion, xb_UnknownVersion, xt_UnknownVersion, xs_UnknownVersion, ⟨xg_UnknownVersion, xq_UnknownVersion, xb_UnknownVersion, xd_UnknownVersion, xa_UnknownVersion, xn_UnknownVersion, xi_UnknownVersion, xm_UnknownVersion⟩⟩, kv_UnknownVersion := xv_UnknownVersion,
    C_MissingChunk := C_MissingChunk, e_MissingChunk := ⟨PySem.W.mg_of X G ax_MissingChunk, ⟨oexB_ok xo_MissingChunk, xz_MissingChunk, xb_MissingChunk, xt_MissingChunk, xk_MissingChunk⟩, xs_MissingChunk, ⟨xg_MissingChunk, xq_MissingChunk, xb_MissingChunk, xd_MissingChunk, xa_MissingChunk, xn_MissingChunk, xi_MissingChunk, xm_MissingChunk⟩⟩, kv_MissingChunk := xv_MissingChunk, f_MissingChunk___init := f_MissingChunk___init, d_MissingChunk___init := _, F_MissingChunk___init := funX_mk nl_MissingChunk nc_MissingChunk ni_MissingChunk nt_MissingChunk nb_MissingChunk ns_MissingChunk np_MissingChunk nm_MissingChunk nv_MissingChunk rfl rfl, b_MissingChunk___init := Binds.all (ps := ["self", "address"]) (fun us hl => match us, hl with | [_, _], _ => rfl), na_MissingChunk_address := na_MissingChunk,
    kt_InvalidVersion_UnknownVersion := ko_InvalidVersion_UnknownVersion,
    kt_InvalidVersion_MissingChunk := ko_InvalidVersion_MissingChunk,
    kt_UnknownVersion_InvalidVersion := ko_UnknownVersion_InvalidVersion,
    kt_UnknownVersion_MissingChunk := ko_UnknownVersion_MissingChunk,
    kt_MissingChunk_InvalidVersion := ko_MissingChunk_InvalidVersion,
    kt_MissingChunk_UnknownVersion := ko_MissingChunk_UnknownVersion,
    C_VersionError := C_VersionError, g_VersionError := PySem.W.mg_of X G ay_VersionError,
    ku_InvalidVersion_VersionError := kp_InvalidVersion_VersionError,
    ku_UnknownVersion_VersionError := kp_UnknownVersion_VersionError,
    ku_MissingChunk_VersionError := kp_MissingChunk_VersionError,
    f_Book___init := f_Book___init, d_Book___init := _, F_Book___init := F_Book___init, b_Book___init := (F_Book___init.binds (ps := ["self"]) fun _ _ _ _ _ _ us hl => match us, hl with | [_], _ => rfl),
    mk_Book := ⟨mk_Book, a_Book___init, i_Book___init, kc_Book⟩,
    f_Chunks___init := f_Chunks___init, d_Chunks___init := _, F_Chunks___init := F_Chunks___init, b_Chunks___init := (F_Chunks___init.binds (ps := ["self", "book"]) fun _ _ _ _ _ _ us hl => match us, hl with | [_, _], _ => rfl),
    mk_Chunks := ⟨mk_Chunks, a_Chunks___init, i_Chunks___init, kc_Chunks⟩,
    f_Chunks_drop := f_Chunks_drop, d_Chunks_drop := _, F_Chunks_drop := F_Chunks_drop, b_Chunks_drop := (F_Chunks_drop.binds (ps := ["self", "address"]) fun _ _ _ _ _ _ us hl => match us, hl with | [_, _], _ => rfl),
    me_Chunks_drop := ⟨a_Chunks_drop, i_Chunks_drop, k_Chunks_drop⟩,
    f_law_cell := f_law_cell, d_law_cell := _, F_law_cell := F_law_cell, b_law_cell := (F_law_cell.binds (ps := ["script", "k"]) fun _ _ _ _ _ _ us hl => match us, hl with | [_, _], _ => rfl),
    g_law_cell := PySem.W.mg_of X G a_law_cell,
    f_law_numbers := f_law_numbers, d_law_numbers := _, F_law_numbers := F_law_numbers, b_law_numbers := (F_law_numbers.binds (ps := ["cell", "count"]) fun _ _ _ _ _ _ us hl => match us, hl with | [_, _], _ => rfl),
    g_law_numbers := PySem.W.mg_of X G a_law_numbers,
    f_Book_address := f_Book_address, d_Book_address := _, F_Book_address := F_Book_address, b_Book_address := (F_Book_address.binds (ps := ["self", "text"]) fun _ _ _ _ _ _ us hl => match us, hl with | [_, _], _ => rfl),
    me_Book_address := ⟨a_Book_address, i_Book_address, k_Book_address⟩,
    f_Chunks_put := f_Chunks_put, d_Chunks_put := _, F_Chunks_put := F_Chunks_put, b_Chunks_put := (F_Chunks_put.binds (ps := ["self", "text"]) fun _ _ _ _ _ _ us hl => match us, hl with | [_, _], _ => rfl),
    me_Chunks_put := ⟨a_Chunks_put, i_Chunks_put, k_Chunks_put⟩,
    f_encode := f_encode, d_encode := _, F_encode := F_encode, b_encode := (F_encode.binds (ps := ["item"]) fun _ _ _ _ _ _ us hl => match us, hl with | [_], _ => rfl),
    g_encode := PySem.W.mg_of X G a_encode,
    f_law_same := f_law_same, d_law_same := _, F_law_same := F_law_same, b_law_same := (F_law_same.binds (ps := ["actual", "due"]) fun _ _ _ _ _ _ us hl => match us, hl with | [_, _], _ => rfl),
    g_law_same := PySem.W.mg_of X G a_law_same,
    f_Chunks_get := f_Chunks_get, d_Chunks_get := _, F_Chunks_get := F_Chunks_get, b_Chunks_get := (F_Chunks_get.binds (ps := ["self", "address"]) fun _ _ _ _ _ _ us hl => match us, hl with | [_, _], _ => rfl),
    me_Chunks_get := ⟨a_Chunks_get, i_Chunks_get, k_Chunks_get⟩,
    f_sign_at := f_sign_at, d_sign_at := _, F_sign_at := F_sign_at, b_sign_at := (F_sign_at.binds (ps := ["text", "index"]) fun _ _ _ _ _ _ us hl => match us, hl with | [_, _], _ => rfl),
    g_sign_at := PySem.W.mg_of X G a_sign_at,
    f_end_of_digits := f_end_of_digits, d_end_of_digits := _, F_end_of_digits := F_end_of_digits, b_end_of_digits := (F_end_of_digits.binds (ps := ["text", "first", "most", "closing"]) fun _ _ _ _ _ _ us hl => match us, hl with | [_, _, _, _], _ => rfl),
    g_end_of_digits := PySem.W.mg_of X G a_end_of_digits,
    f_read_integer := f_read_integer, d_read_integer := _, F_read_integer := F_read_integer, b_read_integer := (F_read_integer.binds (ps := ["text", "index"]) fun _ _ _ _ _ _ us hl => match us, hl with | [_, _], _ => rfl),
    g_read_integer := PySem.W.mg_of X G a_read_integer,
    f_read_text := f_read_text, d_read_text := _, F_read_text := F_read_text, b_read_text := (F_read_text.binds (ps := ["text", "index"]) fun _ _ _ _ _ _ us hl => match us, hl with | [_, _], _ => rfl),
    g_read_text := PySem.W.mg_of X G a_read_text,
    f_read_tuple := f_read_tuple, d_read_tuple := _, F_read_tuple := F_read_tuple, b_read_tuple := (F_read_tuple.binds (ps := ["text", "index", "level"]) fun _ _ _ _ _ _ us hl => match us, hl with | [_, _, _], _ => rfl),
    g_read_tuple := PySem.W.mg_of X G a_read_tuple,
    f_read_item := f_read_item, d_read_item := _, F_read_item := F_read_item, b_read_item := (F_read_item.binds (ps := ["text", "index", "level"]) fun _ _ _ _ _ _ us hl => match us, hl with | [_, _, _], _ => rfl),
    g_read_item := PySem.W.mg_of X G a_read_item,
    f_decode_prefix := f_decode_prefix, d_decode_prefix := _, F_decode_prefix := F_decode_prefix, b_decode_prefix := (F_decode_prefix.binds (ps := ["text", "index"]) fun _ _ _ _ _ _ us hl => match us, hl with | [_, _], _ => rfl),
    g_decode_prefix := PySem.W.mg_of X G a_decode_prefix,
    f_decode := f_decode, d_decode := _, F_decode := F_decode, b_decode := (F_decode.binds (ps := ["text"]) fun _ _ _ _ _ _ us hl => match us, hl with | [_], _ => rfl),
    g_decode := PySem.W.mg_of X G a_decode,
    f_write_state := f_write_state, d_write_state := _, F_write_state := F_write_state, b_write_state := (F_write_state.binds (ps := ["chunks", "tables"]) fun _ _ _ _ _ _ us hl => match us, hl with | [_, _], _ => rfl),
    g_write_state := PySem.W.mg_of X G a_write_state,
    f_write_commit := f_write_commit, d_write_commit := _, F_write_commit := F_write_commit, b_write_commit := (F_write_commit.binds (ps := ["chunks", "state", "parents", "message"]) fun _ _ _ _ _ _ us hl => match us, hl with | [_, _, _, _], _ => rfl),
    g_write_commit := PySem.W.mg_of X G a_write_commit,
    f_root_commit := f_root_commit, d_root_commit := _, F_root_commit := F_root_commit, b_root_commit := (F_root_commit.binds (ps := ["chunks"]) fun _ _ _ _ _ _ us hl => match us, hl with | [_], _ => rfl),
    g_root_commit := PySem.W.mg_of X G a_root_commit,
    f_read_commit := f_read_commit, d_read_commit := _, F_read_commit := F_read_commit, b_read_commit := (F_read_commit.binds (ps := ["chunks", "commit"]) fun _ _ _ _ _ _ us hl => match us, hl with | [_, _], _ => rfl),
    g_read_commit := PySem.W.mg_of X G a_read_commit,
    f_follow := f_follow, d_follow := _, F_follow := F_follow, b_follow := (F_follow.binds (ps := ["chunks", "commit", "steps"]) fun _ _ _ _ _ _ us hl => match us, hl with | [_, _, _], _ => rfl),
    g_follow := PySem.W.mg_of X G a_follow,
    f_law_history := f_law_history, d_law_history := _, F_law_history := F_law_history, b_law_history := (F_law_history.binds (ps := ["chunks", "script", "first", "count", "state"]) fun _ _ _ _ _ _ us hl => match us, hl with | [_, _, _, _, _], _ => rfl),
    g_law_history := PySem.W.mg_of X G a_law_history,
    f_law_walk := f_law_walk, d_law_walk := _, F_law_walk := F_law_walk, b_law_walk := (F_law_walk.binds (ps := ["above", "tip", "steps"]) fun _ _ _ _ _ _ us hl => match us, hl with | [_, _, _], _ => rfl),
    g_law_walk := PySem.W.mg_of X G a_law_walk,
    f_law_told := f_law_told, d_law_told := _, F_law_told := F_law_told, b_law_told := (F_law_told.binds (ps := ["chunks", "tip", "steps"]) fun _ _ _ _ _ _ us hl => match us, hl with | [_, _, _], _ => rfl),
    g_law_told := PySem.W.mg_of X G a_law_told,
    f_law := fa, d_law := _, F_law := F_law, b_law := (F_law.binds (ps := ["script"]) fun _ _ _ _ _ _ us hl => match us, hl with | [_], _ => rfl),
    g_law := PySem.W.mg_of X G a_law,
    m_ValueError := PySem.W.mg_none_of X G z_ValueError,
    m_bool := PySem.W.mg_none_of X G z_bool,
    m_int := PySem.W.mg_none_of X G z_int,
    m_isinstance := PySem.W.mg_none_of X G z_isinstance,
    m_len := PySem.W.mg_none_of X G z_len,
    m_list := PySem.W.mg_none_of X G z_list,
    m_max := PySem.W.mg_none_of X G z_max,
    m_min := PySem.W.mg_none_of X G z_min,
    m_range := PySem.W.mg_none_of X G z_range,
    m_sorted := PySem.W.mg_none_of X G z_sorted,
    m_str := PySem.W.mg_none_of X G z_str,
    m_super := PySem.W.mg_none_of X G z_super,
    m_tuple := PySem.W.mg_none_of X G z_tuple,
    t_MOST_LEVELS := t_MOST_LEVELS, k_MOST_LEVELS := PySem.W.mg_of X G z_MOST_LEVELS,
    t_MOST_DIGITS := t_MOST_DIGITS, k_MOST_DIGITS := PySem.W.mg_of X G z_MOST_DIGITS,
    t_MOST_LENGTH_DIGITS := t_MOST_LENGTH_DIGITS, k_MOST_LENGTH_DIGITS := PySem.W.mg_of X G z_MOST_LENGTH_DIGITS,
    t_STEPS := t_STEPS, k_STEPS := PySem.W.mg_of X G z_STEPS,
    cc_write_state := cc_write_state, P_write_state := P_write_state, cd_write_state := rfl, tb_write_state := TB (cc_write_state, P_write_state) (by simp) } : Txt K mg base l.prog)

end Vt

open PySem PySem.W PyProof.Rows
set_option maxHeartbeats 0 in
theorem PySem.Challenge.cw_versiontables_k46_follow_holds : PySem.Challenge.rw_versiontables_k46_follow.Holds := by
  w_on; o_law; k_head; (case hw => w_witness2)
  k_fill
  refine LamX.walk_ofTs (l := PySem.Challenge.rw_versiontables_k46_follow) (n := 63) (k := 34) (x := "script") (CX := fun _ => L2.CX0) rfl (by decide) rfl ⟨rfl, by decide, by decide⟩ (fun w h Y => PySem.W.km_in_of Y) ?F (fun _ _ _ _ _ h => h)
  case F =>
    intro w mg fa h Y KX G hmg
    have hT8 := PySem.W.km_tabs_of Y
    refine' Vt.all_mk KX G hmg ?aC_Book ?pg_Book ?hd_Book ?po_Book ?sa_Book ?mk_Book ?kc_Book ?na_Book__addresses ?aC_Chunks ?pg_Chunks ?hd_Chunks ?po_Chunks ?sa_Chunks ?mk_Chunks ?kc_Chunks ?na_Chunks_book ?na_Chunks_reads ?na_Chunks__texts ?ax_InvalidVersion ?xx_InvalidVersion ?xk_InvalidVersion ?xb_InvalidVersion ?xt_InvalidVersion ?xs_InvalidVersion ?xg_InvalidVersion ?xq_InvalidVersion ?xd_InvalidVersion ?xa_InvalidVersion ?xn_InvalidVersion ?xi_InvalidVersion ?xm_InvalidVersion ?xv_InvalidVersion ?ax_UnknownVersion ?xx_UnknownVersion ?xk_UnknownVersion ?xb_UnknownVersion ?xt_UnknownVersion ?xs_UnknownVersion ?xg_UnknownVersion ?xq_UnknownVersion ?xd_UnknownVersion ?xa_UnknownVersion ?xn_UnknownVersion ?xi_UnknownVersion ?xm_UnknownVersion ?xv_UnknownVersion ?ax_MissingChunk ?xo_MissingChunk ?xz_MissingChunk ?xk_MissingChunk ?xb_MissingChunk ?xt_MissingChunk ?xs_MissingChunk ?xg_MissingChunk ?xq_MissingChunk ?xd_MissingChunk ?xa_MissingChunk ?xn_MissingChunk ?xi_MissingChunk ?xm_MissingChunk ?xv_MissingChunk ?ni_MissingChunk ?na_MissingChunk ?nl_MissingChunk ?nc_MissingChunk ?nt_MissingChunk ?nb_MissingChunk ?ns_MissingChunk ?np_MissingChunk ?nm_MissingChunk ?nv_MissingChunk ?ko_InvalidVersion_UnknownVersion ?ko_InvalidVersion_MissingChunk ?ko_UnknownVersion_InvalidVersion ?ko_UnknownVersion_MissingChunk ?ko_MissingChunk_InvalidVersion ?ko_MissingChunk_UnknownVersion ?ay_VersionError ?kp_InvalidVersion_VersionError ?kp_UnknownVersion_VersionError ?kp_MissingChunk_VersionError ?a_Book___init ?i_Book___init ?l_Book___init ?c_Book___init ?k_Book___init ?a_Chunks___init ?i_Chunks___init ?l_Chunks___init ?c_Chunks___init ?k_Chunks___init ?a_Chunks_drop ?i_Chunks_drop ?l_Chunks_drop ?c_Chunks_drop ?k_Chunks_drop ?a_law_cell ?l_law_cell ?c_law_cell ?k_law_cell ?a_law_numbers ?l_law_numbers ?c_law_numbers ?k_law_numbers ?a_Book_address ?i_Book_address ?l_Book_address ?c_Book_address ?k_Book_address ?a_Chunks_put ?i_Chunks_put ?l_Chunks_put ?c_Chunks_put ?k_Chunks_put ?a_encode ?l_encode ?c_encode ?k_encode ?a_law_same ?l_law_same ?c_law_same ?k_law_same ?a_Chunks_get ?i_Chunks_get ?l_Chunks_get ?c_Chunks_get ?k_Chunks_get ?a_sign_at ?l_sign_at ?c_sign_at ?k_sign_at ?a_end_of_digits ?l_end_of_digits ?c_end_of_digits ?k_end_of_digits ?a_read_integer ?l_read_integer ?c_read_integer ?k_read_integer ?a_read_text ?l_read_text ?c_read_text ?k_read_text ?a_read_tuple ?l_read_tuple ?c_read_tuple ?k_read_tuple ?a_read_item ?l_read_item ?c_read_item ?k_read_item ?a_decode_prefix ?l_decode_prefix ?c_decode_prefix ?k_decode_prefix ?a_decode ?l_decode ?c_decode ?k_decode ?a_write_state ?l_write_state ?c_write_state ?k_write_state ?a_write_commit ?l_write_commit ?c_write_commit ?k_write_commit ?a_root_commit ?l_root_commit ?c_root_commit ?k_root_commit ?a_read_commit ?l_read_commit ?c_read_commit ?k_read_commit ?a_follow ?l_follow ?c_follow ?k_follow ?a_law_history ?l_law_history ?c_law_history ?k_law_history ?a_law_walk ?l_law_walk ?c_law_walk ?k_law_walk ?a_law_told ?l_law_told ?c_law_told ?k_law_told ?a_law ?l_law ?c_law ?k_law ?z_ValueError ?z_bool ?z_int ?z_isinstance ?z_len ?z_list ?z_max ?z_min ?z_range ?z_sorted ?z_str ?z_super ?z_tuple ?z_MOST_LEVELS ?z_MOST_DIGITS ?z_MOST_LENGTH_DIGITS ?z_STEPS ?oc2_write_state ?op_write_state ?oh_write_state ?on_write_state ?ot_write_state
    (case aC_Book => k_is)
    (case pg_Book => k_is)
    (case hd_Book => k_is)
    (case po_Book => k_is)
    (case sa_Book => k_is)
    (case mk_Book => k_is)
    (case kc_Book => k_is)
    (case na_Book__addresses => k_is)
    (case aC_Chunks => k_is)
    (case pg_Chunks => k_is)
    (case hd_Chunks => k_is)
    (case po_Chunks => k_is)
    (case sa_Chunks => k_is)
    (case mk_Chunks => k_is)
    (case kc_Chunks => k_is)
    (case na_Chunks_book => k_is)
    (case na_Chunks_reads => k_is)
    (case na_Chunks__texts => k_is)
    (case ax_InvalidVersion => k_is)
    (case xx_InvalidVersion => k_exc)
    (case xk_InvalidVersion => k_is)
    (case xb_InvalidVersion => k_is)
    (case xt_InvalidVersion => k_is)
    (case xs_InvalidVersion => first | rfl | k_is)
    (case xg_InvalidVersion => k_is)
    (case xq_InvalidVersion => k_is)
    (case xd_InvalidVersion => k_is)
    (case xa_InvalidVersion => k_is)
    (case xn_InvalidVersion => first | rfl | k_is)
    (case xi_InvalidVersion => first | rfl | k_is)
    (case xm_InvalidVersion => k_is)
    (case xv_InvalidVersion => first | rfl | k_is)
    (case ax_UnknownVersion => k_is)
    (case xx_UnknownVersion => k_exc)
    (case xk_UnknownVersion => k_is)
    (case xb_UnknownVersion => k_is)
    (case xt_UnknownVersion => k_is)
    (case xs_UnknownVersion => first | rfl | k_is)
    (case xg_UnknownVersion => k_is)
    (case xq_UnknownVersion => k_is)
    (case xd_UnknownVersion => k_is)
    (case xa_UnknownVersion => k_is)
    (case xn_UnknownVersion => first | rfl | k_is)
    (case xi_UnknownVersion => first | rfl | k_is)
    (case xm_UnknownVersion => k_is)
    (case xv_UnknownVersion => first | rfl | k_is)
    (case ax_MissingChunk => k_is)
    (case xo_MissingChunk => kernel_rfl)
    (case xz_MissingChunk => k_is)
    (case xk_MissingChunk => k_is)
    (case xb_MissingChunk => k_is)
    (case xt_MissingChunk => k_is)
    (case xs_MissingChunk => first | rfl | k_is)
    (case xg_MissingChunk => k_is)
    (case xq_MissingChunk => k_is)
    (case xd_MissingChunk => k_is)
    (case xa_MissingChunk => k_is)
    (case xn_MissingChunk => first | rfl | k_is)
    (case xi_MissingChunk => first | rfl | k_is)
    (case xm_MissingChunk => k_is)
    (case xv_MissingChunk => first | rfl | k_is)
    (case ni_MissingChunk => k_is)
    (case na_MissingChunk => k_is)
    (case nl_MissingChunk => k_is)
    (case nc_MissingChunk => k_is)
    (case nt_MissingChunk => k_is)
    (case nb_MissingChunk => kernel_rfl)
    (case ns_MissingChunk => kernel_rfl)
    (case np_MissingChunk => k_is)
    (case nm_MissingChunk => first | rfl | k_is)
    (case nv_MissingChunk => first | rfl | k_is)
    (case ko_InvalidVersion_UnknownVersion => first | rfl | k_is)
    (case ko_InvalidVersion_MissingChunk => first | rfl | k_is)
    (case ko_UnknownVersion_InvalidVersion => first | rfl | k_is)
    (case ko_UnknownVersion_MissingChunk => first | rfl | k_is)
    (case ko_MissingChunk_InvalidVersion => first | rfl | k_is)
    (case ko_MissingChunk_UnknownVersion => first | rfl | k_is)
    (case ay_VersionError => k_is)
    (case kp_InvalidVersion_VersionError => first | rfl | k_is)
    (case kp_UnknownVersion_VersionError => first | rfl | k_is)
    (case kp_MissingChunk_VersionError => first | rfl | k_is)
    (case a_Book___init => k_is)
    (case i_Book___init => k_is)
    (case l_Book___init => k_is)
    (case c_Book___init => k_is)
    (case k_Book___init => k_is)
    (case a_Chunks___init => k_is)
    (case i_Chunks___init => k_is)
    (case l_Chunks___init => k_is)
    (case c_Chunks___init => k_is)
    (case k_Chunks___init => k_is)
    (case a_Chunks_drop => k_is)
    (case i_Chunks_drop => k_is)
    (case l_Chunks_drop => k_is)
    (case c_Chunks_drop => k_is)
    (case k_Chunks_drop => k_is)
    (case a_law_cell => k_is)
    (case l_law_cell => k_is)
    (case c_law_cell => k_is)
    (case k_law_cell => k_is)
    (case a_law_numbers => k_is)
    (case l_law_numbers => k_is)
    (case c_law_numbers => k_is)
    (case k_law_numbers => k_is)
    (case a_Book_address => k_is)
    (case i_Book_address => k_is)
    (case l_Book_address => k_is)
    (case c_Book_address => k_is)
    (case k_Book_address => k_is)
    (case a_Chunks_put => k_is)
    (case i_Chunks_put => k_is)
    (case l_Chunks_put => k_is)
    (case c_Chunks_put => k_is)
    (case k_Chunks_put => k_is)
    (case a_encode => k_is)
    (case l_encode => k_is)
    (case c_encode => k_is)
    (case k_encode => k_is)
    (case a_law_same => k_is)
    (case l_law_same => k_is)
    (case c_law_same => k_is)
    (case k_law_same => k_is)
    (case a_Chunks_get => k_is)
    (case i_Chunks_get => k_is)
    (case l_Chunks_get => k_is)
    (case c_Chunks_get => k_is)
    (case k_Chunks_get => k_is)
    (case a_sign_at => k_is)
    (case l_sign_at => k_is)
    (case c_sign_at => k_is)
    (case k_sign_at => k_is)
    (case a_end_of_digits => k_is)
    (case l_end_of_digits => k_is)
    (case c_end_of_digits => k_is)
    (case k_end_of_digits => k_is)
    (case a_read_integer => k_is)
    (case l_read_integer => k_is)
    (case c_read_integer => k_is)
    (case k_read_integer => k_is)
    (case a_read_text => k_is)
    (case l_read_text => k_is)
    (case c_read_text => k_is)
    (case k_read_text => k_is)
    (case a_read_tuple => k_is)
    (case l_read_tuple => k_is)
    (case c_read_tuple => k_is)
    (case k_read_tuple => k_is)
    (case a_read_item => k_is)
    (case l_read_item => k_is)
    (case c_read_item => k_is)
    (case k_read_item => k_is)
    (case a_decode_prefix => k_is)
    (case l_decode_prefix => k_is)
    (case c_decode_prefix => k_is)
    (case k_decode_prefix => k_is)
    (case a_decode => k_is)
    (case l_decode => k_is)
    (case c_decode => k_is)
    (case k_decode => k_is)
    (case a_write_state => k_is)
    (case l_write_state => k_is)
    (case c_write_state => k_is)
    (case k_write_state => k_is)
    (case a_write_commit => k_is)
    (case l_write_commit => k_is)
    (case c_write_commit => k_is)
    (case k_write_commit => k_is)
    (case a_root_commit => k_is)
    (case l_root_commit => k_is)
    (case c_root_commit => k_is)
    (case k_root_commit => k_is)
    (case a_read_commit => k_is)
    (case l_read_commit => k_is)
    (case c_read_commit => k_is)
    (case k_read_commit => k_is)
    (case a_follow => k_is)
    (case l_follow => k_is)
    (case c_follow => k_is)
    (case k_follow => k_is)
    (case a_law_history => k_is)
    (case l_law_history => k_is)
    (case c_law_history => k_is)
    (case k_law_history => k_is)
    (case a_law_walk => k_is)
    (case l_law_walk => k_is)
    (case c_law_walk => k_is)
    (case k_law_walk => k_is)
    (case a_law_told => k_is)
    (case l_law_told => k_is)
    (case c_law_told => k_is)
    (case k_law_told => k_is)
    (case a_law => k_is)
    (case l_law => k_is)
    (case c_law => k_is)
    (case k_law => k_is)
    (case z_ValueError => k_is)
    (case z_bool => k_is)
    (case z_int => k_is)
    (case z_isinstance => k_is)
    (case z_len => k_is)
    (case z_list => k_is)
    (case z_max => k_is)
    (case z_min => k_is)
    (case z_range => k_is)
    (case z_sorted => k_is)
    (case z_str => k_is)
    (case z_super => k_is)
    (case z_tuple => k_is)
    (case z_MOST_LEVELS => k_is)
    (case z_MOST_DIGITS => k_is)
    (case z_MOST_LENGTH_DIGITS => k_is)
    (case z_STEPS => k_is)
    (case oc2_write_state => k_is)
    (case op_write_state => rfl)
    (case oh_write_state => kernel_rfl)
    (case on_write_state => kernel_rfl)
    (case ot_write_state => exact hT8 _ (by simp))
