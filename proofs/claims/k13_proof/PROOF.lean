import PyProof.Rows.All
import Wide.All
import OpenK.AllK
import Wide.FinOn
import HandS.ForMost
import HandS.Evl
import HandS.IsInst
import HandS.FStr
import HandS.WideBits
import HandS.Wide
import HandS.EndBits
import HandS.Exc
import HandS.TupAny
import PyProof.StrOps2
import HandS.ExcOwn
import HandS.ExcIs
import HandS.ExcCtx
import HandS.SuiteRaise
import HandS.RaiseFrom
import HandS.ExcValue
import HandS.ExcValueFrom
import HandS.WordsExc
import HandS.Replace
import HandS.ReplaceLit
import HandS.NoneIn
import HandS.StrMore
import HandS.TupLe
import HandS.Sort
import HandS.SortKw
import HandS.Lambda
import HandS.EndTab
import KE.KNestM
import KE.SortKeyHeap
import KE.SortData
import HandS.Iter
import KE.GoesMore
import KE.GoesEnum
import HandS.SetTxt0
import HandS.Set
import HandS.Strs
import HandS.Star
import HandS.Zip
import KE.KDictZip
import HandS.ExcInit
import HandS.ExcField
import HandS.Nested
import KE.KExcSuper
import KE.KSuper
import KE.KExcIs
import HandS.Iter
import HandS.More
import HandS.Conv
import HandS.SortInts
import KE.KSortTupG
import KE.KRevSl
import KE.KSortedAny
import HandS.SortInts
import HandS.DictTup
import HandS.TupLen
import PySem.Challenge.RW_versiontables_k13_tree_texts


set_option Elab.async false
set_option linter.all false
set_option maxRecDepth 100000
set_option maxHeartbeats 400000

namespace Vt
open PySem PySem.Spec PyProof.Rows L2 Evl

def topS (i : Nat) : Stmt := PySem.Challenge.pw_versiontables_k13_tree_texts.main.body.getD i (.Pass ⟨0, 0, 0, 0⟩)

abbrev s_Book___init : Stmt := inClass (topS 36) 0

theorem sc_Book___init : FnScope ["self"] ["self"] (defScope s_Book___init) := ⟨rfl, rfl, rfl, by decide +kernel, rfl, by decide +kernel, by decide +kernel⟩

abbrev s_Chunks_get : Stmt := inClass (topS 38) 2

theorem sc_Chunks_get : FnScope ["self", "address"] ["self", "address"] (defScope s_Chunks_get) := ⟨rfl, rfl, rfl, by decide +kernel, rfl, by decide +kernel, by decide +kernel⟩

abbrev s_Book_find : Stmt := inClass (topS 36) 2

theorem sc_Book_find : FnScope ["self", "text"] ["self", "text"] (defScope s_Book_find) := ⟨rfl, rfl, rfl, by decide +kernel, rfl, by decide +kernel, by decide +kernel⟩

abbrev s_Chunks___init : Stmt := inClass (topS 38) 0

theorem sc_Chunks___init : FnScope ["self", "book"] ["self", "book"] (defScope s_Chunks___init) := ⟨rfl, rfl, rfl, by decide +kernel, rfl, by decide +kernel, by decide +kernel⟩

abbrev s_Chunks_has : Stmt := inClass (topS 38) 3

theorem sc_Chunks_has : FnScope ["self", "address"] ["self", "address"] (defScope s_Chunks_has) := ⟨rfl, rfl, rfl, by decide +kernel, rfl, by decide +kernel, by decide +kernel⟩

abbrev s_law_cell : Stmt := topS 40

theorem sc_law_cell : FnScope ["script", "k"] ["script", "k"] (defScope s_law_cell) := ⟨rfl, rfl, rfl, by decide +kernel, rfl, by decide +kernel, by decide +kernel⟩

abbrev s_law_draws : Stmt := topS 42

theorem sc_law_draws : FnScope ["cell", "salt", "count", "base", "rest", "numbers", "k", "mixed"] ["cell", "salt", "count", "base"] (defScope s_law_draws) := ⟨rfl, rfl, rfl, by decide +kernel, rfl, by decide +kernel, by decide +kernel⟩

abbrev s_law_dense_place : Stmt := topS 50

theorem sc_law_dense_place : FnScope ["shape", "number", "start", "numbers", "key", "k"] ["shape", "number", "start"] (defScope s_law_dense_place) := ⟨rfl, rfl, rfl, by decide +kernel, rfl, by decide +kernel, by decide +kernel⟩

abbrev s_law_integer : Stmt := topS 45

theorem sc_law_integer : FnScope ["cell", "choice", "rest"] ["cell"] (defScope s_law_integer) := ⟨rfl, rfl, rfl, by decide +kernel, rfl, by decide +kernel, by decide +kernel⟩

abbrev s_law_char : Stmt := topS 43

theorem sc_law_char : FnScope ["number", "chars"] ["number"] (defScope s_law_char) := ⟨rfl, rfl, rfl, by decide +kernel, rfl, by decide +kernel, by decide +kernel⟩

abbrev s_law_text : Stmt := topS 44

theorem sc_law_text : FnScope ["cell", "choice", "rest", "length", "number"] ["cell"] (defScope s_law_text) := ⟨rfl, rfl, rfl, by decide +kernel, rfl, by decide +kernel, by decide +kernel⟩

abbrev s_law_value : Stmt := topS 46

theorem sc_law_value : FnScope ["kind", "cell"] ["kind", "cell"] (defScope s_law_value) := ⟨rfl, rfl, rfl, by decide +kernel, rfl, by decide +kernel, by decide +kernel⟩

abbrev s_law_drawn_place : Stmt := topS 49

theorem sc_law_drawn_place : FnScope ["shape", "parts", "k"] ["shape", "parts"] (defScope s_law_drawn_place) := ⟨rfl, rfl, rfl, by decide +kernel, rfl, by decide +kernel, by decide +kernel⟩

abbrev s_law_shape : Stmt := topS 48

theorem sc_law_shape : FnScope ["number", "shapes"] ["number"] (defScope s_law_shape) := ⟨rfl, rfl, rfl, by decide +kernel, rfl, by decide +kernel, by decide +kernel⟩

abbrev s_law_thing : Stmt := topS 41

theorem sc_law_thing : FnScope ["script", "k"] ["script", "k"] (defScope s_law_thing) := ⟨rfl, rfl, rfl, by decide +kernel, rfl, by decide +kernel, by decide +kernel⟩

abbrev s_law_digest : Stmt := topS 56

theorem sc_law_digest : FnScope ["text", "result", "char"] ["text"] (defScope s_law_digest) := ⟨rfl, rfl, rfl, by decide +kernel, rfl, by decide +kernel, by decide +kernel⟩

abbrev s_law_written : Stmt := topS 55

theorem sc_law_written : FnScope ["item", "part"] ["item"] (defScope s_law_written) := ⟨rfl, rfl, rfl, by decide +kernel, rfl, by decide +kernel, by decide +kernel⟩

abbrev s_law_same : Stmt := topS 47

theorem sc_law_same : FnScope ["actual", "expected", "k"] ["actual", "expected"] (defScope s_law_same) := ⟨rfl, rfl, rfl, by decide +kernel, rfl, by decide +kernel, by decide +kernel⟩

abbrev s_Book_address : Stmt := inClass (topS 36) 1

theorem sc_Book_address : FnScope ["self", "text"] ["self", "text"] (defScope s_Book_address) := ⟨rfl, rfl, rfl, by decide +kernel, rfl, by decide +kernel, by decide +kernel⟩

abbrev s_Chunks_put : Stmt := inClass (topS 38) 1

theorem sc_Chunks_put : FnScope ["self", "text", "address"] ["self", "text"] (defScope s_Chunks_put) := ⟨rfl, rfl, rfl, by decide +kernel, rfl, by decide +kernel, by decide +kernel⟩

abbrev s_encode : Stmt := topS 10

theorem sc_encode : FnScope ["item", "part"] ["item"] (defScope s_encode) := ⟨rfl, rfl, rfl, by decide +kernel, rfl, by decide +kernel, by decide +kernel⟩

abbrev s_digest : Stmt := topS 20

theorem sc_digest : FnScope ["text", "total", "letter"] ["text"] (defScope s_digest) := ⟨rfl, rfl, rfl, by decide +kernel, rfl, by decide +kernel, by decide +kernel⟩

abbrev s_ends_chunk : Stmt := topS 23

theorem sc_ends_chunk : FnScope ["level", "key", "count"] ["level", "key", "count"] (defScope s_ends_chunk) := ⟨rfl, rfl, rfl, by decide +kernel, rfl, by decide +kernel, by decide +kernel⟩

abbrev s_sign_at : Stmt := topS 18

theorem sc_sign_at : FnScope ["text", "index"] ["text", "index"] (defScope s_sign_at) := ⟨rfl, rfl, rfl, by decide +kernel, rfl, by decide +kernel, by decide +kernel⟩

abbrev s_end_of_digits : Stmt := topS 17

theorem sc_end_of_digits : FnScope ["text", "first", "most", "closing", "index", "sign", "count"] ["text", "first", "most", "closing"] (defScope s_end_of_digits) := ⟨rfl, rfl, rfl, by decide +kernel, rfl, by decide +kernel, by decide +kernel⟩

abbrev s_read_integer : Stmt := topS 14

theorem sc_read_integer : FnScope ["text", "index", "first", "end"] ["text", "index"] (defScope s_read_integer) := ⟨rfl, rfl, rfl, by decide +kernel, rfl, by decide +kernel, by decide +kernel⟩

abbrev s_read_text : Stmt := topS 15

theorem sc_read_text : FnScope ["text", "index", "end", "start", "stop"] ["text", "index"] (defScope s_read_text) := ⟨rfl, rfl, rfl, by decide +kernel, rfl, by decide +kernel, by decide +kernel⟩

abbrev s_read_tuple : Stmt := topS 16

theorem sc_read_tuple : FnScope ["text", "index", "level", "parts", "part"] ["text", "index", "level"] (defScope s_read_tuple) := ⟨rfl, rfl, rfl, by decide +kernel, rfl, by decide +kernel, by decide +kernel⟩

abbrev s_read_item : Stmt := topS 13

theorem sc_read_item : FnScope ["text", "index", "level", "sign"] ["text", "index", "level"] (defScope s_read_item) := ⟨rfl, rfl, rfl, by decide +kernel, rfl, by decide +kernel, by decide +kernel⟩

abbrev s_decode_prefix : Stmt := topS 11

theorem sc_decode_prefix : FnScope ["text", "index"] ["text", "index"] (defScope s_decode_prefix) := ⟨rfl, rfl, rfl, by decide +kernel, rfl, by decide +kernel, by decide +kernel⟩

abbrev s_decode : Stmt := topS 12

theorem sc_decode : FnScope ["text", "item", "end"] ["text"] (defScope s_decode) := ⟨rfl, rfl, rfl, by decide +kernel, rfl, by decide +kernel, by decide +kernel⟩

abbrev s_chunk_address : Stmt := topS 29

theorem sc_chunk_address : FnScope ["piece"] ["piece"] (defScope s_chunk_address) := ⟨rfl, rfl, rfl, by decide +kernel, rfl, by decide +kernel, by decide +kernel⟩

abbrev s_count_entries : Stmt := topS 31

theorem sc_count_entries : FnScope ["level", "entries", "entry"] ["level", "entries"] (defScope s_count_entries) := ⟨rfl, rfl, rfl, by decide +kernel, rfl, by decide +kernel, by decide +kernel⟩

abbrev s_read_chunk : Stmt := topS 30

theorem sc_read_chunk : FnScope ["chunks", "address", "chunk"] ["chunks", "address"] (defScope s_read_chunk) := ⟨rfl, rfl, rfl, by decide +kernel, rfl, by decide +kernel, by decide +kernel⟩

abbrev s_read_pieces : Stmt := topS 27

theorem sc_read_pieces : FnScope ["chunks", "address", "level", "entries", "entry"] ["chunks", "address"] (defScope s_read_pieces) := ⟨rfl, rfl, rfl, by decide +kernel, rfl, by decide +kernel, by decide +kernel⟩

abbrev s_open_piece : Stmt := topS 28

theorem sc_open_piece : FnScope ["chunks", "piece"] ["chunks", "piece"] (defScope s_open_piece) := ⟨rfl, rfl, rfl, by decide +kernel, rfl, by decide +kernel, by decide +kernel⟩

abbrev s_put_chunk : Stmt := topS 32

theorem sc_put_chunk : FnScope ["chunks", "level", "entries", "text"] ["chunks", "level", "entries"] (defScope s_put_chunk) := ⟨rfl, rfl, rfl, by decide +kernel, rfl, by decide +kernel, by decide +kernel⟩

abbrev s_pack_level : Stmt := topS 34

theorem sc_pack_level : FnScope ["chunks", "level", "pieces", "waiting", "packed", "part", "piece", "piece_level", "entry"] ["chunks", "level", "pieces"] (defScope s_pack_level) := ⟨rfl, rfl, rfl, by decide +kernel, rfl, by decide +kernel, by decide +kernel⟩

abbrev s_join : Stmt := topS 33

theorem sc_join : FnScope ["chunks", "pieces", "level"] ["chunks", "pieces"] (defScope s_join) := ⟨rfl, rfl, rfl, by decide +kernel, rfl, by decide +kernel, by decide +kernel⟩

abbrev s_build : Stmt := topS 24

theorem sc_build : FnScope ["chunks", "entries", "entry"] ["chunks", "entries"] (defScope s_build) := ⟨rfl, rfl, rfl, by decide +kernel, rfl, by decide +kernel, by decide +kernel⟩

abbrev s_height : Stmt := topS 25

theorem sc_height : FnScope ["chunks", "root", "level", "_"] ["chunks", "root"] (defScope s_height) := ⟨rfl, rfl, rfl, by decide +kernel, rfl, by decide +kernel, by decide +kernel⟩

abbrev s_reachable : Stmt := topS 26

theorem sc_reachable : FnScope ["chunks", "root", "addresses", "unread", "level", "entries", "below", "entry"] ["chunks", "root"] (defScope s_reachable) := ⟨rfl, rfl, rfl, by decide +kernel, rfl, by decide +kernel, by decide +kernel⟩

abbrev s_law_rest : Stmt := topS 51

theorem sc_law_rest : FnScope ["width", "parts", "part"] ["width", "parts"] (defScope s_law_rest) := ⟨rfl, rfl, rfl, by decide +kernel, rfl, by decide +kernel, by decide +kernel⟩

abbrev s_law_entries : Stmt := topS 52

theorem sc_law_entries : FnScope ["script", "head", "first", "bounds", "count", "shape", "width", "rests", "k", "parts", "key"] ["script", "head", "first"] (defScope s_law_entries) := ⟨rfl, rfl, rfl, by decide +kernel, rfl, by decide +kernel, by decide +kernel⟩

abbrev s_law_listed : Stmt := topS 53

theorem sc_law_listed : FnScope ["rests", "key"] ["rests"] (defScope s_law_listed) := ⟨rfl, rfl, rfl, by decide +kernel, rfl, by decide +kernel, by decide +kernel⟩

abbrev s_law_same_list : Stmt := topS 54

theorem sc_law_same_list : FnScope ["actual", "expected"] ["actual", "expected"] (defScope s_law_same_list) := ⟨rfl, rfl, rfl, by decide +kernel, rfl, by decide +kernel, by decide +kernel⟩

abbrev s_law_groups : Stmt := topS 57

theorem sc_law_groups : FnScope ["level", "entries", "groups", "group", "entry", "ends"] ["level", "entries"] (defScope s_law_groups) := ⟨rfl, rfl, rfl, by decide +kernel, rfl, by decide +kernel, by decide +kernel⟩

abbrev s_law_levels : Stmt := topS 58

theorem sc_law_levels : FnScope ["book", "entries", "levels", "items", "level", "texts", "above", "group", "text", "many", "entry"] ["book", "entries"] (defScope s_law_levels) := ⟨rfl, rfl, rfl, by decide +kernel, rfl, by decide +kernel, by decide +kernel⟩

abbrev s_law : Stmt := topS 59

theorem sc_law : FnScope ["script", "head", "entries", "book", "chunks", "root", "levels", "addresses", "texts", "text", "address"] ["script"] (defScope s_law) := ⟨rfl, rfl, rfl, by decide +kernel, rfl, by decide +kernel, by decide +kernel⟩

abbrev s_MissingChunk___init : Stmt := inClass (topS 5) 0

theorem sc_MissingChunk___init : NdefX.NScope ["self", "address", "__class__"] ["self", "address"] [Str.ofString "__class__"] (defScope s_MissingChunk___init) := NdefX.nscope_by (by decide +kernel)

/-! ### what is raised -/
theorem okN {P : Program} {w : World} {K : PySem.W.Frag} {mg : Str → Option Value} {base : Heap} {x qual : Str} {st : Stmt} {f : Addr} {fd : FuncData} {N ps : List Str} {k : Nat} {sp : Sp} (F : Fun K x qual st f fd) (S : FnScope N ps (defScope st)) (len : ∀ vs H Q E, sp vs H Q E → vs.length = ps.length)
    (hb : ∀ (cdv : Value) (A : Around) (outer : List Env) (s : Shared) (H : Hp) (vs : List V) (Q : VK) (E : XK), Room k (A.deeper (envOfC qual (defScope st) s.heap.objs.size f cdv)) → sp vs H Q E →
      ∃ t, PSs (cxOf (L2N.CX P w) P w K mg base N qual (defScope st) f cdv A outer s H E) (defBody st) t ∧ t { nx := fun _ H' => Q .non H', rt := Q } (start N vs) H) : FnOk P w K mg base (L2N.CX P w) (k + 1) f fd ps sp := by
  obtain ⟨oc, od, kV, doc, pm, an, cdv, ct, osl, rfl, lk, hcd⟩ := F.ex
  exact fn_of lk hcd S len fun A outer s H vs Q E hr h => hb cdv A outer s H vs Q E hr h
/-- a reading that holds where P does -/
theorem pss_given {X : Cx} {sts : List Stmt} {t : TS} {P : Prop} (h : P → PSs X sts t) : PSs X sts (fun D σ H => P ∧ t D σ H) := ⟨fun pins s σ H D I z => (h z.1).run pins s σ H D I z.2⟩
theorem zc_of {cls : Value} {d : Option Addr} {C : Addr} {oe : Obj} (p : cls = .ref C ∧ d = none) (h : Zc cls d oe) : Zc (.ref C) none oe := by
  obtain ⟨rfl, rfl⟩ := p
  exact h
theorem ev_isE {K : PySem.W.Frag} {D a : Addr} {σ : L2.St} {H : Hp} {te : TE} {c : V} {cv : Value} {b : Bool} (h : Ev te σ H (.ref a)) (hc : ∀ u, RelV c u → u = cv) (hk : PySem.W.kitOne K (.ref D) cv = some b) : Ev (tCB (rIsE K D a) (tCons te (tCons (tC c) tNil))) σ H (.bl b) := fun H1 e Q q =>
  h H1 e _ fun H2 e2 => ⟨c, cv, b, rfl, hc, hk, q H2 e2⟩
theorem s_callE {sp : Sp} {dvs vs : List V} {E : XK} {ta : TA} {σ : L2.St} {H : Hp} {D : Ends} (h : EvA ta σ H vs) (k : ∀ H1 Q, Ex H H1 → sp (vs ++ dvs) H1 Q E) : tRet (tCall sp dvs E ta) D σ H := h H (Ex.refl H) _ fun H1 e1 => k H1 _ e1
theorem q_callE {sp : Sp} {dvs vs : List V} {E : XK} {ta : TA} {σ : L2.St} {H : Hp} {tz : TS} {D : Ends} {i : Nat} (h : EvA ta σ H vs) (k : ∀ H1 Q, Ex H H1 → sp (vs ++ dvs) H1 Q E) : tSeq (tAsg (tCall sp dvs E ta) (gName i)) tz D σ H := h H (Ex.refl H) _ fun H1 e1 => k H1 _ e1
/-- in a try's body -/
theorem s_callT {sp : Sp} {vs : List V} {E : L2.St → XK} {ta : TA} {g : TG} {σ : L2.St} {H : Hp} {D : Ends} (h : EvA ta σ H vs) (k : ∀ H1 Q, Ex H H1 → sp vs H1 Q (E σ)) : tAsg (tCallS sp E ta) g D σ H := h H (Ex.refl H) _ fun H1 e1 => k H1 _ e1
theorem s_dropT {sp : Sp} {vs : List V} {E : L2.St → XK} {ta : TA} {σ : L2.St} {H : Hp} {D : Ends} (h : EvA ta σ H vs) (k : ∀ H1 Q, Ex H H1 → sp vs H1 Q (E σ)) : tDrop (tCallS sp E ta) D σ H := h H (Ex.refl H) _ fun H1 e1 => k H1 _ e1
/-- an own error class, as the text has it -/
structure XcC (K : PySem.W.Frag) (mg : Str → Option Value) (x : Str) (C : Addr) : Prop where
  g : mg x = some (.ref C)
  x : PySem.W.excIn K C [.type "ValueError", .type "Exception", .type "BaseException", .type "object"] "ValueError.__new__" = true
  kp : PySem.W.keepIn K (.ref C) = true
  b : PySem.W.subIn K (.ref C) (.type "BaseException") = some true
  t : PySem.W.typeIn K (.ref C) = some (.type "type")
  s : PySem.W.subIn K (.ref C) (.ref C) = some true
  is : ExcC K C
theorem XcC.self {K : PySem.W.Frag} {mg : Str → Option Value} {x : Str} {C : Addr} (T : XcC K mg x C) : PySem.W.exmOne K (.ref C) (.ref C) = some true := PySem.W.exm_ref T.b T.is.hd T.t T.s
/-! try .. except X as n: .. and further clauses; what is raised is X's -/
def wAs1 (K : PySem.W.Frag) (c : Value) (i : Nat) (ts : Addr → Value → Option Addr → TS) (D : Ends) : WX := fun cls d σ H =>
  PySem.W.exmOne K cls c = some true ∧ ∀ a, H a = none → ts a cls d { nx := fun _ _ => False, rt := D.rt, bk := fun _ _ => False, ct := fun _ _ => False } (σ.set i (some (.ref a))) H
theorem ps_try_as1 {X : Cx} {x n : Str} {c : Value} {i : Nat} {body suite : List Stmt} {b₀ : Stmt} {np pos pos' : Pos} {more : List ExceptHandler} {tb : WX → TS} {ts : Addr → Value → Option Addr → TS}
    (hs : X.stack = X.env :: X.outer) (hf : X.env.frame = some X.env.locals) (hN : X.N.Nodup) (hi : X.N[i]? = some n) (hln : X.env.kindOf n = some .local) (hc : Names X x c)
    (hb : ∀ (W : WX) (pn : List (Addr × Obj)) (xe : Value → Shared → Prop), L2N.Takes (X.tr pn xe) W → PSs (X.tr pn xe) body (tb W))
    (hsu : ∀ (a : Addr) (oe : Obj) (cls : Value) (d : Option Addr) (pn : List (Addr × Obj)), Zc cls d oe → (∃ vs, oe.data = .fields vs) → PSs (X.suite a ((a, oe) :: pn)) (b₀ :: suite) (ts a cls d)) :
    PS X (.Try body (.ExceptHandler (some (.Name x np)) (some n) (b₀ :: suite) pos' :: more) [] [] pos) (fun D σ H => tb (wAs1 X.K c i ts D) D σ H) := by
  refine ⟨fun pins s σ H D I h => ?_⟩
  have ok := I.ok
  have frames : X.A.frames = some (X.env :: X.outer) := by rw [ok.frames, hs]
  refine wpAny_Try_except (wpAny_mono ((hb (wAs1 X.K c i ts D) (X.pn ++ pins) _ fun u s' z => ?_).run [] s σ H D (I.toTry _) h) (fun f s1 q => ?_) fun e s1 z => z)
  · obtain ⟨a, B, sI, pins', σ', H', cls, d, rfl, J', nb, up, sky, na, os, ag, hx, hy⟩ := z
    have J : Inv X pins σ' H' sI := J'.ofTry ok
    have sky' : L2.Sky B (X.env :: X.outer) a (L2N.Zn cls d) X.env.locals s'.heap := by rw [← hs]; exact sky
    show wpAny (model X.prog X.w) X.A (noteFrame (.ref a) X.env) _ _ _
    refine L2N.Sky.land L2N.Zn.steady frames hf sky' fun h3 fl up3 => ?_
    have J3 : Inv X pins σ' H' { s' with heap := h3 } := J.landed nb fl.1 (up.trans up3) os ag
    obtain ⟨o3, v3, g3, z3, d3⟩ := fl.there
    have nfr : a ∉ frs (X.env :: X.outer) := fun hm => by
      obtain ⟨_, o', e', no⟩ := fl.2.2.1.mem hm
      rw [g3] at e'
      cases e'
      exact no _ d3
    have nL : a ≠ X.env.locals := fun y => nfr (List.mem_filterMap.mpr ⟨X.env, List.mem_cons_self, by rw [hf, y]⟩)
    have nF : a ∉ X.fs := fun hm => by
      obtain ⟨e, he, q⟩ := List.mem_filterMap.mp hm
      exact nfr (List.mem_filterMap.mpr ⟨e, List.mem_cons_of_mem _ he, q⟩)
    have S3 := J3.suite g3 d3 na nL nF
    have LT : PySem.W.Looks (model X.prog X.w) h3 (typeOf (.ref a)) cls := fun A Q E s k q => wpAny_typeOf_ref (k _ _ g3) (by rw [z3.1]; exact q)
    have LM := PySem.W.exm_one (M := model X.prog X.w) J3.kIn LT hx
    refine wpAny_handleBy_cons (codeAny_handlers_test ?_) (by intro q; cases q)
    have test : ∀ {Q : Value → Shared → Prop} {E : Value → Shared → Prop}, Q c { s' with heap := h3 } → wpAny (model X.prog X.w) (X.A.mark (some (.ref a))) (eval (.Name x np) X.env) Q E { s' with heap := h3 } := fun q => by
      obtain ⟨hg, hd, hm | ⟨hm, hv, hn⟩⟩ := hc
      · exact ld_glob (X := X.suite a ((a, o3) :: (X.pn ++ pins))) S3 hg hm q hd
      · exact ld_blt (X := X.suite a ((a, o3) :: (X.pn ++ pins))) S3 hg hm hv q hn hd
    refine test (LM.here (codeAny_handlers_suite_as (HandSPX.lands_againZ fl fun h4 fl4 up4 => ?_)))
    have J4 : Inv X pins σ' H' { s' with heap := h4 } := J.landed nb fl4.1 ((up.trans up3).trans up4) os ag
    obtain ⟨o4, v4, g4, z4, d4⟩ := fl4.there
    refine store_ok (X := X.suite a ((a, o4) :: (X.pn ++ pins))) (v := .ref a) (J4.suite g4 d4 na nL nF) hN hi (.inl hln) rfl (fun s5 S5 => ?_) (.inr hln)
    refine wpAny_mono ((hsu a o4 cls d (X.pn ++ pins) ⟨z4.1, z4.2.1⟩ ⟨_, d4⟩).run [] s5 _ H' _ S5 (hy a na)) (fun f s6 q => ?_) (fun _ _ z => z.elim)
    cases f with
    | next =>
      obtain ⟨_, _, _, z⟩ := q
      exact z.elim
    | brk =>
      obtain ⟨_, _, _, z⟩ := q
      exact z.elim
    | cont =>
      obtain ⟨_, _, _, z⟩ := q
      exact z.elim
    | ret u =>
      obtain ⟨v6, σ6, H6, S6, r6, q6⟩ := q
      exact gone_ok (S6.unsuite ok) hN hi hln fun s7 J7 => ⟨_, _, _, J7, r6, q6⟩
  · cases f with
    | next =>
      obtain ⟨σ', H', J', z⟩ := q
      exact wpAny_execs_nil ⟨σ', H', J'.ofTry ok, z⟩
    | brk =>
      obtain ⟨σ', H', J', z⟩ := q
      exact ⟨σ', H', J'.ofTry ok, z⟩
    | cont =>
      obtain ⟨σ', H', J', z⟩ := q
      exact ⟨σ', H', J'.ofTry ok, z⟩
    | ret u =>
      obtain ⟨v, σ', H', J', r, z⟩ := q
      exact ⟨v, σ', H', J'.ofTry ok, r, z⟩
/-- as ps_try_as1, for what was raised while another error was handled -/
theorem ps_try_as2 {X : Cx} {x n : Str} {c : Value} {i : Nat} {body suite : List Stmt} {b₀ : Stmt} {np pos pos' : Pos} {more : List ExceptHandler} {tb : WX → TS} {ts : Addr → Value → Option Addr → TS}
    (hs : X.stack = X.env :: X.outer) (hf : X.env.frame = some X.env.locals) (hN : X.N.Nodup) (hi : X.N[i]? = some n) (hln : X.env.kindOf n = some .local) (hc : Names X x c)
    (hb : ∀ (W : WX) (pn : List (Addr × Obj)) (xe : Value → Shared → Prop), L2.Takes (X.tr pn xe) W → PSs (X.tr pn xe) body (tb W))
    (hsu : ∀ (a : Addr) (oe : Obj) (cls : Value) (d : Option Addr) (pn : List (Addr × Obj)), Zc cls d oe → (∃ vs, oe.data = .fields vs) → PSs (X.suite a ((a, oe) :: pn)) (b₀ :: suite) (ts a cls d)) :
    PS X (.Try body (.ExceptHandler (some (.Name x np)) (some n) (b₀ :: suite) pos' :: more) [] [] pos) (fun D σ H => tb (wAs1 X.K c i ts D) D σ H) := by
  refine ⟨fun pins s σ H D I h => ?_⟩
  have ok := I.ok
  have frames : X.A.frames = some (X.env :: X.outer) := by rw [ok.frames, hs]
  refine wpAny_Try_except (wpAny_mono ((hb (wAs1 X.K c i ts D) (X.pn ++ pins) _ fun u s' z => ?_).run [] s σ H D (I.toTry _) h) (fun f s1 q => ?_) fun e s1 z => z)
  · obtain ⟨a, B, sI, pins', σ', H', cls, d, rfl, J', nb, up, sky, na, os, ag, hx, hy⟩ := z
    have J : Inv X pins σ' H' sI := J'.ofTry ok
    have sky' : L2.Sky B (X.env :: X.outer) a (Zc cls d) X.env.locals s'.heap := by rw [← hs]; exact sky
    show wpAny (model X.prog X.w) X.A (noteFrame (.ref a) X.env) _ _ _
    refine L2.Sky.land Zc.steady frames hf sky' fun h3 fl up3 => ?_
    have J3 : Inv X pins σ' H' { s' with heap := h3 } := J.landed nb fl.1 (up.trans up3) os ag
    obtain ⟨o3, v3, g3, z3, d3⟩ := fl.there
    have nfr : a ∉ frs (X.env :: X.outer) := fun hm => by
      obtain ⟨_, o', e', no⟩ := fl.2.2.1.mem hm
      rw [g3] at e'
      cases e'
      exact no _ d3
    have nL : a ≠ X.env.locals := fun y => nfr (List.mem_filterMap.mpr ⟨X.env, List.mem_cons_self, by rw [hf, y]⟩)
    have nF : a ∉ X.fs := fun hm => by
      obtain ⟨e, he, q⟩ := List.mem_filterMap.mp hm
      exact nfr (List.mem_filterMap.mpr ⟨e, List.mem_cons_of_mem _ he, q⟩)
    have S3 := J3.suite g3 d3 na nL nF
    have LT : PySem.W.Looks (model X.prog X.w) h3 (typeOf (.ref a)) cls := fun A Q E s k q => wpAny_typeOf_ref (k _ _ g3) (by rw [z3.1]; exact q)
    have LM := PySem.W.exm_one (M := model X.prog X.w) J3.kIn LT hx
    refine wpAny_handleBy_cons (codeAny_handlers_test ?_) (by intro q; cases q)
    have test : ∀ {Q : Value → Shared → Prop} {E : Value → Shared → Prop}, Q c { s' with heap := h3 } → wpAny (model X.prog X.w) (X.A.mark (some (.ref a))) (eval (.Name x np) X.env) Q E { s' with heap := h3 } := fun q => by
      obtain ⟨hg, hd, hm | ⟨hm, hv, hn⟩⟩ := hc
      · exact ld_glob (X := X.suite a ((a, o3) :: (X.pn ++ pins))) S3 hg hm q hd
      · exact ld_blt (X := X.suite a ((a, o3) :: (X.pn ++ pins))) S3 hg hm hv q hn hd
    refine test (LM.here (codeAny_handlers_suite_as (HandSPX.lands_againZ fl fun h4 fl4 up4 => ?_)))
    have J4 : Inv X pins σ' H' { s' with heap := h4 } := J.landed nb fl4.1 ((up.trans up3).trans up4) os ag
    obtain ⟨o4, v4, g4, z4, d4⟩ := fl4.there
    refine store_ok (X := X.suite a ((a, o4) :: (X.pn ++ pins))) (v := .ref a) (J4.suite g4 d4 na nL nF) hN hi (.inl hln) rfl (fun s5 S5 => ?_) (.inr hln)
    refine wpAny_mono ((hsu a o4 cls d (X.pn ++ pins) z4 ⟨_, d4⟩).run [] s5 _ H' _ S5 (hy a na)) (fun f s6 q => ?_) (fun _ _ z => z.elim)
    cases f with
    | next =>
      obtain ⟨_, _, _, z⟩ := q
      exact z.elim
    | brk =>
      obtain ⟨_, _, _, z⟩ := q
      exact z.elim
    | cont =>
      obtain ⟨_, _, _, z⟩ := q
      exact z.elim
    | ret u =>
      obtain ⟨v6, σ6, H6, S6, r6, q6⟩ := q
      exact gone_ok (S6.unsuite ok) hN hi hln fun s7 J7 => ⟨_, _, _, J7, r6, q6⟩
  · cases f with
    | next =>
      obtain ⟨σ', H', J', z⟩ := q
      exact wpAny_execs_nil ⟨σ', H', J'.ofTry ok, z⟩
    | brk =>
      obtain ⟨σ', H', J', z⟩ := q
      exact ⟨σ', H', J'.ofTry ok, z⟩
    | cont =>
      obtain ⟨σ', H', J', z⟩ := q
      exact ⟨σ', H', J'.ofTry ok, z⟩
    | ret u =>
      obtain ⟨v, σ', H', J', r, z⟩ := q
      exact ⟨v, σ', H', J'.ofTry ok, r, z⟩
/-- raise X('..') from None in an except suite -/
theorem ps_raiseFN {X : Cx} {W : WX} {x m : Str} {C : Addr} {j j2 : Nat} {p p2 pos cpos pos2 : Pos} (hot : L2H.HotC X) (tk : L2.Takes X W) (T : XcC X.K X.mg x C) (hx : X.ex = []) (hg : Gl X x) (hdb : (x == ("__debug__" : Str)) = false) :
    PS X (.Raise (some (.Call (.Name x p) [.Constant (.str m) j p2] [] pos)) (some (.Constant .none j2 cpos)) pos2) (fun _ σ H => Ex X.H_0 H ∧ W (.ref C) none σ H) := by
  refine ⟨fun pins s σ H D I h => (L2H.ps_raiseHN hot tk (pmk_ret5 hx (pe_exc1 PySem.F.excBase_ValueError T.x T.g T.kp hg pe_str (by rfl) hdb))).run pins s σ H D I ?_⟩
  exact fun a ha => ⟨a, _, rfl, upd_same, fr0_none (fresh_back h.1 ha), L2.raises_own T.b T.t, by rw [delH_new ha]; exact h.2⟩
theorem _root_.L2.FnOk.both {P : Program} {w : World} {K : PySem.W.Frag} {mg : Str → Option Value} {base : Heap} {CX : CXT} {k : Nat} {f : Addr} {fd : FuncData} {ps : List Str} {sp0 sp1 : Sp} (F0 : FnOk P w K mg base CX0 k f fd ps sp0) (F1 : FnOk P w K mg base CX k f fd ps sp1) : FnOk P w K mg base CX k f fd ps (fun vs H Q E => sp0 vs H Q E ∨ sp1 vs H Q E) :=
  ⟨fun vs H Q E h => h.elim (F0.len vs H Q E) (F1.len vs H Q E), fun A outer s H args us vs Q E hr e0 hb r h => h.elim (fun h => codeAny_mono (F0.run A outer s H args us vs Q E hr e0 hb r h) fun res s' z => by
    cases res with
    | error e => exact False.elim z
    | ok f => cases f <;> exact z) (fun h => F1.run A outer s H args us vs Q E hr e0 hb r h)⟩
theorem s_callEA {sp : Sp} {dvs vs : List V} {E : XK} {ta : TA} {g : TG} {σ : L2.St} {H : Hp} {D : Ends} (h : EvA ta σ H vs) (k : ∀ H1 Q, Ex H H1 → sp (vs ++ dvs) H1 Q E) : tAsg (tCall sp dvs E ta) g D σ H := h H (Ex.refl H) _ fun H1 e1 => k H1 _ e1
theorem s_ifX {sp : Sp} {dvs vs : List V} {E : XK} {ta : TA} {tb : TE} {r : R2} {tu tw : TS} {σ : L2.St} {H : Hp} {D : Ends} (h : EvA ta σ H vs) (k : ∀ H1 Q, Ex H H1 → sp (vs ++ dvs) H1 Q E) : tIfS (tTest (tOp r (tCall sp dvs E ta) tb)) tu tw D σ H := h H (Ex.refl H) _ fun H1 e1 => k H1 _ e1
theorem t_testX {sp : Sp} {dvs vs : List V} {E : XK} {ta : TA} {tb : TE} {r : R2} {σ : L2.St} {H : Hp} {Q : Bool → Hp → Prop} (h : EvA ta σ H vs) (k : ∀ H1 Q, Ex H H1 → sp (vs ++ dvs) H1 Q E) : tTest (tOp r (tCall sp dvs E ta) tb) σ H Q := h H (Ex.refl H) _ fun H1 e1 => k H1 _ e1
theorem q_whileX {t : TT} {tu tz : TS} {σ : L2.St} {H : Hp} {D : Ends} (W : Nat → L2.St → Hp → Prop) (m0 : Nat) (h0 : W m0 σ H)
    (hs : ∀ m σ' H', W m σ' H' → t σ' H' fun b H1 => if b = true then ∃ N : L2.St → Hp → Prop, (∀ σ2 H2, N σ2 H2 → ∃ m', m' < m ∧ W m' σ2 H2) ∧ tu { D with nx := N, ct := N, bk := tz D } σ' H1 else tz D σ' H1) : tSeq (tWhile t tu) tz D σ H := ⟨W, ⟨m0, h0⟩, hs⟩
theorem pre_le {xs ys t u : List Nat} (h : xs ++ ys = t ++ u) (hl : t.length ≤ xs.length) : ∃ rest, xs = t ++ rest := by
  have e := congrArg (List.take t.length) h
  rw [List.take_append_of_le_length hl, List.take_left] at e
  have z := (List.take_append_drop t.length xs).symm
  rw [e] at z
  exact ⟨_, z⟩
theorem pre_one {xs t r : List Nat} {y c : Nat} (h : xs ++ [y] = t ++ (c :: r)) : ∃ rest, xs = t ++ rest := by
  refine pre_le h ?_
  have := congrArg List.length h
  simp only [List.length_append, List.length_cons, List.length_nil] at this
  omega


/-! ### super().__init__(..) in an error class over ValueError -/
section
open PySem PySem.W PySem.Spec PyProof.Rows L2
variable {prog : Program} {w : World} {A : Around} {E : Value → Shared → Prop} {h : Heap} {g : Array GenState} {d : Drawn} {t : Nat} {os : OsState}
/-- the bound __init__ is called: the exception's args are laid anew -/
theorem sup_bw {nm q : Str} {C N : Addr} {bs bm : List Value} {hdct : Bool} {sn : List Str} {sub : List Value} {ab : Bool} {col : Option Bool} {dd : Option Addr} {k0 k1 k2 k3 k5 : Option Value} {u e t0 : Addr} {rest : List Value} {Q : Value → Shared → Prop}
    (hC : h.get? C = some (excClassObj nm q C N bs bm hdct sn sub ab col dd k0 k1 k2 k3 k5 "ValueError.__new__")) (he : h.get? e = some (HandSPX.excO C t0)) (hu : h.get? u = some (kxs_mw "ValueError.__init__" e)) (hrest : rest.length ≤ sizeLine)
    (hq : ∀ h' t1, (∀ b o, b ≠ e → h.get? b = some o → h'.get? b = some o) → h'.get? e = some (HandSPX.excO C t1) → Q .none ⟨h', g, d, t, os⟩) :
    wpAny (model prog w) A (call (.ref u) rest) Q E ⟨h, g, d, t, os⟩ := by
  refine wpAny_call (codeAny_of_tree (show wpAny _ A.in1 (callAny (.ref u) ⟨rest, []⟩) _ _ _ from ?_))
  simp only [callAny]
  refine wpAny_bind (m := load u) (wpAny_load hu ?_)
  simp only [show (Value.type "method-wrapper" == Value.type "method" || Value.type "method-wrapper" == Value.type "builtin_function_or_method" || Value.type "method-wrapper" == Value.type "method-wrapper") = true from by decide, if_true]
  refine KFB.if_so (by decide) (wpAny_bind (check_bound_init F.excBase_ValueError.toExcCallFacts hC he rfl (wpAny_bind (wpAny_pure (wpAny_pure ?_)))))
  refine ⟨plainId_quiet F.excBase_ValueError.init.plain _, codeAny_builtin F.excBase_ValueError.initEntry (exc_init_tree (cls := .ref C) (t0 := t0) (dv := none) (c2 := .none) (c3 := .none) (b4 := .bool false) he hrest fun h' k e' _ => ?_)⟩
  exact hq h' h.objs.size k e'
end
section
open PySem PySem.W PySem.Spec PyProof.Rows L2
/-- a body, from some statement on, in the activation that is known -/
def PSA (X : Cx) (body sts : List Stmt) (t : TS) : Prop := ∀ (pins : List (Addr × Obj)) (s : Shared) (σ : L2.St) (H : Hp) (D : Ends), Inv X pins σ H s → t D σ H → _root_.PySem.wpAt (model X.prog X.w) X.A (.func body X.env) (execs sts X.env) (SP X pins D) X.xe s
/-- what the written part says of such an __init__ -/
structure SupK (K : PySem.W.Frag) (prog : Program) (C f cc cda : Addr) : Prop where
  fn : ∃ oc od fd osl ar, K.lookup f = some ⟨oc, od, .func fd, osl⟩ ∧ (fd.params.posonlyargs ++ fd.params.args).head? = some ar ∧ ar.arg = Str.ofString "self"
  code : ∃ ccl cdd vs ccs file tf, K.lookup cda = some ⟨ccl, cdd, .fields vs, ccs⟩ ∧ vs[2]? = some (.str file tf) ∧ (prog.main.file == file) = true
  cell : ∃ cl cld csl, K.lookup cc = some ⟨cl, cld, .cell (some (.ref C)), csl⟩
  init : ks_superIn K C C "__init__" = some (some (.builtin "ValueError.__init__"))
  tp : nsIn K cStatics "thirdparty.any" = some none
  mro : mroIn K C (.ref C) = some true
  ve : subIn K (.ref C) (.type "ValueError") = some true
/-- super().__init__(e, ..) -/
def tSup (C : Addr) (ta : TA) : TS := fun D σ H => ∃ a : Addr, σ[0]? = some (some (.ref a)) ∧ H a = some (exo a C none) ∧ ta σ H fun vs H1 => vs.length ≤ 1000 ∧ H1 a = some (exo a C none) ∧ D.nx σ H1
theorem pssa_sup {X : Cx} {C f cc cda : Addr} {body rest : List Stmt} {e : Expr} {es : List Expr} {p0 p1 p2 p3 p4 : Pos} {ta : TA} {u : TS} (T : SupK X.K X.prog C f cc cda) (O : OexC X.K C) (hf : X.env.func = some f) (hco : X.env.code = .ref cda) (hcells : X.env.cells.lookup (Str.ofString "__class__") = some cc)
    (hks : X.env.kindOf "super" = some .globalImplicit) (hkc : X.env.kindOf "__class__" = some .free) (hm : X.mg "super" = none) (hself : X.N[0]? = some (Str.ofString "self")) (hkself : X.env.kindOf "self" = some .local) (htop : (X.prog.main.scope.names.lookup (Str.ofString "super")).isSome = false)
    (ha : PA X (e :: es) ta) (hu : PSs X rest u) (he : starEach (e :: es) X.env = (false, eval e X.env) :: starEach es X.env := by rfl) (hpl : (backTo p3 (starEach es X.env)).any (·.1) = false := by rfl)
    (hi : interactive X.env = false := by rfl) (hsw : swapsWith (.Call (.Attribute (.Call (.Name "super" p0) [] [] p1) "__init__" p2) (e :: es) [] p3) none p4.line X.env = pure false := by rfl)
    (hev : eval (.Call (.Attribute (.Call (.Name "super" p0) [] [] p1) "__init__" p2) (e :: es) [] p3) X.env = (do
      let ov ← attributeBase (.Call (.Name "super" p0) [] [] p1) "__init__" X.env (eval (.Call (.Name "super" p0) [] [] p1) X.env)
      standAt p2.atName
      let (f, first) ← holding [ov] (getMethod ov "__init__" (pure false))
      callWith p3 f first (backTo p3 (starEach (e :: es) X.env)) []) := by rfl) :
    PSA X body (.Expr (.Call (.Attribute (.Call (.Name "super" p0) [] [] p1) "__init__" p2) (e :: es) [] p3) p4 :: rest) (tSeq (tSup C ta) u) := by
  intro pins s σ H D I h
  obtain ⟨a, h0, hea, h⟩ := h
  obtain ⟨oc, od, fd, osl, ar, lkf, hhead, harg⟩ := T.fn
  obtain ⟨ccl, cdd, vs, ccs, file, tf, lkc, hvs, hfile⟩ := T.code
  obtain ⟨cl, cld, csl, lkl⟩ := T.cell
  obtain ⟨nm, q, N, bs, bm, sn, sub, ab, col, dd, k0, k1, k2, k3, k5, hC, hbm⟩ := O.cls
  have KX := I.kIn
  refine ks_wpAt_execs_cons (ks_wpAt_Expr_any (ks_wpAt_MethodCall (pl := pure false) ?_ hev) hi hsw)
  refine ks_wpAt_super_base hks hkc rfl hf (KX _ _ lkf) rfl hhead hco (KX _ _ lkc) rfl hvs hfile htop ?_
  obtain ⟨mb, b1, b2⟩ := I.mod.blt
  refine ks_loadName_global I.ok.kind hks (Calls.loadGlobal_builtin (by rw [I.ok.glob]; exact I.mod.glob.keeps I.bk) hm (by rw [I.ok.blt]; exact b1.keeps I.bk) ((b2 _ (by decide)).trans (by decide +kernel : bootBuiltins "super" = some (.type "super"))) ⟨rfl, ?_⟩)
  refine wpAny_loadName_free I.ok.kind hkc hcells ⟨_, KX _ _ lkl, rfl⟩ ?_
  obtain ⟨m, hn, hl⟩ := I.loc
  obtain ⟨w0, rw0, l⟩ := hl 0 _ (.ref a) hself h0 (.inl hkself)
  obtain rfl : w0 = Value.ref a := rw0
  have hma : m (Str.ofString "self") = some (Value.ref a) := by
    rcases l with ⟨_, z⟩ | ⟨z, _⟩
    · exact z
    · rcases z with z | z
      · have y := hkself.symm.trans z
        cases y
      · have y := hkself.symm.trans z
        cases y
  rw [harg]
  refine wpAny_loadName_local I.ok.kind hkself hn hma ?_
  refine ks_wpAny_isType_cls (KX _ _ hC) rfl ⟨rfl, ?_⟩
  obtain ⟨t1, ho⟩ := exo_at I.hok hea
  obtain ⟨hp, gs, dr, tk, os⟩ := s
  refine ks_wpAny_call_super (KX _ _ hC) rfl ho rfl (fun c e => by cases e) (looks_mroIn KX T.mro) fun h' hso k => ?_
  have I1 : Inv X pins σ H ⟨h', gs, dr, tk, os⟩ := I.kept (t' := tk) k
  have hcl : clsIn X.K C = some { name := nm, bases := bs, mro := .ref C :: bm, ns := N, qualname := q, hasDict := true, slotNames := sn, subclasses := sub, abstract := ab, collection := col, hasDel := false } := by unfold clsIn; rw [hC] <;> rfl
  have hin := T.init
  unfold ks_superIn at hin
  rw [hcl] at hin
  have ne : a ≠ C := fun z => by
    have y := ho
    rw [z, KX _ _ hC] at y
    have y2 := congrArg Obj.data (Option.some.inj y)
    cases y2
  have hI : Looks (model X.prog X.w) h' (isInstance (.ref a) (.type "ValueError")) true := (InstAt.type (od := none) ⟨k _ _ ho, rfl, rfl, trivial⟩).andThen (looks_subIn I1.kIn T.ve)
  refine kxs_getMethod kxs_ValueError hso (looks_opaque I1.kIn T.tp) (l₀ := .ref C :: bm) (fun A Q E s k q => wpAny_bind ((looks_clsIn I1.kIn hcl) A _ E s k (wpAny_pure q))) rfl I1.kIn hin hI ne rfl ?_
  have hsz : h'.objs.size ≤ h'.objs.size := Nat.le_refl _
  have I2 : Inv X pins σ H ⟨h'.push (kxs_mw "ValueError.__init__" a), gs, dr, tk + 1, os⟩ := I1.kept (t' := tk + 1) fun b o e => Heap.get?_push_of_some _ e
  have hmw : (h'.push (kxs_mw "ValueError.__init__" a)).get? h'.objs.size = some (kxs_mw "ValueError.__init__" a) := Heap.get?_push_size _ rfl
  have I3 : Inv X (pins ++ pinsAt [h'.objs.size] (h'.push (kxs_mw "ValueError.__init__" a))) σ H ⟨h'.push (kxs_mw "ValueError.__init__" a), gs, dr, tk + 1, os⟩ := I2.pinned (fun b hb => by
    rw [List.mem_singleton.mp hb]
    exact I1.fpOk (Nat.le_refl _) (I1.hok.fresh (Nat.le_refl _))) fun b hb => by
    rw [List.mem_singleton.mp hb]
    exact ⟨_, hmw, fun v z => by cases z⟩
  have hmem := mem_pinsAt (fp := [h'.objs.size]) (List.mem_singleton.mpr rfl) hmw
  refine kxs_callWith (i := "ValueError.__init__") (x := a) (by rw [he]; show (false || (backTo p3 (starEach es X.env)).any (·.1)) = false; rw [hpl] <;> rfl) ?_
  have hargs := ha.run p3 _ _ σ H _ I3 h
  rw [he] at hargs ⊢
  refine Calls.evalArgs_plain (thn hargs fun us s1 hh => ?_)
  obtain ⟨vs2, H1, I4, r1, hz, hea1, q1⟩ := hh
  have hu1 := (I4.pin _ (List.mem_append_right _ (List.mem_append_right _ hmem))).1
  refine ⟨hu1, ?_⟩
  have I5 : Inv X pins σ H1 s1 := I4.unpinned
  obtain ⟨t2, ho2⟩ := exo_at I5.hok hea1
  have hus : us.length ≤ sizeLine := by
    rw [← Paired.length r1, sizeLine_eq]
    omega
  obtain ⟨hp1, g1, d1, tk1, os1⟩ := s1
  refine sup_bw (I5.kIn _ _ hC) ho2 hu1 hus fun h2 t3 kk hx => ?_
  have J := I5.write (t' := tk1) (x := a) (e := a) (o := exo a C none) (by rw [hea1]; exact True.intro) (.inl rfl) kk ⟨_, hx⟩ (exo_ok hx)
  have eu : upd H1 a (exo a C none) = H1 := by
    funext b
    by_cases hb : b = a
    · rw [hb, upd_same, hea1]
    · rw [upd_ne hb]
  rw [eu] at J
  exact wpAt_of_wpAny (hu.run pins _ σ H1 D J q1)
theorem one_look {x y : Str} {c d : Addr} : ([(x, c)] : List (Str × Addr)).lookup y = some d ↔ y = x ∧ d = c := by
  by_cases h : y = x
  · subst h
    simp [List.lookup, eq_comm]
  · have e : (y == x) = false := by simpa using h
    simp [List.lookup, e, h]
/-- the def whose body begins so -/
theorem fn_sup {CX : CXT} {P : Program} {w : World} {K : PySem.W.Frag} {mg : Str → Option Value} {base : Heap} {k : Nat} {f cc cda : Addr} {name qual : Str} {params : Arguments} {body : List Stmt} {scope : Scope} {dV kV doc pm ct oc : Value} {an od : Option Addr} {osl : Array (Option Value)} {N ps : List Str} {sp : Sp}
    (lk : K.lookup f = some ⟨oc, od, .func (fnX name qual params body scope [(Str.ofString "__class__", cc)] dV kV doc pm an (.ref cda) ct), osl⟩) (hcd : codeIn K (.ref cda) qual = true) (S : NdefX.NScope N ps [Str.ofString "__class__"] scope)
    (hcell : ∃ cl cld v csl, K.lookup cc = some ⟨cl, cld, .cell (some v), csl⟩)
    (len : ∀ vs H Q E, sp vs H Q E → vs.length = ps.length)
    (hbody : ∀ (A : Around) (outer : List Env) (s : Shared) (H : Hp) (vs : List V) (Q : VK) (E : XK), Room k (A.deeper (NdefX.envF ⟨name, qual, params, body, scope, [(Str.ofString "__class__", cc)], cda⟩ f s.heap.objs.size)) → sp vs H Q E →
      ∃ t, PSA (NdefX.ncx CX P w K mg base N ⟨name, qual, params, body, scope, [(Str.ofString "__class__", cc)], cda⟩ f A outer s H E) body body t ∧ t { nx := fun _ H' => Q .non H', rt := Q } (NdefX.startF N vs [none]) H) :
    FnOk P w K mg base CX (k + 1) f (fnX name qual params body scope [(Str.ofString "__class__", cc)] dV kV doc pm an (.ref cda) ct) ps sp := by
  refine ⟨len, fun A outer s H args us vs Q E hr e0 hb r hsp => ?_⟩
  have hl := len _ _ _ _ hsp
  have KX : K.In s.heap := e0.mod.kin.keeps fun b o e => (e0.bs b o e).1
  have lim : s.heap.NoLimit := e0.mod.nolimit.keeps fun b o e => (e0.bs b o e).1
  obtain ⟨cl, cld, v0, csl, lkl⟩ := hcell
  have hloc : ∀ y ∈ ps.zip us, scope.names.lookup y.1 = some .local := fun ⟨n, v⟩ hy => S.par n (List.of_mem_zip hy).1
  refine ks_codeAny_call_defAt (fd := fnX name qual params body scope [(Str.ofString "__class__", cc)] dV kV doc pm an (.ref cda) ct) hr.depth (KX _ _ lk) rfl lim (codeRec_of KX hcd) rfl hb S.nocell hloc (fun h₀ hns kp => ?_) S.co S.gen S.kind
  obtain ⟨t, ht, hq⟩ := hbody A outer s H vs Q E (hr.deeper _) hsp
  have C : NdefX.CellsAt [(Str.ofString "__class__", cc)] [Str.ofString "__class__"] [none] s.heap H := {
    len := rfl
    all := fun y c e => by
      rw [(one_look.mp e).2]
      exact ⟨(e0.bs _ _ (e0.mod.kin _ _ lkl)).2, _, _, KX _ _ lkl, rfl⟩
    inj := fun x y c e1 e2 => (one_look.mp e1).1.trans (one_look.mp e2).1.symm
    has := fun i y hy => by
      have hi : i < 1 := (List.getElem?_eq_some_iff.mp hy).1
      obtain rfl : i = 0 := by omega
      have hy2 : Str.ofString "__class__" = y := Option.some.inj hy
      subst hy2
      exact ⟨cc, one_look.mpr ⟨rfl, rfl⟩, fun v hv => by
        have := Option.some.inj hv
        cases this⟩ }
  have I : Inv (NdefX.ncx CX P w K mg base N ⟨name, qual, params, body, scope, [(Str.ofString "__class__", cc)], cda⟩ f A outer s H E) [] (NdefX.startF N vs [none]) H { s with heap := h₀, toks := s.toks + (ps.zip us).length } := NdefX.inv_startN S hr.hd e0 hl r C hns kp
  refine ks_wpAt_mono (ht [] _ (NdefX.startF N vs [none]) H _ I hq) (fun fl s' hs => ?_) fun e s' hs => hs
  have fin : ∀ {σ' : L2.St} {H' : Hp} {v : V} {u : Value}, Inv (NdefX.ncx CX P w K mg base N ⟨name, qual, params, body, scope, [(Str.ofString "__class__", cc)], cda⟩ f A outer s H E) [] σ' H' s' → L2.RelV v u → Q v H' → CE outer P w H s Q u s' :=
    fun {σ' H' v u} J rv q => ⟨v, H', J.os, J.bare, J.base, J.hok, rv, q⟩
  cases fl with
  | ret u =>
    obtain ⟨v, σ', H', J, rv, q⟩ := hs
    exact fin J rv q
  | next =>
    obtain ⟨σ', H', J, q⟩ := hs
    exact fin (v := V.non) (u := Value.none) J rfl q
  | brk =>
    obtain ⟨_, _, _, q⟩ := hs
    exact False.elim q
  | cont =>
    obtain ⟨_, _, _, q⟩ := hs
    exact False.elim q
end


/-! ### an own error class with an own __init__ that begins with super().__init__(..) -/
section
open PySem PySem.W PySem.Spec PyProof.Rows L2
structure XiC (K : PySem.W.Frag) (mg : Str → Option Value) (x : Str) (C : Addr) : Prop where
  g : mg x = some (.ref C)
  o : OexC K C
  s : PySem.W.subIn K (.ref C) (.ref C) = some true
  is : ExcC K C
theorem XiC.self {K : PySem.W.Frag} {mg : Str → Option Value} {x : Str} {C : Addr} (T : XiC K mg x C) : PySem.W.exmOne K (.ref C) (.ref C) = some true := PySem.W.exm_ref T.is.hs T.is.hd T.o.tyC T.s
theorem XiC.xf {K : PySem.W.Frag} {mg : Str → Option Value} {x : Str} {C : Addr} (T : XiC K mg x C) : XfC K C := ⟨T.is.hg, T.is.hk, T.is.hs, T.is.hd⟩
def oexB (K : PySem.W.Frag) (C : Addr) : Bool := match K.lookup C with
  | some ⟨.type "type", _, .cls cd, sl⟩ => (match cd.mro, sl.toList with
    | .ref C' :: bm, [_, _, _, _, some (.builtin n), _] => C' == C && n == "ValueError.__new__" && !cd.hasDel && cd.hasDict && PySem.HandSPX.refsVE bm
    | _, _ => false)
  | _ => false
theorem oexB_ok {K : PySem.W.Frag} {C : Addr} (q : oexB K C = true) : ∃ nm q N bs bm sn sub ab col dd k0 k1 k2 k3 k5, K.lookup C = some (excClassObj nm q C N bs bm true sn sub ab col dd k0 k1 k2 k3 k5 "ValueError.__new__") ∧ PySem.HandSPX.refsVE bm = true := by
  unfold oexB at q
  split at q
  · rename_i dd cd sl ho
    split at q
    · rename_i C' bm k0 k1 k2 k3 n k5 hm hs
      simp only [Bool.and_eq_true, beq_iff_eq, Bool.not_eq_true'] at q
      obtain ⟨⟨⟨⟨rfl, rfl⟩, hdel⟩, hdct⟩, ht⟩ := q
      obtain ⟨nm, bs, mro, ns, qn, hd, sn, sub, ab, col, del⟩ := cd
      dsimp only at hm hdel hdct
      subst hm hdel hdct
      have hsl : sl = #[k0, k1, k2, k3, some (.builtin "ValueError.__new__"), k5] := by
        obtain ⟨l⟩ := sl
        simp only at hs
        rw [hs]
      subst hsl
      exact ⟨nm, qn, ns, bs, bm, sn, sub, ab, col, dd, k0, k1, k2, k3, k5, ho, ht⟩
    · cases q
  · cases q
def supB (K : PySem.W.Frag) (prog : Program) (C cc cda : Addr) : Bool :=
  (match K.lookup cda with
  | some ⟨_, _, .fields vs, _⟩ => (match (vs[2]? : Option Value) with | some (.str file _) => prog.main.file == file | _ => false)
  | _ => false) && (match K.lookup cc with
  | some ⟨_, _, .cell (some (.ref C')), _⟩ => C' == C
  | _ => false) && !(prog.main.scope.names.lookup (Str.ofString "super")).isSome
theorem supB_ok {K : PySem.W.Frag} {prog : Program} {C cc cda : Addr} (h : supB K prog C cc cda = true) : (∃ ccl cdd vs ccs file tf, K.lookup cda = some ⟨ccl, cdd, .fields vs, ccs⟩ ∧ vs[2]? = some (.str file tf) ∧ (prog.main.file == file) = true) ∧
    (∃ cl cld csl, K.lookup cc = some ⟨cl, cld, .cell (some (.ref C)), csl⟩) ∧ (prog.main.scope.names.lookup (Str.ofString "super")).isSome = false := by
  unfold supB at h
  simp only [Bool.and_eq_true, Bool.not_eq_true'] at h
  obtain ⟨⟨h1, h2⟩, h3⟩ := h
  refine ⟨?_, ?_, h3⟩
  · split at h1
    · rename_i a b vs c ho
      split at h1
      · rename_i file tf hf
        exact ⟨_, _, _, _, _, _, ho, hf, h1⟩
      · cases h1
    · cases h1
  · split at h2
    · rename_i a b C' c ho
      rw [beq_iff_eq] at h2
      subst h2
      exact ⟨_, _, _, ho⟩
    · cases h2
/-- the def __init__ of such a class -/
structure FunX (K : PySem.W.Frag) (prog : Program) (qual : Str) (st : Stmt) (C f : Addr) (fd : FuncData) : Prop where
  ex : ∃ (oc : Value) (od : Option Addr) (kV doc pm : Value) (an : Option Addr) (cc cda : Addr) (ct : Value) (osl : Array (Option Value)),
    fd = PySem.W.fnX "__init__" qual (defArgs st) (defBody st) (defScope st) [(Str.ofString "__class__", cc)] .none kV doc pm an (.ref cda) ct ∧ K.lookup f = some ⟨oc, od, .func fd, osl⟩ ∧ PySem.W.codeIn K (.ref cda) qual = true ∧ SupK K prog C f cc cda
  iC : PySem.W.findIn K (.ref C) "__init__" = some (some (.ref f))
  tI : PySem.W.typeIn K (.ref f) = some (.type "function")
  top : (prog.main.scope.names.lookup (Str.ofString "super")).isSome = false
theorem funX_mk {K : PySem.W.Frag} {prog : Program} {qual : Str} {st : Stmt} {C f cc cda : Addr} {oc : Value} {od an : Option Addr} {osl : Array (Option Value)} {kV doc pm ct : Value} {ar : Arg}
    (l : K.lookup f = some ⟨oc, od, .func (PySem.W.fnX "__init__" qual (defArgs st) (defBody st) (defScope st) [(Str.ofString "__class__", cc)] .none kV doc pm an (.ref cda) ct), osl⟩)
    (c : PySem.W.codeIn K (.ref cda) qual = true) (i : PySem.W.findIn K (.ref C) "__init__" = some (some (.ref f))) (t : PySem.W.typeIn K (.ref f) = some (.type "function")) (b : supB K prog C cc cda = true)
    (hi : PySem.W.ks_superIn K C C "__init__" = some (some (.builtin "ValueError.__init__"))) (tp : PySem.W.nsIn K cStatics "thirdparty.any" = some none) (hm : PySem.W.mroIn K C (.ref C) = some true) (ve : PySem.W.subIn K (.ref C) (.type "ValueError") = some true)
    (h1 : ((defArgs st).posonlyargs ++ (defArgs st).args).head? = some ar) (h2 : ar.arg = Str.ofString "self") : FunX K prog qual st C f (PySem.W.fnX "__init__" qual (defArgs st) (defBody st) (defScope st) [(Str.ofString "__class__", cc)] .none kV doc pm an (.ref cda) ct) := by
  obtain ⟨b1, b2, b3⟩ := supB_ok b
  exact ⟨⟨oc, od, kV, doc, pm, an, cc, cda, ct, osl, rfl, l, c, ⟨⟨oc, od, _, osl, ar, l, h1, h2⟩, b1, b2, hi, tp, hm, ve⟩⟩, i, t, b3⟩
/-- what such an __init__ leaves: one field, its argument -/
def spExI (C : Addr) (f : Str) : Sp := fun vs H Q _ => ∃ (a : Addr) (n : Int), vs = [.ref a, .int n] ∧ H a = some (exo a C none) ∧ n.natAbs.log2 < 1920 ∧ ∀ H1, Evl.Ex H H1 → ∀ dx, H1 dx = none → dx ≠ a → Q .non (upd (upd H1 dx (exd dx [(f, .int n)])) a (exo a C (some dx)))
/-- isinstance(e, c), e held by the suite, with or without fields -/
theorem call_isEi {X : Cx} {a D : Addr} {oe : Obj} {d : Option Addr} {pn : List (Addr × Obj)} (C : ExcC X.K D) (hz : Zc (.ref D) d oe) (hf : ∃ vs, oe.data = .fields vs) :
    CallR (X.suite a ((a, oe) :: pn)) (.builtin "isinstance") (fun xs H Q => (∀ dd, d = some dd → ∃ fs, H dd = some (.xd fs)) ∧ rIsE X.K D a xs H Q) := by
  intro pins s σ H xs us Q I r h
  obtain ⟨hx, c, cv, b, rfl, hcv, e, q⟩ := h
  cases r with
  | cons rx rr =>
    cases rr with
    | cons rt rr =>
      cases rr
      cases rx
      have ec := hcv _ rt
      subst ec
      obtain ⟨hget, _⟩ := I.pin (a, oe) (List.mem_append.mpr (.inl List.mem_cons_self))
      obtain ⟨vs, hv⟩ := hf
      have J : ∃ od, PySem.W.InstAt s.heap a oe D od := by
        obtain ⟨oc, od, oda, osl⟩ := oe
        obtain ⟨h1, h2⟩ := hz
        dsimp only at h1 h2 hv
        subst h1 h2 hv
        cases od with
        | none => exact ⟨none, hget, rfl, rfl, trivial⟩
        | some dd =>
          obtain ⟨fs, ea⟩ := hx dd rfl
          have hx : ObjOk X.prog X.w H s.heap dd (.xd fs) := I.hok dd _ ea
          obtain ⟨mA, hns, hr⟩ := hx
          obtain ⟨od, ho, hl⟩ := lookIn_ns hns
          exact ⟨some od, hget, rfl, rfl, ho⟩
      obtain ⟨od, J⟩ := J
      have hcl : (PySem.W.clsIn X.K D).isSome = true := by
        obtain ⟨cd, hc, _⟩ := PySem.W.any_some C.hd
        rw [hc] <;> rfl
      exact PySem.W.kia_one (PySem.W.kitx_exc hcl C.hg C.hk C.hs C.ha C.hn C.ht C.hm) I.kIn J e (fun z => nomatch z) fun tk => ⟨.bl b, H, I.kept (t' := tk) fun _ _ z => z, rfl, q⟩
theorem ev_isEi {K : PySem.W.Frag} {D a : Addr} {σ : L2.St} {H : Hp} {te : TE} {d : Option Addr} {c : V} {cv : Value} {b : Bool} (h : Evl.Ev te σ H (.ref a)) (hx : ∀ dd, d = some dd → ∃ fs, H dd = some (.xd fs)) (hc : ∀ u, RelV c u → u = cv) (hk : PySem.W.kitOne K (.ref D) cv = some b) :
    Evl.Ev (tCB (fun xs H Q => (∀ dd, d = some dd → ∃ fs, H dd = some (.xd fs)) ∧ rIsE K D a xs H Q) (tCons te (tCons (tC c) tNil))) σ H (.bl b) := fun H1 e Q q =>
  h H1 e _ fun H2 e2 => ⟨fun dd z => by
    obtain ⟨fs, ea⟩ := hx dd z
    exact ⟨fs, (e.trans e2) _ _ ea⟩, c, cv, b, rfl, hc, hk, q H2 e2⟩
/-- e.f of the caught exception -/
theorem ev_xf {a C dd : Addr} {cls : Value} {d : Option Addr} {f : Str} {te : TE} {σ : L2.St} {H : Hp} {fs : List (Str × V)} {v : V} (h : Evl.Ev te σ H (.ref a)) (hc : cls = .ref C) (hd : d = some dd) (hx : H dd = some (.xd fs)) (hf : fs.lookup f = some v) : Evl.Ev (tXf a cls d C f te) σ H v := fun H1 e Q q =>
  h H1 e _ fun H2 e2 => ⟨rfl, hc, dd, fs, v, hd, (e.trans e2) _ _ hx, hf, q H2 e2⟩
end
section
open PySem PySem.W PySem.Spec PyProof.Rows L2
/-- C(e, ..), C's own __init__ keeping sp: what is made has no context yet -/
theorem pmkN_oex {X : Cx} {CX : CXT} {x : Str} {e : Expr} {es : List Expr} {ta : TA} {p pos : Pos} {C fI : Addr} {k : Nat} {fd : FuncData} {ps : List Str} {sp : Sp} (T : OexC X.K C) (iC : PySem.W.findIn X.K (.ref C) "__init__" = some (some (.ref fI))) (tI : PySem.W.typeIn X.K (.ref fI) = some (.type "function"))
    (F1 : FnOk X.prog X.w X.K X.mg X.base CX k fI fd ps sp) (hr : Room (k + 1) X.A) (hb : Binds X.K fd ps []) (hx : Passes CX X (fun _ _ _ => False)) (hg : Gl X x) (hm : X.mg x = some (.ref C)) (ha : PA X (e :: es) ta)
    (hdb : (x == ("__debug__" : Str)) = false := by decide) (he : starEach (e :: es) X.env = (false, eval e X.env) :: starEach es X.env := by rfl) (hpl : (backTo pos (starEach es X.env)).any (·.1) = false := by rfl) :
    L2N.PMk X (.Call (.Name x p) (e :: es) [] pos) (tMkO C sp [] ta) := by
  intro pins s σ H Q I h
  obtain ⟨nm, q, N, bs, bm, sn, sub, ab, col, dd, k0, k1, k2, k3, k5, hC, hbm⟩ := T.cls
  refine wpAny_Call_Name_kw (ld_glob I hg hm ?_ hdb)
  refine PySem.W.callWith_K (h₀ := X.base) I.ok.mod.kin T.kC (thn (ha.run pos pins s σ H _ I h) fun us s1 ⟨vs, H1, I1, r1, hz, q1⟩ => ⟨I1.kIn, ?_⟩) he hpl
  show wpAny _ _ (call (.ref C) us) _ _ _
  obtain ⟨hp, g, dr, tk, os⟩ := s1
  have hsz : hp.objs.size ≤ hp.objs.size + 1 := Nat.le_succ _
  have hn : H1 (hp.objs.size + 1) = none := I1.hok.fresh hsz
  have hq := q1 (hp.objs.size + 1) hn
  have kk : ∀ b o, hp.get? b = some o → ((hp.push (PySem.W.kdv_tup us)).push (PySem.HandSPX.excO C hp.objs.size)).get? b = some o := fun b o e => Heap.get?_push_of_some _ (Heap.get?_push_of_some _ e)
  have hget : ((hp.push (PySem.W.kdv_tup us)).push (PySem.HandSPX.excO C hp.objs.size)).get? (hp.objs.size + 1) = some (PySem.HandSPX.excO C hp.objs.size) := by heap_get
  have I2 : Inv X pins σ (upd H1 (hp.objs.size + 1) (exo (hp.objs.size + 1) C none)) ⟨(hp.push (PySem.W.kdv_tup us)).push (PySem.HandSPX.excO C hp.objs.size), g, dr, tk, os⟩ :=
    I1.laid (t' := tk) (a := hp.objs.size + 1) (o := exo (hp.objs.size + 1) C none) (h' := (hp.push (PySem.W.kdv_tup us)).push (PySem.HandSPX.excO C hp.objs.size)) kk hsz (exo_ok hget)
  have r2 : Vals (V.ref (hp.objs.size + 1) :: (vs ++ [])) (Value.ref (hp.objs.size + 1) :: (us ++ [])) := .cons rfl (r1.append .nil)
  have b2 := hb _ (Value.ref (hp.objs.size + 1) :: us) I2.kIn (by have e := r2.length; rw [F1.len _ _ _ _ hq] at e; exact e.symm)
  rw [List.append_nil] at b2 r2 hq
  rw [List.append_nil] at r2
  have hus : us.length ≤ sizeLine := by
    rw [← Paired.length r1, sizeLine_eq]
    omega
  refine wpAny_call (PySem.HandSPX.call_own F.excBase_ValueError (fun Y => PySem.HandSPX.refsVE_contains Y bm hbm) (I1.kIn _ _ hC) (PySem.W.looks_findIn I1.kIn iC) (fun self => PySem.W.bind_fn I1.kIn self tI) hus
    (codeAny_mono (F1.run _ X.stack _ _ ⟨Value.ref (hp.objs.size + 1) :: us, []⟩ (Value.ref (hp.objs.size + 1) :: us) _ _ (fun _ _ _ => False) (hr.make C us []) (I2.env0.make C us []) b2 r2 hq) fun r s' hq' => ?_))
  cases r with
  | error er => exact hx pins σ _ _ er s' I2 hq'
  | ok fl =>
    cases fl with
    | ret u =>
      obtain ⟨v, H2, os2, bare2, un2, hok2, rv, ev, d, fs, ea, ed, hd1, q2⟩ := hq'
      subst ev
      obtain ⟨h2, g2, d2, t2, os'⟩ := s'
      obtain ⟨t0, G, J, kG, ge, hoe, na⟩ := mk_end0 (d2 := d2) (t2 := t2) I1 hsz kk un2 hok2 os2 bare2 ea ed hd1
      refine ⟨rv, hp.objs.size + 1, _, _, ⟨G, g2, d2, t2, os'⟩, _, .ref C, some d, rfl, J, kG, ge, hoe, ⟨rfl, rfl, fun vs hv => ?_⟩, rfl, rfl, na, rfl, bare2, raises_own T.exC T.tyC, q2⟩
      cases hv
      rfl
    | next => exact False.elim hq'
    | brk => exact False.elim hq'
    | cont => exact False.elim hq'
/-- what a suite holds, for calls within it -/
theorem hotS {X : Cx} {a : Addr} {oe : Obj} {cls : Value} {d : Option Addr} {pn : List (Addr × Obj)} (hz : L2N.Zn cls d oe) (hf : ∃ vs, oe.data = .fields vs) : L2H.HotC (X.suite a ((a, oe) :: pn)) := by
  obtain ⟨vs, hv⟩ := hf
  exact ⟨(a, oe), ⟨rfl, vs, hv, hz.2.2 vs hv⟩, List.mem_cons_self⟩
theorem zc1 {cls : Value} {d : Option Addr} {C : Addr} {oe : Obj} (p : cls = .ref C) (h : L2N.Zn cls d oe) : Zc (.ref C) d oe := by
  subst p
  exact ⟨h.1, h.2.1⟩
theorem takes0N {X : Cx} : L2N.Takes X (fun _ _ _ _ => False) := fun _ _ x => by
  obtain ⟨_, _, _, _, _, _, _, _, _, _, _, _, _, _, _, _, z⟩ := x
  exact z.elim
theorem roomS {k : Nat} {A : Around} (r : Room k A) (h : Option Value) : L2H.RoomH k (A.mark h) := ⟨r.dp, r.un⟩
theorem pass0H {X : Cx} : ∀ σ : L2.St, PassesAt CX0 X σ E0 := fun _ _ _ _ _ _ _ h => h.elim
/-- a def that is called while an exception is handled -/
theorem okH {P : Program} {w : World} {K : PySem.W.Frag} {mg : Str → Option Value} {base : Heap} {x qual : Str} {st : Stmt} {f : Addr} {fd : FuncData} {N ps : List Str} {k : Nat} {sp : Sp} (F : Fun K x qual st f fd) (S : FnScope N ps (defScope st)) (len : ∀ vs H Q E, sp vs H Q E → vs.length = ps.length)
    (hb : ∀ (cdv : Value) (A : Around) (outer : List Env) (s : Shared) (H : Hp) (vs : List V) (Q : VK) (E : XK) (p : Addr × Obj), L2H.RoomH k (A.deeper (envOfC qual (defScope st) s.heap.objs.size f cdv)) → sp vs H Q E →
      ∃ t, PSs (L2H.cxH CX0 P w K mg base N qual (defScope st) f cdv A outer s H E p) (defBody st) t ∧ t { nx := fun _ H' => Q .non H', rt := Q } (start N vs) H) : L2H.FnH P w K mg base CX0 (k + 1) f fd ps sp := by
  obtain ⟨oc, od, kV, doc, pm, an, cdv, ct, osl, rfl, lk, hcd⟩ := F.ex
  exact L2H.fn_ofH lk hcd S len fun A outer s H vs Q E p hot hr h => hb cdv A outer s H vs Q E p hr h
end


structure Txt (K : PySem.W.Frag) (mg : Str → Option Value) (P : Program) where
  C_MissingChunk : Addr
  e_MissingChunk : XiC K mg "MissingChunk" C_MissingChunk
  kv_MissingChunk : PySem.W.kitOne K (.ref C_MissingChunk) (.type "ValueError") = some true
  f_MissingChunk___init : Addr
  d_MissingChunk___init : FuncData
  F_MissingChunk___init : FunX K P "MissingChunk.__init__" s_MissingChunk___init C_MissingChunk f_MissingChunk___init d_MissingChunk___init
  b_MissingChunk___init : Binds K d_MissingChunk___init ["self", "address"] []
  na_MissingChunk_address : PySem.W.findIn K (.ref C_MissingChunk) "address" = some none
  C_VersionError : Addr
  g_VersionError : mg "VersionError" = some (.ref C_VersionError)
  ku_MissingChunk_VersionError : PySem.W.kitOne K (.ref C_MissingChunk) (.ref C_VersionError) = some true
  C_Book : Addr
  g_Book : mg "Book" = some (.ref C_Book)
  cl_Book : Cls K C_Book
  na_Book__addresses : NoAttr K C_Book "_addresses"
  C_Chunks : Addr
  g_Chunks : mg "Chunks" = some (.ref C_Chunks)
  cl_Chunks : Cls K C_Chunks
  na_Chunks_book : NoAttr K C_Chunks "book"
  na_Chunks_reads : NoAttr K C_Chunks "reads"
  na_Chunks__texts : NoAttr K C_Chunks "_texts"
  f_Book___init : Addr
  d_Book___init : FuncData
  F_Book___init : Fun K "__init__" "Book.__init__" s_Book___init f_Book___init d_Book___init
  b_Book___init : Binds K d_Book___init ["self"] []
  mk_Book : Mk K C_Book f_Book___init
  f_Chunks_get : Addr
  d_Chunks_get : FuncData
  F_Chunks_get : Fun K "get" "Chunks.get" s_Chunks_get f_Chunks_get d_Chunks_get
  b_Chunks_get : Binds K d_Chunks_get ["self", "address"] []
  me_Chunks_get : Meth K C_Chunks "get" f_Chunks_get
  f_Book_find : Addr
  d_Book_find : FuncData
  F_Book_find : Fun K "find" "Book.find" s_Book_find f_Book_find d_Book_find
  b_Book_find : Binds K d_Book_find ["self", "text"] []
  me_Book_find : Meth K C_Book "find" f_Book_find
  f_Chunks___init : Addr
  d_Chunks___init : FuncData
  F_Chunks___init : Fun K "__init__" "Chunks.__init__" s_Chunks___init f_Chunks___init d_Chunks___init
  b_Chunks___init : Binds K d_Chunks___init ["self", "book"] []
  mk_Chunks : Mk K C_Chunks f_Chunks___init
  f_Chunks_has : Addr
  d_Chunks_has : FuncData
  F_Chunks_has : Fun K "has" "Chunks.has" s_Chunks_has f_Chunks_has d_Chunks_has
  b_Chunks_has : Binds K d_Chunks_has ["self", "address"] []
  me_Chunks_has : Meth K C_Chunks "has" f_Chunks_has
  f_law_cell : Addr
  d_law_cell : FuncData
  F_law_cell : Fun K "_law_cell" "_law_cell" s_law_cell f_law_cell d_law_cell
  b_law_cell : Binds K d_law_cell ["script", "k"] []
  g_law_cell : mg "_law_cell" = some (.ref f_law_cell)
  f_law_draws : Addr
  d_law_draws : FuncData
  F_law_draws : Fun K "_law_draws" "_law_draws" s_law_draws f_law_draws d_law_draws
  b_law_draws : Binds K d_law_draws ["cell", "salt", "count", "base"] []
  g_law_draws : mg "_law_draws" = some (.ref f_law_draws)
  f_law_dense_place : Addr
  d_law_dense_place : FuncData
  F_law_dense_place : Fun K "_law_dense_place" "_law_dense_place" s_law_dense_place f_law_dense_place d_law_dense_place
  b_law_dense_place : Binds K d_law_dense_place ["shape", "number", "start"] []
  g_law_dense_place : mg "_law_dense_place" = some (.ref f_law_dense_place)
  f_law_integer : Addr
  d_law_integer : FuncData
  F_law_integer : Fun K "_law_integer" "_law_integer" s_law_integer f_law_integer d_law_integer
  b_law_integer : Binds K d_law_integer ["cell"] []
  g_law_integer : mg "_law_integer" = some (.ref f_law_integer)
  f_law_char : Addr
  d_law_char : FuncData
  F_law_char : Fun K "_law_char" "_law_char" s_law_char f_law_char d_law_char
  b_law_char : Binds K d_law_char ["number"] []
  g_law_char : mg "_law_char" = some (.ref f_law_char)
  f_law_text : Addr
  d_law_text : FuncData
  F_law_text : Fun K "_law_text" "_law_text" s_law_text f_law_text d_law_text
  b_law_text : Binds K d_law_text ["cell"] []
  g_law_text : mg "_law_text" = some (.ref f_law_text)
  f_law_value : Addr
  d_law_value : FuncData
  F_law_value : Fun K "_law_value" "_law_value" s_law_value f_law_value d_law_value
  b_law_value : Binds K d_law_value ["kind", "cell"] []
  g_law_value : mg "_law_value" = some (.ref f_law_value)
  f_law_drawn_place : Addr
  d_law_drawn_place : FuncData
  F_law_drawn_place : Fun K "_law_drawn_place" "_law_drawn_place" s_law_drawn_place f_law_drawn_place d_law_drawn_place
  b_law_drawn_place : Binds K d_law_drawn_place ["shape", "parts"] []
  g_law_drawn_place : mg "_law_drawn_place" = some (.ref f_law_drawn_place)
  f_law_shape : Addr
  d_law_shape : FuncData
  F_law_shape : Fun K "_law_shape" "_law_shape" s_law_shape f_law_shape d_law_shape
  b_law_shape : Binds K d_law_shape ["number"] []
  g_law_shape : mg "_law_shape" = some (.ref f_law_shape)
  f_law_thing : Addr
  d_law_thing : FuncData
  F_law_thing : Fun K "_law_thing" "_law_thing" s_law_thing f_law_thing d_law_thing
  b_law_thing : Binds K d_law_thing ["script", "k"] []
  g_law_thing : mg "_law_thing" = some (.ref f_law_thing)
  f_law_digest : Addr
  d_law_digest : FuncData
  F_law_digest : Fun K "_law_digest" "_law_digest" s_law_digest f_law_digest d_law_digest
  b_law_digest : Binds K d_law_digest ["text"] []
  g_law_digest : mg "_law_digest" = some (.ref f_law_digest)
  f_law_written : Addr
  d_law_written : FuncData
  F_law_written : Fun K "_law_written" "_law_written" s_law_written f_law_written d_law_written
  b_law_written : Binds K d_law_written ["item"] []
  g_law_written : mg "_law_written" = some (.ref f_law_written)
  f_law_same : Addr
  d_law_same : FuncData
  F_law_same : Fun K "_law_same" "_law_same" s_law_same f_law_same d_law_same
  b_law_same : Binds K d_law_same ["actual", "expected"] []
  g_law_same : mg "_law_same" = some (.ref f_law_same)
  f_Book_address : Addr
  d_Book_address : FuncData
  F_Book_address : Fun K "address" "Book.address" s_Book_address f_Book_address d_Book_address
  b_Book_address : Binds K d_Book_address ["self", "text"] []
  me_Book_address : Meth K C_Book "address" f_Book_address
  f_Chunks_put : Addr
  d_Chunks_put : FuncData
  F_Chunks_put : Fun K "put" "Chunks.put" s_Chunks_put f_Chunks_put d_Chunks_put
  b_Chunks_put : Binds K d_Chunks_put ["self", "text"] []
  me_Chunks_put : Meth K C_Chunks "put" f_Chunks_put
  f_encode : Addr
  d_encode : FuncData
  F_encode : Fun K "encode" "encode" s_encode f_encode d_encode
  b_encode : Binds K d_encode ["item"] []
  g_encode : mg "encode" = some (.ref f_encode)
  f_digest : Addr
  d_digest : FuncData
  F_digest : Fun K "digest" "digest" s_digest f_digest d_digest
  b_digest : Binds K d_digest ["text"] []
  g_digest : mg "digest" = some (.ref f_digest)
  f_ends_chunk : Addr
  d_ends_chunk : FuncData
  F_ends_chunk : Fun K "ends_chunk" "ends_chunk" s_ends_chunk f_ends_chunk d_ends_chunk
  b_ends_chunk : Binds K d_ends_chunk ["level", "key", "count"] []
  g_ends_chunk : mg "ends_chunk" = some (.ref f_ends_chunk)
  f_sign_at : Addr
  d_sign_at : FuncData
  F_sign_at : Fun K "_sign_at" "_sign_at" s_sign_at f_sign_at d_sign_at
  b_sign_at : Binds K d_sign_at ["text", "index"] []
  g_sign_at : mg "_sign_at" = some (.ref f_sign_at)
  f_end_of_digits : Addr
  d_end_of_digits : FuncData
  F_end_of_digits : Fun K "_end_of_digits" "_end_of_digits" s_end_of_digits f_end_of_digits d_end_of_digits
  b_end_of_digits : Binds K d_end_of_digits ["text", "first", "most", "closing"] []
  g_end_of_digits : mg "_end_of_digits" = some (.ref f_end_of_digits)
  f_read_integer : Addr
  d_read_integer : FuncData
  F_read_integer : Fun K "_read_integer" "_read_integer" s_read_integer f_read_integer d_read_integer
  b_read_integer : Binds K d_read_integer ["text", "index"] []
  g_read_integer : mg "_read_integer" = some (.ref f_read_integer)
  f_read_text : Addr
  d_read_text : FuncData
  F_read_text : Fun K "_read_text" "_read_text" s_read_text f_read_text d_read_text
  b_read_text : Binds K d_read_text ["text", "index"] []
  g_read_text : mg "_read_text" = some (.ref f_read_text)
  f_read_tuple : Addr
  d_read_tuple : FuncData
  F_read_tuple : Fun K "_read_tuple" "_read_tuple" s_read_tuple f_read_tuple d_read_tuple
  b_read_tuple : Binds K d_read_tuple ["text", "index", "level"] []
  g_read_tuple : mg "_read_tuple" = some (.ref f_read_tuple)
  f_read_item : Addr
  d_read_item : FuncData
  F_read_item : Fun K "_read_item" "_read_item" s_read_item f_read_item d_read_item
  b_read_item : Binds K d_read_item ["text", "index", "level"] []
  g_read_item : mg "_read_item" = some (.ref f_read_item)
  f_decode_prefix : Addr
  d_decode_prefix : FuncData
  F_decode_prefix : Fun K "decode_prefix" "decode_prefix" s_decode_prefix f_decode_prefix d_decode_prefix
  b_decode_prefix : Binds K d_decode_prefix ["text", "index"] []
  g_decode_prefix : mg "decode_prefix" = some (.ref f_decode_prefix)
  f_decode : Addr
  d_decode : FuncData
  F_decode : Fun K "decode" "decode" s_decode f_decode d_decode
  b_decode : Binds K d_decode ["text"] []
  g_decode : mg "decode" = some (.ref f_decode)
  f_chunk_address : Addr
  d_chunk_address : FuncData
  F_chunk_address : Fun K "_chunk_address" "_chunk_address" s_chunk_address f_chunk_address d_chunk_address
  b_chunk_address : Binds K d_chunk_address ["piece"] []
  g_chunk_address : mg "_chunk_address" = some (.ref f_chunk_address)
  f_count_entries : Addr
  d_count_entries : FuncData
  F_count_entries : Fun K "_count_entries" "_count_entries" s_count_entries f_count_entries d_count_entries
  b_count_entries : Binds K d_count_entries ["level", "entries"] []
  g_count_entries : mg "_count_entries" = some (.ref f_count_entries)
  f_read_chunk : Addr
  d_read_chunk : FuncData
  F_read_chunk : Fun K "_read_chunk" "_read_chunk" s_read_chunk f_read_chunk d_read_chunk
  b_read_chunk : Binds K d_read_chunk ["chunks", "address"] []
  g_read_chunk : mg "_read_chunk" = some (.ref f_read_chunk)
  f_read_pieces : Addr
  d_read_pieces : FuncData
  F_read_pieces : Fun K "read_pieces" "read_pieces" s_read_pieces f_read_pieces d_read_pieces
  b_read_pieces : Binds K d_read_pieces ["chunks", "address"] []
  g_read_pieces : mg "read_pieces" = some (.ref f_read_pieces)
  f_open_piece : Addr
  d_open_piece : FuncData
  F_open_piece : Fun K "open_piece" "open_piece" s_open_piece f_open_piece d_open_piece
  b_open_piece : Binds K d_open_piece ["chunks", "piece"] []
  g_open_piece : mg "open_piece" = some (.ref f_open_piece)
  f_put_chunk : Addr
  d_put_chunk : FuncData
  F_put_chunk : Fun K "_put_chunk" "_put_chunk" s_put_chunk f_put_chunk d_put_chunk
  b_put_chunk : Binds K d_put_chunk ["chunks", "level", "entries"] []
  g_put_chunk : mg "_put_chunk" = some (.ref f_put_chunk)
  f_pack_level : Addr
  d_pack_level : FuncData
  F_pack_level : Fun K "_pack_level" "_pack_level" s_pack_level f_pack_level d_pack_level
  b_pack_level : Binds K d_pack_level ["chunks", "level", "pieces"] []
  g_pack_level : mg "_pack_level" = some (.ref f_pack_level)
  f_join : Addr
  d_join : FuncData
  F_join : Fun K "_join" "_join" s_join f_join d_join
  b_join : Binds K d_join ["chunks", "pieces"] []
  g_join : mg "_join" = some (.ref f_join)
  f_build : Addr
  d_build : FuncData
  F_build : Fun K "build" "build" s_build f_build d_build
  b_build : Binds K d_build ["chunks", "entries"] []
  g_build : mg "build" = some (.ref f_build)
  f_height : Addr
  d_height : FuncData
  F_height : Fun K "height" "height" s_height f_height d_height
  b_height : Binds K d_height ["chunks", "root"] []
  g_height : mg "height" = some (.ref f_height)
  f_reachable : Addr
  d_reachable : FuncData
  F_reachable : Fun K "reachable" "reachable" s_reachable f_reachable d_reachable
  b_reachable : Binds K d_reachable ["chunks", "root"] []
  g_reachable : mg "reachable" = some (.ref f_reachable)
  f_law_rest : Addr
  d_law_rest : FuncData
  F_law_rest : Fun K "_law_rest" "_law_rest" s_law_rest f_law_rest d_law_rest
  b_law_rest : Binds K d_law_rest ["width", "parts"] []
  g_law_rest : mg "_law_rest" = some (.ref f_law_rest)
  f_law_entries : Addr
  d_law_entries : FuncData
  F_law_entries : Fun K "_law_entries" "_law_entries" s_law_entries f_law_entries d_law_entries
  b_law_entries : Binds K d_law_entries ["script", "head", "first"] []
  g_law_entries : mg "_law_entries" = some (.ref f_law_entries)
  f_law_listed : Addr
  d_law_listed : FuncData
  F_law_listed : Fun K "_law_listed" "_law_listed" s_law_listed f_law_listed d_law_listed
  b_law_listed : Binds K d_law_listed ["rests"] []
  g_law_listed : mg "_law_listed" = some (.ref f_law_listed)
  f_law_same_list : Addr
  d_law_same_list : FuncData
  F_law_same_list : Fun K "_law_same_list" "_law_same_list" s_law_same_list f_law_same_list d_law_same_list
  b_law_same_list : Binds K d_law_same_list ["actual", "expected"] []
  g_law_same_list : mg "_law_same_list" = some (.ref f_law_same_list)
  f_law_groups : Addr
  d_law_groups : FuncData
  F_law_groups : Fun K "_law_groups" "_law_groups" s_law_groups f_law_groups d_law_groups
  b_law_groups : Binds K d_law_groups ["level", "entries"] []
  g_law_groups : mg "_law_groups" = some (.ref f_law_groups)
  f_law_levels : Addr
  d_law_levels : FuncData
  F_law_levels : Fun K "_law_levels" "_law_levels" s_law_levels f_law_levels d_law_levels
  b_law_levels : Binds K d_law_levels ["book", "entries"] []
  g_law_levels : mg "_law_levels" = some (.ref f_law_levels)
  f_law : Addr
  d_law : FuncData
  F_law : Fun K "law" "law" s_law f_law d_law
  b_law : Binds K d_law ["script"] []
  g_law : mg "law" = some (.ref f_law)
  m_ValueError : mg "ValueError" = none
  m_bool : mg "bool" = none
  m_int : mg "int" = none
  m_isinstance : mg "isinstance" = none
  m_len : mg "len" = none
  m_list : mg "list" = none
  m_max : mg "max" = none
  m_min : mg "min" = none
  m_ord : mg "ord" = none
  m_range : mg "range" = none
  m_sorted : mg "sorted" = none
  m_str : mg "str" = none
  m_sum : mg "sum" = none
  m_super : mg "super" = none
  m_tuple : mg "tuple" = none
  t_MOST_LEVELS : Tok
  k_MOST_LEVELS : mg "MOST_LEVELS" = some (.int 12 t_MOST_LEVELS)
  t_MOST_DIGITS : Tok
  k_MOST_DIGITS : mg "MOST_DIGITS" = some (.int 60 t_MOST_DIGITS)
  t_MOST_LENGTH_DIGITS : Tok
  k_MOST_LENGTH_DIGITS : mg "MOST_LENGTH_DIGITS" = some (.int 6 t_MOST_LENGTH_DIGITS)
  t_MOST_ENTRIES : Tok
  k_MOST_ENTRIES : mg "MOST_ENTRIES" = some (.int 8 t_MOST_ENTRIES)

/-! ### sizes of ints -/
/-- an int of at most some million bits -/
structure Wd (n : Int) : Prop where
  h : n.natAbs.log2 < 1100000
theorem log2_mono {a b : Nat} (h : a ≤ b) : a.log2 ≤ b.log2 := by
  by_cases ha : a = 0
  · subst ha
    exact Nat.le_trans (Nat.le_of_eq (by decide)) (Nat.zero_le _)
  · refine Nat.lt_succ_iff.mp ((Nat.log2_lt ha).mpr (Nat.lt_of_le_of_lt h Nat.lt_log2_self))
theorem Wd.le {n m : Int} (h : Wd n) (e : m.natAbs ≤ n.natAbs) : Wd m := ⟨Nat.lt_of_le_of_lt (log2_mono e) h.h⟩
theorem Wd.lt {n : Int} (h : n.natAbs < 2 ^ 9000) : Wd n := ⟨Nat.lt_trans (PySem.Flt.log2_lt_of (by decide) h) (by decide)⟩
theorem Wd.lit {n : Int} (h : n.natAbs < 2 ^ 256) : Wd n := ⟨Nat.lt_trans (PySem.Flt.log2_lt_of (by decide) h) (by decide)⟩
theorem Wd.bits {n : Int} (h : Builtin.Int.intBits n ≤ 1048576) : Wd n := by
  unfold Builtin.Int.intBits at h
  by_cases e : n = 0
  · subst e
    exact Wd.lit (by decide)
  · rw [if_neg (by simpa using e)] at h
    exact ⟨by omega⟩
theorem Wd.small {n : Int} (h1 : -(2 ^ 64) < n) (h2 : n < 2 ^ 64) : Wd n := Wd.lit (by
  have : n.natAbs < 2 ^ 64 := by omega
  exact Nat.lt_of_lt_of_le this (by decide))
theorem Wd.div {n b : Int} (h : Wd n) : Wd (n / b) := h.le (Int.natAbs_ediv_le_natAbs n b)
theorem Wd.mod {n b : Int} (hb : 0 < b) (h : Wd b) : Wd (n % b) := h.le (by
  have h1 := Int.emod_nonneg n (by omega : b ≠ 0)
  have h2 := Int.emod_lt_of_pos n hb
  omega)
theorem Wd.neg {n : Int} (h : Wd n) : Wd (-n) := h.le (by omega)
theorem bits_log (n : Int) : Builtin.Int.intBits n ≤ n.natAbs.log2 + 1 := by
  unfold Builtin.Int.intBits
  split <;> omega
theorem Wd.mul {i j : Int} (hi : Wd i) (hj : Wd j) : CMulX i j := by
  have a := bits_log i
  have b := bits_log j
  have c := hi.h
  have d := hj.h
  unfold CMulX
  omega
/-- what falls to a comparison of two ints -/
theorem dec_int {i j : Int} : decide (V.int i = V.int j) = decide (i = j) := by
  by_cases h : i = j
  · rw [decide_eq_true h, decide_eq_true (congrArg V.int h)]
  · rw [decide_eq_false h, decide_eq_false fun e => h (V.int.inj e)]
theorem dec_str {i j : Str} : decide (V.str i = V.str j) = decide (i = j) := by
  by_cases h : i = j
  · rw [decide_eq_true h, decide_eq_true (congrArg V.str h)]
  · rw [decide_eq_false h, decide_eq_false fun e => h (V.str.inj e)]
theorem dec_bl {i j : Bool} : decide (V.bl i = V.bl j) = decide (i = j) := by
  by_cases h : i = j
  · rw [decide_eq_true h, decide_eq_true (congrArg V.bl h)]
  · rw [decide_eq_false h, decide_eq_false fun e => h (V.bl.inj e)]
/-- len, tuple of a list or tuple -/
abbrev rLenQ (K : PySem.W.Frag) : List V → Hp → VK → Prop := fun xs H Q => ∃ p ys, xs = [V.ref p] ∧ (SqL K H p ys ∨ SqT K H p ys) ∧ Q (.int ys.length) H
abbrev rTupOf (K : PySem.W.Frag) : List V → Hp → VK → Prop := fun xs H Q => ∃ p ys, xs = [V.ref p] ∧ ((SqL K H p ys ∧ ∀ l, H l = none → Q (.ref l) (upd H l (.tup ys))) ∨ (SqT K H p ys ∧ Q (.ref p) H))
/-! ### more of what evaluates -/
section
variable {K : PySem.W.Frag} {σ : L2.St} {H : Hp} {ta tb te : TE}
theorem ev_eqI {i j : Int} (ha : Ev ta σ H (.int i)) (hb : Ev tb σ H (.int j)) : Ev (tOp rEq ta tb) σ H (.bl (decide (i = j))) := ev_is (ev_op ha hb (rv_eq rfl)) (congrArg V.bl dec_int)
theorem ev_neI {i j : Int} (ha : Ev ta σ H (.int i)) (hb : Ev tb σ H (.int j)) : Ev (tOp rNe ta tb) σ H (.bl (!decide (i = j))) := ev_is (ev_op ha hb (rv_ne rfl)) (congrArg (fun b => V.bl (!b)) dec_int)
theorem ev_eqS {i j : Str} (ha : Ev ta σ H (.str i)) (hb : Ev tb σ H (.str j)) : Ev (tOp rEq ta tb) σ H (.bl (decide (i = j))) := ev_is (ev_op ha hb (rv_eq rfl)) (congrArg V.bl dec_str)
theorem ev_neS {i j : Str} (ha : Ev ta σ H (.str i)) (hb : Ev tb σ H (.str j)) : Ev (tOp rNe ta tb) σ H (.bl (!decide (i = j))) := ev_is (ev_op ha hb (rv_ne rfl)) (congrArg (fun b => V.bl (!b)) dec_str)
theorem ev_eqB {i j : Bool} (ha : Ev ta σ H (.bl i)) (hb : Ev tb σ H (.bl j)) : Ev (tOp rEq ta tb) σ H (.bl (decide (i = j))) := ev_is (ev_op ha hb (rv_eq rfl)) (congrArg V.bl dec_bl)
theorem ev_neB {i j : Bool} (ha : Ev ta σ H (.bl i)) (hb : Ev tb σ H (.bl j)) : Ev (tOp rNe ta tb) σ H (.bl (!decide (i = j))) := ev_is (ev_op ha hb (rv_ne rfl)) (congrArg (fun b => V.bl (!b)) dec_bl)
theorem ev_bin {C : Int → Int → Prop} {g : Int → Int → V} {i j : Int} (ha : Ev ta σ H (.int i)) (hb : Ev tb σ H (.int j)) (hc : C i j) : Ev (tOp (rI C g) ta tb) σ H (g i j) := ev_op ha hb (rv_I hc)
theorem ev_bin0 {g : Int → Int → V} {i j : Int} (ha : Ev ta σ H (.int i)) (hb : Ev tb σ H (.int j)) : Ev (tOp (rI0 g) ta tb) σ H (g i j) := ev_op ha hb rv_I0
theorem ev_intI {i : Int} (h : Ev te σ H (.int i)) : Ev (tCB (fun xs H Q => (∃ i, xs = [V.int i] ∧ Q (.int i) H) ∨ ∃ k, xs = [V.bl k] ∧ Q (.int (if k = true then 1 else 0)) H) (tCons te tNil)) σ H (.int i) := fun H1 e Q q =>
  h H1 e _ fun H2 e2 => .inl ⟨i, rfl, q H2 e2⟩
theorem ev_lenS {z : Str} (h : Ev te σ H (.str z)) (hz : z.length ≤ 100000) : Ev (tCB (fun xs H Q => ∃ z, xs = [V.str z] ∧ z.length ≤ sizeLine ∧ Q (.int z.length) H) (tCons te tNil)) σ H (.int (z.length : Int)) := fun H1 e Q q =>
  h H1 e _ fun H2 e2 => ⟨z, rfl, sz_of hz, q H2 e2⟩
theorem ev_lenQ {p : Addr} {xs : List V} (ha : Ev ta σ H (.ref p)) (h : SqL K H p xs) : Ev (tCB (fun xs H Q => ∃ p ys, xs = [V.ref p] ∧ (SqL K H p ys ∨ SqT K H p ys) ∧ Q (.int ys.length) H) (tCons ta tNil)) σ H (.int (xs.length : Int)) := fun H1 e Q q =>
  ha H1 e _ fun H2 e2 => ⟨p, xs, rfl, Or.inl (ex_l (e.trans e2) h), q H2 e2⟩
theorem ev_lenT {p : Addr} {xs : List V} (ha : Ev ta σ H (.ref p)) (h : SqT K H p xs) : Ev (tCB (fun xs H Q => ∃ p ys, xs = [V.ref p] ∧ (SqL K H p ys ∨ SqT K H p ys) ∧ Q (.int ys.length) H) (tCons ta tNil)) σ H (.int (xs.length : Int)) := fun H1 e Q q =>
  ha H1 e _ fun H2 e2 => ⟨p, xs, rfl, Or.inr (ex_t (e.trans e2) h), q H2 e2⟩
theorem ev_ixL {p : Addr} {xs : List V} {i : Int} {v : V} (ha : Ev ta σ H (.ref p)) (hb : Ev tb σ H (.int i)) (h : SqL K H p xs) (hi : atI xs i = some v) : Ev (tOp (rIxL K) ta tb) σ H v := ev_op ha hb (rv_ixL h hi)
theorem ev_ixT {p : Addr} {xs : List V} {i : Int} {v : V} (ha : Ev ta σ H (.ref p)) (hb : Ev tb σ H (.int i)) (h : SqT K H p xs) (hi : atI xs i = some v) : Ev (tOp (rIxT K) ta tb) σ H v := ev_op ha hb (rv_ixT h hi)
/-- an item of a list that is written there -/
theorem ev_ixN {xs : List V} {i : Int} {v : V} (ha : EvL ta σ H xs) (hb : ∀ H1, Ex H H1 → Ev tb σ H1 (.int i)) (hi : atI xs i = some v) : Ev (tOp (rIxL K) ta tb) σ H v := ev_opL1 ha hb fun p H1 h1 _ => rv_ixL (sq_of h1) hi
theorem ev_ixS {z : Str} {i : Int} {c : Nat} (ha : Ev ta σ H (.str z)) (hb : Ev tb σ H (.int i)) (hz : z.length ≤ 100000) (hi : atI z.cps.toList i = some c) : Ev (tOp rIxS ta tb) σ H (.str ⟨#[c]⟩) := ev_op ha hb (rv_ixS hz hi)
theorem ev_addS {x y : Str} (ha : Ev ta σ H (.str x)) (hb : Ev tb σ H (.str y)) (hz : x.length + y.length ≤ 16777216) : Ev (tOp (fun x y H Q => ∃ i j, x = V.str i ∧ y = V.str j ∧ i.length + j.length ≤ sizeLine ∧ Q (.str (i ++ j)) H) ta tb) σ H (.str (x ++ y)) :=
  ev_op ha hb fun H1 _ Q q => ⟨x, y, rfl, rfl, by rw [sizeLine_eq]; exact hz, q H1 (Ex.refl H1)⟩
theorem ev_neg {i : Int} (h : Ev te σ H (.int i)) : Ev (tUn (rU fun i => .int (-i)) te) σ H (.int (-i)) := ev_un h ru_neg
theorem ev_isN {v : V} (h : Ev te σ H v) : Ev (tOp (fun x y H Q => y = .non ∧ Q (.bl (decide (x = .non))) H) te (tC .non)) σ H (.bl (decide (v = .non))) := fun H1 e Q q => h H1 e _ fun H2 e2 => ⟨rfl, q H2 e2⟩
end
section
variable {σ : L2.St} {H : Hp} {te : TE}
theorem ev_isNt (h : Ev te σ H .non) : Ev (tOp (fun x y H Q => y = .non ∧ Q (.bl (decide (x = .non))) H) te (tC .non)) σ H (.bl true) := ev_is (ev_isN h) (congrArg V.bl (decide_eq_true rfl))
theorem ev_isNf {v : V} (h : Ev te σ H v) (hv : v ≠ .non := by intro z; cases z) : Ev (tOp (fun x y H Q => y = .non ∧ Q (.bl (decide (x = .non))) H) te (tC .non)) σ H (.bl false) := ev_is (ev_isN h) (congrArg V.bl (decide_eq_false hv))
end
theorem at_nat {xs : List V} {j : Nat} {v : V} (h : xs[j]? = some v) : atI xs (j : Int) = some v := atI_nat h
theorem sizeOk {n : Nat} (h : n ≤ 16777216) : n ≤ sizeLine := by rw [sizeLine_eq]; exact h

/-! ### texts, joins, comprehensions -/
theorem str_ext {a b : Str} (h : a.cps.toList = b.cps.toList) : a = b := by
  obtain ⟨a⟩ := a
  obtain ⟨b⟩ := b
  exact congrArg Str.mk (Array.toList_inj.mp h)
/-- the join of one-sign texts -/
theorem join_signs (l : List Nat) : Txt.join (Str.ofString "") (l.map fun c => (⟨#[c]⟩ : Str)) = ⟨l.toArray⟩ := by
  rw [TL.join_eq]
  refine str_ext ?_
  have key : ∀ l : List Nat, TL.joinL [] (l.map fun c => [c]) = l := fun l => by
    induction l with
    | nil => rfl
    | cons a r ih =>
      cases r with
      | nil => rfl
      | cons b r =>
        show [a] ++ ([] ++ TL.joinL [] ((b :: r).map fun c => [c])) = a :: b :: r
        rw [ih] <;> rfl
  have h := TL.tl_join (Str.ofString "") (l.map fun c => (⟨#[c]⟩ : Str))
  have e1 : TL.tl (Str.ofString "") = [] := by decide +kernel
  rw [e1, List.map_map] at h
  exact h.trans (key l)
theorem sum_ones (l : List Nat) : ((l.map fun c => (⟨#[c]⟩ : Str)).map (·.length)).sum = l.length := by
  induction l with
  | nil => rfl
  | cons a r ih =>
    rw [List.map_cons, List.map_cons, List.sum_cons, ih, List.length_cons]
    show 1 + r.length = r.length + 1
    omega
/-- a join of a new list of texts -/
theorem ev_joinN {K : PySem.W.Frag} {σ : L2.St} {H : Hp} {to te : TE} {a : Str} {ys : List Str} (h0 : Ev to σ H (.str a)) (h : EvL te σ H (ys.map V.str)) (hz : (ys.map (·.length)).sum + ys.length * a.length ≤ 16777216) :
    Ev (tM1 (fun x xs H Q => ∃ a p, ∃ ys : List Str, x = .str a ∧ xs = [.ref p] ∧ (SqL K H p (ys.map V.str) ∨ SqT K H p (ys.map V.str)) ∧ (ys.map (·.length)).sum + ys.length * a.length ≤ 16777216 ∧ Q (.str (Txt.join a ys)) H) to te) σ H (.str (Txt.join a ys)) :=
  fun H1 e Q q => h0 H1 e _ fun H2 e2 => ⟨⟨a, rfl⟩, h H2 (e.trans e2) _ fun p H3 hp e3 hl => ⟨a, p, ys, rfl, rfl, .inl (sq_of hl), hz, q H3 (e2.trans e3)⟩⟩
theorem given_all {n : Nat} {v : Nat → V} {xs : List V} (hn : xs.length = n) (h : ∀ i, i < n → xs[i]? = some (v i)) : given n (fun _ => true) v = xs := by
  unfold given
  rw [List.filter_eq_self.mpr (fun _ _ => rfl)]
  refine List.ext_getElem? fun i => ?_
  rw [List.getElem?_map]
  by_cases hi : i < n
  · rw [List.getElem?_range hi, h i hi] <;> rfl
  · rw [List.getElem?_eq_none (by rw [List.length_range]; omega), List.getElem?_eq_none (by omega)] <;> rfl
/-- [f(x) for x in a new list of ints] -/
theorem el_mapN {K : PySem.W.Frag} {σ : L2.St} {H : Hp} {tl te : TE} {j : Nat} {vs : List Nat} {ns : List Int} {f : Int → V} (h : EvL tl σ H (ns.map V.int)) (hz : ns.length ≤ 40000) (hw : ∀ x, wipe ((wipe σ vs).set j (some x)) vs = wipe σ vs)
    (he : ∀ n ∈ ns, ∀ H1, Ex H H1 → Ev te ((wipe σ vs).set j (some (.int n))) H1 (f n)) : EvL (tLc (iList K tl) (gName j) tYes te vs) σ H (ns.map f) := by
  have g : given (ns.map V.int).length (fun _ => true) (fun i => f (ns.getD i 0)) = ns.map f := given_all (by rw [List.length_map, List.length_map]) fun i hi => by
    rw [List.length_map] at hi
    rw [List.getElem?_map, List.getElem?_eq_getElem hi, List.getD_eq_getElem?_getD, List.getElem?_eq_getElem hi] <;> rfl
  rw [← g]
  refine el_lcNL (fun _ => true) (fun i => f (ns.getD i 0)) h (by rw [List.length_map]; exact hz) hw (fun i x H1 e1 hx => ?_) (fun i x H1 e1 hx _ => ?_)
  · exact fun H2 e2 Q q => q H2 (Ex.refl H2)
  · rw [List.getElem?_map] at hx
    cases e : ns[i]? with
    | none =>
      rw [e] at hx
      cases hx
    | some n =>
      rw [e] at hx
      have ex : x = .int n := (Option.some.inj hx).symm
      rw [ex, List.getD_eq_getElem?_getD, e]
      exact he n (List.mem_of_getElem? e) H1 e1
theorem atI_of {xs : List V} {n : Int} {v : V} (h0 : 0 ≤ n) (h : xs[n.toNat]? = some v) : atI xs n = some v := by
  have e : n = ((n.toNat : Nat) : Int) := by omega
  rw [e]
  exact atI_nat (by simpa using h)
theorem at_cps {z : Str} {l : List Nat} (h : z.cps.toList = l) {n : Int} (h0 : 0 ≤ n) (h1 : n < l.length) : atI z.cps.toList n = some (l.getD n.toNat 0) := by
  rw [h]
  have e : n = ((n.toNat : Nat) : Int) := by omega
  have h3 : n.toNat < l.length := by omega
  have h4 : ixN l.length n = some n.toNat := by rw [e]; exact ixN_nat (by omega)
  unfold atI
  rw [h4]
  show l[n.toNat]? = some (l.getD n.toNat 0)
  rw [List.getElem?_eq_getElem h3, List.getD_eq_getElem?_getD, List.getElem?_eq_getElem h3]
  all_goals rfl

/-- the join of texts by their codes -/
theorem join_codes (l : List (List Nat)) : Txt.join (Str.ofString "") (l.map fun c => (⟨c.toArray⟩ : Str)) = ⟨l.flatten.toArray⟩ := by
  rw [TL.join_eq]
  refine str_ext ?_
  have key : ∀ l : List (List Nat), TL.joinL [] l = l.flatten := fun l => by
    induction l with
    | nil => rfl
    | cons a r ih =>
      cases r with
      | nil => simp [TL.joinL]
      | cons b r =>
        show a ++ ([] ++ TL.joinL [] (b :: r)) = (a :: b :: r).flatten
        rw [ih, List.nil_append]
        exact List.flatten_cons.symm
  have h := TL.tl_join (Str.ofString "") (l.map fun c => (⟨c.toArray⟩ : Str))
  have e1 : TL.tl (Str.ofString "") = [] := by decide +kernel
  have e2 : (l.map fun c => (⟨c.toArray⟩ : Str)).map TL.tl = l := by
    rw [List.map_map]
    exact List.map_id l
  rw [e1, e2] at h
  exact h.trans (key l)
theorem sum_codes (l : List (List Nat)) : ((l.map fun c => (⟨c.toArray⟩ : Str)).map (·.length)).sum = l.flatten.length := by
  induction l with
  | nil => rfl
  | cons a r ih =>
    rw [List.map_cons, List.map_cons, List.sum_cons, ih, List.flatten_cons, List.length_append] <;> rfl
/-- [f(x) for x in a tuple] -/
theorem el_mapT {K : PySem.W.Frag} {σ : L2.St} {H : Hp} {tl te : TE} {j : Nat} {vs : List Nat} {a : Addr} {xs ys : List V} (h : Ev tl σ H (.ref a)) (hx : SqT K H a xs) (hz : xs.length ≤ 40000) (hw : ∀ x, wipe ((wipe σ vs).set j (some x)) vs = wipe σ vs) (hl : ys.length = xs.length)
    (he : ∀ (i : Nat) (x y : V), xs[i]? = some x → ys[i]? = some y → ∀ H1, Ex H H1 → Ev te ((wipe σ vs).set j (some x)) H1 y) : EvL (tLc (iTup K tl) (gName j) tYes te vs) σ H ys := by
  intro H0 e Q q
  refine h H0 e _ fun H1 e1 => ⟨a, rfl, ⟨xs, ex_t (e.trans e1) hx⟩, fun Dl hD => ?_⟩
  refine lc_tup (xs := xs) (fun i H' => H1 Dl = none ∧ Ex H1 H' ∧ H' Dl = some (.lst (ys.take i))) ⟨hD, Ex.new hD, upd_same⟩ (fun i H' _ p => ex_t ((e.trans e1).trans p.2.1) hx) (fun i x H' hi p => ⟨hw x, ?_⟩) (fun H' p => ?_)
  · obtain ⟨p1, p2, p3⟩ := p
    have hi2 : i < ys.length := by
      have := (List.getElem?_eq_some_iff.mp hi).1
      omega
    have hy : ys[i]? = some ys[i] := List.getElem?_eq_getElem hi2
    show te ((wipe σ vs).set j (some x)) H' _
    refine he i x ys[i] hi hy H1 (e.trans e1) H' p2 _ fun H4 e4 => ⟨ys.take i, e4 Dl _ p3, sz_lt (by rw [List.length_take]; omega), p1, (p2.trans e4).mut p1, ?_⟩
    rw [upd_same, List.take_add_one, hy] <;> rfl
  · obtain ⟨p1, p2, p3⟩ := p
    rw [← hl, List.take_length] at p3
    exact q Dl H' (fresh_back e1 p1) (e1.trans p2) p3
/-- [f(x) for x in a list] -/
theorem el_mapL {K : PySem.W.Frag} {σ : L2.St} {H : Hp} {tl te : TE} {j : Nat} {vs : List Nat} {a : Addr} {xs ys : List V} (h : Ev tl σ H (.ref a)) (hx : SqL K H a xs) (hz : xs.length ≤ 40000) (hw : ∀ x, wipe ((wipe σ vs).set j (some x)) vs = wipe σ vs) (hl : ys.length = xs.length)
    (he : ∀ (i : Nat) (x y : V), xs[i]? = some x → ys[i]? = some y → ∀ H1, Ex H H1 → Ev te ((wipe σ vs).set j (some x)) H1 y) : EvL (tLc (iList K tl) (gName j) tYes te vs) σ H ys := by
  intro H0 e Q q
  refine h H0 e _ fun H1 e1 => ⟨a, rfl, ⟨xs, ex_l (e.trans e1) hx⟩, fun Dl hD => ?_⟩
  refine lc_list (xs := xs) (fun i H' => H1 Dl = none ∧ Ex H1 H' ∧ H' Dl = some (.lst (ys.take i))) ⟨hD, Ex.new hD, upd_same⟩ (fun i H' _ p => ex_l ((e.trans e1).trans p.2.1) hx) (fun i x H' hi p => ⟨hw x, ?_⟩) (fun H' p => ?_)
  · obtain ⟨p1, p2, p3⟩ := p
    have hi2 : i < ys.length := by
      have := (List.getElem?_eq_some_iff.mp hi).1
      omega
    have hy : ys[i]? = some ys[i] := List.getElem?_eq_getElem hi2
    show te ((wipe σ vs).set j (some x)) H' _
    refine he i x ys[i] hi hy H1 (e.trans e1) H' p2 _ fun H4 e4 => ⟨ys.take i, e4 Dl _ p3, sz_lt (by rw [List.length_take]; omega), p1, (p2.trans e4).mut p1, ?_⟩
    rw [upd_same, List.take_add_one, hy] <;> rfl
  · obtain ⟨p1, p2, p3⟩ := p
    rw [← hl, List.take_length] at p3
    exact q Dl H' (fresh_back e1 p1) (e1.trans p2) p3
/-- [f(k) for k in range(n)] -/
theorem el_mapR {σ : L2.St} {H : Hp} {ta : TA} {te : TE} {j : Nat} {vs : List Nat} {n : Nat} {ys : List V} (h : EvA ta σ H [.int (n : Int)]) (hz : n ≤ 40000) (hw : ∀ x, wipe ((wipe σ vs).set j (some x)) vs = wipe σ vs) (hl : ys.length = n)
    (he : ∀ (i : Nat) (y : V), i < n → ys[i]? = some y → ∀ H1, Ex H H1 → Ev te ((wipe σ vs).set j (some (.int (i : Int)))) H1 y) : EvL (tLc (iRng1 ta) (gName j) tYes te vs) σ H ys := by
  have g : given (n : Int).toNat (fun _ => true) (fun i => ys.getD i .non) = ys := given_all (by omega) fun i hi => by
    have hi2 : i < ys.length := by omega
    rw [List.getElem?_eq_getElem hi2, List.getD_eq_getElem?_getD, List.getElem?_eq_getElem hi2] <;> rfl
  rw [← g]
  refine el_lcR1 (fun _ => true) (fun i => ys.getD i .non) h (by omega) hw (fun i H1 e1 hi => ?_) (fun i H1 e1 hi _ => ?_)
  · exact fun H2 e2 Q q => q H2 (Ex.refl H2)
  · have hi2 : i < ys.length := by omega
    have hy : ys[i]? = some (ys.getD i .non) := by rw [List.getElem?_eq_getElem hi2, List.getD_eq_getElem?_getD, List.getElem?_eq_getElem hi2] <;> rfl
    exact he i _ (by omega) hy H1 e1
/-- for c in a text -/
theorem s_forS {σ : L2.St} {H : Hp} {te : TE} {tu : TS} {D : Ends} {j : Nat} {z : Str} (h : Ev te σ H (.str z)) (Pv : Nat → L2.St → Hp → Prop) (h0 : ∀ H1, Ex H H1 → Pv 0 σ H1)
    (hs : ∀ i c σ' H', z.cps.toList[i]? = some c → Pv i σ' H' → tu { D with nx := Pv (i + 1), ct := Pv (i + 1), bk := D.nx } (σ'.set j (some (.str ⟨#[c]⟩))) H') (hd : ∀ σ' H', Pv z.cps.toList.length σ' H' → D.nx σ' H') : tFor (iStr te) (gName j) tu D σ H := by
  refine h H (Ex.refl H) _ fun H1 e => ⟨z, rfl, fun i m σ' H' => m = z.cps.toList.length - i ∧ i ≤ z.cps.toList.length ∧ Pv i σ' H', ⟨_, rfl, Nat.zero_le _, h0 H1 e⟩, ?_⟩
  rintro i m σ' H' ⟨rfl, hi, p⟩
  by_cases hlt : i < z.cps.toList.length
  · refine .inr ⟨(by show i < z.cps.size; simpa using hlt), Pv (i + 1), fun σ2 H2 p2 => ⟨_, by omega, rfl, hlt, p2⟩, fun x H2 y => ?_⟩
    obtain ⟨rfl, c, hc, rfl⟩ := y
    exact hs i c σ' H2 (by simpa using hc) p
  · have ei : i = z.cps.toList.length := by omega
    subst ei
    exact .inl ⟨(by show z.cps.size ≤ z.cps.toList.length; simp), hd σ' H' p⟩
theorem q_forS {σ : L2.St} {H : Hp} {te : TE} {tu tz : TS} {D : Ends} {j : Nat} {z : Str} (h : Ev te σ H (.str z)) (Pv : Nat → L2.St → Hp → Prop) (h0 : ∀ H1, Ex H H1 → Pv 0 σ H1)
    (hs : ∀ i c σ' H', z.cps.toList[i]? = some c → Pv i σ' H' → tu { D with nx := Pv (i + 1), ct := Pv (i + 1), bk := tz D } (σ'.set j (some (.str ⟨#[c]⟩))) H') (hd : ∀ σ' H', Pv z.cps.toList.length σ' H' → tz D σ' H') : tSeq (tFor (iStr te) (gName j) tu) tz D σ H :=
  s_forS (D := { D with nx := tz D }) h Pv h0 hs hd
/-! ### isinstance against a built-in type; f-strings -/
theorem tyx_tup {K : PySem.W.Frag} {H : Hp} {a : Addr} {xs : List V} (h : SqT K H a xs) : TyX K H (.ref a) (.type "tuple") := by
  rcases h with (h | ⟨o, h⟩) | ⟨o, its, n, h, hc, _⟩
  · exact .base (.tup h)
  · exact .fTuple h
  · exact .kTuple h hc
theorem ev_isi {K : PySem.W.Frag} {σ : L2.St} {H : Hp} {te : TE} {x : V} {a b : String} {r : Bool} (h : Ev te σ H x) (ht : ∀ H1, Ex H H1 → TyX K H1 x (.type a)) (hk : kitB a b = some r) : Ev (tCB (rIsi K) (tCons te (tCons (tC (.ty b)) tNil))) σ H (.bl r) := fun H1 e Q q =>
  h H1 e _ fun H2 e2 => ⟨x, .ty b, .type a, .type b, r, rfl, .ty b, ht H2 (e.trans e2), kit_ty hk, q H2 e2⟩
/-- parts that evaluate to texts -/
inductive EvJ (σ : L2.St) (H : Hp) : List TE → List Str → Prop where
  | nil : EvJ σ H [] []
  | cons {t : TE} {ts : List TE} {y : Str} {ys : List Str} (h : Ev t σ H (.str y)) (r : EvJ σ H ts ys) : EvJ σ H (t :: ts) (y :: ys)
theorem evj_run {σ : L2.St} {H : Hp} {ts : List TE} {ys : List Str} (h : EvJ σ H ts ys) : ∀ (acc : Str) (H1 : Hp) (Q : Str → Hp → Prop), Ex H H1 → acc.length + (ys.map (·.length)).sum ≤ 16777216 → (∀ H2, Ex H1 H2 → Q (ys.foldl (· ++ ·) acc) H2) → tJs ts acc σ H1 Q := by
  induction h with
  | nil => exact fun acc H1 Q _ _ q => q H1 (Ex.refl H1)
  | @cons t ts y ys h r ih =>
    intro acc H1 Q e hz q
    rw [List.map_cons, List.sum_cons] at hz
    have el : (acc ++ y).length = acc.length + y.length := by
      show (acc.cps ++ y.cps).size = acc.cps.size + y.cps.size
      exact Array.size_append
    refine h H1 e _ fun H2 e2 => ⟨y, rfl, sizeOk (by rw [el]; omega), ih (acc ++ y) H2 Q (e.trans e2) (by rw [el]; omega) fun H3 e3 => q H3 (e2.trans e3)⟩
theorem ev_joined {σ : L2.St} {H : Hp} {ts : List TE} {ys : List Str} (h : EvJ σ H ts ys) (hz : (ys.map (·.length)).sum ≤ 16777216) : Ev (fun σ H Q => tJs ts Str.empty σ H fun out H1 => Q (.str out) H1) σ H (.str (ys.foldl (· ++ ·) Str.empty)) := fun H1 e Q q =>
  evj_run h Str.empty H1 _ e (by show 0 + _ ≤ _; omega) fun H2 e2 => q H2 e2
theorem ev_fmtS {σ : L2.St} {H : Hp} {te : TE} {y : Str} (h : Ev te σ H (.str y)) (hz : y.length ≤ 16777216) : Ev (tFmt te) σ H (.str y) := fun H1 e Q q => h H1 e _ fun H2 e2 => .inl ⟨y, rfl, sizeOk hz, q H2 e2⟩
theorem ev_fmtI {σ : L2.St} {H : Hp} {te : TE} {i : Int} (h : Ev te σ H (.int i)) (hz : i.natAbs.log2 < 1920) : Ev (tFmt te) σ H (.str (toString i)) := fun H1 e Q q => h H1 e _ fun H2 e2 => .inr ⟨i, rfl, hz, q H2 e2⟩
theorem ev_strI {σ : L2.St} {H : Hp} {te : TE} {i : Int} (h : Ev te σ H (.int i)) (hz : i.natAbs.log2 < 1920) : Ev (tCB (fun xs H Q => ∃ i : Int, xs = [V.int i] ∧ i.natAbs.log2 < 1920 ∧ Q (.str (toString i)) H) (tCons te tNil)) σ H (.str (toString i)) := fun H1 e Q q => h H1 e _ fun H2 e2 => ⟨i, rfl, hz, q H2 e2⟩
theorem ev_ordS {σ : L2.St} {H : Hp} {te : TE} {c : Nat} (h : Ev te σ H (.str ⟨#[c]⟩)) : Ev (tCB (fun xs H Q => ∃ x : Str, xs = [V.str x] ∧ x.length = 1 ∧ Q (.int (x.cps.getD 0 0 : Nat)) H) (tCons te tNil)) σ H (.int (c : Int)) := fun H1 e Q q => h H1 e _ fun H2 e2 => ⟨_, rfl, rfl, q H2 e2⟩
theorem ev_ends {σ : L2.St} {H : Hp} {to te : TE} {a b : Str} (h0 : Ev to σ H (.str a)) (h : Ev te σ H (.str b)) : Ev (tM1 (fun x xs H Q => ∃ a b, x = V.str a ∧ xs = [V.str b] ∧ Q (.bl (Txt.endswith a b)) H) to te) σ H (.bl (Txt.endswith a b)) := fun H1 e Q q =>
  h0 H1 e _ fun H2 e2 => ⟨⟨a, rfl⟩, h H2 (e.trans e2) _ fun H3 e3 => ⟨a, b, rfl, rfl, q H3 (e2.trans e3)⟩⟩
theorem ev_slS {σ : L2.St} {H : Hp} {te : TE} {tl th : TO} {z : Str} {lo hi : Option Int} (h : Ev te σ H (.str z)) (h1 : EvO tl σ H lo) (h2 : EvO th σ H hi) (hz : z.length ≤ 100000) : Ev (tSl rSlS te tl th) σ H (.str (cutS z lo hi)) := fun H1 e Q q =>
  h H1 e _ fun H2 e2 => h1 H2 (e.trans e2) _ fun H3 e3 => h2 H3 ((e.trans e2).trans e3) _ fun H4 e4 => ⟨z, rfl, sz_of hz, q H4 ((e2.trans e3).trans e4)⟩
/-- tuple(a new list) -/
theorem eu_ofN {K : PySem.W.Frag} {σ : L2.St} {H : Hp} {te : TE} {xs : List V} (h : EvL te σ H xs) : EvU (tCB (fun xs H Q => ∃ p ys, xs = [V.ref p] ∧ ((SqL K H p ys ∧ ∀ l, H l = none → Q (.ref l) (upd H l (.tup ys))) ∨ (SqT K H p ys ∧ Q (.ref p) H))) (tCons te tNil)) σ H xs := fun H1 e Q q =>
  h H1 e _ fun p H2 _ e2 hp => ⟨p, xs, rfl, .inl ⟨sq_of hp, fun l hl => q l _ (fresh_back e2 hl) (e2.trans (Ex.new hl)) upd_same⟩⟩
theorem eu_ofL {K : PySem.W.Frag} {σ : L2.St} {H : Hp} {te : TE} {p : Addr} {xs : List V} (h : Ev te σ H (.ref p)) (hx : SqL K H p xs) : EvU (tCB (fun xs H Q => ∃ p ys, xs = [V.ref p] ∧ ((SqL K H p ys ∧ ∀ l, H l = none → Q (.ref l) (upd H l (.tup ys))) ∨ (SqT K H p ys ∧ Q (.ref p) H))) (tCons te tNil)) σ H xs := fun H1 e Q q =>
  h H1 e _ fun H2 e2 => ⟨p, xs, rfl, .inl ⟨ex_l (e.trans e2) hx, fun l hl => q l _ (fresh_back e2 hl) (e2.trans (Ex.new hl)) upd_same⟩⟩
/-- a def that hands back a new tuple -/
def SpU (sp : Sp) (vs : List V) (H : Hp) (xs : List V) : Prop := ∀ H1, Ex H H1 → ∀ Q : VK, (∀ p H2, Ex H1 H2 → H2 p = some (.tup xs) → Q (.ref p) H2) → ∀ E : XK, sp vs H1 Q E
theorem q_callU {sp : Sp} {dvs vs xs : List V} {E : XK} {ta : TA} {σ : L2.St} {H : Hp} {tz : TS} {D : Ends} {i : Nat} (h : EvA ta σ H vs) (hs : SpU sp (vs ++ dvs) H xs) (k : ∀ p H1, Ex H H1 → H1 p = some (.tup xs) → tz D (σ.set i (some (.ref p))) H1) : tSeq (tAsg (tCall sp dvs E ta) (gName i)) tz D σ H :=
  h H (Ex.refl H) _ fun H2 e2 => hs H2 e2 _ (fun p H3 e3 hp => k p H3 (e2.trans e3) hp) E
theorem s_callU {sp : Sp} {dvs vs xs : List V} {E : XK} {ta : TA} {σ : L2.St} {H : Hp} {D : Ends} {i : Nat} (h : EvA ta σ H vs) (hs : SpU sp (vs ++ dvs) H xs) (k : ∀ p H1, Ex H H1 → H1 p = some (.tup xs) → D.nx (σ.set i (some (.ref p))) H1) : tAsg (tCall sp dvs E ta) (gName i) D σ H :=
  h H (Ex.refl H) _ fun H2 e2 => hs H2 e2 _ (fun p H3 e3 hp => k p H3 (e2.trans e3) hp) E
/-- a call whose one argument is a new tuple -/
theorem ev_callU {sp : Sp} {dvs xs : List V} {z : V} {E : XK} {te : TE} {σ : L2.St} {H : Hp} (h : EvU te σ H xs) (hs : ∀ p H1, H1 p = some (.tup xs) → Ex H H1 → SpV sp ([.ref p] ++ dvs) H1 z) : Ev (tCall sp dvs E (tCons te tNil)) σ H z := fun H1 e Q q =>
  h H1 e _ fun p H2 _ e2 hp => hs p H2 hp (e.trans e2) H2 (Ex.refl H2) Q (fun H3 e3 => q H3 (e2.trans e3)) E
/-- written tuples, one behind the other -/
def EvP (ta : TA) (σ : L2.St) (H : Hp) (xss : List (List V)) : Prop := ∀ H1, Ex H H1 → ∀ Q : List V → Hp → Prop, (∀ (ps : List Addr) H2, Ex H1 H2 → Paired (fun p xs => H2 p = some (.tup xs)) ps xss → Q (ps.map V.ref) H2) → ta σ H1 Q
theorem paired_mono {H H' : Hp} (e : Ex H H') : ∀ {ps : List Addr} {xss : List (List V)}, Paired (fun p xs => H p = some (.tup xs)) ps xss → Paired (fun p xs => H' p = some (.tup xs)) ps xss
  | _, _, .nil => .nil
  | _, _, .cons h r => .cons (e _ _ h) (paired_mono e r)
theorem ep_nil {σ : L2.St} {H : Hp} : EvP tNil σ H [] := fun H1 e Q q => q [] H1 (Ex.refl H1) .nil
theorem ep_cons {σ : L2.St} {H : Hp} {te : TE} {tr : TA} {xs : List V} {xss : List (List V)} (h : EvU te σ H xs) (r : EvP tr σ H xss) : EvP (tCons te tr) σ H (xs :: xss) := fun H1 e Q q =>
  h H1 e _ fun p H2 _ e2 hp => r H2 (e.trans e2) _ fun ps H3 e3 hr => q (p :: ps) H3 (e2.trans e3) (.cons (e3 p _ hp) hr)
theorem q_asgLP {ta : TA} {xss : List (List V)} {σ : L2.St} {H : Hp} {tz : TS} {D : Ends} {i : Nat} (h : EvP ta σ H xss) (hz : xss.length ≤ 100000) (k : ∀ p ps H1, Ex H H1 → H1 p = some (.lst (ps.map V.ref)) → Paired (fun p xs => H1 p = some (.tup xs)) ps xss → tz D (σ.set i (some (.ref p))) H1) :
    tSeq (tAsg (tLst ta) (gName i)) tz D σ H := h H (Ex.refl H) _ fun ps H1 e1 hps => by
  have el : ∀ {as : List Addr} {bs : List (List V)}, Paired (fun p xs => H1 p = some (.tup xs)) as bs → as.length = bs.length := fun h => by
    induction h with
    | nil => rfl
    | cons _ _ ih => exact congrArg (· + 1) ih
  exact ⟨sz_of (by rw [List.length_map, el hps]; exact hz), fun p hp => k p ps _ (e1.trans (Ex.new hp)) upd_same (paired_mono (Ex.new hp) hps)⟩
theorem paired_at {H : Hp} : ∀ {ps : List Addr} {xss : List (List V)}, Paired (fun p xs => H p = some (.tup xs)) ps xss → ∀ {i : Nat} {xs : List V}, xss[i]? = some xs → ∃ p, ps[i]? = some p ∧ H p = some (.tup xs)
  | _, _, .cons h _, 0, xs, e => by
    have e := Option.some.inj e
    subst e
    exact ⟨_, rfl, h⟩
  | _, _, .cons _ r, i + 1, xs, e => by
    obtain ⟨p, h1, h2⟩ := paired_at r (i := i) (by simpa using e)
    exact ⟨p, by simpa using h1, h2⟩
theorem paired_len {α β : Type} {R : α → β → Prop} : ∀ {as : List α} {bs : List β}, Paired R as bs → as.length = bs.length
  | _, _, .nil => rfl
  | _, _, .cons _ r => congrArg (· + 1) (paired_len r)
/-- a list that is tracked, and a new one behind it -/
theorem el_catV {K : PySem.W.Frag} {σ : L2.St} {H : Hp} {ta tb : TE} {p : Addr} {xs ys : List V} (ha : Ev ta σ H (.ref p)) (hp : H p = some (.lst xs)) (hb : EvL tb σ H ys) (hz : xs.length + ys.length ≤ 100000) : EvL (tOp rCat ta tb) σ H (xs ++ ys) := fun H1 e Q q =>
  ha H1 e _ fun H2 e2 => hb H2 (e.trans e2) _ fun r H3 hr e3 h3 => ⟨p, r, xs, ys, rfl, rfl, ((e.trans e2).trans e3) p _ hp, h3, sz_of hz, fun l hl => q l _ (fresh_back (e2.trans e3) hl) ((e2.trans e3).trans (Ex.new hl)) upd_same⟩
theorem codes_app {a b : Str} {x y : List Nat} (ha : a.cps.toList = x) (hb : b.cps.toList = y) : (a ++ b).cps.toList = x ++ y := by
  show (a.cps ++ b.cps).toList = x ++ y
  rw [Array.toList_append, ha, hb]
theorem str_len (z : Str) : z.length = z.cps.toList.length := by simp [Str.length]
theorem mk_of {z : Str} {l : List Nat} (h : z.cps.toList = l) : z = ⟨l.toArray⟩ := str_ext h
/-- long texts -/
theorem ev_lenB {σ : L2.St} {H : Hp} {te : TE} {z : Str} (h : Ev te σ H (.str z)) (hz : z.length ≤ 16777216) : Ev (tCB (fun xs H Q => ∃ z, xs = [V.str z] ∧ z.length ≤ sizeLine ∧ Q (.int z.length) H) (tCons te tNil)) σ H (.int (z.length : Int)) := fun H1 e Q q =>
  h H1 e _ fun H2 e2 => ⟨z, rfl, sizeOk hz, q H2 e2⟩
theorem ev_ixB {σ : L2.St} {H : Hp} {ta tb : TE} {z : Str} {i : Int} {c : Nat} (ha : Ev ta σ H (.str z)) (hb : Ev tb σ H (.int i)) (hz : z.length ≤ 16777216) (hi : atI z.cps.toList i = some c) : Ev (tOp rIxS ta tb) σ H (.str ⟨#[c]⟩) :=
  ev_op ha hb fun H1 _ _ q => ⟨z, i, c, rfl, rfl, sizeOk hz, hi, q H1 (Ex.refl H1)⟩
theorem ev_slB {σ : L2.St} {H : Hp} {te : TE} {tl th : TO} {z : Str} {lo hi : Option Int} (h : Ev te σ H (.str z)) (h1 : EvO tl σ H lo) (h2 : EvO th σ H hi) (hz : z.length ≤ 16777216) : Ev (tSl rSlS te tl th) σ H (.str (cutS z lo hi)) := fun H1 e Q q =>
  h H1 e _ fun H2 e2 => h1 H2 (e.trans e2) _ fun H3 e3 => h2 H3 ((e.trans e2).trans e3) _ fun H4 e4 => ⟨z, rfl, sizeOk hz, q H4 ((e2.trans e3).trans e4)⟩
theorem at_natS {l : List Nat} {j c : Nat} (h : l[j]? = some c) : atI l (j : Int) = some c := by
  have hj := (List.getElem?_eq_some_iff.mp h).1
  unfold atI
  rw [ixN_nat hj]
  exact h
theorem q_asgAug {σ : L2.St} {H : Hp} {te : TE} {tz : TS} {D : Ends} {i : Nat} {a b : Int} (hx : σ[i]? = some (some (.int a))) (h : Ev te σ H (.int b)) (k : ∀ H1, Ex H H1 → tz D (σ.set i (some (.int (a + b)))) H1) : tSeq (tAug i te (ipI fun i j => i + j)) tz D σ H := q_aug hx h k
theorem q_callV {sp : Sp} {dvs vs : List V} {E : XK} {ta : TA} {σ : L2.St} {H : Hp} {tz : TS} {D : Ends} {i : Nat} (h : EvA ta σ H vs) (k : ∀ H1, Ex H H1 → sp (vs ++ dvs) H1 (fun v H2 => tz D (σ.set i (some v)) H2) E) : tSeq (tAsg (tCall sp dvs E ta) (gName i)) tz D σ H := h H (Ex.refl H) _ fun H1 e1 => k H1 e1
/-! ### a small tactic: what an expression evaluates to -/
local macro_rules | `(tactic| walk_at "side") => `(tactic| first | assumption | decide | (show (0 : Int) < _; omega) | omega | (show CDivW _ _; exact ⟨by first | decide | omega, by decide⟩) | (show CPow _ _; exact ⟨by decide, by decide, by decide⟩) | (show CMulX _ _; (refine Wd.mul ?_ ?_ <;> walk_at "wd")))
local macro_rules | `(tactic| walk_at "wd") => `(tactic| first | assumption | exact Wd.lit (by decide) | exact Wd.small (by omega) (by omega) | (refine Wd.div ?_; walk_at "wd") | (refine Wd.mod ?_ ?_; (first | decide | omega); (walk_at "wd")) | (refine Wd.neg ?_; walk_at "wd"))
local macro_rules | `(tactic| walk_at "call") => `(tactic| fail "no call")
local macro_rules | `(tactic| walk_at "seq") => `(tactic| first | assumption | (refine ex_l ?_ ?_ <;> assumption) | exact sq_of (by assumption))
local macro_rules | `(tactic| walk_at "ev") => `(tactic| first
  | with_reducible exact ev_c
  | exact ev_var rfl
  | (refine ev_intI ?_; walk_at "ev")
  | (refine ev_bin0 ?_ ?_; (walk_at "ev"); (walk_at "ev"))
  | (refine ev_bin ?_ ?_ ?_; (walk_at "ev"); (walk_at "ev"); (walk_at "side"))
  | (refine ev_eqI ?_ ?_; (walk_at "ev"); (walk_at "ev"))
  | (refine ev_neI ?_ ?_; (walk_at "ev"); (walk_at "ev"))
  | (refine ev_eqS ?_ ?_; (walk_at "ev"); (walk_at "ev"))
  | (refine ev_neS ?_ ?_; (walk_at "ev"); (walk_at "ev"))
  | (refine ev_neg ?_; walk_at "ev")
  | walk_at "call")
local macro_rules | `(tactic| walk_at "et") => `(tactic| first
  | (refine et_test ?_; walk_at "ev")
  | (refine et_B ?_; walk_at "ev")
  | (refine et_not ?_; walk_at "et"))
local macro_rules | `(tactic| walk_at "ea") => `(tactic| first | exact ea_nil | (refine ea_cons ?_ ?_; (walk_at "ev"); (walk_at "ea")))


/-! ### a text times a number -/
theorem foldl_reps (a : Array Nat) : ∀ (m : Nat) (acc : Array Nat), ((List.replicate m a).foldl (· ++ ·) acc).toList = acc.toList ++ (List.replicate m a.toList).flatten
  | 0, acc => by simp
  | m + 1, acc => by
    rw [List.replicate_succ, List.replicate_succ, List.foldl_cons, foldl_reps a m (acc ++ a), Array.toList_append, List.flatten_cons, List.append_assoc]
def repC (z : Str) (n : Nat) : List Nat := (List.replicate n z.cps.toList).flatten
theorem op_repS {X : Cx} : OpR X (binaryOp .Mult) (fun x y H Q => ∃ (z : Str) (k : Int), x = V.str z ∧ y = V.int k ∧ 0 ≤ k ∧ z.length * k.toNat ≤ 16777216 ∧ k < 2 ^ 60 ∧ Q (.str ⟨(repC z k.toNat).toArray⟩) H) := by
  intro pins s σ H x y v u Q I rx ry h
  obtain ⟨z, k, rfl, rfl, h0, hz, hk, q⟩ := h
  obtain ⟨t, rfl⟩ := rx
  obtain ⟨t', rfl⟩ := ry
  have ez : z.length = z.cps.toList.length := by simp [Str.length]
  have hzi : (z.length : Int) * k ≤ 16777216 := by
    have e : ((z.length * k.toNat : Nat) : Int) = (z.length : Int) * k := by
      rw [Int.natCast_mul, Int.toNat_of_nonneg h0]
    omega
  refine PySem.P.mul_str ?_ (fun h1 _ z2 => ?_) (fun h1 _ => ?_) ?_
  · rw [decide_eq_false (by omega), decide_eq_false (by omega)] <;> rfl
  · have h3 : (z.length : Int) ≤ (2 ^ 63 - 1) / k := Int.le_ediv_of_mul_le (by omega) (by omega)
    omega
  · have : ¬ z.length * k.toNat > sizeLine := by
      rw [sizeLine_eq]
      omega
    unfold Builtin.Str.tooLong
    exact decide_eq_false this
  · have e1 : ∀ y : Str, y.cps.toList = repC z k.toNat → y = ⟨(repC z k.toNat).toArray⟩ := fun y hy => by
      obtain ⟨y⟩ := y
      exact congrArg Str.mk (Array.toList_inj.mp (hy.trans rfl))
    have er : (repC z k.toNat).length = k.toNat * z.length := by
      unfold repC
      rw [List.length_flatten, List.map_replicate, List.sum_replicate_nat, ez]
    split
    · have e2 : Str.empty = (⟨(repC z k.toNat).toArray⟩ : Str) := e1 _ (by
        have : k.toNat = 0 := by omega
        unfold repC
        rw [this] <;> rfl)
      refine ⟨by decide, ?_⟩
      rw [e2]
      exact ⟨.str ⟨(repC z k.toNat).toArray⟩, H, I.tok _, ⟨_, rfl⟩, q⟩
    · split
      · rename_i h1 h2
        have e2 : z = (⟨(repC z k.toNat).toArray⟩ : Str) := e1 _ (by
          unfold repC
          rw [Bool.or_eq_true, beq_iff_eq, beq_iff_eq] at h2
          rcases h2 with h2 | h2
          · rw [h2]
            show _ = (List.replicate 1 _).flatten
            simp
          · have : z.cps.toList = [] := List.length_eq_zero_iff.mp (by omega)
            rw [this]
            simp)
        show EP X pins σ Q _ _
        rw [← e2] at q
        exact ⟨.str z, H, I, ⟨t, rfl⟩, q⟩
      · have e2 : (⟨(List.replicate k.toNat z.cps).foldl (· ++ ·) #[]⟩ : Str) = ⟨(repC z k.toNat).toArray⟩ := e1 _ (by
          show ((List.replicate k.toNat z.cps).foldl (· ++ ·) #[]).toList = _
          rw [foldl_reps] <;> rfl)
        rw [e2]
        refine ⟨?_, ⟨.str ⟨(repC z k.toNat).toArray⟩, H, I.tok _, ⟨_, rfl⟩, q⟩⟩
        show (repC z k.toNat).toArray.size ≤ sizeLine
        rw [List.size_toArray, er, sizeLine_eq, Nat.mul_comm]
        exact hz
theorem ev_repS {σ : L2.St} {H : Hp} {ta tb : TE} {z : Str} {n : Nat} (ha : Ev ta σ H (.str z)) (hb : Ev tb σ H (.int (n : Int))) (hz : z.length * n ≤ 16777216) (hn : n ≤ 16777216) : Ev (tOp (fun x y H Q => ∃ (z : Str) (k : Int), x = V.str z ∧ y = V.int k ∧ 0 ≤ k ∧ z.length * k.toNat ≤ 16777216 ∧ k < 2 ^ 60 ∧ Q (.str ⟨(repC z k.toNat).toArray⟩) H) ta tb) σ H (.str ⟨(repC z n).toArray⟩) :=
  ev_op ha hb fun H1 _ Q q => ⟨z, n, rfl, rfl, by omega, hz, by omega, q H1 (Ex.refl H1)⟩


/-! ### len of an own object -/
theorem call_lenO {X : Cx} {C f : Addr} {fd : FuncData} {k : Nat} {sp : Sp} (ml : PySem.W.findIn X.K (.ref C) "__len__" = some (some (.ref f))) (mf : PySem.W.isFn X.K (.ref f) = true) (F : FnOk X.prog X.w X.K X.mg X.base CX0 k f fd ["self"] sp) (hr : Room (k + 1) X.A) (hb : Binds X.K fd ["self"] []) :
    CallR X (.builtin "len") (fun xs H Q => ∃ a dx fs, xs = [V.ref a] ∧ H a = some (.ins C dx fs) ∧ sp [.ref a] H (fun v H' => ∃ n : Int, v = .int n ∧ (0 ≤ n ∧ n < 2 ^ 63) ∧ Q (.int n) H') E0) := by
  intro pins s σ H xs us Q I r h
  obtain ⟨a, dx, fs, rfl, ha, q⟩ := h
  obtain ⟨u, rfl, rx⟩ := vals1 r
  cases (show u = Value.ref a from rx)
  obtain ⟨mA, O, _⟩ := ins_get I.hok ha
  obtain ⟨od, J, _⟩ := O.look
  refine Calls.call_function_entry PySem.kind_len PySem.plain_len PySem.entry_len (PySem.args_len1 _) ?_
  unfold Builtin.«len»
  refine wpAny_bind (wpAny_pure ?_)
  refine wpAny_bind (m := callSpecial? (.ref a) (Str.ofString "__len__")) (PySem.W.special_fn I.kIn J ml (beq_iff_eq.mp mf) ?_)
  refine wpAny_call (codeAny_mono (F.run X.A.in1 X.stack s H ⟨[.ref a], []⟩ [.ref a] [.ref a] _ E0 hr.in1 I.env0.in1 (hb s [.ref a] I.kIn rfl) (.cons rfl .nil) q) fun r s' hq => ?_)
  cases r with
  | error e => exact hq.elim
  | ok fl =>
    cases fl with
    | ret u =>
      obtain ⟨v, H', I', rv, n, rfl, ⟨h0, h1⟩, q⟩ := I.after hq
      obtain ⟨t, rfl⟩ := rv
      refine wpAny_bind (wpAny_holding (wpAny_pure ?_))
      refine wpAny_bind (wpAny_letGo ?_)
      show wpAny _ _ (if n < 0 then _ else _) _ _ _
      rw [if_neg (by omega)]
      show wpAny _ _ (if n ≥ 2 ^ 63 then _ else _) _ _ _
      rw [if_neg (by omega)]
      exact wpAny_bind (wpAny_mkInt (wpAny_pure ⟨_, rfl, ⟨.int n, H', I'.tok _, ⟨_, rfl⟩, q⟩⟩))
    | next => exact False.elim hq
    | brk => exact False.elim hq
    | cont => exact False.elim hq


/-! ### the book -/
abbrev aF (d : Addr) : List (Str × V) := [(("_addresses" : Str), V.ref d)]
theorem aF_get (d : Addr) : (aF d).lookup ("_addresses" : Str) = some (.ref d) := by simp [aF, List.lookup]
theorem aF_no (d : Addr) {m : Str} (h : (m == ("_addresses" : Str)) = false) : (aF d).lookup m = none := by simp [aF, List.lookup, h]
/-- a book stands at p, its dict at d -/
def BkAt (C : Addr) (H : Hp) (p d : Addr) (kvs : List (Key × V)) : Prop := (∃ dx, H p = some (.ins C dx (aF d))) ∧ H d = some (.dK kvs)
/-- what address leaves -/
def addK (kvs : List (Key × V)) (z : Str) : List (Key × V) := match valV kvs (Sum.inr z : Key) with
  | none => putK kvs (Sum.inr z : Key) (.int ((kvs.length : Int) + 1))
  | some _ => kvs
theorem addK_none {kvs : List (Key × V)} {z : Str} (h : valV kvs (Sum.inr z : Key) = none) : addK kvs z = putK kvs (Sum.inr z : Key) (.int ((kvs.length : Int) + 1)) := by
  unfold addK
  rw [h]
theorem addK_some {kvs : List (Key × V)} {z : Str} {v : V} (h : valV kvs (Sum.inr z : Key) = some v) : addK kvs z = kvs := by
  unfold addK
  rw [h]
theorem addK_len (kvs : List (Key × V)) (z : Str) : (addK kvs z).length ≤ kvs.length + 1 := by
  cases h : valV kvs (Sum.inr z : Key) with
  | none => rw [addK_none h, putK_new _ h, List.length_append]; exact Nat.le_refl _
  | some v => rw [addK_some h]; omega
/-- all values are ints -/
def Nums (kvs : List (Key × V)) : Prop := ∀ (k : Key) (v : V), valV kvs k = some v → ∃ i : Int, v = .int i
theorem nums_nil : Nums [] := fun k v h => by cases h
theorem nums_add {kvs : List (Key × V)} (h : Nums kvs) (z : Str) : Nums (addK kvs z) := by
  cases e : valV kvs (Sum.inr z : Key) with
  | none =>
    rw [addK_none e]
    intro k v hv
    rw [valV_put] at hv
    split at hv
    · exact ⟨_, (Option.some.inj hv).symm⟩
    · exact h k v hv
  | some v => rw [addK_some e]; exact h
theorem addK_val {kvs : List (Key × V)} (h : Nums kvs) (z : Str) : ∃ i : Int, valV (addK kvs z) (Sum.inr z : Key) = some (.int i) := by
  cases e : valV kvs (Sum.inr z : Key) with
  | none => exact ⟨_, by rw [addK_none e, valV_put, if_pos rfl]⟩
  | some v =>
    obtain ⟨i, rfl⟩ := h _ _ e
    exact ⟨i, by rw [addK_some e]; exact e⟩
def getK (kvs : List (Key × V)) (z : Str) : V := (valV kvs (Sum.inr z : Key)).getD (.int 0)
theorem getK_int {kvs : List (Key × V)} (h : Nums kvs) (z : Str) : ∃ i : Int, getK kvs z = .int i := by
  unfold getK
  cases e : valV kvs (Sum.inr z : Key) with
  | none => exact ⟨0, rfl⟩
  | some v => exact h _ _ e
theorem szk {n : Nat} (h : n ≤ 1000) : n < sizeLine := small1000 h


/-! ### items and their written form -/
inductive It where
  | non
  | int (i : Int)
  | str (z : Str)
  | tup (xs : List It)
def numC (i : Int) : List Nat := (toString i : Str).cps.toList
mutual
/-- the codes of the written item -/
def encC : It → List Nat
  | .non => [110]
  | .int i => 105 :: (numC i ++ [59])
  | .str z => 116 :: (numC (z.length : Int) ++ (58 :: z.cps.toList))
  | .tup xs => 40 :: (encL xs ++ [41])
def encL : List It → List Nat
  | [] => []
  | d :: ds => encC d ++ encL ds
end
theorem encL_flat : ∀ ds : List It, encL ds = (ds.map encC).flatten
  | [] => rfl
  | d :: ds => by
    show encC d ++ encL ds = _
    rw [encL_flat ds, List.map_cons, List.flatten_cons]
theorem encL_app : ∀ a b : List It, encL (a ++ b) = encL a ++ encL b
  | [], b => rfl
  | x :: a, b => by
    show encC x ++ encL (a ++ b) = encC x ++ encL a ++ encL b
    rw [encL_app a b, List.append_assoc]
theorem encC_pos (d : It) : 1 ≤ (encC d).length := by
  cases d with
  | non => exact Nat.le_refl 1
  | int i => show 1 ≤ (105 :: _).length; simp
  | str z => show 1 ≤ (116 :: _).length; simp
  | tup xs => show 1 ≤ (40 :: _).length; simp
theorem encL_mem : ∀ {ds : List It} {d : It}, d ∈ ds → (encC d).length ≤ (encL ds).length
  | d' :: ds, d, h => by
    show _ ≤ (encC d' ++ encL ds).length
    rw [List.length_append]
    rcases List.mem_cons.mp h with e | e
    · rw [e]; omega
    · have := encL_mem e; omega
mutual
/-- the value v of the heap is the item -/
inductive Dv (K : PySem.W.Frag) (H : Hp) : V → It → Prop
  | non : Dv K H .non .non
  | int (i : Int) : Dv K H (.int i) (.int i)
  | str (z : Str) : Dv K H (.str z) (.str z)
  | tup {a : Addr} {xs : List V} {ds : List It} (h : SqT K H a xs) (r : DvL K H xs ds) : Dv K H (.ref a) (.tup ds)
inductive DvL (K : PySem.W.Frag) (H : Hp) : List V → List It → Prop
  | nil : DvL K H [] []
  | cons {v : V} {vs : List V} {d : It} {ds : List It} (h : Dv K H v d) (r : DvL K H vs ds) : DvL K H (v :: vs) (d :: ds)
end
/-- all but lists stands as it stood -/
def ExN (H H' : Hp) : Prop := ∀ a o, H a = some o → (∀ xs, o ≠ .lst xs) → H' a = some o
theorem exN_t {K : PySem.W.Frag} {H H' : Hp} {a : Addr} {xs : List V} (e : ExN H H') (h : SqT K H a xs) : SqT K H' a xs := by
  rcases h with (h | ⟨o, h⟩) | h
  · exact .inl (.inl (e _ _ h fun _ z => nomatch z))
  · exact .inl (.inr ⟨o, e _ _ h fun _ z => nomatch z⟩)
  · exact .inr h
theorem Ex.n {H H' : Hp} (e : Ex H H') : ExN H H' := fun a o h _ => e a o h
theorem ExN.trans {H H1 H2 : Hp} (a : ExN H H1) (b : ExN H1 H2) : ExN H H2 := fun x o h n => b x o (a x o h n) n
theorem ExN.upd {H : Hp} {p : Addr} {xs : List V} {o : HO} (h : H p = some (.lst xs)) : ExN H (upd H p o) := fun a u e n => by
  rw [upd_ne (fun z => n xs (by rw [z, h] at e; exact (Option.some.inj e).symm))]
  exact e
mutual
theorem Dv.monoN {K : PySem.W.Frag} {H H' : Hp} (e : ExN H H') : ∀ {v : V} {d : It}, Dv K H v d → Dv K H' v d
  | _, _, .non => .non
  | _, _, .int i => .int i
  | _, _, .str z => .str z
  | _, _, .tup h r => .tup (exN_t e h) (DvL.monoN e r)
theorem DvL.monoN {K : PySem.W.Frag} {H H' : Hp} (e : ExN H H') : ∀ {vs : List V} {ds : List It}, DvL K H vs ds → DvL K H' vs ds
  | _, _, .nil => .nil
  | _, _, .cons h r => .cons (Dv.monoN e h) (DvL.monoN e r)
end
theorem Dv.mono {K : PySem.W.Frag} {H H' : Hp} (e : Ex H H') {v : V} {d : It} (h : Dv K H v d) : Dv K H' v d := h.monoN (Ex.n e)
theorem DvL.mono {K : PySem.W.Frag} {H H' : Hp} (e : Ex H H') {vs : List V} {ds : List It} (h : DvL K H vs ds) : DvL K H' vs ds := h.monoN (Ex.n e)
theorem DvL.app {K : PySem.W.Frag} {H : Hp} : ∀ {vs us : List V} {ds es : List It}, DvL K H vs ds → DvL K H us es → DvL K H (vs ++ us) (ds ++ es)
  | _, _, _, _, .nil, h => h
  | _, _, _, _, .cons a r, h => .cons a (r.app h)
theorem DvL.take {K : PySem.W.Frag} {H : Hp} : ∀ {vs : List V} {ds : List It} (n : Nat), DvL K H vs ds → DvL K H (vs.take n) (ds.take n)
  | _, _, 0, _ => .nil
  | _, _, _ + 1, .nil => .nil
  | _, _, n + 1, .cons a r => .cons a (r.take n)
theorem DvL.drop {K : PySem.W.Frag} {H : Hp} : ∀ {vs : List V} {ds : List It} (n : Nat), DvL K H vs ds → DvL K H (vs.drop n) (ds.drop n)
  | _, _, 0, h => h
  | _, _, _ + 1, .nil => .nil
  | _, _, n + 1, .cons _ r => r.drop n
theorem DvL.len {K : PySem.W.Frag} {H : Hp} : ∀ {vs : List V} {ds : List It}, DvL K H vs ds → vs.length = ds.length
  | _, _, .nil => rfl
  | _, _, .cons _ r => congrArg (· + 1) r.len
theorem DvL.at {K : PySem.W.Frag} {H : Hp} : ∀ {vs : List V} {ds : List It}, DvL K H vs ds → ∀ {i : Nat} {v : V} {d : It}, vs[i]? = some v → ds[i]? = some d → Dv K H v d
  | _, _, .cons h _, 0, v, d, e1, e2 => by
    have e1 := Option.some.inj e1
    have e2 := Option.some.inj e2
    subst e1 e2
    exact h
  | _, _, .cons _ r, i + 1, v, d, e1, e2 => r.at (i := i) (by simpa using e1) (by simpa using e2)
/-- depth, width and sizes -/
def It.fit : Nat → It → Prop
  | 0, x => match x with
    | .non => True
    | .int i => -(10 ^ 60) < i ∧ i < 10 ^ 60
    | .str z => z.length ≤ 999999
    | .tup _ => False
  | n + 1, x => match x with
    | .non => True
    | .int i => -(10 ^ 60) < i ∧ i < 10 ^ 60
    | .str z => z.length ≤ 999999
    | .tup xs => xs.length ≤ 1000 ∧ ∀ y ∈ xs, It.fit n y
theorem log60 {i : Int} (h : -(10 ^ 60) < i ∧ i < 10 ^ 60) : i.natAbs.log2 < 1920 := by
  have e60 : (10 : Int) ^ 60 = 1000000000000000000000000000000000000000000000000000000000000 := by decide
  rw [e60] at h
  exact Nat.lt_of_lt_of_le (PySem.Flt.log2_lt_of (k := 256) (by decide) (by omega)) (by decide)
theorem fit_int60 {n : Nat} {i : Int} (h : It.fit n (.int i)) : -(10 ^ 60) < i ∧ i < 10 ^ 60 := by cases n <;> exact h
theorem fit_int {n : Nat} {i : Int} (h : It.fit n (.int i)) : i.natAbs.log2 < 1920 := log60 (fit_int60 h)
theorem fit_str {n : Nat} {z : Str} (h : It.fit n (.str z)) : z.length ≤ 999999 := by cases n <;> exact h
theorem It.fit_mono : ∀ {n m : Nat} {d : It}, It.fit n d → n ≤ m → It.fit m d
  | n, m, .non, _, _ => by cases m <;> trivial
  | n, m, .int i, h, _ => by
    have := fit_int60 h
    cases m <;> exact this
  | n, m, .str z, h, _ => by
    have := fit_str h
    cases m <;> exact this
  | 0, m, .tup xs, h, _ => h.elim
  | n + 1, 0, .tup xs, h, e => by omega
  | n + 1, m + 1, .tup xs, h, e => ⟨h.1, fun y hy => It.fit_mono (h.2 y hy) (by omega)⟩
def spEnc (K : PySem.W.Frag) (n : Nat) : Sp := fun vs H Q _ => ∃ (v : V) (d : It), vs = [v] ∧ Dv K H v d ∧ d.fit n ∧ (encC d).length ≤ 16000000 ∧ ∀ H', Ex H H' → Q (.str ⟨(encC d).toArray⟩) H'
theorem cv_enc {K : PySem.W.Frag} {n : Nat} {v : V} {d : It} {H : Hp} (h : Dv K H v d) (hf : d.fit n) (hz : (encC d).length ≤ 16000000) : SpV (spEnc K n) [v] H (.str ⟨(encC d).toArray⟩) := fun H1 e Q q E => ⟨v, d, rfl, h.mono e, hf, hz, fun H2 e2 => q H2 e2⟩
/-- '(' + ''.join([f(part) for part in item]) + ')' -/
theorem ev_parts {K : PySem.W.Frag} {σ : L2.St} {H : Hp} {te tl : TE} {j : Nat} {vs : List Nat} {a : Addr} {xs : List V} {ds : List It} {n : Nat} (hl : Ev tl σ H (.ref a)) (h : SqT K H a xs) (r : DvL K H xs ds) (hf : It.fit (n + 1) (.tup ds)) (hz : (encC (.tup ds)).length ≤ 16000000)
    (hw : ∀ x, wipe ((wipe σ vs).set j (some x)) vs = wipe σ vs)
    (he : ∀ (x : V) (d : It) H1, Ex H H1 → Dv K H1 x d → d.fit n → (encC d).length ≤ 16000000 → Ev te ((wipe σ vs).set j (some x)) H1 (.str ⟨(encC d).toArray⟩)) :
    Ev (tOp (fun x y H Q => ∃ i j, x = V.str i ∧ y = V.str j ∧ i.length + j.length ≤ sizeLine ∧ Q (.str (i ++ j)) H) (tOp (fun x y H Q => ∃ i j, x = V.str i ∧ y = V.str j ∧ i.length + j.length ≤ sizeLine ∧ Q (.str (i ++ j)) H) (tC (.str (Str.ofString "(")))
      (tM1 (fun x xs H Q => ∃ a p, ∃ ys : List Str, x = .str a ∧ xs = [.ref p] ∧ (SqL K H p (ys.map V.str) ∨ SqT K H p (ys.map V.str)) ∧ (ys.map (·.length)).sum + ys.length * a.length ≤ 16777216 ∧ Q (.str (Txt.join a ys)) H) (tC (.str (Str.ofString ""))) (tLc (iTup K tl) (gName j) tYes te vs)))
      (tC (.str (Str.ofString ")")))) σ H (.str ⟨(encC (.tup ds)).toArray⟩) := by
  have ez : (encC (.tup ds)).length = (encL ds).length + 2 := by
    show (40 :: (encL ds ++ [41])).length = _
    rw [List.length_cons, List.length_append] <;> rfl
  have ef : (encL ds) = (ds.map encC).flatten := encL_flat ds
  have ej : Txt.join (Str.ofString "") ((ds.map encC).map fun c => (⟨c.toArray⟩ : Str)) = ⟨(encL ds).toArray⟩ := by rw [join_codes, ef]
  have e1 : (⟨(encC (.tup ds)).toArray⟩ : Str) = Str.ofString "(" ++ Txt.join (Str.ofString "") ((ds.map encC).map fun c => (⟨c.toArray⟩ : Str)) ++ Str.ofString ")" := by
    refine str_ext ?_
    rw [ej]
    have a1 : (Str.ofString "(").cps.toList = [40] := by decide +kernel
    have a2 : (Str.ofString ")").cps.toList = [41] := by decide +kernel
    rw [codes_app (codes_app a1 rfl) a2]
    show 40 :: (encL ds ++ [41]) = _
    simp
  rw [e1]
  have l1 : (Str.ofString "(").length = 1 := by decide +kernel
  have l2 : (Str.ofString ")").length = 1 := by decide +kernel
  have l3 : (Str.ofString "(" ++ Txt.join (Str.ofString "") ((ds.map encC).map fun c => (⟨c.toArray⟩ : Str))).length = 1 + (encL ds).length := by
    rw [ej, str_len, codes_app (x := [40]) (by decide +kernel) rfl, List.length_append]
    simp
  have l4 : (Txt.join (Str.ofString "") ((ds.map encC).map fun c => (⟨c.toArray⟩ : Str))).length = (encL ds).length := by
    rw [ej, str_len]
  refine ev_addS (ev_addS ev_c (ev_joinN (K := K) ev_c (el_mapT (K := K) hl h ?_ hw ?_ fun i x y hx hy H1 ex => ?_) ?_) ?_) ev_c ?_
  · have := hf.1
    rw [r.len]; omega
  · rw [List.length_map, List.length_map, List.length_map, r.len]
  · rw [List.getElem?_map, List.getElem?_map, List.getElem?_map] at hy
    cases e : ds[i]? with
    | none =>
      rw [e] at hy
      cases hy
    | some d =>
      rw [e] at hy
      have ey : y = .str ⟨(encC d).toArray⟩ := (Option.some.inj hy).symm
      have hm := List.mem_of_getElem? e
      rw [ey]
      have := encL_mem hm
      exact he x d H1 ex ((r.at hx e).mono ex) (hf.2 d hm) (by omega)
  · rw [sum_codes, ← ef]
    show _ + _ * 0 ≤ 16777216
    omega
  · rw [l1, l4]; omega
  · rw [l3, l2]; omega
/-- return f'i{item};' -/
theorem enc_int {n : Nat} {i : Int} {σ : L2.St} {H : Hp} {D : Ends} (hf : It.fit n (.int i)) (hz : (encC (.int i)).length ≤ 16000000) (q : ∀ H1, Ex H H1 → D.rt (.str ⟨(encC (.int i)).toArray⟩) H1) {te : TE} (he : Ev te σ H (.int i) := by exact ev_var rfl) :
    tRet (fun σ H Q => tJs [tC (.str (Str.ofString "i")), tFmt te, tC (.str (Str.ofString ";"))] Str.empty σ H fun out H1 => Q (.str out) H1) D σ H := by
  have a1 : (Str.ofString "i").cps.toList = [105] := by decide +kernel
  have a2 : (Str.ofString ";").cps.toList = [59] := by decide +kernel
  have a0 : (Str.empty).cps.toList = [] := by decide +kernel
  have ey : ([Str.ofString "i", (toString i : Str), Str.ofString ";"].foldl (· ++ ·) Str.empty : Str) = ⟨(encC (.int i)).toArray⟩ := mk_of (by
    show (((Str.empty ++ Str.ofString "i") ++ (toString i : Str)) ++ Str.ofString ";").cps.toList = _
    rw [codes_app (codes_app (codes_app a0 a1) rfl) a2]
    show _ = 105 :: (numC i ++ [59])
    simp [numC])
  refine s_ret (ev_is (ev_joined (.cons ev_c (.cons (ev_fmtI he (fit_int hf)) (.cons ev_c .nil))) ?_) (congrArg V.str ey)) q
  have e1 : (encC (.int i)).length = 2 + (numC i).length := by
    show (105 :: (numC i ++ [59])).length = _
    rw [List.length_cons, List.length_append, List.length_singleton]
    omega
  have e2 : ([Str.ofString "i", (toString i : Str), Str.ofString ";"].map (·.length)).sum = 1 + ((numC i).length + (1 + 0)) := by
    show (Str.ofString "i").length + ((toString i : Str).length + ((Str.ofString ";").length + 0)) = _
    rw [str_len, str_len, str_len, a1, a2] <;> rfl
  omega
/-- return f't{len(item)}:{item}' -/
theorem enc_str {n : Nat} {z : Str} {σ : L2.St} {H : Hp} {D : Ends} (hf : It.fit n (.str z)) (hz : (encC (.str z)).length ≤ 16000000) (q : ∀ H1, Ex H H1 → D.rt (.str ⟨(encC (.str z)).toArray⟩) H1) {te : TE} (he : Ev te σ H (.str z) := by exact ev_var rfl) :
    tRet (fun σ H Q => tJs [tC (.str (Str.ofString "t")), tFmt (tCB (fun xs H Q => ∃ z, xs = [V.str z] ∧ z.length ≤ sizeLine ∧ Q (.int z.length) H) (tCons te tNil)), tC (.str (Str.ofString ":")), tFmt te] Str.empty σ H fun out H1 => Q (.str out) H1) D σ H := by
  have a1 : (Str.ofString "t").cps.toList = [116] := by decide +kernel
  have a2 : (Str.ofString ":").cps.toList = [58] := by decide +kernel
  have a0 : (Str.empty).cps.toList = [] := by decide +kernel
  have hl := fit_str hf
  have hl2 : z.length ≤ sizeLine := sizeOk (by omega)
  have hs : ((z.length : Int)).natAbs.log2 < 1920 := Nat.lt_of_lt_of_le (PySem.Flt.log2_lt_of (k := 64) (by decide) (by omega)) (by decide)
  have ey : ([Str.ofString "t", (toString (z.length : Int) : Str), Str.ofString ":", z].foldl (· ++ ·) Str.empty : Str) = ⟨(encC (.str z)).toArray⟩ := mk_of (by
    show ((((Str.empty ++ Str.ofString "t") ++ (toString (z.length : Int) : Str)) ++ Str.ofString ":") ++ z).cps.toList = _
    rw [codes_app (codes_app (codes_app (codes_app a0 a1) rfl) a2) rfl]
    show _ = 116 :: (numC (z.length : Int) ++ (58 :: z.cps.toList))
    simp [numC])
  refine s_ret (ev_is (ev_joined (.cons ev_c (.cons (ev_fmtI (fun H1 e Q q => he H1 e _ fun H2 e2 => ⟨z, rfl, hl2, q H2 e2⟩) hs) (.cons ev_c (.cons (ev_fmtS he (by omega)) .nil)))) ?_) (congrArg V.str ey)) q
  have e1 : (encC (.str z)).length = 2 + (numC (z.length : Int)).length + z.cps.toList.length := by
    show (116 :: (numC (z.length : Int) ++ (58 :: z.cps.toList))).length = _
    rw [List.length_cons, List.length_append, List.length_cons]
    omega
  have e2 : ([Str.ofString "t", (toString (z.length : Int) : Str), Str.ofString ":", z].map (·.length)).sum = 1 + ((numC (z.length : Int)).length + (1 + (z.cps.toList.length + 0))) := by
    show (Str.ofString "t").length + ((toString (z.length : Int) : Str).length + ((Str.ofString ":").length + (z.length + 0))) = _
    rw [str_len, str_len (toString _ : Str), str_len (Str.ofString ":"), str_len z, a1, a2] <;> rfl
  omega

def rCatS' : R2 := fun x y H Q => ∃ i j, x = V.str i ∧ y = V.str j ∧ i.length + j.length ≤ sizeLine ∧ Q (.str (i ++ j)) H
/-- return 'i' + str(item) + ';' -/
theorem wr_int {n : Nat} {i : Int} {σ : L2.St} {H : Hp} {D : Ends} (hf : It.fit n (.int i)) (hz : (encC (.int i)).length ≤ 16000000) (q : ∀ H1, Ex H H1 → D.rt (.str ⟨(encC (.int i)).toArray⟩) H1) {te : TE} (he : Ev te σ H (.int i) := by exact ev_var rfl) :
    tRet (tOp rCatS' (tOp rCatS' (tC (.str (Str.ofString "i"))) (tCB (fun xs H Q => ∃ i : Int, xs = [V.int i] ∧ i.natAbs.log2 < 1920 ∧ Q (.str (toString i)) H) (tCons te tNil))) (tC (.str (Str.ofString ";")))) D σ H := by
  have a1 : (Str.ofString "i").cps.toList = [105] := by decide +kernel
  have a2 : (Str.ofString ";").cps.toList = [59] := by decide +kernel
  have ey : ((Str.ofString "i" ++ (toString i : Str)) ++ Str.ofString ";") = (⟨(encC (.int i)).toArray⟩ : Str) := mk_of (by
    rw [codes_app (codes_app a1 rfl) a2]
    show _ = 105 :: (numC i ++ [59])
    simp [numC])
  have e1 : (encC (.int i)).length = 2 + (numC i).length := by
    show (105 :: (numC i ++ [59])).length = _
    rw [List.length_cons, List.length_append, List.length_singleton]
    omega
  have e3 : (toString i : Str).length = (numC i).length := str_len _
  have e2 : (Str.ofString "i" ++ (toString i : Str)).length = 1 + (numC i).length := by
    rw [str_len, codes_app a1 rfl, List.length_append] <;> rfl
  have l1 : (Str.ofString "i").length = 1 := by decide +kernel
  have l2 : (Str.ofString ";").length = 1 := by decide +kernel
  refine s_ret (ev_is (ev_addS (ev_addS ev_c (ev_strI he (fit_int hf)) ?_) ev_c ?_) (congrArg V.str ey)) q
  · rw [l1, e3]; omega
  · rw [e2, l2]; omega
/-- return 't' + str(len(item)) + ':' + item -/
theorem wr_str {n : Nat} {z : Str} {σ : L2.St} {H : Hp} {D : Ends} (hf : It.fit n (.str z)) (hz : (encC (.str z)).length ≤ 16000000) (q : ∀ H1, Ex H H1 → D.rt (.str ⟨(encC (.str z)).toArray⟩) H1) {te : TE} (he : Ev te σ H (.str z) := by exact ev_var rfl) :
    tRet (tOp rCatS' (tOp rCatS' (tOp rCatS' (tC (.str (Str.ofString "t"))) (tCB (fun xs H Q => ∃ i : Int, xs = [V.int i] ∧ i.natAbs.log2 < 1920 ∧ Q (.str (toString i)) H) (tCons (tCB (fun xs H Q => ∃ z, xs = [V.str z] ∧ z.length ≤ sizeLine ∧ Q (.int z.length) H) (tCons te tNil)) tNil))) (tC (.str (Str.ofString ":")))) te) D σ H := by
  have a1 : (Str.ofString "t").cps.toList = [116] := by decide +kernel
  have a2 : (Str.ofString ":").cps.toList = [58] := by decide +kernel
  have hl := fit_str hf
  have hl2 : z.length ≤ sizeLine := sizeOk (by omega)
  have hs : ((z.length : Int)).natAbs.log2 < 1920 := Nat.lt_of_lt_of_le (PySem.Flt.log2_lt_of (k := 64) (by decide) (by omega)) (by decide)
  have ey : (((Str.ofString "t" ++ (toString (z.length : Int) : Str)) ++ Str.ofString ":") ++ z) = (⟨(encC (.str z)).toArray⟩ : Str) := mk_of (by
    rw [codes_app (codes_app (codes_app a1 rfl) a2) rfl]
    show _ = 116 :: (numC (z.length : Int) ++ (58 :: z.cps.toList))
    simp [numC])
  have e1 : (encC (.str z)).length = 2 + (numC (z.length : Int)).length + z.cps.toList.length := by
    show (116 :: (numC (z.length : Int) ++ (58 :: z.cps.toList))).length = _
    rw [List.length_cons, List.length_append, List.length_cons]
    omega
  have e3 : (toString (z.length : Int) : Str).length = (numC (z.length : Int)).length := str_len _
  have e2 : (Str.ofString "t" ++ (toString (z.length : Int) : Str)).length = 1 + (numC (z.length : Int)).length := by
    rw [str_len, codes_app a1 rfl, List.length_append] <;> rfl
  have e4 : ((Str.ofString "t" ++ (toString (z.length : Int) : Str)) ++ Str.ofString ":").length = 2 + (numC (z.length : Int)).length := by
    rw [str_len, codes_app (codes_app a1 rfl) a2, List.length_append, List.length_append]
    show 1 + _ + 1 = _
    unfold numC
    omega
  have l1 : (Str.ofString "t").length = 1 := by decide +kernel
  have l2 : (Str.ofString ":").length = 1 := by decide +kernel
  have l4 := str_len z
  refine s_ret (ev_is (ev_addS (ev_addS (ev_addS ev_c (ev_strI (fun H1 e Q q => he H1 e _ fun H2 e2 => ⟨z, rfl, hl2, q H2 e2⟩) hs) ?_) ev_c ?_) he ?_) (congrArg V.str ey)) q
  · rw [l1, e3]; omega
  · rw [e2, l2]; omega
  · rw [e4]; omega
/-! ### sizes -/
theorem numC_len {i : Int} (h : i.natAbs.log2 < 1920) : (numC i).length ≤ 1921 := by
  have e := int_text_length_le (k := 1920) (by decide) h
  have e2 : (numC i).length = (toString i : Str).length := (str_len _).symm
  rw [e2]
  show (Str.ofString (toString i)).length ≤ 1921
  rw [PySem.ofString_length]
  exact e
theorem enc_int_len {i : Int} (h : i.natAbs.log2 < 1920) : (encC (.int i)).length ≤ 1923 := by
  have := numC_len h
  show (105 :: (numC i ++ [59])).length ≤ _
  rw [List.length_cons, List.length_append, List.length_singleton]
  omega
theorem enc_str_len {z : Str} (h : z.length ≤ 1000000) : (encC (.str z)).length ≤ 1923 + z.length := by
  have hs : ((z.length : Int)).natAbs.log2 < 1920 := Nat.lt_of_lt_of_le (PySem.Flt.log2_lt_of (k := 64) (by decide) (by omega)) (by decide)
  have := numC_len hs
  have e := str_len z
  show (116 :: (numC (z.length : Int) ++ (58 :: z.cps.toList))).length ≤ _
  rw [List.length_cons, List.length_append, List.length_cons]
  omega
/-- a value of the document: None, an int below 10 ** 60, a text of some signs -/
def It.sc : It → Prop
  | .non => True
  | .int i => -(10 ^ 60) < i ∧ i < 10 ^ 60
  | .str z => z.length ≤ 200
  | .tup _ => False
def vz : It → V
  | .non => .non
  | .int i => .int i
  | .str z => .str z
  | .tup _ => .non
theorem It.sc_fit {d : It} (h : d.sc) (n : Nat) : d.fit n := by
  cases d with
  | non => cases n <;> trivial
  | int i => cases n <;> exact h
  | str z =>
    have h : z.length ≤ 200 := h
    cases n <;> (show z.length ≤ 999999; omega)
  | tup xs => exact h.elim
theorem It.sc_len {d : It} (h : d.sc) : (encC d).length ≤ 2200 := by
  cases d with
  | non => show 1 ≤ 2200; decide
  | int i => exact Nat.le_trans (enc_int_len (log60 h)) (by decide)
  | str z =>
    have h : z.length ≤ 200 := h
    have := enc_str_len (z := z) (by omega)
    omega
  | tup xs => exact h.elim
theorem Dv.sc {K : PySem.W.Frag} {H : Hp} {d : It} (h : d.sc) : Dv K H (vz d) d := by
  cases d with
  | non => exact .non
  | int i => exact .int i
  | str z => exact .str z
  | tup xs => exact h.elim
theorem DvL.sc {K : PySem.W.Frag} {H : Hp} : ∀ {ds : List It}, (∀ d ∈ ds, d.sc) → DvL K H (ds.map vz) ds
  | [], _ => .nil
  | d :: ds, h => .cons (.sc (h d (List.mem_cons_self ..))) (.sc fun x hx => h x (List.mem_cons_of_mem _ hx))
theorem encL_len : ∀ {ds : List It} {m : Nat}, (∀ d ∈ ds, (encC d).length ≤ m) → (encL ds).length ≤ ds.length * m
  | [], m, _ => Nat.zero_le _
  | d :: ds, m, h => by
    have h1 := h d (List.mem_cons_self ..)
    have h2 := encL_len (ds := ds) (m := m) fun x hx => h x (List.mem_cons_of_mem _ hx)
    show (encC d ++ encL ds).length ≤ (ds.length + 1) * m
    rw [List.length_append, Nat.add_mul]
    omega
theorem enc_tup_len (ds : List It) : (encC (.tup ds)).length = (encL ds).length + 2 := by
  show (40 :: (encL ds ++ [41])).length = _
  rw [List.length_cons, List.length_append] <;> rfl


/-- the digest -/
def digS (t : Int) (c : Nat) : Int := (31 * t + (c : Int)) % 1000003
def digZ (l : List Nat) : Int := l.foldl digS 7
theorem digZ_succ {l : List Nat} {i c : Nat} (h : l[i]? = some c) : digZ (l.take (i + 1)) = (31 * digZ (l.take i) + (c : Int)) % 1000003 := by
  unfold digZ
  rw [List.take_add_one, h]
  show ((l.take i) ++ [c]).foldl digS 7 = _
  rw [List.foldl_append] <;> rfl
theorem digZ_ge : ∀ (l : List Nat), 0 ≤ digZ l ∧ digZ l < 1000003 := by
  intro l
  unfold digZ
  have key : ∀ (l : List Nat) (t : Int), 0 ≤ t ∧ t < 1000003 → 0 ≤ l.foldl digS t ∧ l.foldl digS t < 1000003 := by
    intro l
    induction l with
    | nil => exact fun t h => h
    | cons a r ih => exact fun t _ => ih (digS t a) ⟨Int.emod_nonneg (31 * t + (a : Int)) (by decide : (1000003 : Int) ≠ 0), Int.emod_lt_of_pos (31 * t + (a : Int)) (by decide : (0 : Int) < 1000003)⟩
  exact key l 7 ⟨by decide, by decide⟩
def spDig : Sp := fun vs H Q _ => ∃ z : Str, vs = [.str z] ∧ ∀ H', Ex H H' → Q (.int (digZ z.cps.toList)) H'
theorem cv_dig {z : Str} {H : Hp} : SpV spDig [.str z] H (.int (digZ z.cps.toList)) := fun H1 e Q q E => ⟨z, rfl, fun H2 e2 => q H2 e2⟩


/-! ### what is read back -/
theorem numC_nat (n : Nat) : numC ((n : Nat) : Int) = TL.numL n := TL.tl_num n
theorem neg_text (n : Nat) : (toString (Int.negSucc n) : String) = "-" ++ toString ((n + 1 : Nat) : Int) := rfl
theorem ofString_app (a b : String) : Str.ofString (a ++ b) = Str.ofString a ++ Str.ofString b := by
  refine str_ext ?_
  rw [codes_app (signs_ofString a) (signs_ofString b), signs_ofString, String.toList_append, List.map_append]
theorem numC_neg (n : Nat) : numC (Int.negSucc n) = 45 :: TL.numL (n + 1) := by
  show (Str.ofString (toString (Int.negSucc n))).cps.toList = _
  rw [neg_text, ofString_app, codes_app (x := [45]) (by decide +kernel) rfl]
  exact congrArg (List.cons 45) (numC_nat (n + 1))
/-- digits without a leading zero -/
structure Digs (ds : List Nat) (most : Nat) : Prop where
  all : ∀ c ∈ ds, 48 ≤ c ∧ c ≤ 57
  ne : ds ≠ []
  len : ds.length ≤ most
  lead : ds.length = 1 ∨ ds.head? ≠ some 48
theorem numL_head : ∀ n : Nat, (TL.numL n).length = 1 ∨ (TL.numL n).head? ≠ some 48 := by
  intro n
  induction n using Nat.strongRecOn with
  | _ n ih =>
    by_cases h : n < 10
    · exact .inl (by rw [TL.numL_lt h] <;> rfl)
    · refine .inr ?_
      have h10 : 10 ≤ n := by omega
      rw [TL.numL_step h10]
      have hne := TL.numL_ne (n / 10)
      cases e : TL.numL (n / 10) with
      | nil => exact absurd e hne
      | cons c r =>
        show some c ≠ some 48
        rcases ih (n / 10) (by omega) with h1 | h1
        · rw [e] at h1
          have hr : r = [] := List.length_eq_zero_iff.mp (by simpa using h1)
          subst hr
          have hq : n / 10 < 10 := by
            by_cases hq : n / 10 < 10
            · exact hq
            · rw [TL.numL_step (by omega)] at e
              have := congrArg List.length e
              have h3 := List.length_pos_iff.mpr (TL.numL_ne (n / 10 / 10))
              rw [List.length_append, List.length_singleton, List.length_singleton] at this
              omega
          rw [TL.numL_lt hq] at e
          have e2 : 48 + n / 10 = c := by simpa using e
          intro z
          have := Option.some.inj z
          omega
        · rw [e] at h1
          exact h1
theorem digs_num {n most : Nat} (hm : 0 < most) (h : n < 10 ^ most) : Digs (TL.numL n) most := ⟨TL.numL_digits n, TL.numL_ne n, TL.numL_len hm h, numL_head n⟩
theorem slice_app {l a b c : List Nat} (h : l = a ++ (b ++ c)) : (l.drop a.length).take b.length = b := by
  rw [h, List.drop_left, List.take_left]
/-- text[i:j] of a text that is known there -/
theorem cutS_at {z : Str} {a b c : List Nat} (h : z.cps.toList = a ++ (b ++ c)) : cutS z (some (a.length : Int)) (some ((a.length + b.length : Nat) : Int)) = ⟨b.toArray⟩ := by
  have el : z.length = a.length + (b.length + c.length) := by rw [str_len, h, List.length_append, List.length_append]
  unfold cutS
  rw [HT.sIx_nat, HT.sIx_nat, Nat.min_eq_left (by omega), Nat.min_eq_left (by omega), Nat.add_sub_cancel_left, slice_app h]
theorem int_at {i : Int} (h : -(10 ^ 60) < i ∧ i < 10 ^ 60) : intText? (⟨(numC i).toArray⟩ : Str) = some i ∧ (⟨(numC i).toArray⟩ : Str).length ≤ 640 := by
  have e60 : (10 : Int) ^ 60 = 1000000000000000000000000000000000000000000000000000000000000 := by decide
  have n60 : (10 : Nat) ^ 60 = 1000000000000000000000000000000000000000000000000000000000000 := by decide
  rw [e60] at h
  cases i with
  | ofNat n =>
    have hn : n < 10 ^ 60 := by
      rw [n60]
      have := h.2
      simp at this
      omega
    have hl := TL.numL_len (by decide) hn
    have e : (⟨(numC (Int.ofNat n)).toArray⟩ : Str) = Str.ofString (toString ((n : Nat) : Int)) := str_ext rfl
    refine ⟨?_, ?_⟩
    · rw [e]
      exact TL.int_num (by omega)
    · rw [str_len]
      show (numC ((n : Nat) : Int)).length ≤ 640
      rw [numC_nat]
      omega
  | negSucc n =>
    have hn : n + 1 < 10 ^ 60 := by
      rw [n60]
      have := h.1
      omega
    have hl := TL.numL_len (by decide) hn
    have ec : (⟨(numC (Int.negSucc n)).toArray⟩ : Str).cps.toList = 45 :: TL.numL (n + 1) := numC_neg n
    have ln : (⟨(numC (Int.negSucc n)).toArray⟩ : Str).length = (TL.numL (n + 1)).length + 1 := by rw [str_len, ec] <;> rfl
    refine ⟨?_, by omega⟩
    have := PySem.intText_neg ec (TL.numL_digits _) (TL.numL_ne _) (by omega)
    rw [TL.numL_val] at this
    rw [this]
    exact congrArg some (by omega)
/-! ### a chain of two comparisons of texts -/
theorem le_str1 (a c : Nat) : (!decide ((⟨#[c]⟩ : Str).cps.toList < (⟨#[a]⟩ : Str).cps.toList)) = decide (a ≤ c) := by
  have e : ((⟨#[c]⟩ : Str).cps.toList < (⟨#[a]⟩ : Str).cps.toList) ↔ c < a := by
    show ([c] : List Nat) < [a] ↔ c < a
    constructor
    · intro h
      cases h with
      | rel h => exact h
      | cons h => cases h
    · intro h
      exact List.Lex.rel h
  by_cases h : c < a
  · rw [decide_eq_true (e.mpr h), decide_eq_false (by omega)] <;> rfl
  · rw [decide_eq_false (fun z => h (e.mp z)), decide_eq_true (by omega)] <;> rfl
abbrev rLeS : R2 := fun x y H Q => ∃ i j, x = .str i ∧ y = .str j ∧ Q (.bl (!decide (j.cps.toList < i.cps.toList))) H
theorem et_dig {σ : L2.St} {H : Hp} {tb : TE} {c : Nat} (hb : Ev tb σ H (.str ⟨#[c]⟩)) : EvT (tTest (tChain rLeS rLeS (tC (.str (Str.ofString "0"))) tb (tC (.str (Str.ofString "9"))))) σ H (decide (48 ≤ c ∧ c ≤ 57)) := fun H1 e Q q => by
  have e0 : (Str.ofString "0") = ⟨#[48]⟩ := by decide +kernel
  have e9 : (Str.ofString "9") = ⟨#[57]⟩ := by decide +kernel
  refine hb H1 e _ fun H2 e2 => ⟨_, _, rfl, rfl, decide (48 ≤ c), ?_, ?_⟩
  · rw [e0]
    exact congrArg V.bl (le_str1 48 c)
  · by_cases h : 48 ≤ c
    · rw [decide_eq_true h]
      refine iteT ⟨_, _, rfl, rfl, decide (c ≤ 57), ?_, ?_⟩
      · rw [e9]
        exact congrArg V.bl (le_str1 c 57)
      · have : decide (48 ≤ c ∧ c ≤ 57) = decide (c ≤ 57) := decide_eq_decide.mpr ⟨fun z => z.2, fun z => ⟨h, z⟩⟩
        rw [← this]
        exact q H2 e2
    · rw [decide_eq_false h]
      refine iteF ⟨false, rfl, ?_⟩
      have : decide (48 ≤ c ∧ c ≤ 57) = false := decide_eq_false fun z => h z.1
      rw [← this]
      exact q H2 e2
theorem str1_eq {a c : Nat} : decide ((⟨#[c]⟩ : Str) = ⟨#[a]⟩) = decide (c = a) := decide_eq_decide.mpr ⟨fun h => by
  have := congrArg (fun s : Str => s.cps.toList) h
  simpa using this, fun h => by rw [h]⟩
def spDec (K : PySem.W.Frag) : Sp := fun vs H Q _ => ∃ (z : Str) (d : It), vs = [.str z] ∧ z = ⟨(encC d).toArray⟩ ∧ d.fit 12 ∧ (encC d).length ≤ 16000000 ∧ ∀ v H', Ex H H' → Dv K H' v d → Q v H'


/-! ### kinds -/
def kIn (k : Str) (xs : List String) : Bool := inV (.str k) (xs.map fun x => V.str (Str.ofString x))
def baseT (k : Str) : Str := if kIn k ["int", "int?"] then Str.ofString "int" else Str.ofString "text"
theorem ev_kinU {K : PySem.W.Frag} {σ : L2.St} {H : Hp} {ta tb : TE} {k : Str} {xs : List String} (ha : Ev ta σ H (.str k)) (hb : EvU tb σ H (xs.map fun x => V.str (Str.ofString x))) (hf : (xs.map fun x => V.str (Str.ofString x)).all flatV = true := by rfl) : Ev (tOp (rIn K false) ta tb) σ H (.bl (kIn k xs)) := ev_inU ha hb rfl hf
theorem ev_kinL {K : PySem.W.Frag} {σ : L2.St} {H : Hp} {ta tb : TE} {k : Str} {xs : List String} (ha : Ev ta σ H (.str k)) (hb : EvL tb σ H (xs.map fun x => V.str (Str.ofString x))) (hf : (xs.map fun x => V.str (Str.ofString x)).all flatV = true := by rfl) : Ev (tOp (rIn K false) ta tb) σ H (.bl (kIn k xs)) := ev_opL ha hb fun _ _ h _ => rv_isL (sq_of h) rfl hf
/-- None, an integer or a text -/
inductive Sc : V → Prop
  | non : Sc .non
  | int (i : Int) : Sc (.int i)
  | str (z : Str) : Sc (.str z)
def accB (k : Str) : V → Bool
  | .non => kIn k ["int?", "text?"]
  | .int _ => decide (baseT k = Str.ofString "int")
  | _ => !decide (baseT k = Str.ofString "int")


/-! ### names: a comprehension over a text, all, chains -/
theorem el_lcS {σ : L2.St} {H : Hp} {te tl : TE} {z : Str} {j : Nat} {vs : List Nat} {ys : List V} (h : Ev te σ H (.str z)) (hz : z.cps.toList.length ≤ 40000) (hw : ∀ x, wipe ((wipe σ vs).set j (some x)) vs = wipe σ vs) (hl : ys.length = z.cps.toList.length)
    (he : ∀ (i c : Nat) (y : V), z.cps.toList[i]? = some c → ys[i]? = some y → ∀ H1, Ex H H1 → Ev tl ((wipe σ vs).set j (some (.str ⟨#[c]⟩))) H1 y) : EvL (tLc (iStr te) (gName j) tYes tl vs) σ H ys := fun H0 e Q q => h H0 e _ fun H1 e1 => ⟨z, rfl, fun D hD => by
  have g : given z.cps.toList.length (fun _ => true) (fun i => ys.getD i .non) = ys := given_all hl fun i hi => by
    have hi2 : i < ys.length := by omega
    rw [List.getElem?_eq_getElem hi2, List.getD_eq_getElem?_getD, List.getElem?_eq_getElem hi2] <;> rfl
  refine ⟨fun i m H' => m = z.cps.toList.length - i ∧ i ≤ z.cps.toList.length ∧ Cw H1 (fun _ => true) (fun i => ys.getD i .non) D i H', ⟨_, rfl, Nat.zero_le _, hD, Ex.new hD, upd_same⟩, ?_⟩
  rintro i m H' ⟨rfl, hi, p⟩
  by_cases hlt : i < z.cps.toList.length
  · refine .inr ⟨(by show i < z.cps.size; simpa using hlt), Cw H1 (fun _ => true) (fun i => ys.getD i .non) D (i + 1), fun H2 p2 => ⟨_, by omega, rfl, hlt, p2⟩, fun x H2 y => ?_⟩
    obtain ⟨rfl, c, hc, rfl⟩ := y
    have hc' : z.cps.toList[i]? = some c := by simpa using hc
    have hi2 : i < ys.length := by omega
    have hy : ys[i]? = some (ys.getD i .non) := by rw [List.getElem?_eq_getElem hi2, List.getD_eq_getElem?_getD, List.getElem?_eq_getElem hi2] <;> rfl
    exact ⟨hw _, cw_turn p (by omega) (fun H3 e3 Q q => q H3 (Ex.refl H3)) fun _ => (he i c _ hc' hy H1 (e.trans e1))⟩
  · have ei : i = z.cps.toList.length := by omega
    subst ei
    refine .inl ⟨(by show z.cps.size ≤ z.cps.toList.length; simp), ?_⟩
    have p2 := p.2.2
    rw [g] at p2
    exact q D H' (fresh_back e1 p.1) (e1.trans p.2.1) p2⟩
theorem ev_allN {K : PySem.W.Frag} {σ : L2.St} {H : Hp} {te : TE} {bs : List Bool} (h : EvL te σ H (bs.map V.bl)) : Ev (tCB (rAll K) (tCons te tNil)) σ H (.bl (bs.all id)) := fun H1 e Q q =>
  h H1 e _ fun p H2 _ e2 hp => ⟨p, bs, rfl, sq_of hp, q H2 e2⟩
theorem ev_chainI {f g : Int → Int → V} {σ : L2.St} {H : Hp} {tb : TE} {i j k : Int} {a b : Bool} (hb : Ev tb σ H (.int j)) (hf : f i j = .bl a) (hg : g j k = .bl b) : Ev (tChain (rI0 f) (rI0 g) (tC (.int i)) tb (tC (.int k))) σ H (.bl (a && b)) := fun H1 e Q q =>
  hb H1 e _ fun H2 e2 => ⟨i, j, rfl, rfl, a, hf, by
    cases a with
    | true => exact iteT ⟨j, k, rfl, rfl, by rw [hg]; exact q H2 e2⟩
    | false => exact iteF (q H2 e2)⟩
theorem ev_chainS {σ : L2.St} {H : Hp} {tb : TE} {x y c : Nat} {sx sy : Str} (hx : sx = ⟨#[x]⟩) (hy : sy = ⟨#[y]⟩) (hb : Ev tb σ H (.str ⟨#[c]⟩)) : Ev (tChain rLeS rLeS (tC (.str sx)) tb (tC (.str sy))) σ H (.bl (decide (x ≤ c ∧ c ≤ y))) := fun H1 e Q q => by
  subst hx hy
  refine hb H1 e _ fun H2 e2 => ⟨_, _, rfl, rfl, decide (x ≤ c), congrArg V.bl (le_str1 x c), ?_⟩
  by_cases h : x ≤ c
  · rw [decide_eq_true h]
    refine iteT ⟨_, _, rfl, rfl, ?_⟩
    rw [le_str1 c y]
    have : decide (x ≤ c ∧ c ≤ y) = decide (c ≤ y) := decide_eq_decide.mpr ⟨fun z => z.2, fun z => ⟨h, z⟩⟩
    rw [← this]
    exact q H2 e2
  · rw [decide_eq_false h]
    refine iteF ?_
    have : decide (x ≤ c ∧ c ≤ y) = false := decide_eq_false fun z => h z.1
    rw [← this]
    exact q H2 e2
def lowerC (c : Nat) : Bool := decide (97 ≤ c ∧ c ≤ 122)
def nameB (z : Str) : Bool := decide (1 ≤ z.length ∧ z.length ≤ 12) && z.cps.toList.all lowerC


/-! ### data of the heap -/
mutual
theorem dp_mono {K : PySem.W.Frag} {H H' : Hp} (e : Ex H H') : ∀ {v : V} {d : PyData}, Dp K H v d → Dp K H' v d
  | _, _, .non => .non
  | _, _, .bl b => .bl b
  | _, _, .int i => .int i
  | _, _, .str z => .str z
  | _, _, .lst h r => .lst (ex_l e h) (dpa_mono e r)
  | _, _, .tup h r => .tup (ex_t e h) (dpa_mono e r)
theorem dpa_mono {K : PySem.W.Frag} {H H' : Hp} (e : Ex H H') : ∀ {vs : List V} {ds : List PyData}, DpAll K H vs ds → DpAll K H' vs ds
  | _, _, .nil => .nil
  | _, _, .cons h r => .cons (dp_mono e h) (dpa_mono e r)
end
theorem dpa_len {K : PySem.W.Frag} {H : Hp} : ∀ {vs : List V} {ds : List PyData}, DpAll K H vs ds → vs.length = ds.length
  | _, _, .nil => rfl
  | _, _, .cons _ r => congrArg (· + 1) (dpa_len r)
theorem dpa_app {K : PySem.W.Frag} {H : Hp} : ∀ {vs us : List V} {ds es : List PyData}, DpAll K H vs ds → DpAll K H us es → DpAll K H (vs ++ us) (ds ++ es)
  | _, _, _, _, .nil, h => h
  | _, _, _, _, .cons a r, h => .cons a (dpa_app r h)
theorem dpa_at {K : PySem.W.Frag} {H : Hp} : ∀ {vs : List V} {ds : List PyData}, DpAll K H vs ds → ∀ {i : Nat} {v : V}, vs[i]? = some v → ∃ d, ds[i]? = some d ∧ Dp K H v d
  | _, _, .cons h _, 0, v, e => by
    cases Option.some.inj e
    exact ⟨_, rfl, h⟩
  | _, _, .cons _ r, i + 1, v, e => by
    obtain ⟨d, h1, h2⟩ := dpa_at r (i := i) (by simpa using e)
    exact ⟨d, by simpa using h1, h2⟩
theorem dpa_get {K : PySem.W.Frag} {H : Hp} : ∀ {vs : List V} {ds : List PyData}, DpAll K H vs ds → ∀ {i : Nat} {d : PyData}, ds[i]? = some d → ∃ v, vs[i]? = some v ∧ Dp K H v d
  | _, _, .cons h _, 0, d, e => by
    cases Option.some.inj e
    exact ⟨_, rfl, h⟩
  | _, _, .cons _ r, i + 1, d, e => by
    obtain ⟨v, h1, h2⟩ := dpa_get r (i := i) (by simpa using e)
    exact ⟨v, by simpa using h1, h2⟩
/-- data without lists, bools and dicts, of nesting at most n -/
inductive Fl : Nat → PyData → Prop
  | non (n : Nat) : Fl n .none
  | int (n : Nat) (i : Int) : Fl n (.int i)
  | str (n : Nat) {z : Str} (h : SeqAt.shaped (.str z) = true) : Fl n (.str z)
  | tup {n : Nat} {ds : List PyData} (h : ∀ d ∈ ds, Fl n d) (hl : ds.length ≤ 1000 := by first | decide | simp) : Fl (n + 1) (.tuple ds)
theorem Fl.mono : ∀ {n m : Nat} {d : PyData}, Fl n d → n ≤ m → Fl m d
  | _, _, _, .non _, _ => .non _
  | _, _, _, .int _ i, _ => .int _ i
  | _, _, _, .str _ h, _ => .str _ h
  | n + 1, m + 1, _, .tup h l, e => .tup (fun d hd => (h d hd).mono (by omega)) l
  | n + 1, 0, _, .tup h _, e => by omega
mutual
theorem dp_monoN {K : PySem.W.Frag} {H H' : Hp} (e : ExN H H') : ∀ {n : Nat} {v : V} {d : PyData}, Fl n d → Dp K H v d → Dp K H' v d
  | _, _, _, .non _, .non => .non
  | _, _, _, .int _ i, .int _ => .int i
  | _, _, _, .str _ _, .str z => .str z
  | _ + 1, _, _, .tup f _, .tup h r => .tup (exN_t e h) (dpa_monoN e f r)
theorem dpa_monoN {K : PySem.W.Frag} {H H' : Hp} (e : ExN H H') : ∀ {n : Nat} {vs : List V} {ds : List PyData}, (∀ d ∈ ds, Fl n d) → DpAll K H vs ds → DpAll K H' vs ds
  | _, _, _, _, .nil => .nil
  | _, _, _, f, .cons h r => .cons (dp_monoN e (f _ (List.mem_cons_self ..)) h) (dpa_monoN e (fun d hd => f d (List.mem_cons_of_mem _ hd)) r)
end
theorem q_asgK {te : TE} {σ : L2.St} {H : Hp} {tz : TS} {D : Ends} {i : Nat} (k : te σ H fun v H1 => tz D (σ.set i (some v)) H1) : tSeq (tAsg te (gName i)) tz D σ H := k
theorem q_asgG {te : TE} {g : TG} {σ : L2.St} {H : Hp} {tz : TS} {D : Ends} (k : te σ H fun v H1 => g v σ H1 (tz D)) : tSeq (tAsg te g) tz D σ H := k
/-! ### equality of data -/
/-- no bool, no dict -/
inductive Pl : PyData → Prop
  | non : Pl .none
  | int (i : Int) : Pl (.int i)
  | str (z : Str) : Pl (.str z)
  | lst {ds : List PyData} (h : ∀ d ∈ ds, Pl d) : Pl (.list ds)
  | tup {ds : List PyData} (h : ∀ d ∈ ds, Pl d) : Pl (.tuple ds)
theorem Fl.pl : ∀ {n : Nat} {d : PyData}, Fl n d → Pl d
  | _, _, .non _ => .non
  | _, _, .int _ i => .int i
  | _, _, .str _ _ => .str _
  | _ + 1, _, .tup h _ => .tup fun d hd => (h d hd).pl
mutual
theorem eqv_iff : ∀ (d e : PyData), Pl d → Pl e → (PyData.eqv d e = true ↔ d = e)
  | .none, e, _, he => by cases he <;> simp [PyData.eqv]
  | .int i, e, _, he => by cases he <;> simp [PyData.eqv]
  | .str z, e, _, he => by cases he <;> simp [PyData.eqv]
  | .list xs, e, hd, he => by
    cases hd with
    | lst hd =>
      cases he with
      | lst he =>
        rename_i ys
        rw [show PyData.eqv (.list xs) (.list ys) = PyData.eqvAll xs ys by simp [PyData.eqv], eqvAll_iff xs ys hd he]
        simp
      | _ => simp [PyData.eqv]
  | .tuple xs, e, hd, he => by
    cases hd with
    | tup hd =>
      cases he with
      | tup he =>
        rename_i ys
        rw [show PyData.eqv (.tuple xs) (.tuple ys) = PyData.eqvAll xs ys by simp [PyData.eqv], eqvAll_iff xs ys hd he]
        simp
      | _ => simp [PyData.eqv]
  | .bool _, _, hd, _ => by cases hd
  | .dict _, _, hd, _ => by cases hd
theorem eqvAll_iff : ∀ (xs ys : List PyData), (∀ d ∈ xs, Pl d) → (∀ d ∈ ys, Pl d) → (PyData.eqvAll xs ys = true ↔ xs = ys)
  | [], [], _, _ => by simp [PyData.eqvAll]
  | [], y :: ys, _, _ => by simp [PyData.eqvAll]
  | x :: xs, [], _, _ => by simp [PyData.eqvAll]
  | x :: xs, y :: ys, hx, hy => by
    rw [show PyData.eqvAll (x :: xs) (y :: ys) = (PyData.eqv x y && PyData.eqvAll xs ys) by simp [PyData.eqvAll], Bool.and_eq_true,
      eqv_iff x y (hx x (List.mem_cons_self ..)) (hy y (List.mem_cons_self ..)), eqvAll_iff xs ys (fun d hd => hx d (List.mem_cons_of_mem _ hd)) (fun d hd => hy d (List.mem_cons_of_mem _ hd))]
    simp
end
noncomputable def eqB (d e : PyData) : Bool := PyData.eqv d e
theorem eqv_dec {d e : PyData} (hd : Pl d) (he : Pl e) [Decidable (d = e)] : PyData.eqv d e = decide (d = e) := by
  by_cases h : d = e
  · rw [decide_eq_true h]
    exact (eqv_iff d e hd he).mpr h
  · rw [decide_eq_false h]
    cases x : PyData.eqv d e with
    | false => rfl
    | true => exact absurd ((eqv_iff d e hd he).mp x) h
mutual
theorem canLay_fl : ∀ {n : Nat} {d : PyData}, Fl n d → d.canLay0 = true
  | _, .none, _ => by simp [PyData.canLay0]
  | _, .int _, _ => by simp [PyData.canLay0]
  | _, .str z, h => by
    cases h with
    | str _ h => exact SeqAt.canLay_of_shaped h
  | _, .tuple xs, h => by
    cases h with
    | tup h _ =>
      rw [show (PyData.tuple xs).canLay0 = PyData.canLayAll0 xs by simp [PyData.canLay0]]
      exact canLayAll_fl h
  | _, .bool _, h => by cases h
  | _, .list _, h => by cases h
  | _, .dict _, h => by cases h
theorem canLayAll_fl : ∀ {n : Nat} {ds : List PyData}, (∀ d ∈ ds, Fl n d) → PyData.canLayAll0 ds = true
  | _, [], _ => by simp [PyData.canLayAll0]
  | _, d :: ds, h => by
    rw [show PyData.canLayAll0 (d :: ds) = (d.canLay0 && PyData.canLayAll0 ds) by simp [PyData.canLayAll0], canLay_fl (h d (List.mem_cons_self ..)), canLayAll_fl fun x hx => h x (List.mem_cons_of_mem _ hx)] <;> rfl
end
mutual
theorem depth_fl : ∀ {n : Nat} {d : PyData}, Fl n d → d.depth ≤ n + 1
  | _, .none, _ => by simp [PyData.depth]
  | _, .int _, _ => by simp [PyData.depth]
  | _, .str z, _ => by simp [PyData.depth]
  | _ + 1, .tuple xs, .tup h _ => by
    rw [show (PyData.tuple xs).depth = 1 + PyData.depthAll xs by simp [PyData.depth, Nat.add_comm]]
    have := depthAll_fl h
    omega
  | _, .bool _, h => by cases h
  | _, .list _, h => by cases h
  | _, .dict _, h => by cases h
theorem depthAll_fl : ∀ {n : Nat} {ds : List PyData}, (∀ d ∈ ds, Fl n d) → PyData.depthAll ds ≤ n + 1
  | _, [], _ => by simp [PyData.depthAll]
  | n, d :: ds, h => by
    have h1 := depth_fl (h d (List.mem_cons_self ..))
    have h2 := depthAll_fl fun x hx => h x (List.mem_cons_of_mem _ hx)
    rw [show PyData.depthAll (d :: ds) = max d.depth (PyData.depthAll ds) by simp [PyData.depthAll]]
    omega
end
theorem shaped_fl {n : Nat} {d : PyData} (h : Fl n d) (hn : n ≤ 60) : SeqAt.shaped d = true := by
  have := depth_fl h
  unfold SeqAt.shaped
  rw [canLay_fl h, decide_eq_true (by omega)] <;> rfl
theorem shaped_lst {n : Nat} {ds : List PyData} (h : ∀ d ∈ ds, Fl n d) (hn : n ≤ 60) : SeqAt.shaped (.list ds) = true := by
  have := depthAll_fl h
  unfold SeqAt.shaped
  rw [show (PyData.list ds).canLay0 = PyData.canLayAll0 ds by simp [PyData.canLay0], canLayAll_fl h, decide_eq_true (by
    rw [show (PyData.list ds).depth = 1 + PyData.depthAll ds by simp [PyData.depth, Nat.add_comm]]
    omega)] <;> rfl
/-! ### what evaluates to data -/
def EP (K : PySem.W.Frag) (te : TE) (σ : L2.St) (H : Hp) (R : PyData → Prop) : Prop := ∀ H1, Ex H H1 → ∀ Q : VK, (∀ v d H2, Ex H1 H2 → R d → Dp K H2 v d → Q v H2) → te σ H1 Q
def EPA (K : PySem.W.Frag) (ta : TA) (σ : L2.St) (H : Hp) (R : List PyData → Prop) : Prop := ∀ H1, Ex H H1 → ∀ Q : List V → Hp → Prop, (∀ vs ds H2, Ex H1 H2 → R ds → DpAll K H2 vs ds → Q vs H2) → ta σ H1 Q
/-- a new list -/
def EPL (K : PySem.W.Frag) (te : TE) (σ : L2.St) (H : Hp) (R : List PyData → Prop) : Prop := ∀ H1, Ex H H1 → ∀ Q : VK, (∀ p vs ds H2, H1 p = none → Ex H1 H2 → H2 p = some (.lst vs) → R ds → DpAll K H2 vs ds → Q (.ref p) H2) → te σ H1 Q
section
variable {K : PySem.W.Frag} {σ : L2.St} {H : Hp} {te ta tb : TE}
theorem ep_is {v : V} {d : PyData} {R : PyData → Prop} (h : Ev te σ H v) (hd : Dp K H v d) (hr : R d) : EP K te σ H R := fun H1 e Q q => h H1 e _ fun H2 e2 => q v d H2 e2 hr (dp_mono (e.trans e2) hd)
theorem ep_int {i : Int} (h : Ev te σ H (.int i)) : EP K te σ H (· = .int i) := ep_is h (.int i) rfl
theorem ep_str {z : Str} (h : Ev te σ H (.str z)) : EP K te σ H (· = .str z) := ep_is h (.str z) rfl
theorem ep_non (h : Ev te σ H .non) : EP K te σ H (· = .none) := ep_is h .non rfl
theorem EP.imp {R S : PyData → Prop} (h : EP K te σ H R) (i : ∀ d, R d → S d) : EP K te σ H S := fun H1 e Q q => h H1 e Q fun v d H2 e2 r D => q v d H2 e2 (i d r) D
theorem EP.mono {R : PyData → Prop} {H' : Hp} (e : Ex H H') (h : EP K te σ H R) : EP K te σ H' R := fun H1 e1 => h H1 (e.trans e1)
theorem epa_nil : EPA K tNil σ H (· = []) := fun H1 _ _ q => q [] [] H1 (Ex.refl H1) rfl .nil
theorem epa_cons {tr : TA} {R : PyData → Prop} {S : List PyData → Prop} (h : EP K te σ H R) (r : EPA K tr σ H S) : EPA K (tCons te tr) σ H (fun ds => ∃ d r, ds = d :: r ∧ R d ∧ S r) := fun H1 e Q q =>
  h H1 e _ fun v d H2 e2 hr hd => r H2 (e.trans e2) _ fun vs ds H3 e3 hs hds => q (v :: vs) (d :: ds) H3 (e2.trans e3) ⟨d, ds, rfl, hr, hs⟩ (.cons (dp_mono e3 hd) hds)
theorem epa_c {tr : TA} {d : PyData} {ds : List PyData} (h : EP K te σ H (· = d)) (r : EPA K tr σ H (· = ds)) : EPA K (tCons te tr) σ H (· = d :: ds) := fun H1 e Q q =>
  h H1 e _ fun v d' H2 e2 hr hd => r H2 (e.trans e2) _ fun vs ds' H3 e3 hs hds => q (v :: vs) (d' :: ds') H3 (e2.trans e3) (by rw [hr, hs]) (.cons (dp_mono e3 hd) hds)
theorem ep_tup {ta : TA} {R : PyData → Prop} {S : List PyData → Prop} (h : EPA K ta σ H S) (i : ∀ ds, S ds → ds.length ≤ 100000 ∧ R (.tuple ds)) : EP K (tTup ta) σ H R := fun H1 e Q q =>
  h H1 e _ fun vs ds H2 e2 hs hds => ⟨sz_of (by rw [dpa_len hds]; exact (i ds hs).1), fun p hp => q _ _ _ (e2.trans (Ex.new hp)) (i ds hs).2 (.tup (st_of upd_same) (dpa_mono (Ex.new hp) hds))⟩
theorem ep_t {ta : TA} {ds : List PyData} (h : EPA K ta σ H (· = ds)) (hl : ds.length ≤ 100000) : EP K (tTup ta) σ H (· = .tuple ds) := ep_tup h fun ds' e => by
  rw [e]
  exact ⟨hl, rfl⟩
theorem epl_lst {ta : TA} {S : List PyData → Prop} (h : EPA K ta σ H S) (i : ∀ ds, S ds → ds.length ≤ 100000) : EPL K (tLst ta) σ H S := fun H1 e Q q =>
  h H1 e _ fun vs ds H2 e2 hs hds => ⟨sz_of (by rw [dpa_len hds]; exact i ds hs), fun p hp => q p vs ds _ (fresh_back e2 hp) (e2.trans (Ex.new hp)) upd_same hs (dpa_mono (Ex.new hp) hds)⟩
theorem EPL.ep {R : PyData → Prop} {S : List PyData → Prop} (h : EPL K te σ H S) (i : ∀ ds, S ds → R (.list ds)) : EP K te σ H R := fun H1 e Q q =>
  h H1 e _ fun p vs ds H2 hp e2 h2 hs hds => q _ _ H2 e2 (i ds hs) (.lst (sq_of h2) hds)
theorem s_retP {D : Ends} {R : PyData → Prop} (h : EP K te σ H R) (k : ∀ v d H1, Ex H H1 → R d → Dp K H1 v d → D.rt v H1) : tRet te D σ H := h H (Ex.refl H) _ k
theorem s_retPL {D : Ends} {S : List PyData → Prop} (h : EPL K te σ H S) (k : ∀ p vs ds H1, H p = none → Ex H H1 → H1 p = some (.lst vs) → S ds → DpAll K H1 vs ds → D.rt (.ref p) H1) : tRet te D σ H := h H (Ex.refl H) _ k
theorem q_asgP {D : Ends} {tz : TS} {i : Nat} {R : PyData → Prop} (h : EP K te σ H R) (k : ∀ v d H1, Ex H H1 → R d → Dp K H1 v d → tz D (σ.set i (some v)) H1) : tSeq (tAsg te (gName i)) tz D σ H := h H (Ex.refl H) _ k
theorem q_asgPL {D : Ends} {tz : TS} {i : Nat} {S : List PyData → Prop} (h : EPL K te σ H S) (k : ∀ p vs ds H1, H p = none → Ex H H1 → H1 p = some (.lst vs) → S ds → DpAll K H1 vs ds → tz D (σ.set i (some (.ref p))) H1) : tSeq (tAsg te (gName i)) tz D σ H := h H (Ex.refl H) _ k
theorem s_retTup {ta : TA} {D : Ends} {S : List PyData → Prop} (h : EPA K ta σ H S) (l : ∀ ds, S ds → ds.length ≤ 100000) (k : ∀ p ds H1, H p = none → Ex H H1 → S ds → Dp K H1 (.ref p) (.tuple ds) → D.rt (.ref p) H1) : tRet (tTup ta) D σ H :=
  h H (Ex.refl H) _ fun vs ds H1 e1 hs hds => ⟨sz_of (by rw [dpa_len hds]; exact l ds hs), fun p hp => k p ds _ (fresh_back e1 hp) (e1.trans (Ex.new hp)) hs (.tup (st_of upd_same) (dpa_mono (Ex.new hp) hds))⟩
/-- == and != of data -/
theorem ev_eqP {x y : V} {d e : PyData} {b : Bool} (ha : Ev ta σ H x) (hb : Ev tb σ H y) (hd : Dp K H x d) (he : Dp K H y e) (sd : SeqAt.shaped d = true) (se : SeqAt.shaped e = true) (hv : PyData.eqv d e = b) : Ev (tOp (rEqD K) ta tb) σ H (.bl b) :=
  ev_op ha hb fun H1 e1 _ q => ⟨d, e, dp_mono e1 hd, dp_mono e1 he, sd, se, by rw [hv]; exact q H1 (Ex.refl H1)⟩
theorem ev_neP {x y : V} {d e : PyData} {b : Bool} (ha : Ev ta σ H x) (hb : Ev tb σ H y) (hd : Dp K H x d) (he : Dp K H y e) (sd : SeqAt.shaped d = true) (se : SeqAt.shaped e = true) (hv : (!PyData.eqv d e) = b) : Ev (tOp (rNeD K) ta tb) σ H (.bl b) :=
  ev_op ha hb fun H1 e1 _ q => ⟨d, e, dp_mono e1 hd, dp_mono e1 he, sd, se, by rw [hv]; exact q H1 (Ex.refl H1)⟩
/-- [f(k) for k in range(n)] -/
theorem epl_mapR {ta : TA} {j : Nat} {vs : List Nat} {n : Nat} {R : Nat → PyData → Prop} (h : EvA ta σ H [.int (n : Int)]) (hz : n ≤ 40000) (hw : ∀ x, wipe ((wipe σ vs).set j (some x)) vs = wipe σ vs) {m : Nat} (hf : ∀ i d, R i d → Fl m d)
    (he : ∀ (i : Nat) H1, i < n → Ex H H1 → EP K te ((wipe σ vs).set j (some (.int (i : Int)))) H1 (R i)) : EPL K (tLc (iRng1 ta) (gName j) tYes te vs) σ H (fun ds => ds.length = n ∧ ∀ i d, ds[i]? = some d → R i d) := by
  intro H0 e Q q
  refine h H0 e _ fun H1 e1 => ⟨(n : Int), rfl, by omega, by omega, fun Dl hD => ?_⟩
  rw [show ((n : Int)).toNat = n by omega]
  refine lc_range (n := n) (fun i H' => H1 Dl = none ∧ Ex H1 H' ∧ ∃ us ds, H' Dl = some (.lst us) ∧ DpAll K H' us ds ∧ ds.length = i ∧ ∀ i d, ds[i]? = some d → R i d) ⟨hD, Ex.new hD, [], [], upd_same, .nil, rfl, fun i d z => nomatch z⟩ (fun i H' hi p => ⟨hw _, ?_⟩) (fun H' p => ?_)
  · obtain ⟨p1, p2, us, ds, p3, p4, p5, p6⟩ := p
    show te ((wipe σ vs).set j (some (.int (0 + (i : Int))))) H' _
    rw [Int.zero_add]
    refine he i H1 hi (e.trans e1) H' p2 _ fun v d H4 e4 hr hd => ⟨us, e4 Dl _ p3, sz_lt (by rw [dpa_len p4, p5]; omega), p1, (p2.trans e4).mut p1, us ++ [v], ds ++ [d], upd_same, ?_, by rw [List.length_append, p5] <;> rfl, fun k x hk => ?_⟩
    · exact dpa_app (dpa_monoN (ExN.upd (e4 Dl _ p3)) (fun x hx => by
        obtain ⟨k, hk⟩ := List.getElem?_of_mem hx
        exact hf k x (p6 k x hk)) (dpa_mono e4 p4)) (.cons (dp_monoN (ExN.upd (e4 Dl _ p3)) (hf i d hr) hd) .nil)
    · by_cases hlt : k < ds.length
      · rw [List.getElem?_append_left hlt] at hk
        exact p6 k x hk
      · rw [List.getElem?_append_right (by omega)] at hk
        have hk0 : k - ds.length = 0 := by
          by_cases z : k - ds.length = 0
          · exact z
          · rw [List.getElem?_eq_none (by simp; omega)] at hk
            cases hk
        rw [hk0] at hk
        have ek : k = i := by omega
        rw [ek, ← Option.some.inj hk]
        exact hr
  · obtain ⟨p1, p2, us, ds, p3, p4, p5, p6⟩ := p
    exact q Dl us ds H' (fresh_back e1 p1) (e1.trans p2) p3 ⟨p5, p6⟩ p4
end
section
variable {K : PySem.W.Frag} {σ : L2.St} {H : Hp} {te tl : TE}
theorem acc_add {K : PySem.W.Frag} {H H4 : Hp} {Dl : Addr} {us : List V} {ds : List PyData} {v : V} {d : PyData} {m : Nat} {R : Nat → PyData → Prop} (hf : ∀ i d, R i d → Fl m d) (e4 : Ex H H4) (p3 : H Dl = some (.lst us)) (p4 : DpAll K H us ds) (p6 : ∀ i d, ds[i]? = some d → R i d) (hr : R ds.length d) (hd : Dp K H4 v d) :
    DpAll K (upd H4 Dl (.lst (us ++ [v]))) (us ++ [v]) (ds ++ [d]) ∧ (ds ++ [d]).length = ds.length + 1 ∧ ∀ i x, (ds ++ [d])[i]? = some x → R i x := by
  refine ⟨dpa_app (dpa_monoN (n := m) (ExN.upd (e4 Dl _ p3)) (fun x hx => ?_) (dpa_mono e4 p4)) (.cons (dp_monoN (ExN.upd (e4 Dl _ p3)) (hf _ d hr) hd) .nil), by simp, fun k x hk => ?_⟩
  · obtain ⟨k, hk⟩ := List.getElem?_of_mem hx
    exact hf k x (p6 k x hk)
  · by_cases hlt : k < ds.length
    · rw [List.getElem?_append_left hlt] at hk
      exact p6 k x hk
    · rw [List.getElem?_append_right (by omega)] at hk
      have hk0 : k - ds.length = 0 := by
        by_cases z : k - ds.length = 0
        · exact z
        · rw [List.getElem?_eq_none (by simp; omega)] at hk
          cases hk
      rw [hk0] at hk
      have ek : k = ds.length := by omega
      rw [ek, ← Option.some.inj hk]
      exact hr
/-- [f(x) for x in a tuple] -/
theorem epl_mapT {j : Nat} {vs : List Nat} {a : Addr} {xs : List V} {R : Nat → PyData → Prop} (h : Ev tl σ H (.ref a)) (hx : SqT K H a xs) (hz : xs.length ≤ 40000) (hw : ∀ x, wipe ((wipe σ vs).set j (some x)) vs = wipe σ vs) {m : Nat} (hf : ∀ i d, R i d → Fl m d)
    (he : ∀ (i : Nat) x H1, xs[i]? = some x → Ex H H1 → EP K te ((wipe σ vs).set j (some x)) H1 (R i)) : EPL K (tLc (iTup K tl) (gName j) tYes te vs) σ H (fun ds => ds.length = xs.length ∧ ∀ i d, ds[i]? = some d → R i d) := by
  intro H0 e Q q
  refine h H0 e _ fun H1 e1 => ⟨a, rfl, ⟨xs, ex_t (e.trans e1) hx⟩, fun Dl hD => ?_⟩
  refine lc_tup (xs := xs) (fun i H' => H1 Dl = none ∧ Ex H1 H' ∧ ∃ us ds, H' Dl = some (.lst us) ∧ DpAll K H' us ds ∧ ds.length = i ∧ ∀ i d, ds[i]? = some d → R i d) ⟨hD, Ex.new hD, [], [], upd_same, .nil, rfl, fun i d z => nomatch z⟩ (fun i H' _ p => ex_t ((e.trans e1).trans p.2.1) hx) (fun i x H' hi p => ⟨hw x, ?_⟩) (fun H' p => ?_)
  · obtain ⟨p1, p2, us, ds, p3, p4, p5, p6⟩ := p
    have hi2 := (List.getElem?_eq_some_iff.mp hi).1
    show te ((wipe σ vs).set j (some x)) H' _
    refine he i x H1 hi (e.trans e1) H' p2 _ fun v d H4 e4 hr hd => ⟨us, e4 Dl _ p3, sz_lt (by rw [dpa_len p4, p5]; omega), p1, (p2.trans e4).mut p1, us ++ [v], ds ++ [d], upd_same, ?_⟩
    rw [← p5] at hr ⊢
    exact acc_add hf e4 p3 p4 p6 hr hd
  · obtain ⟨p1, p2, us, ds, p3, p4, p5, p6⟩ := p
    exact q Dl us ds H' (fresh_back e1 p1) (e1.trans p2) p3 ⟨p5, p6⟩ p4
/-- [f(x) for x in a list] -/
theorem epl_mapL {j : Nat} {vs : List Nat} {a : Addr} {xs : List V} {R : Nat → PyData → Prop} (h : Ev tl σ H (.ref a)) (hx : SqL K H a xs) (hz : xs.length ≤ 40000) (hw : ∀ x, wipe ((wipe σ vs).set j (some x)) vs = wipe σ vs) {m : Nat} (hf : ∀ i d, R i d → Fl m d)
    (he : ∀ (i : Nat) x H1, xs[i]? = some x → Ex H H1 → EP K te ((wipe σ vs).set j (some x)) H1 (R i)) : EPL K (tLc (iList K tl) (gName j) tYes te vs) σ H (fun ds => ds.length = xs.length ∧ ∀ i d, ds[i]? = some d → R i d) := by
  intro H0 e Q q
  refine h H0 e _ fun H1 e1 => ⟨a, rfl, ⟨xs, ex_l (e.trans e1) hx⟩, fun Dl hD => ?_⟩
  refine lc_list (xs := xs) (fun i H' => H1 Dl = none ∧ Ex H1 H' ∧ ∃ us ds, H' Dl = some (.lst us) ∧ DpAll K H' us ds ∧ ds.length = i ∧ ∀ i d, ds[i]? = some d → R i d) ⟨hD, Ex.new hD, [], [], upd_same, .nil, rfl, fun i d z => nomatch z⟩ (fun i H' _ p => ex_l ((e.trans e1).trans p.2.1) hx) (fun i x H' hi p => ⟨hw x, ?_⟩) (fun H' p => ?_)
  · obtain ⟨p1, p2, us, ds, p3, p4, p5, p6⟩ := p
    have hi2 := (List.getElem?_eq_some_iff.mp hi).1
    show te ((wipe σ vs).set j (some x)) H' _
    refine he i x H1 hi (e.trans e1) H' p2 _ fun v d H4 e4 hr hd => ⟨us, e4 Dl _ p3, sz_lt (by rw [dpa_len p4, p5]; omega), p1, (p2.trans e4).mut p1, us ++ [v], ds ++ [d], upd_same, ?_⟩
    rw [← p5] at hr ⊢
    exact acc_add hf e4 p3 p4 p6 hr hd
  · obtain ⟨p1, p2, us, ds, p3, p4, p5, p6⟩ := p
    exact q Dl us ds H' (fresh_back e1 p1) (e1.trans p2) p3 ⟨p5, p6⟩ p4
end
/-- tuple(a new list of data) -/
theorem ep_tupOf {K : PySem.W.Frag} {σ : L2.St} {H : Hp} {te : TE} {R : PyData → Prop} {S : List PyData → Prop} (h : EPL K te σ H S) (i : ∀ ds, S ds → R (.tuple ds)) : EP K (tCB (rTupOf K) (tCons te tNil)) σ H R := fun H1 e Q q =>
  h H1 e _ fun p vs ds H2 _ e2 hp hs hds => ⟨p, vs, rfl, .inl ⟨sq_of hp, fun l hl => q _ _ _ (e2.trans (Ex.new hl)) (i ds hs) (.tup (st_of upd_same) (dpa_mono (Ex.new hl) hds))⟩⟩
theorem list_same {ds es : List PyData} (hl : ds.length = es.length) (h : ∀ (i : Nat) (d : PyData), ds[i]? = some d → es[i]? = some d) : ds = es := by
  refine List.ext_getElem? fun i => ?_
  by_cases hi : i < ds.length
  · rw [List.getElem?_eq_getElem hi]
    exact (h i _ (List.getElem?_eq_getElem hi)).symm
  · rw [List.getElem?_eq_none (by omega), List.getElem?_eq_none (by omega)]
/-- isinstance of data against tuple, list -/
def isTup : PyData → Bool
  | .tuple _ => true
  | _ => false
def isLst : PyData → Bool
  | .list _ => true
  | _ => false
def isStrD : PyData → Bool
  | .str _ => true
  | _ => false
def isIntD : PyData → Bool
  | .int _ => true
  | .bool _ => true
  | _ => false
def isBoolD : PyData → Bool
  | .bool _ => true
  | _ => false
theorem tyx_lst {K : PySem.W.Frag} {H : Hp} {a : Addr} {xs : List V} (h : SqL K H a xs) : TyX K H (.ref a) (.type "list") := by
  rcases h with (h | ⟨o, h⟩) | ⟨o, its, n, h, hc, _⟩
  · exact .base (.lst h)
  · exact .base (.frz h)
  · exact .kList h hc
theorem ev_isT {K : PySem.W.Frag} {σ : L2.St} {H : Hp} {te : TE} {x : V} {d : PyData} (h : Ev te σ H x) (hd : Dp K H x d) : Ev (tCB (rIsi K) (tCons te (tCons (tC (.ty "tuple")) tNil))) σ H (.bl (isTup d)) := by
  cases hd with
  | non => exact ev_isi (a := "NoneType") (r := false) h (fun _ _ => .base .non) (by decide +kernel)
  | bl b => exact ev_isi (a := "bool") (r := false) h (fun _ _ => .base (.bl b)) (by decide +kernel)
  | int i => exact ev_isi (a := "int") (r := false) h (fun _ _ => .base (.int i)) (by decide +kernel)
  | str z => exact ev_isi (a := "str") (r := false) h (fun _ _ => .base (.str z)) (by decide +kernel)
  | lst hs _ => exact ev_isi (a := "list") (r := false) h (fun H2 e2 => tyx_lst (ex_l e2 hs)) (by decide +kernel)
  | tup hs _ => exact ev_isi (a := "tuple") (r := true) h (fun H2 e2 => tyx_tup (ex_t e2 hs)) (by decide +kernel)
theorem ev_isL {K : PySem.W.Frag} {σ : L2.St} {H : Hp} {te : TE} {x : V} {d : PyData} (h : Ev te σ H x) (hd : Dp K H x d) : Ev (tCB (rIsi K) (tCons te (tCons (tC (.ty "list")) tNil))) σ H (.bl (isLst d)) := by
  cases hd with
  | non => exact ev_isi (a := "NoneType") (r := false) h (fun _ _ => .base .non) (by decide +kernel)
  | bl b => exact ev_isi (a := "bool") (r := false) h (fun _ _ => .base (.bl b)) (by decide +kernel)
  | int i => exact ev_isi (a := "int") (r := false) h (fun _ _ => .base (.int i)) (by decide +kernel)
  | str z => exact ev_isi (a := "str") (r := false) h (fun _ _ => .base (.str z)) (by decide +kernel)
  | lst hs _ => exact ev_isi (a := "list") (r := true) h (fun H2 e2 => tyx_lst (ex_l e2 hs)) (by decide +kernel)
  | tup hs _ => exact ev_isi (a := "tuple") (r := false) h (fun H2 e2 => tyx_tup (ex_t e2 hs)) (by decide +kernel)
theorem ev_isS {K : PySem.W.Frag} {σ : L2.St} {H : Hp} {te : TE} {x : V} {d : PyData} (h : Ev te σ H x) (hd : Dp K H x d) : Ev (tCB (rIsi K) (tCons te (tCons (tC (.ty "str")) tNil))) σ H (.bl (isStrD d)) := by
  cases hd with
  | non => exact ev_isi (a := "NoneType") (r := false) h (fun _ _ => .base .non) (by decide +kernel)
  | bl b => exact ev_isi (a := "bool") (r := false) h (fun _ _ => .base (.bl b)) (by decide +kernel)
  | int i => exact ev_isi (a := "int") (r := false) h (fun _ _ => .base (.int i)) (by decide +kernel)
  | str z => exact ev_isi (a := "str") (r := true) h (fun _ _ => .base (.str z)) (by decide +kernel)
  | lst hs _ => exact ev_isi (a := "list") (r := false) h (fun H2 e2 => tyx_lst (ex_l e2 hs)) (by decide +kernel)
  | tup hs _ => exact ev_isi (a := "tuple") (r := false) h (fun H2 e2 => tyx_tup (ex_t e2 hs)) (by decide +kernel)
theorem ev_isNum {K : PySem.W.Frag} {σ : L2.St} {H : Hp} {te : TE} {x : V} {d : PyData} (h : Ev te σ H x) (hd : Dp K H x d) : Ev (tCB (rIsi K) (tCons te (tCons (tC (.ty "int")) tNil))) σ H (.bl (isIntD d)) := by
  cases hd with
  | non => exact ev_isi (a := "NoneType") (r := false) h (fun _ _ => .base .non) (by decide +kernel)
  | bl b => exact ev_isi (a := "bool") (r := true) h (fun _ _ => .base (.bl b)) (by decide +kernel)
  | int i => exact ev_isi (a := "int") (r := true) h (fun _ _ => .base (.int i)) (by decide +kernel)
  | str z => exact ev_isi (a := "str") (r := false) h (fun _ _ => .base (.str z)) (by decide +kernel)
  | lst hs _ => exact ev_isi (a := "list") (r := false) h (fun H2 e2 => tyx_lst (ex_l e2 hs)) (by decide +kernel)
  | tup hs _ => exact ev_isi (a := "tuple") (r := false) h (fun H2 e2 => tyx_tup (ex_t e2 hs)) (by decide +kernel)
theorem ev_isBl {K : PySem.W.Frag} {σ : L2.St} {H : Hp} {te : TE} {x : V} {d : PyData} (h : Ev te σ H x) (hd : Dp K H x d) : Ev (tCB (rIsi K) (tCons te (tCons (tC (.ty "bool")) tNil))) σ H (.bl (isBoolD d)) := by
  cases hd with
  | non => exact ev_isi (a := "NoneType") (r := false) h (fun _ _ => .base .non) (by decide +kernel)
  | bl b => exact ev_isi (a := "bool") (r := true) h (fun _ _ => .base (.bl b)) (by decide +kernel)
  | int i => exact ev_isi (a := "int") (r := false) h (fun _ _ => .base (.int i)) (by decide +kernel)
  | str z => exact ev_isi (a := "str") (r := false) h (fun _ _ => .base (.str z)) (by decide +kernel)
  | lst hs _ => exact ev_isi (a := "list") (r := false) h (fun H2 e2 => tyx_lst (ex_l e2 hs)) (by decide +kernel)
  | tup hs _ => exact ev_isi (a := "tuple") (r := false) h (fun H2 e2 => tyx_tup (ex_t e2 hs)) (by decide +kernel)
/-- an item of a list or a tuple -/
def rIxD (K : PySem.W.Frag) : R2 := fun x y H Q => rIxL K x y H Q ∨ rIxT K x y H Q
theorem ix_any {X : Cx} {r1 r2 : R2} (h1 : IxR X r1) (h2 : IxR X r2) : IxR X (fun x y H Q => r1 x y H Q ∨ r2 x y H Q) := fun value slice pins s σ H x y v u Q I rx ry h hs => h.elim (fun h => h1 value slice pins s σ H x y v u Q I rx ry h hs) (fun h => h2 value slice pins s σ H x y v u Q I rx ry h hs)
theorem op_any {X : Cx} {f : Value → Value → Sem Value} {r1 r2 : R2} (h1 : OpR X f r1) (h2 : OpR X f r2) : OpR X f (fun x y H Q => r1 x y H Q ∨ r2 x y H Q) := fun pins s σ H x y v u Q I rx ry h => h.elim (fun h => h1 pins s σ H x y v u Q I rx ry h) (fun h => h2 pins s σ H x y v u Q I rx ry h)


/-! ### version texts -/
def mkS (l : List Nat) : Str := ⟨l.toArray⟩
theorem mkS_inj {a b : List Nat} (h : mkS a = mkS b) : a = b := by
  have := congrArg (fun z : Str => z.cps.toList) h
  simpa [mkS] using this
theorem mkS_codes (z : Str) : z = mkS z.cps.toList := mk_of rfl
theorem mkS_len (l : List Nat) : (mkS l).length = l.length := by rw [str_len] <;> rfl
def stC (c : Nat) : Bool := decide (c = 126 ∨ c = 94)
theorem tw_lt {p : Nat → Bool} : ∀ {l : List Nat} {i : Nat}, i < (l.takeWhile p).length → ∃ c, l[i]? = some c ∧ p c = true
  | [], i, h => by simp at h
  | a :: l, i, h => by
    by_cases ha : p a = true
    · rw [List.takeWhile_cons_of_pos ha] at h
      cases i with
      | zero => exact ⟨a, rfl, ha⟩
      | succ i =>
        obtain ⟨c, h1, h2⟩ := tw_lt (l := l) (i := i) (by simpa using h)
        exact ⟨c, by simpa using h1, h2⟩
    · rw [List.takeWhile_cons_of_neg ha] at h
      simp at h
theorem tw_eq {p : Nat → Bool} : ∀ {l : List Nat} {c : Nat}, l[(l.takeWhile p).length]? = some c → p c = false
  | [], c, h => by simp at h
  | a :: l, c, h => by
    by_cases ha : p a = true
    · rw [List.takeWhile_cons_of_pos ha] at h
      exact tw_eq (l := l) (by simpa using h)
    · rw [List.takeWhile_cons_of_neg ha] at h
      have e : a = c := by simpa using h
      rw [← e]
      simpa using ha
theorem tw_le (p : Nat → Bool) (l : List Nat) : (l.takeWhile p).length ≤ l.length := by
  induction l with
  | nil => simp
  | cons a l ih =>
    by_cases ha : p a = true
    · rw [List.takeWhile_cons_of_pos ha]; simp; exact ih
    · rw [List.takeWhile_cons_of_neg ha]; simp
/-- the length without the steps at the end -/
def rsz (l : List Nat) : Nat := l.length - (l.reverse.takeWhile stC).length
theorem rsz_le (l : List Nat) : rsz l ≤ l.length := Nat.sub_le _ _
theorem rev_at {l : List Nat} {i : Nat} (h : i < l.length) : l.reverse[i]? = l[l.length - 1 - i]? := by
  rw [List.getElem?_reverse h]
/-- what the law's own loop keeps -/
theorem rsz_step {l : List Nat} {k s : Nat} (hk : k < l.length) (hs : s = max (rsz l) (l.length - k)) : (0 < s → ∃ c, l[s - 1]? = some c ∧ (if stC c = true then s - 1 else s) = max (rsz l) (l.length - (k + 1))) ∧ (s = 0 → s = max (rsz l) (l.length - (k + 1))) := by
  have hw := tw_le stC l.reverse
  rw [List.length_reverse] at hw
  unfold rsz at *
  refine ⟨fun h0 => ?_, fun h0 => by omega⟩
  by_cases hkw : k < (l.reverse.takeWhile stC).length
  · obtain ⟨c, h1, h2⟩ := tw_lt hkw
    rw [rev_at hk] at h1
    have e : s - 1 = l.length - 1 - k := by omega
    refine ⟨c, by rw [e]; exact h1, ?_⟩
    rw [if_pos h2]
    omega
  · have hlt : l.length - (l.reverse.takeWhile stC).length - 1 < l.length := by omega
    have es : s = l.length - (l.reverse.takeWhile stC).length := by omega
    have hp : (l.reverse.takeWhile stC).length < l.length := by omega
    have e2 := rev_at hp
    obtain ⟨c, hc⟩ : ∃ c, l[s - 1]? = some c := ⟨_, List.getElem?_eq_getElem (by omega)⟩
    have e3 : l.reverse[(l.reverse.takeWhile stC).length]? = some c := by
      rw [e2, ← hc]
      congr 1
      omega
    have := tw_eq e3
    refine ⟨c, hc, ?_⟩
    rw [if_neg (by rw [this]; exact Bool.false_ne_true)]
    omega
def digC (c : Nat) : Bool := decide (48 ≤ c ∧ c ≤ 57)
def addrB (b : List Nat) : Bool := decide (1 ≤ b.length ∧ b.length ≤ 18) && (!decide (b.head? = some 48) && b.all digC)
def verD (b : List Nat) (s : Str) : Option PyData :=
  if b = [64] then some (.tuple [.str (Str.ofString "head"), .none, .str s])
  else if nameB (mkS b) = true then some (.tuple [.str (Str.ofString "name"), .str (mkS b), .str s])
  else if b.head? = some 47 ∧ nameB (mkS (b.drop 1)) = true then some (.tuple [.str (Str.ofString "far"), .str (mkS (b.drop 1)), .str s])
  else if b.head? = some 58 ∧ addrB (b.drop 1) = true then some (.tuple [.str (Str.ofString "address"), .int (PySem.NumText.digitsVal (b.drop 1) : Nat), .str s])
  else none
def verO (l : List Nat) : Option PyData := if 60 < l.length then none else verD (l.take (rsz l)) (mkS (l.drop (rsz l)))
theorem at_eq : Str.ofString "@" = mkS [64] := by decide +kernel
theorem rstrip_eq (z : Str) : Txt.rstripChars z (Str.ofString "~^") = mkS (z.cps.toList.take (rsz z.cps.toList)) := by
  have ec : (fun c => (Str.ofString "~^").cps.contains c) = stC := by
    funext c
    have e : (Str.ofString "~^").cps = #[126, 94] := by decide +kernel
    rw [e]
    show (#[126, 94] : Array Nat).contains c = decide (c = 126 ∨ c = 94)
    by_cases h : c = 126
    · subst h; simp
    · by_cases h2 : c = 94
      · subst h2; simp
      · rw [decide_eq_false (by omega)]
        simp [Array.contains, h, h2]
  have e0 : stripLo (fun c => (Str.ofString "~^").cps.contains c) false z = 0 := rfl
  have e1 : stripHi (fun c => (Str.ofString "~^").cps.contains c) true z 0 = rsz z.cps.toList := by
    show z.length - ((z.cps.toList.drop 0).reverse.takeWhile _).length = _
    rw [ec, List.drop_zero, str_len] <;> rfl
  show (if stripSame (fun c => (Str.ofString "~^").cps.contains c) false true z = true then z else stripped (fun c => (Str.ofString "~^").cps.contains c) false true z) = _
  unfold stripSame stripped
  rw [e0, e1]
  split
  · rename_i h
    have h2 : rsz z.cps.toList = z.length := by simpa using h
    rw [h2, str_len, List.take_length]
    exact mkS_codes z
  · refine str_ext ?_
    rw [PySem.StrLaws.strSub_toList, List.drop_zero, Nat.sub_zero] <;> rfl
theorem starts_one (b : List Nat) (c : Nat) : Txt.startswith (mkS b) (mkS [c]) = decide (b.head? = some c) := by
  unfold Txt.startswith
  rw [PySem.StrLaws.subAt_eq, mkS_len, mkS_len]
  show (decide (0 + 1 ≤ b.length) && ((b.drop 0).take 1 == [c])) = _
  cases b with
  | nil => rfl
  | cons a r =>
    show (decide (0 + 1 ≤ r.length + 1) && ([a] == [c])) = decide (some a = some c)
    rw [decide_eq_true (by omega), Bool.true_and]
    by_cases h : a = c
    · subst h; simp
    · simp [h]
theorem cutS_from (b : List Nat) (n : Nat) : cutS (mkS b) (some (n : Int)) none = mkS (b.drop n) := by
  refine str_ext ?_
  show (b.drop (HT.sIx (mkS b).length 0 (some (n : Int)))).take _ = b.drop n
  rw [HT.sIx_nat, mkS_len, HT.sIx_none]
  by_cases h : n ≤ b.length
  · rw [Nat.min_eq_left h, List.take_of_length_le (by rw [List.length_drop]; omega)]
  · rw [Nat.min_eq_right (by omega), List.drop_of_length_le (Nat.le_refl _), List.drop_of_length_le (by omega)] <;> simp
theorem cutS_to (b : List Nat) (n : Nat) : cutS (mkS b) none (some (n : Int)) = mkS (b.take n) := by
  refine str_ext ?_
  show (b.drop (HT.sIx (mkS b).length 0 none)).take (HT.sIx (mkS b).length (mkS b).length (some (n : Int)) - HT.sIx (mkS b).length 0 none) = b.take n
  rw [HT.sIx_nat, mkS_len, HT.sIx_none, List.drop_zero, Nat.sub_zero]
  by_cases h : n ≤ b.length
  · rw [Nat.min_eq_left h]
  · rw [Nat.min_eq_right (by omega), List.take_of_length_le (Nat.le_refl _), List.take_of_length_le (by omega)]
theorem take_len {l : List Nat} {n : Nat} (h : n ≤ l.length) : (l.take n).length = n := by rw [List.length_take]; omega
/-! ### comprehensions with a test over a text -/
theorem given_filter {l : List Nat} (p : Nat → Bool) (g : Nat → V) : given l.length (fun i => p (l.getD i 0)) (fun i => g (l.getD i 0)) = (l.filter p).map g := by
  have e : l = (List.range l.length).map fun i => l.getD i 0 := by
    refine List.ext_getElem? fun i => ?_
    rw [List.getElem?_map]
    by_cases hi : i < l.length
    · rw [List.getElem?_range hi, List.getElem?_eq_getElem hi, Option.map_some, List.getD_eq_getElem?_getD, List.getElem?_eq_getElem hi] <;> rfl
    · rw [List.getElem?_eq_none (by omega), List.getElem?_eq_none (by rw [List.length_range]; omega)] <;> rfl
  unfold given
  conv => rhs; rw [e, List.filter_map, List.map_map]
  rfl
theorem el_flS {σ : L2.St} {H : Hp} {te tl : TE} {tt : TT} {z : Str} {j : Nat} {vs : List Nat} {p : Nat → Bool} (h : Ev te σ H (.str z)) (hz : z.cps.toList.length ≤ 40000) (hw : ∀ x, wipe ((wipe σ vs).set j (some x)) vs = wipe σ vs)
    (ht : ∀ (c : Nat), c ∈ z.cps.toList → ∀ H1, Ex H H1 → EvT tt ((wipe σ vs).set j (some (.str ⟨#[c]⟩))) H1 (p c)) (he : ∀ (c : Nat) H1, Ex H H1 → Ev tl ((wipe σ vs).set j (some (.str ⟨#[c]⟩))) H1 (.str ⟨#[c]⟩)) : EvL (tLc (iStr te) (gName j) tt tl vs) σ H ((z.cps.toList.filter p).map fun c => .str ⟨#[c]⟩) := fun H0 e Q q => h H0 e _ fun H1 e1 => ⟨z, rfl, fun D hD => by
  rw [← given_filter (l := z.cps.toList) p fun c => .str ⟨#[c]⟩] at q
  refine ⟨fun i m H' => m = z.cps.toList.length - i ∧ i ≤ z.cps.toList.length ∧ Cw H1 (fun i => p (z.cps.toList.getD i 0)) (fun i => .str ⟨#[z.cps.toList.getD i 0]⟩) D i H', ⟨_, rfl, Nat.zero_le _, hD, Ex.new hD, upd_same⟩, ?_⟩
  rintro i m H' ⟨rfl, hi, pp⟩
  by_cases hlt : i < z.cps.toList.length
  · refine .inr ⟨(by show i < z.cps.size; simpa using hlt), Cw H1 (fun i => p (z.cps.toList.getD i 0)) (fun i => .str ⟨#[z.cps.toList.getD i 0]⟩) D (i + 1), fun H2 p2 => ⟨_, by omega, rfl, hlt, p2⟩, fun x H2 y => ?_⟩
    obtain ⟨rfl, c, hc, rfl⟩ := y
    have hc' : z.cps.toList[i]? = some c := by simpa using hc
    have ed : z.cps.toList.getD i 0 = c := by rw [List.getD_eq_getElem?_getD, hc'] <;> rfl
    have t1 := ht c (List.mem_of_getElem? hc') H1 (e.trans e1)
    have t2 := he c H1 (e.trans e1)
    refine ⟨hw _, cw_turn pp (by omega) (by rw [ed]; exact t1) fun _ => (by rw [ed]; exact t2)⟩
  · have ei : i = z.cps.toList.length := by omega
    subst ei
    exact .inl ⟨(by show z.cps.size ≤ z.cps.toList.length; simp), q D H' (fresh_back e1 pp.1) (e1.trans pp.2.1) pp.2.2⟩⟩
theorem dpa_strs {K : PySem.W.Frag} {H : Hp} : ∀ zs : List Str, DpAll K H (zs.map V.str) (zs.map PyData.str)
  | [] => .nil
  | z :: zs => .cons (.str z) (dpa_strs zs)
/-- a new list == [] -/
theorem ev_eqNil {K : PySem.W.Frag} {σ : L2.St} {H : Hp} {ta : TE} {zs : List Str} (h : EvL ta σ H (zs.map V.str)) (hz : ∀ z ∈ zs, SeqAt.shaped (.str z) = true) : Ev (tOp (rEqD K) ta (tLst tNil)) σ H (.bl zs.isEmpty) := by
  refine ev_opLL h (el_lst ea_nil (by decide)) fun p q H1 hp hq _ => rv_val fun H2 e2 Q k => ⟨_, _, .lst (sq_of (e2 _ _ hp)) (dpa_strs zs), .lst (sq_of (e2 _ _ hq)) .nil, shaped_lst (n := 0) (fun d hd => ?_) (by decide), by decide, ?_⟩
  · obtain ⟨z, hz', rfl⟩ := List.mem_map.mp hd
    exact .str 0 (hz z hz')
  · have e : PyData.eqv (.list (zs.map PyData.str)) (.list []) = zs.isEmpty := by
      cases zs <;> simp [PyData.eqv, PyData.eqvAll]
    rw [e]
    exact k
/-- [f(k) for k in range(n)], n any int -/
theorem el_mapRI {σ : L2.St} {H : Hp} {ta : TA} {te : TE} {j : Nat} {vs : List Nat} {n : Int} {ys : List V} (h : EvA ta σ H [.int n]) (hz : -100000 ≤ n ∧ n ≤ 40000) (hw : ∀ x, wipe ((wipe σ vs).set j (some x)) vs = wipe σ vs) (hl : ys.length = n.toNat)
    (he : ∀ (i : Nat) (y : V), (i : Int) < n → ys[i]? = some y → ∀ H1, Ex H H1 → Ev te ((wipe σ vs).set j (some (.int (i : Int)))) H1 y) : EvL (tLc (iRng1 ta) (gName j) tYes te vs) σ H ys := by
  intro H0 e Q q
  refine h H0 e _ fun H1 e1 => ⟨n, rfl, by omega, by omega, fun Dl hD => ?_⟩
  refine lc_range (n := n.toNat) (fun i H' => H1 Dl = none ∧ Ex H1 H' ∧ H' Dl = some (.lst (ys.take i))) ⟨hD, Ex.new hD, upd_same⟩ (fun i H' hi p => ⟨hw _, ?_⟩) (fun H' p => ?_)
  · obtain ⟨p1, p2, p3⟩ := p
    have hi2 : i < ys.length := by omega
    have hy : ys[i]? = some ys[i] := List.getElem?_eq_getElem hi2
    show te ((wipe σ vs).set j (some (.int (0 + (i : Int))))) H' _
    rw [Int.zero_add]
    refine he i ys[i] (by omega) hy H1 (e.trans e1) H' p2 _ fun H4 e4 => ⟨ys.take i, e4 Dl _ p3, sz_lt (by rw [List.length_take]; omega), p1, (p2.trans e4).mut p1, ?_⟩
    rw [upd_same, List.take_add_one, hy] <;> rfl
  · obtain ⟨p1, p2, p3⟩ := p
    rw [← hl, List.take_length] at p3
    exact q Dl H' (fresh_back e1 p1) (e1.trans p2) p3
/-- texts that the law makes -/
def TxOk (n : Nat) (z : Str) : Prop := z.length ≤ n ∧ ∀ c ∈ z.cps.toList, c ≤ 1000
theorem TxOk.sh {n : Nat} {z : Str} (h : TxOk n z) : SeqAt.shaped (.str z) = true := by
  unfold SeqAt.shaped
  have e : PyData.strOk z = true := by
    unfold PyData.strOk
    rw [Array.all_eq_true']
    intro c hc
    have := h.2 c (by simpa using hc)
    simp only [decide_eq_true_eq]
    omega
  rw [show (PyData.str z).canLay0 = PyData.strOk z by simp [PyData.canLay0], e] <;> rfl
theorem TxOk.app {n m : Nat} {a b : Str} (h : TxOk n a) (k : TxOk m b) : TxOk (n + m) (a ++ b) := by
  refine ⟨?_, fun c hc => ?_⟩
  · rw [str_len, codes_app rfl rfl, List.length_append, ← str_len, ← str_len]
    have := h.1
    have := k.1
    omega
  · rw [codes_app (x := a.cps.toList) (y := b.cps.toList) rfl rfl] at hc
    rcases List.mem_append.mp hc with z | z
    · exact h.2 c z
    · exact k.2 c z
theorem TxOk.cut {n : Nat} {z : Str} (h : TxOk n z) (lo hi : Option Int) : TxOk n (cutS z lo hi) := by
  refine ⟨Nat.le_trans (cutS_length z lo hi) h.1, fun c hc => h.2 c ?_⟩
  exact List.mem_of_mem_drop (List.mem_of_mem_take (by exact hc))
theorem TxOk.mono {n m : Nat} {z : Str} (h : TxOk n z) (e : n ≤ m) : TxOk m z := ⟨Nat.le_trans h.1 e, h.2⟩
theorem TxOk.one {c : Nat} (h : c ≤ 1000) : TxOk 1 ⟨#[c]⟩ := ⟨Nat.le_refl 1, fun d hd => by
  have : d = c := by simpa using hd
  omega⟩
/-- a join of signs -/
theorem ev_joinS {K : PySem.W.Frag} {σ : L2.St} {H : Hp} {te : TE} {l : List Nat} (h : EvL te σ H (l.map fun c => V.str ⟨#[c]⟩)) (hz : l.length ≤ 100000) :
    Ev (tM1 (fun x xs H Q => ∃ a p, ∃ ys : List Str, x = .str a ∧ xs = [.ref p] ∧ (SqL K H p (ys.map V.str) ∨ SqT K H p (ys.map V.str)) ∧ (ys.map (·.length)).sum + ys.length * a.length ≤ 16777216 ∧ Q (.str (Txt.join a ys)) H) (tC (.str (Str.ofString ""))) te) σ H (.str (mkS l)) := by
  have e : (l.map fun c => V.str ⟨#[c]⟩) = (l.map fun c => (⟨#[c]⟩ : Str)).map V.str := by rw [List.map_map] <;> rfl
  rw [e] at h
  refine ev_is (ev_joinN (K := K) ev_c h ?_) (congrArg V.str (join_signs l))
  rw [sum_ones, List.length_map]
  have : (Str.ofString "").length = 0 := by decide +kernel
  rw [this]
  omega
theorem ev_starts {σ : L2.St} {H : Hp} {to te : TE} {a b : Str} (h0 : Ev to σ H (.str a)) (h : Ev te σ H (.str b)) : Ev (tM1 (fun x xs H Q => ∃ a b, x = V.str a ∧ xs = [V.str b] ∧ Q (.bl (Txt.startswith a b)) H) to te) σ H (.bl (Txt.startswith a b)) := fun H1 e Q q =>
  h0 H1 e _ fun H2 e2 => ⟨⟨a, rfl⟩, h H2 (e.trans e2) _ fun H3 e3 => ⟨a, b, rfl, rfl, q H3 (e2.trans e3)⟩⟩
theorem ev_rstrip {σ : L2.St} {H : Hp} {to te : TE} {a b : Str} (h0 : Ev to σ H (.str a)) (h : Ev te σ H (.str b)) (hz : a.length ≤ 16777216) : Ev (tM1 (fun x xs H Q => ∃ a b, x = V.str a ∧ xs = [V.str b] ∧ a.length ≤ sizeLine ∧ Q (.str (Txt.rstripChars a b)) H) to te) σ H (.str (Txt.rstripChars a b)) := fun H1 e Q q =>
  h0 H1 e _ fun H2 e2 => ⟨⟨a, rfl⟩, h H2 (e.trans e2) _ fun H3 e3 => ⟨a, b, rfl, rfl, sizeOk hz, q H3 (e2.trans e3)⟩⟩
theorem ev_intS {σ : L2.St} {H : Hp} {te : TE} {a : Str} {n : Int} (h : Ev te σ H (.str a)) (hn : PySem.intText? a = some n) (hz : a.length ≤ 640) : Ev (tCB (fun xs H Q => ∃ a n, xs = [V.str a] ∧ PySem.intText? a = some n ∧ a.length ≤ 640 ∧ Q (.int n) H) (tCons te tNil)) σ H (.int n) := fun H1 e Q q =>
  h H1 e _ fun H2 e2 => ⟨a, n, rfl, hn, hz, q H2 e2⟩
theorem addr_int {b : List Nat} (h : addrB b = true) : PySem.intText? (mkS b) = some ((PySem.NumText.digitsVal b : Nat) : Int) ∧ (mkS b).length ≤ 640 := by
  unfold addrB at h
  simp only [Bool.and_eq_true, decide_eq_true_eq, List.all_eq_true] at h
  obtain ⟨h1, _, h2⟩ := h
  refine ⟨intText_digits (x := mkS b) (fun c hc => ?_) (fun z => ?_) (by rw [mkS_len]; omega), by rw [mkS_len]; omega⟩
  · have := h2 c hc
    unfold digC at this
    simpa using this
  · have : b = [] := z
    subst this
    simp at h1
theorem ev_intB {σ : L2.St} {H : Hp} {te : TE} {b : Bool} (h : Ev te σ H (.bl b)) : Ev (tCB (fun xs H Q => (∃ i, xs = [V.int i] ∧ Q (.int i) H) ∨ ∃ k, xs = [V.bl k] ∧ Q (.int (if k = true then 1 else 0)) H) (tCons te tNil)) σ H (.int (if b = true then 1 else 0)) := fun H1 e Q q =>
  h H1 e _ fun H2 e2 => .inr ⟨b, rfl, q H2 e2⟩


/-! ### what evaluates to some text -/
def ES (te : TE) (σ : L2.St) (H : Hp) (R : Str → Prop) : Prop := ∀ H1, Ex H H1 → ∀ Q : VK, (∀ z H2, Ex H1 H2 → R z → Q (.str z) H2) → te σ H1 Q
def ESA (ta : TA) (σ : L2.St) (H : Hp) (R : Str → Prop) (n : Nat) : Prop := ∀ H1, Ex H H1 → ∀ Q : List V → Hp → Prop, (∀ (zs : List Str) H2, Ex H1 H2 → zs.length = n → (∀ z ∈ zs, R z) → Q (zs.map V.str) H2) → ta σ H1 Q
section
variable {K : PySem.W.Frag} {σ : L2.St} {H : Hp} {te ta tb : TE} {R R1 R2 : Str → Prop}
theorem es_ev {z : Str} (h : Ev te σ H (.str z)) (r : R z) : ES te σ H R := fun H1 e Q q => h H1 e _ fun H2 e2 => q z H2 e2 r
theorem ES.imp (h : ES te σ H R1) (i : ∀ z, R1 z → R z) : ES te σ H R := fun H1 e Q q => h H1 e Q fun z H2 e2 r => q z H2 e2 (i z r)
theorem ES.mono {H' : Hp} (e : Ex H H') (h : ES te σ H R) : ES te σ H' R := fun H1 e1 => h H1 (e.trans e1)
theorem es_add (ha : ES ta σ H R1) (hb : ES tb σ H R2) (hR : ∀ a b, R1 a → R2 b → a.length + b.length ≤ 16777216 ∧ R (a ++ b)) : ES (tOp (fun x y H Q => ∃ i j, x = V.str i ∧ y = V.str j ∧ i.length + j.length ≤ sizeLine ∧ Q (.str (i ++ j)) H) ta tb) σ H R := fun H1 e Q q =>
  ha H1 e _ fun a H2 e2 ra => hb H2 (e.trans e2) _ fun b H3 e3 rb => ⟨a, b, rfl, rfl, sizeOk (hR a b ra rb).1, q _ H3 (e2.trans e3) (hR a b ra rb).2⟩
theorem esa_nil : ESA tNil σ H R 0 := fun H1 _ _ q => q [] H1 (Ex.refl H1) rfl fun _ z => nomatch z
theorem esa_cons {tr : TA} {n : Nat} (h : ES te σ H R) (r : ESA tr σ H R n) : ESA (tCons te tr) σ H R (n + 1) := fun H1 e Q q =>
  h H1 e _ fun z H2 e2 rz => r H2 (e.trans e2) _ fun zs H3 e3 hl hz => q (z :: zs) H3 (e2.trans e3) (by rw [List.length_cons, hl]) fun y hy => by
    rcases List.mem_cons.mp hy with h | h
    · rw [h]; exact rz
    · exact hz y h
theorem es_ixN {tr : TA} {n : Nat} {i : Int} (h : ESA tr σ H R n) (hi : ∀ H1, Ex H H1 → Ev tb σ H1 (.int i)) (h0 : 0 ≤ i) (h1 : i < n) (hn : n ≤ 100000) : ES (tOp (rIxL K) (tLst tr) tb) σ H R := fun H1 e Q q =>
  h H1 e _ fun zs H2 e2 hl hz => ⟨sz_of (by rw [List.length_map, hl]; exact hn), fun p hp => hi _ (e.trans (e2.trans (Ex.new hp))) _ (Ex.refl _) _ fun H3 e3 => by
    obtain ⟨z, hzz⟩ : ∃ z, zs[i.toNat]? = some z := ⟨_, List.getElem?_eq_getElem (by omega)⟩
    exact ⟨p, zs.map V.str, i, .str z, rfl, rfl, sq_of (e3 _ _ upd_same), atI_of h0 (by rw [List.getElem?_map, hzz] <;> rfl), q z H3 ((e2.trans (Ex.new hp)).trans e3) (hz z (List.mem_of_getElem? hzz))⟩⟩
theorem q_asgS {D : Ends} {tz : TS} {i : Nat} (h : ES te σ H R) (k : ∀ z H1, Ex H H1 → R z → tz D (σ.set i (some (.str z))) H1) : tSeq (tAsg te (gName i)) tz D σ H := h H (Ex.refl H) _ k
theorem s_asgS {D : Ends} {i : Nat} (h : ES te σ H R) (k : ∀ z H1, Ex H H1 → R z → D.nx (σ.set i (some (.str z))) H1) : tAsg te (gName i) D σ H := h H (Ex.refl H) _ k
theorem s_retS {D : Ends} (h : ES te σ H R) (k : ∀ z H1, Ex H H1 → R z → D.rt (.str z) H1) : tRet te D σ H := h H (Ex.refl H) _ k
end
/-- for x in [a, b, c], texts -/
theorem s_forTx {K : PySem.W.Frag} {σ : L2.St} {H : Hp} {ta : TA} {tu : TS} {D : Ends} {j n : Nat} {R : Str → Prop} (h : ESA ta σ H R n) (hn : n ≤ 100000) (Pv : Hp → L2.St → Hp → Prop) (h0 : ∀ H1, Ex H H1 → Pv H1 σ H1) (he : ∀ H1 σ' H', Pv H1 σ' H' → Ex H1 H')
    (hs : ∀ H1 z σ' H', Ex H H1 → R z → Pv H1 σ' H' → tu { D with nx := Pv H1, ct := Pv H1, bk := D.nx } (σ'.set j (some (.str z))) H') (hd : ∀ H1 σ' H', Ex H H1 → Pv H1 σ' H' → D.nx σ' H') : tFor (iList K (tLst ta)) (gName j) tu D σ H := by
  refine h H (Ex.refl H) _ fun zs H2 e2 hl hz => ⟨sz_of (by rw [List.length_map, hl]; exact hn), fun p hp => ⟨p, rfl, ⟨zs.map V.str, sq_of upd_same⟩, ?_⟩⟩
  have e3 := e2.trans (Ex.new (o := .lst (zs.map V.str)) hp)
  refine for_list (xs := zs.map V.str) (fun i σ' H' => Pv (upd H2 p (.lst (zs.map V.str))) σ' H') (h0 _ e3) (fun i σ' H' _ hP => sq_of (he _ _ _ hP p _ upd_same)) (fun i x σ' H' hi hP => ?_) (fun σ' H' hP => hd _ _ _ e3 hP)
  rw [List.getElem?_map] at hi
  cases e : zs[i]? with
  | none => rw [e] at hi; cases hi
  | some z =>
    rw [e] at hi
    have ex : x = .str z := (Option.some.inj hi).symm
    subst ex
    exact hs _ z σ' H' e3 (hz z (List.mem_of_getElem? e)) hP


/-! ### expressions -/
inductive Bop | add | sub | mul | equal | unequal | less | atmost | more | atleast | and | or
  deriving DecidableEq
def Bop.s : Bop → Str
  | .add => "add"
  | .sub => "sub"
  | .mul => "mul"
  | .equal => "equal"
  | .unequal => "unequal"
  | .less => "less"
  | .atmost => "atmost"
  | .more => "more"
  | .atleast => "atleast"
  | .and => "and"
  | .or => "or"
inductive Tr | int (n : Int) | text (z : Str) | col (z : Str) | neg (a : Tr) | null (a : Tr) | not (a : Tr) | bin (o : Bop) (a b : Tr)
def Tr.d : Tr → PyData
  | .int n => .tuple [.str "int", .int n]
  | .text z => .tuple [.str "text", .str z]
  | .col z => .tuple [.str "column", .str z]
  | .neg a => .tuple [.str "neg", a.d]
  | .null a => .tuple [.str "null", a.d]
  | .not a => .tuple [.str "not", a.d]
  | .bin o a b => .tuple [.str o.s, a.d, b.d]
def Tr.h : Tr → Nat
  | .int _ => 0
  | .text _ => 0
  | .col _ => 0
  | .neg a => a.h + 1
  | .null a => a.h + 1
  | .not a => a.h + 1
  | .bin _ a b => max a.h b.h + 1
inductive Kd | int | text | truth
  deriving DecidableEq
def Kd.s : Kd → Str
  | .int => "int"
  | .text => "text"
  | .truth => "truth"
def Bop.ar (o : Bop) : Bool := o = .add ∨ o = .sub ∨ o = .mul
def Bop.lg (o : Bop) : Bool := o = .and ∨ o = .or
/-- the columns: names and kinds -/
abbrev Cols := List (Str × Kd)
inductive Ty (cs : Cols) : Tr → Kd → Prop
  | int {n : Int} (h : 0 ≤ n ∧ n < 10 ^ 18) : Ty cs (.int n) .int
  | text {z : Str} (h : SeqAt.shaped (.str z) = true) : Ty cs (.text z) .text
  | col {z : Str} {k : Kd} (h : SeqAt.shaped (.str z) = true) (hk : k ≠ .truth) (f : (cs.find? fun c => decide (c.1 = z)).map (·.2) = some k) : Ty cs (.col z) k
  | neg {a : Tr} (h : Ty cs a .int) : Ty cs (.neg a) .int
  | null {a : Tr} {k : Kd} (h : Ty cs a k) (hk : k ≠ .truth) : Ty cs (.null a) .truth
  | not {a : Tr} (h : Ty cs a .truth) : Ty cs (.not a) .truth
  | ar {o : Bop} {a b : Tr} (ho : o.ar = true) (h : Ty cs a .int) (h2 : Ty cs b .int) : Ty cs (.bin o a b) .int
  | cmp {o : Bop} {a b : Tr} {k : Kd} (ho : o.ar = false) (ho2 : o.lg = false) (hk : k ≠ .truth) (h : Ty cs a k) (h2 : Ty cs b k) : Ty cs (.bin o a b) .truth
  | lg {o : Bop} {a b : Tr} (ho : o.lg = true) (h : Ty cs a .truth) (h2 : Ty cs b .truth) : Ty cs (.bin o a b) .truth
theorem Ty.fl {cs : Cols} {t : Tr} {k : Kd} (h : Ty cs t k) : Fl (t.h + 1) t.d := by
  have two : ∀ {n : Nat} {a : String} {d : PyData}, SeqAt.shaped (.str (Str.ofString a)) = true → Fl n d → Fl (n + 1) (.tuple [.str a, d]) := fun hs h => .tup fun x hx => by
    simp only [List.mem_cons, List.not_mem_nil, or_false] at hx
    rcases hx with z | z <;> rw [z]
    · exact .str _ hs
    · exact h
  have s : ∀ o : Bop, SeqAt.shaped (.str o.s) = true := by intro o; cases o <;> decide +kernel
  have three : ∀ {o : Bop} {n m : Nat} {d e : PyData}, Fl n d → Fl m e → Fl (max n m + 1) (.tuple [.str o.s, d, e]) := fun {o n m d e} h1 h2 => .tup fun x hx => by
    simp only [List.mem_cons, List.not_mem_nil, or_false] at hx
    rcases hx with z | z | z <;> rw [z]
    · exact .str _ (s o)
    · exact h1.mono (Nat.le_max_left _ _)
    · exact h2.mono (Nat.le_max_right _ _)
  have mx : ∀ {o : Bop} {a b : Tr}, Fl (a.h + 1) a.d → Fl (b.h + 1) b.d → Fl ((Tr.bin o a b).h + 1) (Tr.bin o a b).d := fun {o a b} h1 h2 => (three (o := o) h1 h2).mono (by show _ ≤ max a.h b.h + 1 + 1; omega)
  induction h with
  | int h => exact two (by decide +kernel) (.int 0 _)
  | text h => exact two (by decide +kernel) (.str 0 h)
  | col h _ _ => exact two (by decide +kernel) (.str 0 h)
  | neg _ ih => exact two (by decide +kernel) ih
  | null _ _ ih => exact two (by decide +kernel) ih
  | not _ ih => exact two (by decide +kernel) ih
  | ar _ _ _ i1 i2 => exact mx i1 i2
  | cmp _ _ _ _ _ i1 i2 => exact mx i1 i2
  | lg _ _ _ i1 i2 => exact mx i1 i2
theorem lg_ar {o : Bop} (h : o.ar = true) (h2 : o.lg = true) : False := by cases o <;> simp [Bop.ar, Bop.lg] at h h2
theorem Ty.kd_u {cs : Cols} {t : Tr} {k k' : Kd} (h : Ty cs t k) (h2 : Ty cs t k') : k = k' := by
  cases h with
  | int _ => cases h2; rfl
  | text _ => cases h2; rfl
  | col _ _ f =>
    cases h2 with
    | col _ _ f2 => exact Option.some.inj (f.symm.trans f2)
  | neg _ => cases h2; rfl
  | null _ _ => cases h2; rfl
  | not _ => cases h2; rfl
  | ar ho _ _ =>
    cases h2 with
    | ar _ _ _ => rfl
    | cmp h _ _ _ _ => exact Bool.noConfusion (ho.symm.trans h)
    | lg h _ _ => exact (lg_ar ho h).elim
  | cmp ho ho2 _ _ _ =>
    cases h2 with
    | ar h _ _ => exact Bool.noConfusion (h.symm.trans ho)
    | cmp _ _ _ _ _ => rfl
    | lg h _ _ => exact Bool.noConfusion (h.symm.trans ho2)
  | lg ho _ _ =>
    cases h2 with
    | ar h _ _ => exact (lg_ar h ho).elim
    | cmp _ h _ _ _ => exact Bool.noConfusion (ho.symm.trans h)
    | lg _ _ _ => rfl
/-! ### values -/
def bndV (n : Int) : V := if n.natAbs < 10 ^ 60 then .int n else .non
def colV : Cols → List V → Str → V
  | (c, _) :: cs, v :: vs, z => if c = z then v else colV cs vs z
  | _, _, _ => .non
def cmpV (o : Bop) (x y : V) : V := match x, y with
  | .int i, .int j => (match o with
    | .add => bndV (i + j)
    | .sub => bndV (i - j)
    | .mul => bndV (i * j)
    | .equal => .bl (decide (i = j))
    | .unequal => .bl (!decide (i = j))
    | .less => .bl (decide (i < j))
    | .atmost => .bl (decide (i ≤ j))
    | .more => .bl (decide (j < i))
    | .atleast => .bl (decide (j ≤ i))
    | _ => .non)
  | .str i, .str j => (match o with
    | .equal => .bl (decide (i = j))
    | .unequal => .bl (!decide (i = j))
    | .less => .bl (decide (i.cps.toList < j.cps.toList))
    | .atmost => .bl (!decide (j.cps.toList < i.cps.toList))
    | .more => .bl (decide (j.cps.toList < i.cps.toList))
    | .atleast => .bl (!decide (i.cps.toList < j.cps.toList))
    | _ => .non)
  | _, _ => .non
def andV (x y : V) : V := if x = .bl false ∨ y = .bl false then .bl false else if x = .non ∨ y = .non then .non else .bl true
def orV (x y : V) : V := if x = .bl true ∨ y = .bl true then .bl true else if x = .non ∨ y = .non then .non else .bl false
def evT (cs : Cols) (row : List V) : Tr → V
  | .int n => .int n
  | .text z => .str z
  | .col z => colV cs row z
  | .neg a => match evT cs row a with
    | .int i => bndV (-i)
    | _ => .non
  | .null a => .bl (decide (evT cs row a = .non))
  | .not a => match evT cs row a with
    | .bl b => .bl (!b)
    | _ => .non
  | .bin o a b => if o = .and then andV (evT cs row a) (evT cs row b) else if o = .or then orV (evT cs row a) (evT cs row b) else cmpV o (evT cs row a) (evT cs row b)
/-- a value of that kind -/
inductive VK' : Kd → V → Prop
  | non (k : Kd) : VK' k .non
  | int {i : Int} (h : i.natAbs < 10 ^ 60) : VK' .int (.int i)
  | str (z : Str) : VK' .text (.str z)
  | bl (b : Bool) : VK' .truth (.bl b)
theorem bnd_ok (i : Int) : VK' .int (bndV i) := by
  unfold bndV
  split
  · rename_i h; exact .int h
  · exact .non _
inductive RowOk : Cols → List V → Prop
  | nil : RowOk [] []
  | cons {c : Str} {k : Kd} {cs : Cols} {v : V} {vs : List V} (h : VK' k v) (r : RowOk cs vs) : RowOk ((c, k) :: cs) (v :: vs)
theorem RowOk.len : ∀ {cs : Cols} {vs : List V}, RowOk cs vs → vs.length = cs.length
  | _, _, .nil => rfl
  | _, _, .cons _ r => congrArg (· + 1) r.len
theorem colV_ok : ∀ {cs : Cols} {vs : List V} {z : Str} {k : Kd}, RowOk cs vs → (cs.find? fun c => decide (c.1 = z)).map (·.2) = some k → VK' k (colV cs vs z)
  | _, _, z, k, .cons (c := c) (k := k') (cs := cs) (v := v) (vs := vs) h r, f => by
    rw [List.find?_cons] at f
    unfold colV
    by_cases e : c = z
    · rw [decide_eq_true (show (c, k').1 = z from e)] at f
      rw [if_pos e, ← Option.some.inj f]
      exact h
    · rw [decide_eq_false (show ¬ (c, k').1 = z from e)] at f
      rw [if_neg e]
      exact colV_ok r f
theorem ev_ok {cs : Cols} {row : List V} (hr : RowOk cs row) {t : Tr} {k : Kd} (h : Ty cs t k) : VK' k (evT cs row t) := by
  induction h with
  | int h => exact .int (by omega)
  | text h => exact .str _
  | col h hk f => exact colV_ok hr f
  | @neg a h ih =>
    unfold evT
    generalize evT cs row a = x at ih
    cases ih with
    | non => exact .non _
    | int _ => exact bnd_ok _
  | null h hk ih => exact .bl _
  | @not a h ih =>
    unfold evT
    generalize evT cs row a = x at ih
    cases ih with
    | non => exact .non _
    | bl b => exact .bl _
  | @ar o a b ho h h2 ih ih2 =>
    unfold evT
    rw [if_neg (by intro z; rw [z] at ho; cases ho), if_neg (by intro z; rw [z] at ho; cases ho)]
    generalize evT cs row a = x at ih
    generalize evT cs row b = y at ih2
    cases ih with
    | non => cases ih2 <;> exact .non _
    | int _ =>
      cases ih2 with
      | non => exact .non _
      | int _ => cases o <;> first | exact bnd_ok _ | cases ho
  | @cmp o a b k ho ho2 hk h h2 ih ih2 =>
    unfold evT
    rw [if_neg (by intro z; rw [z] at ho2; cases ho2), if_neg (by intro z; rw [z] at ho2; cases ho2)]
    generalize evT cs row a = x at ih
    generalize evT cs row b = y at ih2
    cases ih with
    | non => cases ih2 <;> exact .non _
    | int _ =>
      cases ih2 with
      | non => exact .non _
      | int _ => cases o <;> first | exact .bl _ | exact .non _ | cases ho | cases ho2
    | str _ =>
      cases ih2 with
      | non => exact .non _
      | str _ => cases o <;> first | exact .bl _ | exact .non _ | cases ho | cases ho2
    | bl _ => exact absurd rfl hk
  | @lg o a b ho h h2 ih ih2 =>
    unfold evT
    by_cases e : o = .and
    · rw [if_pos e]
      unfold andV
      split
      · exact .bl _
      · split
        · exact .non _
        · exact .bl _
    · rw [if_neg e]
      by_cases e2 : o = .or
      · rw [if_pos e2]
        unfold orV
        split
        · exact .bl _
        · split
          · exact .non _
          · exact .bl _
      · cases o <;> first | exact absurd rfl e | exact absurd rfl e2 | cases ho
theorem VK'.flat {k : Kd} {v : V} (h : VK' k v) : flatV v = true := by cases h <;> rfl
def colsD (cs : Cols) : PyData := .tuple (cs.map fun c => .tuple [.str c.1, .str c.2.s])


/-! ### tuples of two and three; slices of tuples; membership of values -/
theorem dp_two {K : PySem.W.Frag} {H : Hp} {v : V} {a : Str} {d : PyData} (h : Dp K H v (.tuple [.str a, d])) : ∃ p x, v = .ref p ∧ SqT K H p [.str a, x] ∧ Dp K H x d := by
  cases h with
  | tup hs hds =>
    cases hds with
    | cons h1 r =>
      cases r with
      | cons h2 r =>
        cases r
        cases h1
        exact ⟨_, _, rfl, hs, h2⟩
theorem dp_three {K : PySem.W.Frag} {H : Hp} {v : V} {a : Str} {d e : PyData} (h : Dp K H v (.tuple [.str a, d, e])) : ∃ p x y, v = .ref p ∧ SqT K H p [.str a, x, y] ∧ Dp K H x d ∧ Dp K H y e := by
  cases h with
  | tup hs hds =>
    cases hds with
    | cons h1 r =>
      cases r with
      | cons h2 r =>
        cases r with
        | cons h3 r =>
          cases r
          cases h1
          exact ⟨_, _, _, rfl, hs, h2, h3⟩
/-- t[1:] of a tuple -/
theorem eu_sl1 {K : PySem.W.Frag} {σ : L2.St} {H : Hp} {te : TE} {tl th : TO} {a : Addr} {x : V} {xs : List V} (h : Ev te σ H (.ref a)) (h1 : EvO tl σ H (some 1)) (h2 : EvO th σ H none) (hx : SqT K H a (x :: xs)) : EvU (tSl (rSlA K) te tl th) σ H xs := fun H0 e Q q =>
  h H0 e _ fun H2 e2 => h1 H2 (e.trans e2) _ fun H3 e3 => h2 H3 ((e.trans e2).trans e3) _ fun H4 e4 => by
    have z1 : HT.sIx (x :: xs).length 0 (some 1) = 1 := by
      show HT.sIx (xs.length + 1) 0 (some ((1 : Nat) : Int)) = 1
      rw [HT.sIx_nat]
      omega
    refine ⟨a, x :: xs, rfl, ex_t (((e.trans e2).trans e3).trans e4) hx, fun z => ?_, fun _ p hp => ?_⟩
    · have := z.1
      rw [z1] at this
      cases this
    · have ec : cutV (x :: xs) (some 1) none = xs := by
        unfold cutV
        rw [z1, HT.sIx_none]
        show (xs.take (xs.length + 1 - 1)) = xs
        exact List.take_of_length_le (Nat.le_refl _)
      rw [ec]
      exact q p _ (fresh_back ((e2.trans e3).trans e4) hp) (((e2.trans e3).trans e4).trans (Ex.new hp)) upd_same
/-- [f(x) for x in a new tuple] -/
theorem el_mapTN {K : PySem.W.Frag} {σ : L2.St} {H : Hp} {tl te : TE} {j : Nat} {vs : List Nat} {xs ys : List V} (h : EvU tl σ H xs) (hz : xs.length ≤ 40000) (hw : ∀ x, wipe ((wipe σ vs).set j (some x)) vs = wipe σ vs) (hl : ys.length = xs.length)
    (he : ∀ (i : Nat) (x y : V), xs[i]? = some x → ys[i]? = some y → ∀ H1, Ex H H1 → Ev te ((wipe σ vs).set j (some x)) H1 y) : EvL (tLc (iTup K tl) (gName j) tYes te vs) σ H ys := by
  intro H0 e Q q
  refine h H0 e _ fun a H1 _ e1 ha => ⟨a, rfl, ⟨xs, st_of ha⟩, fun Dl hD => ?_⟩
  refine lc_tup (xs := xs) (fun i H' => H1 Dl = none ∧ Ex H1 H' ∧ H' Dl = some (.lst (ys.take i))) ⟨hD, Ex.new hD, upd_same⟩ (fun i H' _ p => ex_t p.2.1 (st_of ha)) (fun i x H' hi p => ⟨hw x, ?_⟩) (fun H' p => ?_)
  · obtain ⟨p1, p2, p3⟩ := p
    have hi2 : i < ys.length := by
      have := (List.getElem?_eq_some_iff.mp hi).1
      omega
    have hy : ys[i]? = some ys[i] := List.getElem?_eq_getElem hi2
    show te ((wipe σ vs).set j (some x)) H' _
    refine he i x ys[i] hi hy H1 (e.trans e1) H' p2 _ fun H4 e4 => ⟨ys.take i, e4 Dl _ p3, sz_lt (by rw [List.length_take]; omega), p1, (p2.trans e4).mut p1, ?_⟩
    rw [upd_same, List.take_add_one, hy] <;> rfl
  · obtain ⟨p1, p2, p3⟩ := p
    rw [← hl, List.take_length] at p3
    exact q Dl H' (fresh_back e1 p1) (e1.trans p2) p3
/-- list.index -/
theorem ev_index {K : PySem.W.Frag} {σ : L2.St} {H : Hp} {to te : TE} {ys : List V} {y z : V} {j : Nat} (h : EvL to σ H ys) (hy : ∀ H1, Ex H H1 → Ev te σ H1 y) (fy : flatV y = true) (fs : ys.all flatV = true) (hj : ys[j]? = some z) (hz : eqV z y = true) (hn : ∀ (m : Nat) (z' : V), m < j → ys[m]? = some z' → eqV z' y = false) :
    Ev (tBM K "list" (rIndex K) to (tCons te tNil)) σ H (.int (j : Int)) := fun H1 e Q q =>
  h H1 e _ fun p H2 _ e2 hp => ⟨.inl ⟨rfl, _, sq_of hp⟩, hy H2 (e.trans e2) _ (Ex.refl H2) _ fun H3 e3 => ⟨p, ys, y, j, z, rfl, rfl, sq_of (e3 _ _ hp), fy, fs, hj, hz, hn, q H3 (e2.trans e3)⟩⟩
theorem ev_abs {σ : L2.St} {H : Hp} {te : TE} {i : Int} (h : Ev te σ H (.int i)) : Ev (tCB (fun xs H Q => ∃ i, xs = [V.int i] ∧ Q (.int (if i < 0 then -i else i)) H) (tCons te tNil)) σ H (.int (i.natAbs : Int)) := fun H1 e Q q =>
  h H1 e _ fun H2 e2 => ⟨i, rfl, by
    have : (if i < 0 then -i else i) = (i.natAbs : Int) := by split <;> omega
    rw [this]
    exact q H2 e2⟩
theorem eqS_refl (z : Str) : eqV (.str z) (.str z) = true := by show (z == z) = true; simp
theorem eqS_ne {a b : Str} (h : a ≠ b) : eqV (.str a) (.str b) = false := by
  show (a == b) = false
  simpa using h
theorem in_non {x y : V} : inV .non [x, y] = decide (x = .non ∨ y = .non) := by
  have e : ∀ v : V, eqV v .non = decide (v = .non) := by intro v; cases v <;> rfl
  unfold inV
  simp only [List.any_cons, List.any_nil, Bool.or_false, e]
  by_cases h : x = .non <;> by_cases h2 : y = .non <;> simp [h, h2]
theorem in_non1 {x : V} : inV .non [x] = decide (x = .non) := by
  have e : ∀ v : V, eqV v .non = decide (v = .non) := by intro v; cases v <;> rfl
  unfold inV
  simp only [List.any_cons, List.any_nil, Bool.or_false, e]
theorem in_bl {x y : V} {b : Bool} (hx : VK' .truth x) (hy : VK' .truth y) : inV (.bl b) [x, y] = decide (x = .bl b ∨ y = .bl b) := by
  have e : ∀ v : V, VK' .truth v → eqV v (.bl b) = decide (v = .bl b) := by
    intro v h
    cases h with
    | non => rfl
    | bl c => cases b <;> cases c <;> rfl
  unfold inV
  simp only [List.any_cons, List.any_nil, Bool.or_false, e x hx, e y hy]
  by_cases h : x = .bl b <;> by_cases h2 : y = .bl b <;> simp [h, h2]
theorem kin_bop (o : Bop) : kIn o.s ["int", "text"] = false ∧ decide (o.s = Str.ofString "column") = false ∧ decide (o.s = Str.ofString "null") = false ∧ kIn o.s ["and", "or"] = o.lg ∧ decide (o.s = Str.ofString "or") = decide (o = .or) ∧ decide (o.s = Str.ofString "and") = decide (o = .and) ∧ decide (o.s = Str.ofString "not") = false ∧ kIn o.s ["neg", "add", "sub", "mul"] = o.ar ∧ decide (o.s = Str.ofString "neg") = false ∧ decide (o.s = Str.ofString "add") = decide (o = .add) ∧ decide (o.s = Str.ofString "sub") = decide (o = .sub) ∧ decide (o.s = Str.ofString "mul") = decide (o = .mul) ∧ decide (o.s = Str.ofString "equal") = decide (o = .equal) ∧ decide (o.s = Str.ofString "unequal") = decide (o = .unequal) ∧ decide (o.s = Str.ofString "less") = decide (o = .less) ∧ decide (o.s = Str.ofString "atmost") = decide (o = .atmost) ∧ decide (o.s = Str.ofString "more") = decide (o = .more) := by
  cases o <;> decide +kernel
def spEv (K : PySem.W.Frag) (n : Nat) : Sp := fun vs H Q _ => ∃ (t : Tr) (k : Kd) (cs : Cols) (row : List V) (vt vc : V) (r : Addr), vs = [vt, vc, .ref r] ∧ Dp K H vt t.d ∧ t.h ≤ n ∧ Ty cs t k ∧ Dp K H vc (colsD cs) ∧ SqT K H r row ∧ RowOk cs row ∧ cs.length ≤ 100 ∧ ∀ H', Ex H H' → Q (evT cs row t) H'
theorem cv_ev {K : PySem.W.Frag} {n : Nat} {t : Tr} {k : Kd} {cs : Cols} {row : List V} {vt vc : V} {r : Addr} {H : Hp} (h1 : Dp K H vt t.d) (h2 : t.h ≤ n) (h3 : Ty cs t k) (h4 : Dp K H vc (colsD cs)) (h5 : SqT K H r row) (h6 : RowOk cs row) (h7 : cs.length ≤ 100) : SpV (spEv K n) [vt, vc, .ref r] H (evT cs row t) := fun H1 e Q q E => ⟨t, k, cs, row, vt, vc, r, rfl, dp_mono e h1, h2, h3, dp_mono e h4, ex_t e h5, h6, h7, fun H2 e2 => q H2 e2⟩
/-- the columns in the heap -/
theorem cols_at {K : PySem.W.Frag} {H : Hp} {vc : V} {cs : Cols} (h : Dp K H vc (colsD cs)) : ∃ (c : Addr) (xs : List V), vc = .ref c ∧ SqT K H c xs ∧ xs.length = cs.length ∧ ∀ (i : Nat) (x : V), xs[i]? = some x → ∃ p c, cs[i]? = some c ∧ x = .ref p ∧ SqT K H p [.str c.1, .str c.2.s] := by
  cases h with
  | tup hs hds =>
    refine ⟨_, _, rfl, hs, by rw [dpa_len hds, List.length_map], fun i x hx => ?_⟩
    obtain ⟨d, h1, h2⟩ := dpa_at hds hx
    rw [List.getElem?_map] at h1
    cases e : cs[i]? with
    | none => rw [e] at h1; cases h1
    | some c =>
      rw [e] at h1
      rw [← Option.some.inj h1] at h2
      obtain ⟨p, y, rfl, h3, h4⟩ := dp_two h2
      cases h4
      exact ⟨p, c, rfl, rfl, h3⟩
def plc : Cols → Str → Nat
  | [], _ => 0
  | (c, _) :: cs, z => if c = z then 0 else plc cs z + 1
theorem plc_spec : ∀ {cs : Cols} {z : Str} {k : Kd} {row : List V}, (cs.find? fun c => decide (c.1 = z)).map (·.2) = some k → row.length = cs.length → (∃ c, cs[plc cs z]? = some c ∧ c.1 = z) ∧ row[plc cs z]? = some (colV cs row z) ∧ ∀ (m : Nat) c, m < plc cs z → cs[m]? = some c → c.1 ≠ z
  | (c, k') :: cs, z, k, v :: row, f, hl => by
    rw [List.find?_cons] at f
    unfold plc colV
    by_cases e : c = z
    · rw [if_pos e, if_pos e]
      exact ⟨⟨_, rfl, e⟩, rfl, fun m c h => by omega⟩
    · rw [decide_eq_false (show ¬ (c, k').1 = z from e)] at f
      rw [if_neg e, if_neg e]
      obtain ⟨⟨d, h1, h2⟩, h3, h4⟩ := plc_spec (cs := cs) (row := row) f (by simpa using hl)
      refine ⟨⟨d, by simpa using h1, h2⟩, by simpa using h3, fun m d' hm hd => ?_⟩
      cases m with
      | zero =>
        have : (c, k') = d' := by simpa using hd
        rw [← this]
        exact e
      | succ m => exact h4 m d' (by omega) (by simpa using hd)
  | (c, k') :: cs, z, k, [], f, hl => by simp at hl
  | [], z, k, row, f, hl => by cases f
/-- two ints or two texts -/
def Two (x y : V) : Prop := (∃ i j, x = .int i ∧ y = .int j) ∨ ∃ a b, x = .str a ∧ y = .str b
def rAny2 (f : Int → Int → Bool) (g : Str → Str → Bool) : R2 := fun x y H Q => (rI0 fun i j => .bl (f i j)) x y H Q ∨ (∃ i j, x = .str i ∧ y = .str j ∧ Q (.bl (g i j)) H)
theorem ev_two {σ : L2.St} {H : Hp} {ta tb : TE} {x y v : V} {f : Int → Int → Bool} {g : Str → Str → Bool} (ha : Ev ta σ H x) (hb : Ev tb σ H y) (h : Two x y) (hi : ∀ i j, x = .int i → y = .int j → v = .bl (f i j)) (hs : ∀ i j, x = .str i → y = .str j → v = .bl (g i j)) : Ev (tOp (rAny2 f g) ta tb) σ H v := by
  rcases h with ⟨i, j, rfl, rfl⟩ | ⟨i, j, rfl, rfl⟩
  · rw [hi i j rfl rfl]
    exact ev_op ha hb fun H1 e1 Q q => .inl ⟨i, j, rfl, rfl, q H1 (Ex.refl H1)⟩
  · rw [hs i j rfl rfl]
    exact ev_op ha hb fun H1 e1 Q q => .inr ⟨i, j, rfl, rfl, q H1 (Ex.refl H1)⟩
theorem ev_lt2 {σ : L2.St} {H : Hp} {ta tb : TE} {x y : V} (ha : Ev ta σ H x) (hb : Ev tb σ H y) (h : Two x y) : Ev (tOp (rAny2 (fun i j => decide (i < j)) (fun i j => decide (i.cps.toList < j.cps.toList))) ta tb) σ H (cmpV .less x y) := ev_two ha hb h (fun i j hx hy => by rw [hx, hy] <;> rfl) (fun i j hx hy => by rw [hx, hy] <;> rfl)
theorem less_bl {x y : V} (h : Two x y) : ∃ b, cmpV .less x y = .bl b ∧ cmpV .atleast x y = .bl (!b) ∧ cmpV .more y x = .bl b ∧ cmpV .atmost y x = .bl (!b) := by
  rcases h with ⟨i, j, rfl, rfl⟩ | ⟨i, j, rfl, rfl⟩
  · refine ⟨decide (i < j), rfl, ?_, rfl, ?_⟩
    · show V.bl (decide (j ≤ i)) = V.bl (!decide (i < j))
      rw [show decide (j ≤ i) = !decide (i < j) by by_cases h : i < j <;> simp [h] <;> omega]
    · show V.bl (decide (j ≤ i)) = V.bl (!decide (i < j))
      rw [show decide (j ≤ i) = !decide (i < j) by by_cases h : i < j <;> simp [h] <;> omega]
  · exact ⟨decide (i.cps.toList < j.cps.toList), rfl, rfl, rfl, rfl⟩
theorem Two.symm {x y : V} (h : Two x y) : Two y x := by
  rcases h with ⟨i, j, rfl, rfl⟩ | ⟨i, j, rfl, rfl⟩
  · exact .inl ⟨j, i, rfl, rfl⟩
  · exact .inr ⟨j, i, rfl, rfl⟩
/-- x is True, x is False, x None or a bool -/
def rIsF : R2 := fun x y H Q => ∃ b, y = .bl b ∧ ((x = .non ∧ Q (.bl false) H) ∨ ∃ a, x = .bl a ∧ Q (.bl (decide (a = b))) H)
theorem op_isF {X : Cx} : OpR X (compareOp .Is) rIsF := by
  intro pins s σ H x y v u Q I rx ry h
  obtain ⟨b, rfl, ⟨rfl, q⟩ | ⟨a, rfl, q⟩⟩ := h
  · cases (show v = Value.none from rx)
    cases (show u = Value.bool b from ry)
    exact wpAny_is_other rfl (fun z => nomatch z) ⟨.bl false, H, I, rfl, q⟩
  · exact op_is_bl pins s σ H (.bl a) (.bl b) v u Q I rx ry ⟨a, b, rfl, rfl, q⟩
theorem ev_isF {σ : L2.St} {H : Hp} {te : TE} {v : V} {b : Bool} (h : Ev te σ H v) (hv : VK' .truth v) : Ev (tOp rIsF te (tC (.bl b))) σ H (.bl (decide (v = .bl b))) := fun H1 e Q q => h H1 e _ fun H2 e2 => by
  cases hv with
  | non => exact ⟨b, rfl, .inl ⟨rfl, q H2 e2⟩⟩
  | bl a =>
    refine ⟨b, rfl, .inr ⟨a, rfl, ?_⟩⟩
    have : decide (V.bl a = V.bl b) = decide (a = b) := dec_bl
    rw [← this]
    exact q H2 e2
/-- [x for x in xs if p(x)] -/
theorem el_flL {K : PySem.W.Frag} {σ : L2.St} {H : Hp} {te tl : TE} {tt : TT} {a : Addr} {xs : List V} {j : Nat} {vs : List Nat} {p : V → Bool} (h : Ev te σ H (.ref a)) (hx : SqL K H a xs) (hz : xs.length ≤ 40000) (hw : ∀ x, wipe ((wipe σ vs).set j (some x)) vs = wipe σ vs)
    (ht : ∀ x, x ∈ xs → ∀ H1, Ex H H1 → EvT tt ((wipe σ vs).set j (some x)) H1 (p x)) (he : ∀ x H1, x ∈ xs → Ex H H1 → Ev tl ((wipe σ vs).set j (some x)) H1 x) : EvL (tLc (iList K te) (gName j) tt tl vs) σ H (xs.filter p) := by
  intro H0 e Q q
  refine h H0 e _ fun H1 e1 => ⟨a, rfl, ⟨xs, ex_l (e.trans e1) hx⟩, fun Dl hD => ?_⟩
  refine lc_list (xs := xs) (fun i H' => H1 Dl = none ∧ Ex H1 H' ∧ H' Dl = some (.lst ((xs.take i).filter p))) ⟨hD, Ex.new hD, upd_same⟩ (fun i H' _ z => ex_l ((e.trans e1).trans z.2.1) hx) (fun i x H' hi z => ⟨hw x, ?_⟩) (fun H' z => ?_)
  · obtain ⟨p1, p2, p3⟩ := z
    have hi2 := (List.getElem?_eq_some_iff.mp hi).1
    have hm := List.mem_of_getElem? hi
    have et : (xs.take (i + 1)).filter p = (xs.take i).filter p ++ (if p x = true then [x] else []) := by
      rw [List.take_add_one, hi, List.filter_append]
      show _ ++ [x].filter p = _
      by_cases hp : p x = true
      · rw [if_pos hp, List.filter_cons_of_pos hp] <;> rfl
      · rw [if_neg hp, List.filter_cons_of_neg hp] <;> rfl
    refine ht x hm H1 (e.trans e1) H' p2 _ fun H3 e3 => ?_
    cases hp : p x with
    | true =>
      show tl _ H3 _
      refine he x H1 hm (e.trans e1) H3 (p2.trans e3) _ fun H4 e4 => ⟨_, e4 Dl _ (e3 Dl _ p3), sz_lt ?_, p1, ((p2.trans e3).trans e4).mut p1, ?_⟩
      · have := List.length_filter_le p (xs.take i)
        rw [List.length_take] at this
        omega
      · rw [upd_same, et, if_pos hp]
    | false =>
      show H1 Dl = none ∧ _
      refine ⟨p1, p2.trans e3, ?_⟩
      rw [et, if_neg (by rw [hp]; exact Bool.false_ne_true), List.append_nil]
      exact e3 Dl _ p3
  · obtain ⟨p1, p2, p3⟩ := z
    rw [List.take_length] at p3
    exact q Dl H' (fresh_back e1 p1) (e1.trans p2) p3
theorem dpa_nons {K : PySem.W.Frag} {H : Hp} : ∀ {ys : List V}, (∀ y ∈ ys, y = .non) → DpAll K H ys (ys.map fun _ => PyData.none)
  | [], _ => .nil
  | y :: ys, h => by
    rw [h y (List.mem_cons_self ..)]
    exact .cons .non (dpa_nons fun z hz => h z (List.mem_cons_of_mem _ hz))
theorem ev_neNil {K : PySem.W.Frag} {σ : L2.St} {H : Hp} {ta : TE} {ys : List V} (h : EvL ta σ H ys) (hz : ∀ y ∈ ys, y = .non) : Ev (tOp (rNeD K) ta (tLst tNil)) σ H (.bl (!ys.isEmpty)) := by
  refine ev_opLL h (el_lst ea_nil (by decide)) fun p q H1 hp hq _ => rv_val fun H2 e2 Q k => ⟨_, _, .lst (sq_of (e2 _ _ hp)) (dpa_nons hz), .lst (sq_of (e2 _ _ hq)) .nil, shaped_lst (n := 0) (fun d hd => ?_) (by decide), by decide, ?_⟩
  · obtain ⟨z, hz', rfl⟩ := List.mem_map.mp hd
    exact .non 0
  · have e : PyData.eqv (.list (ys.map fun _ => PyData.none)) (.list []) = ys.isEmpty := by
      cases ys <;> simp [PyData.eqv, PyData.eqvAll]
    rw [e]
    exact k
theorem given_first {n j : Nat} {f : Nat → Bool} {v : Nat → V} (hj : j < n) (hf : f j = true) (hn : ∀ m, m < j → f m = false) : (given n f v)[0]? = some (v j) := by
  unfold given
  rw [List.getElem?_map]
  have : ((List.range n).filter f)[0]? = some j := by
    rw [← List.head?_eq_getElem?, List.head?_filter, List.find?_range_eq_some]
    exact ⟨hf, List.mem_range.mpr hj, fun m hm => by rw [hn m hm] <;> rfl⟩
  rw [this] <;> rfl
theorem et_andF {t u : TT} {σ : L2.St} {H : Hp} (h : EvT t σ H false) : EvT (tAnd t u) σ H false := et_is (et_and (a := false) (b := false) h fun z => nomatch z) rfl


/-! ### the chunk store -/
abbrev cF (b : Addr) (r : Int) (t : Addr) : List (Str × V) := [(("book" : Str), V.ref b), (("reads" : Str), V.int r), (("_texts" : Str), V.ref t)]
theorem cF_book (b : Addr) (r : Int) (t : Addr) : (cF b r t).lookup ("book" : Str) = some (.ref b) := by simp [cF, List.lookup]
theorem cF_reads (b : Addr) (r : Int) (t : Addr) : (cF b r t).lookup ("reads" : Str) = some (.int r) := by
  have h : (("reads" : Str) == ("book" : Str)) = false := by decide +kernel
  simp [cF, List.lookup, h]
theorem cF_texts (b : Addr) (r : Int) (t : Addr) : (cF b r t).lookup ("_texts" : Str) = some (.ref t) := by
  have h : (("_texts" : Str) == ("book" : Str)) = false := by decide +kernel
  have h2 : (("_texts" : Str) == ("reads" : Str)) = false := by decide +kernel
  simp [cF, List.lookup, h, h2]
theorem cF_no (b : Addr) (r : Int) (t : Addr) {m : Str} (h : (m == ("book" : Str)) = false) (h1 : (m == ("reads" : Str)) = false) (h2 : (m == ("_texts" : Str)) = false) : (cF b r t).lookup m = none := by simp [cF, List.lookup, h, h1, h2]
theorem cF_put (b : Addr) (r r' : Int) (t : Addr) : putF ("reads" : Str) (V.int r') (cF b r t) = cF b r' t := by
  have h : ¬ (("book" : Str) = ("reads" : Str)) := by decide +kernel
  simp [cF, putF, h]
theorem cF_put0 (b : Addr) : putF ("book" : Str) (V.ref b) [] = [(("book" : Str), V.ref b)] := rfl
theorem cF_put1 (b : Addr) (r : Int) : putF ("reads" : Str) (V.int r) [(("book" : Str), V.ref b)] = [(("book" : Str), V.ref b), (("reads" : Str), V.int r)] := by
  have h : ¬ (("book" : Str) = ("reads" : Str)) := by decide +kernel
  simp [putF, h]
theorem cF_put2 (b : Addr) (r : Int) (t : Addr) : putF ("_texts" : Str) (V.ref t) [(("book" : Str), V.ref b), (("reads" : Str), V.int r)] = cF b r t := by
  have h : ¬ (("book" : Str) = ("_texts" : Str)) := by decide +kernel
  have h2 : ¬ (("reads" : Str) = ("_texts" : Str)) := by decide +kernel
  simp [putF, cF, h, h2]
/-- a store stands at p, over the book at b, its dict at t -/
def CkAt (C : Addr) (H : Hp) (p b t : Addr) (r : Int) (kvs : List (Key × V)) : Prop := (∃ dx, H p = some (.ins C dx (cF b r t))) ∧ H t = some (.dK kvs)
theorem dropK_none {kvs : List (Key × V)} {k : Key} (h : valV kvs k = none) : dropK kvs k = kvs := by
  unfold dropK
  rw [List.filter_eq_self]
  intro kv hkv
  simp only [decide_eq_true_eq]
  intro z
  have := valV_any k kvs
  rw [h] at this
  have h2 : (kvs.any fun kv => decide (kv.1 = k)) = true := List.any_eq_true.mpr ⟨kv, hkv, by rw [z]; simp⟩
  rw [h2] at this
  cases this
/-- only what stands in S may change -/
def But (S : List Addr) (H H' : Hp) : Prop := ∀ c o, H c = some o → c ∉ S → H' c = some o
theorem But.refl {S : List Addr} {H : Hp} : But S H H := fun _ _ h _ => h
theorem But.of {S : List Addr} {H H' : Hp} (h : Ex H H') : But S H H' := fun c o e _ => h c o e
theorem But.trans {S : List Addr} {H H' H'' : Hp} (h : But S H H') (h2 : But S H' H'') : But S H H'' := fun c o e n => h2 c o (h c o e n) n
theorem But.sub {S S' : List Addr} {H H' : Hp} (h : But S H H') (hs : ∀ a ∈ S, a ∈ S') : But S' H H' := fun c o e n => h c o e fun z => n (hs c z)
theorem But.put {S : List Addr} {H : Hp} {a : Addr} {o : HO} (h : a ∈ S) : But S H (upd H a o) := fun c o' e n => by rw [upd_ne (fun z => n (by rw [z]; exact h))]; exact e
theorem But.new {S : List Addr} {H : Hp} {a : Addr} {o : HO} (h : H a = none) : But S H (upd H a o) := fun c o' e _ => by rw [upd_ne (ne_of_none e h)]; exact e
theorem t_joined {σ : L2.St} {H : Hp} {ts : List TE} {ys : List Str} {K : List V → Hp → Prop} (h : EvJ σ H ts ys) (hz : (ys.map (·.length)).sum ≤ 16777216) (k : ∀ H1, Ex H H1 → K [.str (ys.foldl (· ++ ·) Str.empty)] H1) :
    tCons (fun σ H Q => tJs ts Str.empty σ H fun out H1 => Q (.str out) H1) tNil σ H K := by
  show tJs ts Str.empty σ H (fun out H1 => K [V.str out] H1)
  exact ev_joined h hz H (Ex.refl H) (fun v H1 => K [v] H1) fun H1 e1 => k H1 e1
def tMethX (C : Addr) (m : Str) (sp : Sp) (E : L2.St → XK) (ta : TE) (t : TA) : TE := fun σ H Q => ta σ H fun x H1 => ∃ a dx fs, x = .ref a ∧ H1 a = some (.ins C dx fs) ∧ fs.lookup m = none ∧ t σ H1 fun vs H2 => sp (x :: vs) H2 Q (E σ)
/-- o.m(e, ..) that may raise, in a try -/
theorem pe_methX {X : Cx} {CX : CXT} {k : Nat} {C f : Addr} {fd : FuncData} {ps : List Str} {m : Str} {sp : Sp} {E : L2.St → XK} {o e : Expr} {es : List Expr} {ta : TE} {t : TA} {apos pos : Pos} {pl : Sem Bool} (he : PE X o ta) (c : Cls X.K C) (hm : Meth X.K C m f) (F : FnOk X.prog X.w X.K X.mg X.base CX k f fd ps sp) (hr : Room k X.A)
    (hb : Binds X.K fd ps []) (hx : ∀ σ, PassesAt CX X σ (E σ)) (ha : PA X (e :: es) t)
    (hst : starEach (e :: es) X.env = (false, eval e X.env) :: starEach es X.env := by rfl) (hpl : (backTo pos (starEach es X.env)).any (·.1) = false := by rfl)
    (ht : eval (.Call (.Attribute o m apos) (e :: es) [] pos) X.env = (do
      let ov ← eval o X.env
      standAt apos.atName
      let (f, first) ← holding [ov] (getMethod ov m pl)
      callWith pos f first (backTo pos (starEach (e :: es) X.env)) (backToKw pos (keywordEach [] X.env))) := by rfl) :
    PE X (.Call (.Attribute o m apos) (e :: es) [] pos) (tMethX C m sp E ta t) := by
  refine ⟨fun pins s σ H Q I h => ?_⟩
  refine PySem.W.methodCall_KW (pl := pl) (thn (he.run pins s σ H _ I h) fun u s1 ⟨x, H1, I1, rx, a, dx, fs, ex, ea, l, q⟩ => ?_) ht
  subst ex
  obtain rfl : u = Value.ref a := rx
  refine getmeth_ok I1 ea c hm l ?_
  refine PySem.W.callWith_K (first := [.ref a]) (h₀ := X.base) I.ok.mod.kin hm.kp (thn (ha.run pos pins s1 σ H1 _ I1 q) fun us s2 ⟨vs, H2, I2, r, q2⟩ => ⟨I2.kIn, ?_⟩) hst hpl
  exact run_fnS (us := .ref a :: us) (vs := .ref a :: vs) F hr hb (hx σ) I2 (.cons rfl r) q2
theorem ev_din {σ : L2.St} {H : Hp} {te td : TE} {x : Addr} {k : Key} {kvs : List (Key × V)} (h : Ev te σ H (kV k)) (h2 : Ev td σ H (.ref x)) (hx : H x = some (.dK kvs)) : Ev (tDIn te td) σ H (.bl (valV kvs k).isSome) := fun H1 e Q q =>
  h H1 e _ fun H2 e2 => h2 H2 (e.trans e2) _ fun H3 e3 => ⟨x, _, rfl, DGet.k (((e.trans e2).trans e3) _ _ hx), q H3 (e2.trans e3)⟩
theorem ev_dnin {σ : L2.St} {H : Hp} {te td : TE} {x : Addr} {k : Key} {kvs : List (Key × V)} (h : Ev te σ H (kV k)) (h2 : Ev td σ H (.ref x)) (hx : H x = some (.dK kvs)) : Ev (tDNotIn te td) σ H (.bl (!(valV kvs k).isSome)) := fun H1 e Q q =>
  h H1 e _ fun H2 e2 => h2 H2 (e.trans e2) _ fun H3 e3 => ⟨x, _, rfl, DGet.k (((e.trans e2).trans e3) _ _ hx), q H3 (e2.trans e3)⟩
theorem ev_dgetK {σ : L2.St} {H : Hp} {te td : TE} {x : Addr} {k : Key} {kvs : List (Key × V)} {v : V} (h2 : Ev td σ H (.ref x)) (h : Ev te σ H (kV k)) (hx : H x = some (.dK kvs)) (hv : valV kvs k = some v) : Ev (tDGet td te) σ H v := fun H1 e Q q =>
  h2 H1 e _ fun H2 e2 => h H2 (e.trans e2) _ fun H3 e3 => ⟨x, v, rfl, by rw [← hv]; exact DGet.k (((e.trans e2).trans e3) _ _ hx), q H3 (e2.trans e3)⟩
theorem CkAt.mono {C p b t : Addr} {r : Int} {H H' : Hp} {kvs : List (Key × V)} (h : CkAt C H p b t r kvs) (e : Ex H H') : CkAt C H' p b t r kvs := by
  obtain ⟨⟨dx, hp⟩, ht⟩ := h
  exact ⟨⟨dx, e _ _ hp⟩, e _ _ ht⟩
def Strs (kvs : List (Key × V)) : Prop := ∀ (k : Key) (v : V), valV kvs k = some v → ∃ z : Str, v = .str z
theorem ev_callH {sp : Sp} {E : L2.St → XK} {ta : TA} {σ : L2.St} {H : Hp} {vs : List V} {z : V} (h : EvA ta σ H vs) (c : SpV sp vs H z) : Ev (tCallS sp E ta) σ H z := fun H1 e Q q => h H1 e _ fun H2 e2 => c H2 (e.trans e2) Q (fun H3 e3 => q H3 (e2.trans e3)) (E σ)
theorem BkAt.mono {C p d : Addr} {H H' : Hp} {kvs : List (Key × V)} (b : BkAt C H p d kvs) (e : Ex H H') : BkAt C H' p d kvs := by
  obtain ⟨⟨dx, hp⟩, hd⟩ := b
  exact ⟨⟨dx, e _ _ hp⟩, e _ _ hd⟩
theorem s_appZ {K : PySem.W.Frag} {σ : L2.St} {H : Hp} {ta te : TE} {D : Ends} {v : V} {l : Addr} {xs : List V} (hl : H l = some (.lst xs)) (ha : Ev ta σ H (.ref l)) (h : Ev te σ H v) (hz : xs.length < sizeLine) (k : ∀ H1, Ex H H1 → D.nx σ (upd H1 l (.lst (xs ++ [v])))) :
    tDrop (tBM K "list" rAppend ta (tCons te tNil)) D σ H := ha H (Ex.refl H) _ fun H1 e1 =>
  ⟨Or.inl ⟨rfl, xs, sq_of (e1 l _ hl)⟩, h H1 e1 _ fun H2 e2 => ⟨l, xs, v, rfl, rfl, e2 l _ (e1 l _ hl), hz, k H2 (e1.trans e2)⟩⟩


/-! ### loops over a dict's keys (the dict is locked meanwhile) -/
theorem Ex.both {H H' : Hp} (e : Ex H H') (x : Addr) (o : HO) : Ex (upd H x o) (upd H' x o) := fun b v h => by
  by_cases hb : b = x
  · rw [hb, upd_same] at h ⊢; exact h
  · rw [upd_ne hb] at h ⊢; exact e _ _ h
theorem Ex.unlock {H H' : Hp} {x : Addr} {o u : HO} (e : Ex (upd H x o) H') (hx : H x = some u) : Ex H (upd H' x u) := fun b v h => by
  by_cases hb : b = x
  · rw [hb, hx] at h
    rw [hb, upd_same]
    exact h
  · rw [upd_ne hb]; exact e _ _ (by rw [upd_ne hb]; exact h)
theorem DGet.f {H : Hp} {a : Addr} {kvs : List (Key × V)} {k : Key} {o : Obj} (e : H a = some (.frz o (.dK kvs))) : DGet H a (kV k) (valV kvs k) := .inl ⟨kvs, k, .inr ⟨o, e⟩, rfl, rfl⟩
theorem ev_dgetF {σ : L2.St} {H : Hp} {te td : TE} {x : Addr} {k : Key} {kvs : List (Key × V)} {v : V} {o : Obj} (h2 : Ev td σ H (.ref x)) (h : Ev te σ H (kV k)) (hx : H x = some (.frz o (.dK kvs))) (hv : valV kvs k = some v) : Ev (tDGet td te) σ H v := fun H1 e Q q =>
  h2 H1 e _ fun H2 e2 => h H2 (e.trans e2) _ fun H3 e3 => ⟨x, v, rfl, by rw [← hv]; exact DGet.f (((e.trans e2).trans e3) _ _ hx), q H3 (e2.trans e3)⟩
theorem q_forK {σ : L2.St} {H : Hp} {te : TE} {tu tz : TS} {D : Ends} {j : Nat} {x : Addr} {kvs : List (Key × V)} (hx : H x = some (.dK kvs)) (h : ∀ H1, Ev te σ H1 (.ref x)) (Pv : Obj → Nat → L2.St → Hp → Prop)
    (h0 : ∀ od H1, Ex (upd H x (.frz od (.dK kvs))) H1 → Pv od 0 σ H1) (hl : ∀ od i σ' H', Pv od i σ' H' → H' x = some (.frz od (.dK kvs)))
    (hs : ∀ od i k v σ' H' (D' : Ends), kvs[i]? = some (k, v) → Pv od i σ' H' → (∀ σ2 H2, Pv od (i + 1) σ2 H2 → D'.nx σ2 H2) → (∀ σ2 H2, Pv od (i + 1) σ2 H2 → D'.ct σ2 H2) → (∀ v H2, H2 x = some (.frz od (.dK kvs)) → D.rt v (upd H2 x (.dK kvs)) → D'.rt v H2) → tu D' (σ'.set j (some (kV k))) H')
    (hd : ∀ od σ' H', Pv od kvs.length σ' H' → tz D σ' (upd H' x (.dK kvs))) : tSeq (tLock (tFor (iKeys te) (gName j) tu)) tz D σ H := by
  refine ⟨x, .dK kvs, hx, True.intro, fun od => ?_⟩
  refine h _ _ (Ex.refl _) _ fun H1 e1 => ⟨x, od, rfl, .inl ⟨kvs, e1 _ _ upd_same, ?_⟩⟩
  refine ⟨fun i m σ' H' => i + m = kvs.length ∧ Pv od i σ' H', ⟨kvs.length, by omega, h0 od H1 e1⟩, ?_⟩
  rintro i m σ' H' ⟨hm, p⟩
  by_cases hlt : i < kvs.length
  · refine .inr ⟨⟨hl _ _ _ _ p, hlt⟩, Pv od (i + 1), fun σ2 H2 p2 => ⟨m - 1, by omega, by omega, p2⟩, fun y H2 hy => ?_⟩
    obtain ⟨rfl, k, v, hk, rfl⟩ := hy
    exact hs od i k v σ' _ _ hk p (fun _ _ z => z) (fun _ _ z => z) fun v H3 z1 z2 => ⟨z1, z2⟩
  · have ei : i = kvs.length := by omega
    subst ei
    exact .inl ⟨⟨hl _ _ _ _ p, Nat.le_refl _⟩, hl _ _ _ _ p, hd od σ' H' p⟩
theorem el_lcK {σ : L2.St} {H : Hp} {te tl : TE} {x : Addr} {kvs : List (Key × V)} {j : Nat} {vs : List Nat} {ys : List V} (hx : H x = some (.dK kvs)) (h : ∀ H1, Ev te σ H1 (.ref x)) (hz : kvs.length ≤ 40000) (hw : ∀ y, wipe ((wipe σ vs).set j (some y)) vs = wipe σ vs) (hl : ys.length = kvs.length)
    (he : ∀ (od : Obj) (i : Nat) (k : Key) (v y : V), kvs[i]? = some (k, v) → ys[i]? = some y → ∀ H1, Ex (upd H x (.frz od (.dK kvs))) H1 → Ev tl ((wipe σ vs).set j (some (kV k))) H1 y) : EvL (tLockE (tLc (iKeys te) (gName j) tYes tl vs)) σ H ys := fun H0 e Q q => by
  refine ⟨x, .dK kvs, e _ _ hx, True.intro, fun od => h _ _ (Ex.refl _) _ fun H1 e1 => ⟨x, od, rfl, .inl ⟨kvs, e1 _ _ upd_same, fun D hD => ?_⟩⟩⟩
  have g : given kvs.length (fun _ => true) (fun i => ys.getD i .non) = ys := given_all hl fun i hi => by
    have hi2 : i < ys.length := by omega
    rw [List.getElem?_eq_getElem hi2, List.getD_eq_getElem?_getD, List.getElem?_eq_getElem hi2] <;> rfl
  have hDx : D ≠ x := fun z => by
    rw [z] at hD
    have y := e1 _ _ (upd_same (H := H0) (a := x) (o := .frz od (.dK kvs)))
    rw [hD] at y
    cases y
  have hD0 : H0 D = none := by
    have y := fresh_back e1 hD
    rw [upd_ne hDx] at y
    exact y
  refine ⟨fun i m H' => m = kvs.length - i ∧ i ≤ kvs.length ∧ Cw H1 (fun _ => true) (fun i => ys.getD i .non) D i H', ⟨_, rfl, Nat.zero_le _, hD, Ex.new hD, upd_same⟩, ?_⟩
  rintro i m H' ⟨rfl, hi, p⟩
  have hf : H' x = some (.frz od (.dK kvs)) := p.2.1 _ _ (e1 _ _ upd_same)
  by_cases hlt : i < kvs.length
  · refine .inr ⟨⟨hf, hlt⟩, Cw H1 (fun _ => true) (fun i => ys.getD i .non) D (i + 1), fun H2 p2 => ⟨_, by omega, rfl, hlt, p2⟩, fun y H2 hy => ?_⟩
    obtain ⟨rfl, k, v, hk, rfl⟩ := hy
    have hi2 : i < ys.length := by omega
    have hy : ys[i]? = some (ys.getD i .non) := by rw [List.getElem?_eq_getElem hi2, List.getD_eq_getElem?_getD, List.getElem?_eq_getElem hi2] <;> rfl
    exact ⟨hw _, cw_turn p (by omega) (fun H3 e3 Q q => q H3 (Ex.refl H3)) fun _ => (he od i k v _ hk hy H1 ((Ex.both e x _).trans e1))⟩
  · have ei : i = kvs.length := by omega
    subst ei
    refine .inl ⟨⟨hf, Nat.le_refl _⟩, hf, ?_⟩
    have p2 := p.2.2
    rw [g] at p2
    refine q D _ hD0 (Ex.unlock (e1.trans p.2.1) (e _ _ hx)) ?_
    rw [upd_ne hDx]
    exact p2
/-! ### the book's dict as a list of texts -/
def bkL : Int → List Str → List (Key × V)
  | _, [] => []
  | n, z :: r => (Sum.inr z, .int n) :: bkL (n + 1) r
def posZ (z : Str) : List Str → Nat
  | [] => 0
  | y :: r => if y = z then 0 else posZ z r + 1
def addZ (zs : List Str) (z : Str) : List Str := if z ∈ zs then zs else zs ++ [z]
theorem bkL_len : ∀ (n : Int) (zs : List Str), (bkL n zs).length = zs.length
  | _, [] => rfl
  | n, z :: r => by show (bkL (n + 1) r).length + 1 = r.length + 1; rw [bkL_len (n + 1) r]
theorem posZ_lt {z : Str} : ∀ {zs : List Str}, z ∈ zs → posZ z zs < zs.length
  | y :: r, h => by
    unfold posZ
    by_cases e : y = z
    · rw [if_pos e]; simp
    · rw [if_neg e]
      have h2 : z ∈ r := (List.mem_cons.mp h).resolve_left fun q => e q.symm
      have := posZ_lt h2
      simp; exact this
theorem posZ_at {z : Str} : ∀ {zs : List Str}, z ∈ zs → zs[posZ z zs]? = some z
  | y :: r, h => by
    unfold posZ
    by_cases e : y = z
    · rw [if_pos e, e] <;> rfl
    · rw [if_neg e]
      have h2 : z ∈ r := (List.mem_cons.mp h).resolve_left fun q => e q.symm
      rw [List.getElem?_cons_succ]
      exact posZ_at h2
theorem posZ_uniq {z : Str} : ∀ {zs : List Str} {j : Nat}, zs.Nodup → zs[j]? = some z → posZ z zs = j
  | [], _, _, h => by simp at h
  | y :: r, 0, _, h => by
    have e : y = z := by simpa using h
    unfold posZ
    rw [if_pos e]
  | y :: r, j + 1, nd, h => by
    rw [List.getElem?_cons_succ] at h
    have e : ¬ y = z := fun q => (List.nodup_cons.mp nd).1 (by rw [q]; exact List.mem_of_getElem? h)
    unfold posZ
    rw [if_neg e, posZ_uniq (List.nodup_cons.mp nd).2 h]
theorem posZ_app {z : Str} : ∀ {zs : List Str} (ys : List Str), z ∈ zs → posZ z (zs ++ ys) = posZ z zs
  | y :: r, ys, h => by
    rw [List.cons_append]
    unfold posZ
    by_cases e : y = z
    · rw [if_pos e, if_pos e]
    · rw [if_neg e, if_neg e, posZ_app ys ((List.mem_cons.mp h).resolve_left fun q => e q.symm)]
theorem posZ_end {z : Str} : ∀ {zs : List Str}, z ∉ zs → posZ z (zs ++ [z]) = zs.length
  | [], _ => by simp [posZ]
  | y :: r, h => by
    rw [List.cons_append]
    unfold posZ
    rw [if_neg (fun q => h (by rw [q]; exact List.mem_cons_self)), posZ_end (fun q => h (List.mem_cons_of_mem _ q))] <;> rfl
theorem bkL_val (z : Str) : ∀ (n : Int) (zs : List Str), valV (bkL n zs) (Sum.inr z : Key) = if z ∈ zs then some (.int (n + (posZ z zs : Nat))) else none
  | n, [] => by simp [bkL, valV]
  | n, y :: r => by
    by_cases e : y = z
    · subst e
      rw [bkL, valV_pos (p := (Sum.inr y, V.int n)) rfl, if_pos List.mem_cons_self]
      simp [posZ]
    · rw [bkL, valV_neg (p := (Sum.inr y, V.int n)) (fun q => e (Sum.inr.inj q)), bkL_val z (n + 1) r]
      have hm : (z ∈ y :: r) = (z ∈ r) := propext ⟨fun h => (List.mem_cons.mp h).resolve_left fun q => e q.symm, fun h => List.mem_cons_of_mem _ h⟩
      simp only [hm, posZ, if_neg e]
      by_cases h : z ∈ r
      · rw [if_pos h, if_pos h]
        congr 2
        omega
      · rw [if_neg h, if_neg h]
theorem bkL_at : ∀ {n : Int} {zs : List Str} {j : Nat} {z : Str}, zs[j]? = some z → (bkL n zs)[j]? = some (Sum.inr z, .int (n + (j : Nat)))
  | n, y :: r, 0, z, h => by
    have e : y = z := by simpa using h
    rw [e]
    simp [bkL]
  | n, y :: r, j + 1, z, h => by
    rw [List.getElem?_cons_succ] at h
    have := bkL_at (n := n + 1) h
    show (bkL (n + 1) r)[j]? = _
    rw [this]
    congr 3
    push_cast
    omega
theorem bkL_get {n : Int} {zs : List Str} {j : Nat} {k : Key} {v : V} (h : (bkL n zs)[j]? = some (k, v)) : ∃ z, zs[j]? = some z ∧ k = Sum.inr z ∧ v = .int (n + (j : Nat)) := by
  have hj : j < zs.length := by rw [← bkL_len n zs]; exact (List.getElem?_eq_some_iff.mp h).1
  have := bkL_at (n := n) (List.getElem?_eq_getElem hj)
  rw [h] at this
  have e := Option.some.inj this
  exact ⟨_, List.getElem?_eq_getElem hj, congrArg Prod.fst e, congrArg Prod.snd e⟩
theorem bkL_app : ∀ (n : Int) (zs : List Str) (z : Str), bkL n (zs ++ [z]) = bkL n zs ++ [(Sum.inr z, .int (n + (zs.length : Nat)))]
  | n, [], z => by simp [bkL]
  | n, y :: r, z => by
    rw [List.cons_append, bkL, bkL_app (n + 1) r z, bkL, List.cons_append, show n + 1 + ((r.length : Nat) : Int) = n + (((y :: r).length : Nat) : Int) from by rw [List.length_cons]; push_cast; omega]
theorem addK_bk (zs : List Str) (z : Str) : addK (bkL 1 zs) z = bkL 1 (addZ zs z) := by
  unfold addZ
  by_cases h : z ∈ zs
  · rw [if_pos h, addK_some (by rw [bkL_val, if_pos h])]
  · have hv : valV (bkL 1 zs) (Sum.inr z : Key) = none := by rw [bkL_val, if_neg h]
    rw [if_neg h, addK_none hv, putK_new _ hv, bkL_app, bkL_len, Int.add_comm]
theorem putK_bk {zs : List Str} {z : Str} (nd : zs.Nodup) : putK (bkL 1 zs) (Sum.inr z : Key) (.int (1 + (posZ z (addZ zs z) : Nat))) = bkL 1 (addZ zs z) := by
  unfold addZ
  by_cases h : z ∈ zs
  · rw [if_pos h]
    unfold putK
    split
    · refine (List.map_congr_left fun kv hkv => ?_).trans (List.map_id _)
      obtain ⟨j, hj, e⟩ := List.getElem_of_mem hkv
      obtain ⟨y, h1, h2, h3⟩ := bkL_get (n := 1) (zs := zs) (j := j) (k := kv.1) (v := kv.2) (by rw [List.getElem?_eq_getElem hj, e])
      by_cases hk : kv.1 = Sum.inr z
      · rw [if_pos hk]
        have e2 : y = z := Sum.inr.inj (h2.symm.trans hk)
        rw [e2] at h1
        rw [posZ_uniq nd h1, ← h3] <;> rfl
      · rw [if_neg hk] <;> rfl
    · rename_i hn
      exact absurd (by rw [valV_any, bkL_val, if_pos h] <;> rfl) hn
  · rw [if_neg h, posZ_end h, putK_new _ (by rw [bkL_val, if_neg h]), bkL_app]
theorem addZ_nodup {zs : List Str} {z : Str} (nd : zs.Nodup) : (addZ zs z).Nodup := by
  unfold addZ
  by_cases h : z ∈ zs
  · rw [if_pos h]; exact nd
  · rw [if_neg h]
    exact List.nodup_append.mpr ⟨nd, by simp, fun a ha b hb => by
      have e : b = z := by simpa using hb
      exact fun q => h (by rw [← e, ← q]; exact ha)⟩
theorem addZ_mem (zs : List Str) (z : Str) : z ∈ addZ zs z := by
  unfold addZ
  by_cases h : z ∈ zs
  · rw [if_pos h]; exact h
  · rw [if_neg h]; simp
theorem addZ_len (zs : List Str) (z : Str) : (addZ zs z).length ≤ zs.length + 1 := by
  unfold addZ
  by_cases h : z ∈ zs
  · rw [if_pos h]; omega
  · rw [if_neg h]; simp
theorem addZ_old {zs : List Str} {z y : Str} {j : Nat} (h : zs[j]? = some y) : (addZ zs z)[j]? = some y := by
  unfold addZ
  by_cases h2 : z ∈ zs
  · rw [if_pos h2]; exact h
  · rw [if_neg h2, List.getElem?_append_left (List.getElem?_eq_some_iff.mp h).1]; exact h
/-- old texts: the one with that address is that text -/
theorem addZ_eq {zs : List Str} {z y : Str} {j : Nat} (nd : zs.Nodup) (h : zs[j]? = some y) : (y = z) ↔ ((1 : Int) + (j : Nat) = 1 + (posZ z (addZ zs z) : Nat)) := by
  have nd2 := addZ_nodup (z := z) nd
  have h2 := addZ_old (z := z) h
  constructor
  · intro e
    rw [e] at h2
    rw [posZ_uniq nd2 h2]
  · intro e
    have ej : posZ z (addZ zs z) = j := by omega
    have := posZ_at (addZ_mem zs z)
    rw [ej, h2] at this
    exact Option.some.inj this
theorem nums_bk (n : Int) (zs : List Str) : Nums (bkL n zs) := fun k v h => by
  cases k with
  | inr z =>
    rw [bkL_val] at h
    split at h
    · exact ⟨_, (Option.some.inj h).symm⟩
    · cases h
  | inl i =>
    exfalso
    have hn : valV (bkL n zs) (Sum.inl i : Key) = none := by
      clear h
      induction zs generalizing n with
      | nil => rfl
      | cons y r ih =>
        rw [bkL, valV_neg (p := (Sum.inr y, V.int n)) (k := Sum.inl i) (by intro q; cases q)]
        exact ih _
    rw [hn] at h
    cases h


section
open PySem PySem.Spec PyProof.Rows L2
variable {X : Cx}
def kItem : L2.Key → Int ⊕ List Nat
  | .inl i => .inl i
  | .inr z => .inr z.cps.toList
/-- tuples of ints and texts, by their order -/
def ltT (a b : List L2.Key) : Bool := lexLt itemOrd (a.map kItem) (b.map kItem)
def rSortTL (K : PySem.W.Frag) : List V → Hp → VK → Prop := fun vs H Q => ∃ (a : Addr) (xs : List Addr) (k : Addr → List L2.Key) (sh : List Bool), vs = [V.ref a] ∧ SqL K H a (xs.map V.ref) ∧ sh ≠ [] ∧ (∀ t ∈ xs, H t = some (.tup ((k t).map kV)) ∧ (k t).map Sum.isRight = sh) ∧
  ∀ (ys : List Addr) (p : Addr), ys.Perm xs → ys.Pairwise (fun s t => ltT (k t) (k s) = false) → H p = none → Q (.ref p) (upd H p (.lst (ys.map V.ref)))
def unrefV : Value → Addr
  | .ref a => a
  | _ => 0
theorem vals_refs_eq : ∀ {xs : List Addr} {its : List Value}, Vals (xs.map V.ref) its → its = xs.map Value.ref
  | [], _, r => by cases r; rfl
  | x :: xs, _, r => by
    cases r with
    | cons h t =>
      cases h
      rw [vals_refs_eq t] <;> rfl
theorem items_key {shape : Nat → Bool} : ∀ {ks : List L2.Key} {its : List Value} {i : Nat}, Vals (ks.map kV) its → (∀ j k, ks[j]? = some k → shape (i + j) = k.isRight) → tupItems shape i its = some (ks.map kItem)
  | [], _, i, r, _ => by cases r; simp [tupItems]
  | k :: ks, _, i, r, h => by
    cases r with
    | cons h1 t =>
      have h0 := h 0 k rfl
      rw [Nat.add_zero] at h0
      have ih := items_key (i := i + 1) t fun j k' hk => by
        have := h (j + 1) k' (by simpa using hk)
        rw [show i + 1 + j = i + (j + 1) from by omega]
        exact this
      cases k with
      | inl n =>
        obtain ⟨tk, rfl⟩ := h1
        have h0 : shape i = false := h0
        simp [tupItems, h0, ih, kItem]
      | inr z =>
        obtain ⟨tk, rfl⟩ := h1
        have h0 : shape i = true := h0
        simp [tupItems, h0, ih, kItem]
theorem tup_tupOf {P : Program} {w : World} {H : Hp} {h : Heap} {t : Addr} {ks : List L2.Key} {sh : List Bool} (hok : ObjOk P w H h t (.tup (ks.map kV))) (he : ks.map Sum.isRight = sh) (hs : sh ≠ []) :
    (∃ f, TupOf h (fun i => sh.getD i false) (.ref t) f) ∧ G.tupKeyC h (fun i => sh.getD i false) (.ref t) = some (ks.map kItem) := by
  obtain ⟨hz, its, rv, o, ho, hc, n, hd⟩ := hok
  have hsh : ∀ j k, ks[j]? = some k → sh.getD (0 + j) false = k.isRight := fun j k hk => by
    rw [← he, Nat.zero_add, List.getD_eq_getElem?_getD, List.getElem?_map, hk] <;> rfl
  have hit := items_key (shape := fun i => sh.getD i false) (i := 0) rv hsh
  constructor
  · cases ks with
    | nil => exact absurd he.symm (by simpa using hs)
    | cons k r =>
      have h0 := hsh 0 k rfl
      cases rv with
      | cons h1 t1 =>
        rename_i u us
        refine ⟨u, t, o, _, n, rfl, ho, hc, hd, by simp, fun hf => ?_, fun hf => ?_⟩
        · cases k with
          | inl i =>
            obtain ⟨tk, rfl⟩ := h1
            exact ⟨i, tk, rfl⟩
          | inr z =>
            have : sh.getD 0 false = false := hf
            rw [this] at h0
            cases h0
        · cases k with
          | inr z =>
            obtain ⟨tk, rfl⟩ := h1
            exact ⟨z, tk, rfl⟩
          | inl i =>
            have : sh.getD 0 false = true := hf
            rw [this] at h0
            cases h0
  · unfold G.tupKeyC
    rw [if_pos (by simp [G.isTupObj, ho, hc])]
    simp only [tupKey, ho, hd]
    exact hit
theorem tups_of {h : Heap} {shape : Nat → Bool} : ∀ {vs : List Value}, (∀ v ∈ vs, ∃ f, TupOf h shape v f) → ∃ fs, TupsOf h shape vs fs
  | [], _ => ⟨[], .nil⟩
  | v :: vs, g => by
    obtain ⟨f, hf⟩ := g v List.mem_cons_self
    obtain ⟨fs, hfs⟩ := tups_of fun u hu => g u (List.mem_cons_of_mem _ hu)
    exact ⟨f :: fs, .cons hf hfs⟩
theorem cr_sortTL : CallR X (.builtin "sorted") (rSortTL X.K) := by
  intro pins s σ H vs us Q I r h
  obtain ⟨a, xs, k, sh, rfl, hs, hsh, hx, q⟩ := h
  obtain ⟨its, rv, hl, hz⟩ := I.list hs
  rw [Vals.ref1 r]
  obtain rfl := vals_refs_eq rv
  have hall : ∀ v ∈ xs.map Value.ref, (∃ f, TupOf s.heap (fun i => sh.getD i false) v f) := fun v hv => by
    obtain ⟨t, ht, rfl⟩ := List.mem_map.mp hv
    exact (tup_tupOf (I.hok t _ (hx t ht).1) (hx t ht).2 hsh).1
  have hk : ∀ t ∈ xs, G.tupKeyC s.heap (fun i => sh.getD i false) (.ref t) = some ((k t).map kItem) := fun t ht => (tup_tupOf (I.hok t _ (hx t ht).1) (hx t ht).2 hsh).2
  obtain ⟨fs, hfs⟩ := tups_of hall
  refine G.sorted_tups (shape := fun i => sh.getD i false) hl.isList hfs (fun v hv => ?_) (by simpa using hz) fun st' h1 h2 _ => ?_
  · obtain ⟨t, ht, rfl⟩ := List.mem_map.mp hv
    exact ⟨_, hk t ht⟩
  · obtain ⟨ys, hys⟩ : ∃ ys : List Addr, ys = (arrOf st').toList.map fun p => unrefV p.1 := ⟨_, rfl⟩
    have hp : (arrOf st').toList.Perm ((xs.map Value.ref).zip (xs.map Value.ref)) := by
      have := h1.toList
      rw [pairsOf_toList] at this
      exact this
    have hmem : ∀ p ∈ (arrOf st').toList, ∃ t ∈ xs, p = (Value.ref t, Value.ref t) := fun p hm => by
      have := hp.mem_iff.mp hm
      obtain ⟨e, hm2⟩ := mem_zip_self this
      obtain ⟨t, ht, e2⟩ := List.mem_map.mp hm2
      refine ⟨t, ht, ?_⟩
      obtain ⟨p1, p2⟩ := p
      have e : p1 = p2 := e
      have e2 : Value.ref t = p1 := e2
      rw [← e, ← e2]
    have hperm : ys.Perm xs := by
      have := hp.map fun p => unrefV p.1
      rw [← hys] at this
      refine this.trans (List.Perm.of_eq ?_)
      have : ∀ l : List Addr, ((l.map Value.ref).zip (l.map Value.ref)).map (fun p => unrefV p.1) = l := fun l => by
        induction l with
        | nil => rfl
        | cons a l ih =>
          simp only [List.map_cons, List.zip_cons_cons, ih]
          rfl
      exact this xs
    have hout : ((arrOf st').map (·.2)).toList = ys.map Value.ref := by
      rw [hys, Array.toList_map, List.map_map]
      refine List.map_congr_left fun p hm => ?_
      obtain ⟨t, _, rfl⟩ := hmem p hm
      rfl
    obtain ⟨ep, he'⟩ := PyProof.Rows.sortedAll_at s.heap (xs.map Value.ref) ((arrOf st').map (·.2))
    have hlen : (ys.map V.ref).length ≤ sizeLine := by
      rw [List.length_map, hperm.length_eq]
      simpa using hz
    refine ⟨.ref _, upd H (s.heap.objs.size + 1) (.lst (ys.map V.ref)), I.laid (t' := s.toks) (fun _ _ => PyProof.Rows.sortedAll_old) (Nat.le_succ _) ⟨hlen, ys.map Value.ref, ep, vals_refs _, ?_⟩, rfl, q _ _ hperm ?_ (I.hok.fresh (Nat.le_succ _))⟩
    · rw [← hout, Array.toArray_toList]
      exact he'
    · have hlen2 : (arrOf st').toList.length = xs.length := by
        rw [hp.length_eq]; simp
      have hsz : (arrOf st').size = xs.length := by rw [← Array.length_toList]; exact hlen2
      refine List.pairwise_iff_getElem.mpr fun i j hi hj hij => ?_
      have hi2 : i < (arrOf st').size := by rw [hys, List.length_map, Array.length_toList] at hi; exact hi
      have hj2 : j < (arrOf st').size := by rw [hys, List.length_map, Array.length_toList] at hj; exact hj
      have h3 := h2 i j (Nat.le_of_lt hij) (by rw [pairsOf_size, List.length_map]; omega)
      have kk : ∀ (n : Nat) (hn : n < (arrOf st').size) (hn2 : n < ys.length), KK (G.tupKindC s.heap fun i => sh.getD i false) (arrOf st') n = (k ys[n]).map kItem := fun n hn hn2 => by
        have hm := hmem (arrOf st')[n] (by simp)
        obtain ⟨t, ht, e⟩ := hm
        have ey : ys[n] = t := by
          simp only [hys, List.getElem_map, Array.getElem_toList, e]
          rfl
        unfold KK
        rw [Array.getElem?_eq_getElem hn, e, ey]
        show ((G.tupKeyC s.heap (fun i => sh.getD i false) (.ref t))).getD [] = _
        rw [hk t ht] <;> rfl
      rw [kk i hi2 hi, kk j hj2 hj] at h3
      exact h3
end


section
open PySem PySem.Spec PyProof.Rows L2
variable {X : Cx}
theorem vals_rev {xs : List V} {us : List Value} (r : Vals xs us) : Vals xs.reverse us.reverse := by
  induction r with
  | nil => exact .nil
  | cons h t ih =>
    rw [List.reverse_cons, List.reverse_cons]
    exact ih.append (.cons h .nil)
/-- xs[::-1] of a list -/
def tRevL (K : PySem.W.Frag) (te : TE) (ts : TO) : TE := fun σ H Q => te σ H fun x H1 => ts σ H1 fun st H2 => ∃ a xs, st = some (-1) ∧ x = .ref a ∧ SqL K H2 a xs ∧ ∀ p, H2 p = none → Q (.ref p) (upd H2 p (.lst xs.reverse))
theorem pe_revL {e : Expr} {te : TE} {ts : TO} {u : Expr} {p2 pos : Pos} (he : PE X e te) (hu : PO X (some u) ts) : PE X (.Subscript e (.Slice none none (some u) p2) pos) (tRevL X.K te ts) := by
  refine ⟨fun pins s σ H Q I h => ?_⟩
  refine Subscript_ (thn (he.run pins s σ H _ I h) fun v s1 ⟨x, H1, I1, r1, q1⟩ => ?_)
  refine wpAny_Slice ?_
  rw [evalPart_none]
  refine wpAny_pure ?_
  refine wpAny_pure ?_
  refine thn (hu.run pins s1 σ H1 _ I1 q1) fun vu s2 ⟨st, H2, I2, pu, q2⟩ => ?_
  obtain ⟨a, xs, rfl, rfl, hx, q⟩ := q2
  cases r1
  obtain ⟨o3, ho3⟩ : ∃ o3 : Obj, o3 = { cls := .type "slice", data := .fields #[.none, .none, vu] } := ⟨_, rfl⟩
  have I3 : Inv X pins σ H2 { s2 with heap := s2.heap.push { cls := .type "slice", data := .fields #[.none, .none, vu] } } := I2.kept (t' := s2.toks) fun b ob q => Heap.get?_push_of_some _ q
  obtain ⟨its, r, ht, hz⟩ := I3.list hx
  refine tail_any (ops := [.ref a, .ref s2.heap.objs.size]) (s := { s2 with heap := s2.heap.push { cls := .type "slice", data := .fields #[.none, .none, vu] } }) ht.isList.typeIs slot_list_getitem.lookup ?_ (by with_unfolding_all rfl)
  refine wpAny_getItem_list_slice ht.isList (Heap.IsSliceOf.new ..) .none .none pu (by simp) ?_ (by rw [List.size_toArray]; have := r.length; omega)
  rw [PySem.W.krv_pick]
  obtain ⟨s3, hs3⟩ : ∃ s3 : Shared, s3 = { s2 with heap := s2.heap.push { cls := .type "slice", data := .fields #[.none, .none, vu] } } := ⟨_, rfl⟩
  rw [← hs3] at I3 ht ⊢
  refine ⟨.ref s3.heap.objs.size, _, I3.laid (t' := s3.toks) (o := .lst xs.reverse) (fun b ob q => Heap.get?_push_of_some _ q) (Nat.le_refl _) ?_, rfl, q _ (I3.hok.fresh (Nat.le_refl _))⟩
  refine ⟨by rw [List.length_reverse]; exact hz, its.reverse, 0, vals_rev r, ?_⟩
  exact Heap.get?_push_size _ rfl
end


section
open PySem PySem.Spec PyProof.Rows L2
variable {X : Cx}
theorem call_sortedDIA (hcalm : X.calm = true) : CallR X (.builtin "sorted") (fun xs H Q => ∃ (a : Addr) (kvs : List (Key × V)) (ks : List Int), xs = [.ref a] ∧ Rd H a (.dK kvs) ∧ kvs.map (·.1) = ks.map Sum.inl ∧ ks.length ≤ sizeLine ∧
    ∀ (ys : List Int) (p : Addr), ys.Perm ks → ys.Pairwise (· ≤ ·) → H p = none → Q (.ref p) (upd H p (.lst (ys.map V.int)))) := by
  intro pins s σ H xs us Q I r q
  obtain ⟨a, kvs, ks, ex, hd, hks, h64, q⟩ := q
  subst ex
  obtain ⟨u, eu, rx⟩ := vals1 r
  subst eu
  cases rx
  obtain ⟨z, lo, vs, rel, dd⟩ := dk_rd I.hok hd
  obtain ⟨ep, hat⟩ := dd.dictAt
  have hkeys : vs.map (·.1) = ks.map Sum.inl := rel.keys.symm.trans hks
  have hl : vs.length = ks.length := by
    have e := congrArg List.length hkeys
    rw [List.length_map, List.length_map] at e
    exact e
  have h16 : vs.length ≤ sizeLine := by rw [hl]; exact h64
  refine Calls.call_function_entry PyProof.Rows.kind_sorted PyProof.Rows.plain_sorted PyProof.Rows.entry_sorted (PyProof.Rows.args_sorted1 _) ?_
  unfold Builtin.«sorted»
  refine wpAny_bind (m := checkCount "sorted" 1 1 _) (wpAny_pure ?_)
  refine wpAny_bind (PySem.W.kdu_collect (A := X.A.in1) (PySem.W.kdl_dict (knd := mixKind X.prog X.w) (kvs := vs) (ep := ep) lo) (I.ok.hd hcalm) hat h16 fun h' tk acc hk hacc => ?_)
  have hal : acc.toList.length = ks.length := by rw [Array.length_toList, hacc.1, hl]
  have hS : IntsAre acc.toList ks := ints_each hal fun j v e => by
    obtain ⟨k, x, e1, e2⟩ := hacc.2 j v (by rw [← Array.getElem?_toList]; exact e)
    have e3 : (vs.map (·.1))[j]? = some k := by rw [List.getElem?_map, e1]; rfl
    rw [hkeys, List.getElem?_map] at e3
    cases e4 : ks[j]? with
    | none => rw [e4] at e3; cases e3
    | some y =>
      rw [e4] at e3
      have e5 : Sum.inl y = k := Option.some.inj e3
      subst e5
      rcases keyIs_shape (show keyIs (Sum.inl y) v = true from e2) with ⟨i, t, ek, ev⟩ | ⟨z, t, ek, ev⟩
      · cases ek
        exact ⟨y, t, rfl, ev⟩
      · cases ek
  have I1 : Inv X pins σ H { s with heap := h', toks := tk } := I.kept hk
  refine wpAny_bind (wpAny_newList ?_ (by rw [hal]; rw [sizeLine_eq] at h64; omega))
  have hoL : (h'.push (seqObj "list" acc.toList.toArray 0)).get? h'.objs.size = some (seqObj "list" acc.toList.toArray 0) := Heap.get?_push_size _ rfl
  show wpAny _ _ _ _ _ { s with heap := h'.push (seqObj "list" acc.toList.toArray 0), toks := tk }
  refine wpAny_bind (wpAny_holding (wpAny_call_entry PyProof.Rows.slot_list_sort ⟨_, hoL, rfl⟩ PyProof.Rows.entry_list_sort
    (PyProof.Rows.list_sort_treeAny (s := { s with heap := h'.push (seqObj "list" acc.toList.toArray 0), toks := tk }) hoL hS (by rw [hal]; exact h64) fun out ys g1 g2 g3 => ⟨_, rfl, ?_⟩) (PyProof.Rows.args_list_sort _)))
  obtain ⟨e', he'⟩ := PyProof.Rows.sortedHeap_at (vs := acc.toList) (out := out) hoL
  have hlen : (ys.map V.int).length ≤ sizeLine := by
    rw [List.length_map, g2.length_eq]
    exact h64
  refine wpAny_pure ⟨_, rfl, .ref h'.objs.size, upd H h'.objs.size (.lst (ys.map V.int)), I1.laid (t' := tk) (fun b u e => ?_) (Nat.le_refl _)
    (show ObjOk X.prog X.w _ _ _ (.lst (ys.map V.int)) from ⟨hlen, out.toList, e', vals_of_ints g1, by rw [Array.toArray_toList]; exact he'⟩), rfl, q ys _ g2 g3 (I1.hok.fresh (Nat.le_refl _))⟩
  have hb : b < h'.objs.size := Heap.lt_size e
  rw [PyProof.Rows.sortedHeap_old (Nat.ne_of_lt hb) (by rw [size_push']; exact Nat.lt_succ_of_lt hb)]
  exact Heap.get?_push_of_some _ e
end


section
variable {P : Program} {w : World} {K : PySem.W.Frag} {mg : Str → Option Value} {base : Heap}

theorem ok_MissingChunk___init (T : Txt K mg P) : FnOk P w K mg base CX0 1 T.f_MissingChunk___init T.d_MissingChunk___init ["self", "address"] (spExI T.C_MissingChunk "address") := by
  obtain ⟨oc, od, kV, doc, pm, an, cc, cda, ct, osl, e, lk, hcd, S⟩ := T.F_MissingChunk___init.ex
  rw [e] at lk ⊢
  refine fn_sup lk hcd sc_MissingChunk___init (by obtain ⟨x1, x2, x3, x4⟩ := S.cell; exact ⟨x1, x2, _, x3, x4⟩) (fun vs H Q E h => ?_) (fun A outer s H vs Q E hr h => ?_)
  · obtain ⟨a, n, rfl, _⟩ := h
    rfl
  · obtain ⟨a, n, rfl, ha, hb, q⟩ := h
    refine ⟨_, pssa_sup S T.e_MissingChunk.o rfl rfl (one_look.mpr ⟨rfl, rfl⟩) rfl rfl T.m_super rfl rfl T.F_MissingChunk___init.top (pa_cons (pe_joined (.cons (pe_str) (.cons (pe_fmt (pv 1)) (.cons (pe_str) (.nil))))) pa_nil) (pss_one (ps_ost (pv 0) (pv 1) rfl)), ?_⟩
    have hnl := int_text_length_le (k := 1920) (by decide) hb
    refine ⟨a, rfl, ha, ?_⟩
    refine t_joined (ys := [Str.ofString "the chunk ", Str.ofString (toString n), Str.ofString " is not held"]) (.cons ev_c (.cons (ev_fmtI (i := n) (ev_var rfl) hb) (.cons ev_c (.nil)))) (by simp only [List.map_cons, List.map_nil, List.sum_cons, List.sum_nil]; rw [PySem.ofString_length (toString n)]; rw [show (Str.ofString "the chunk ").length = 10 from by decide +kernel]; rw [show (Str.ofString " is not held").length = 12 from by decide +kernel]; omega) fun H1 e1 => ⟨by show 1 ≤ 1000; decide, e1 _ _ ha, ?_⟩
    exact ⟨_, rfl, _, rfl, a, T.C_MissingChunk, rfl, T.e_MissingChunk.o, T.na_MissingChunk_address, .inl ⟨e1 _ _ ha, fun dx h1 h2 => q H1 e1 dx h1 h2⟩⟩

/-! ### Book.__init__ -/
def spBkI (C : Addr) : Sp := fun vs H Q _ => ∃ (p dx : Addr), vs = [.ref p] ∧ H p = some (.ins C dx []) ∧ ∀ (d : Addr) (H' : Hp), H d = none → d ≠ p → H' p = some (.ins C dx (aF d)) → H' d = some (.dK []) → (∀ b o, H b = some o → b ≠ p → H' b = some o) → Q .non H'
theorem ok_Book___init (T : Txt K mg P) : FnOk P w K mg base CX0 1 T.f_Book___init T.d_Book___init ["self"] (spBkI T.C_Book) := by
  refine T.F_Book___init.ok sc_Book___init (fun vs H Q E h => ?_) (fun cdv A outer s H vs Q E hr h => ?_)
  · obtain ⟨p, dx, rfl, _⟩ := h
    rfl
  · obtain ⟨p, dx, rfl, hp, q⟩ := h
    refine ⟨_, pss_one (ps_fld (pv 0) (pe_dnewK) rfl), ?_⟩
    intro d hd
    have npd : p ≠ d := ne_of_none hp hd
    refine ⟨_, rfl, p, T.C_Book, dx, [], rfl, (by rw [upd_ne npd]; exact hp), T.cl_Book, T.na_Book__addresses, (by show 0 < 1000; decide), ?_⟩
    refine q d _ hd npd.symm upd_same (by rw [upd_ne npd.symm, upd_same]) fun b o e hb => ?_
    rw [upd_ne hb, upd_ne (ne_of_none e hd)]
    exact e


/-! ### Chunks.get -/
def spCkG (C : Addr) : Sp := fun vs H Q _ => ∃ (p b t : Addr) (r n : Int) (kvs : List (Key × V)) (v : V), vs = [.ref p, .int n] ∧ CkAt C H p b t r kvs ∧ valV kvs (Sum.inl n : Key) = some v ∧ ∀ H', CkAt C H' p b t (r + 1) kvs → But [p] H H' → Q v H'
theorem ok_Chunks_get (T : Txt K mg P) : FnOk P w K mg base CX0 3 T.f_Chunks_get T.d_Chunks_get ["self", "address"] (spCkG T.C_Chunks) := by
  refine T.F_Chunks_get.ok sc_Chunks_get (fun vs H Q E h => ?_) (fun cdv A outer s H vs Q E hr h => ?_)
  · obtain ⟨p, b, t, r, n, kvs, v, rfl, _⟩ := h
    rfl
  · obtain ⟨p, b, t, r, n, kvs, v, rfl, ⟨⟨dx, hp⟩, ht⟩, hv, q⟩ := h
    have hu := hu_of hr
    have npt : p ≠ t := ne_of hp ht (by intro z; cases z)
    refine ⟨_, pss_cons (ps_fldaug (pv 0) (pe_int) in_add)
      (pss_cons (ps_if (pt_cmp (pc_dnotin hu (pv 1) (pe_fld (pv 0) rfl)))
      (pss_one (ps_never))
      (pss_nil))
      (pss_one (ps_ret (pe_dget hu (pe_fld (pv 0) rfl) (pv 1) (fun _ _ => rfl))))), ?_⟩
    refine ⟨_, rfl, p, T.C_Chunks, dx, _, _, rfl, hp, T.cl_Chunks, T.na_Chunks_reads, cF_reads b r t, r, 1, rfl, rfl, dx, _, hp, (by show 3 < 1000; decide), ?_⟩
    rw [cF_put]
    have ht1 : upd H p (.ins T.C_Chunks dx (cF b (r + 1) t)) t = some (.dK kvs) := by rw [upd_ne npt.symm]; exact ht
    refine ⟨_, rfl, _, rfl, p, T.C_Chunks, dx, _, _, rfl, upd_same, T.cl_Chunks, T.na_Chunks__texts, cF_texts b (r + 1) t, t, _, rfl, DGet.k (k := Sum.inl n) ht1, ?_⟩
    rw [hv]
    refine ⟨_, rfl, iteF ?_⟩
    exact ⟨_, rfl, p, T.C_Chunks, dx, _, _, rfl, upd_same, T.cl_Chunks, T.na_Chunks__texts, cF_texts b (r + 1) t, _, rfl, t, v, rfl, (by rw [← hv]; exact DGet.k (k := Sum.inl n) ht1), q _ ⟨⟨dx, upd_same⟩, ht1⟩ (But.put (List.mem_singleton.mpr rfl))⟩
def spCkX (C CM : Addr) : Sp := fun vs H _ E => ∃ (p b t : Addr) (r n : Int) (kvs : List (Key × V)), vs = [.ref p, .int n] ∧ CkAt C H p b t r kvs ∧ valV kvs (Sum.inl n : Key) = none ∧ n.natAbs.log2 < 1920 ∧
  ∀ (dx : Addr) H', H dx = none → H' dx = some (.xd [(Str.ofString "address", .int n)]) → CkAt C H' p b t (r + 1) kvs → But [p] H H' → E (.ref CM) (some dx) H'
theorem ok_Chunks_get_bad (T : Txt K mg P) : FnOk P w K mg base (L2N.CX P w) 3 T.f_Chunks_get T.d_Chunks_get ["self", "address"] (spCkX T.C_Chunks T.C_MissingChunk) := by
  refine okN T.F_Chunks_get sc_Chunks_get (fun vs H Q E h => ?_) (fun cdv A outer s H vs Q E hr h => ?_)
  · obtain ⟨p, b, t, r, n, kvs, rfl, _⟩ := h
    rfl
  · obtain ⟨p, b, t, r, n, kvs, rfl, ⟨⟨dx, hp⟩, ht⟩, hv, hb, q⟩ := h
    have hu := hu_of hr
    have npt : p ≠ t := ne_of hp ht (by intro z; cases z)
    refine ⟨_, pss_cons (ps_fldaug (pv 0) (pe_int) in_add)
      (pss_cons (ps_if (pt_cmp (pc_dnotin hu (pv 1) (pe_fld (pv 0) rfl)))
      (pss_one (L2N.ps_raise rfl (L2N.takes_of rfl rfl rfl rfl) (pmkN_oex T.e_MissingChunk.o T.F_MissingChunk___init.iC T.F_MissingChunk___init.tI (ok_MissingChunk___init T) (hr.mono (by first | decide | omega)) T.b_MissingChunk___init pass0 (by rfl) T.e_MissingChunk.g (pa_cons (pv 1) (pa_nil)))))
      (pss_nil))
      (pss_one (ps_ret (pe_dget hu (pe_fld (pv 0) rfl) (pv 1) (fun _ _ => rfl))))), ?_⟩
    refine ⟨_, rfl, p, T.C_Chunks, dx, _, _, rfl, hp, T.cl_Chunks, T.na_Chunks_reads, cF_reads b r t, r, 1, rfl, rfl, dx, _, hp, (by show 3 < 1000; decide), ?_⟩
    rw [cF_put]
    have ht1 : upd H p (.ins T.C_Chunks dx (cF b (r + 1) t)) t = some (.dK kvs) := by rw [upd_ne npt.symm]; exact ht
    refine ⟨_, rfl, _, rfl, p, T.C_Chunks, dx, _, _, rfl, upd_same, T.cl_Chunks, T.na_Chunks__texts, cF_texts b (r + 1) t, t, _, rfl, DGet.k (k := Sum.inl n) ht1, ?_⟩
    rw [hv]
    refine ⟨_, rfl, iteT ?_⟩
    refine ⟨_, rfl, by show 1 ≤ 1000; decide, fun a ha => ⟨a, n, rfl, upd_same, hb, fun H3 e3 d h1 h2 => ⟨rfl, d, _, upd_same, by rw [upd_ne h2, upd_same], ?_, ?_⟩⟩⟩
    · have z := fresh_back e3 h1
      rw [upd_ne h2] at z
      exact z
    · have z := fresh_back e3 h1
      rw [upd_ne h2] at z
      have hd0 : H d = none := by
        by_cases hx : d = p
        · rw [hx, upd_same] at z; cases z
        · rw [upd_ne hx] at z; exact z
      have st : ∀ c o, upd H p (.ins T.C_Chunks dx (cF b (r + 1) t)) c = some o → upd (del (upd (upd H3 d (exd d [(Str.ofString "address", V.int n)])) a (exo a T.C_MissingChunk (some d))) a) d (.xd [(Str.ofString "address", V.int n)]) c = some o := fun c o e => by
        have c1 : c ≠ d := ne_of_none e z
        have c2 : c ≠ a := ne_of_none e ha
        rw [upd_ne c1, del_ne c2, upd_ne c2, upd_ne c1]
        exact e3 _ _ (by rw [upd_ne c2]; exact e)
      exact q d _ hd0 upd_same ⟨⟨dx, st _ _ upd_same⟩, st _ _ ht1⟩ fun c o e nc => st _ _ (by rw [upd_ne (fun y => nc (by rw [y]; exact List.mem_singleton.mpr rfl))]; exact e)


/-! ### Book.find -/
def spBkF (C : Addr) : Sp := fun vs H Q _ => ∃ (p d : Addr) (kvs : List (Key × V)) (z : Str), vs = [.ref p, .str z] ∧ BkAt C H p d kvs ∧ Q (getK kvs z) H
theorem ok_Book_find (T : Txt K mg P) : FnOk P w K mg base CX0 4 T.f_Book_find T.d_Book_find ["self", "text"] (spBkF T.C_Book) := by
  refine T.F_Book_find.ok sc_Book_find (fun vs H Q E h => ?_) (fun cdv A outer s H vs Q E hr h => ?_)
  · obtain ⟨p, d, kvs, z, rfl, _⟩ := h
    rfl
  · obtain ⟨p, d, kvs, z, rfl, ⟨⟨dx, hp⟩, hd⟩, q⟩ := h
    have hu := hu_of hr
    refine ⟨_, pss_one (ps_ret (pe_dget2 hu (pe_fld (pv 0) rfl) (pv 1) (pe_int) ⟨rfl, rfl, rfl, rfl⟩)), ?_⟩
    exact ⟨_, rfl, p, T.C_Book, dx, _, _, rfl, hp, T.cl_Book, T.na_Book__addresses, aF_get d, d, rfl, .inl ⟨kvs, .inl hd⟩, _, rfl, _, DGet.k (k := Sum.inr z) hd, q⟩


/-! ### Chunks.__init__ -/
def spCkI (C : Addr) : Sp := fun vs H Q _ => ∃ (p dx b : Addr), vs = [.ref p, .ref b] ∧ H p = some (.ins C dx []) ∧ ∀ (t : Addr) (H' : Hp), H t = none → t ≠ p → CkAt C H' p b t 0 [] → But [p] H H' → Q .non H'
theorem ok_Chunks___init (T : Txt K mg P) : FnOk P w K mg base CX0 1 T.f_Chunks___init T.d_Chunks___init ["self", "book"] (spCkI T.C_Chunks) := by
  refine T.F_Chunks___init.ok sc_Chunks___init (fun vs H Q E h => ?_) (fun cdv A outer s H vs Q E hr h => ?_)
  · obtain ⟨p, dx, b, rfl, _⟩ := h
    rfl
  · obtain ⟨p, dx, b, rfl, hp, q⟩ := h
    refine ⟨_, pss_cons (ps_fld (pv 0) (pv 1) rfl)
      (pss_cons (ps_fld (pv 0) (pe_int) rfl)
      (pss_one (ps_fld (pv 0) (pe_dnewK) rfl))), ?_⟩
    refine ⟨_, rfl, _, rfl, p, T.C_Chunks, dx, [], rfl, hp, T.cl_Chunks, T.na_Chunks_book, (by show 0 < 1000; decide), ?_⟩
    refine ⟨_, rfl, p, T.C_Chunks, dx, _, rfl, upd_same, T.cl_Chunks, T.na_Chunks_reads, (by show 1 < 1000; decide), ?_⟩
    intro t ht
    have h0 : H t = none := by
      cases e : H t with
      | none => rfl
      | some o =>
        by_cases hx : t = p
        · rw [hx, upd_same] at ht; cases ht
        · rw [upd_ne hx, upd_ne hx, e] at ht; cases ht
    have npt : p ≠ t := ne_of_none hp h0
    refine ⟨_, rfl, p, T.C_Chunks, dx, _, rfl, (by rw [upd_ne npt]; exact upd_same), T.cl_Chunks, T.na_Chunks__texts, (by rw [cF_put0, cF_put1]; show 2 < 1000; decide), ?_⟩
    refine q t _ h0 npt.symm ⟨⟨dx, ?_⟩, ?_⟩ fun c o e n => ?_
    · rw [upd_same, cF_put0, cF_put1, cF_put2]
    · rw [upd_ne npt.symm, upd_same]
    · have hc : c ≠ p := fun z => n (by rw [z]; exact List.mem_singleton.mpr rfl)
      rw [upd_ne hc, upd_ne (ne_of_none e h0), upd_ne hc, upd_ne hc]
      exact e


/-! ### Chunks.has -/
def spCkH (C : Addr) : Sp := fun vs H Q _ => ∃ (p b t : Addr) (r n : Int) (kvs : List (Key × V)), vs = [.ref p, .int n] ∧ CkAt C H p b t r kvs ∧ Q (.bl (valV kvs (Sum.inl n : Key)).isSome) H
theorem ok_Chunks_has (T : Txt K mg P) : FnOk P w K mg base CX0 1 T.f_Chunks_has T.d_Chunks_has ["self", "address"] (spCkH T.C_Chunks) := by
  refine T.F_Chunks_has.ok sc_Chunks_has (fun vs H Q E h => ?_) (fun cdv A outer s H vs Q E hr h => ?_)
  · obtain ⟨p, b, t, r, n, kvs, rfl, _⟩ := h
    rfl
  · obtain ⟨p, b, t, r, n, kvs, rfl, ⟨⟨dx, hp⟩, ht⟩, q⟩ := h
    have hu := hu_of hr
    refine ⟨_, pss_one (ps_ret (pe_cmp (pc_din hu (pv 1) (pe_fld (pv 0) rfl)) rfl)), ?_⟩
    exact ⟨_, rfl, _, rfl, p, T.C_Chunks, dx, _, _, rfl, hp, T.cl_Chunks, T.na_Chunks__texts, cF_texts b r t, t, _, rfl, DGet.k (k := Sum.inl n) ht, q⟩


/-! ### _law_cell -/
def cellZ (ns : List Int) (k : Nat) : Int := ns.getD k 0
def sp_cell (K : PySem.W.Frag) : Sp := fun vs H Q _ => ∃ (a : Addr) (ns : List Int) (k : Nat), vs = [.ref a, .int (k : Int)] ∧ SqL K H a (ns.map V.int) ∧ ∀ H', Ex H H' → Q (.int (cellZ ns k)) H'
theorem ok_law_cell (T : Txt K mg P) : FnOk P w K mg base CX0 1 T.f_law_cell T.d_law_cell ["script", "k"] (sp_cell K) := by
  refine T.F_law_cell.ok sc_law_cell (fun vs H Q E h => ?_) (fun cdv A outer s H vs Q E hr h => ?_)
  · obtain ⟨a, ns, k, rfl, _⟩ := h
    rfl
  · obtain ⟨a, ns, k, rfl, hS, q⟩ := h
    refine ⟨_, pss_cons (ps_if (pt_cmpR op_lt (pv 1) (pe_callB (r := rLenQ K) call_len_seq (by rfl) T.m_len (by decide +kernel) (pa_cons (pv 0) (pa_nil))) (nomark _))
      (pss_one (ps_ret (pe_ix (r := rIxL K) ix_list (pv 0) (pv 1) (fun _ _ => rfl))))
      (pss_nil))
      (pss_one (ps_ret (pe_int))), ?_⟩
    refine q_when (b := decide ((k : Int) < ((ns.map V.int).length : Int))) (et_test (ev_bin0 (ev_var rfl) (ev_lenQ (K := K) (ev_var rfl) hS))) (fun hb H1 e1 => ?_) (fun hb H1 e1 => ?_)
    · have hk : k < ns.length := by
        have := of_decide_eq_true hb
        rw [List.length_map] at this
        omega
      refine s_ret (ev_ixL (K := K) (ev_var rfl) (ev_var rfl) (ex_l e1 hS) (at_nat (v := .int (cellZ ns k)) ?_)) fun H2 e2 => q H2 (e1.trans e2)
      rw [List.getElem?_map, List.getElem?_eq_getElem hk]
      unfold cellZ
      rw [List.getD_eq_getElem?_getD, List.getElem?_eq_getElem hk] <;> rfl
    · have hk : ¬ k < ns.length := by
        have := of_decide_eq_false hb
        rw [List.length_map] at this
        omega
      have e0 : cellZ ns k = 0 := by
        unfold cellZ
        rw [List.getD_eq_getElem?_getD, List.getElem?_eq_none (by omega)] <;> rfl
      refine s_ret ev_c fun H2 e2 => ?_
      rw [e0] at q
      exact q H2 (e1.trans e2)
theorem cv_cell {a : Addr} {ns : List Int} {k : Nat} {H : Hp} (h : SqL K H a (ns.map V.int)) : SpV (sp_cell K) [.ref a, .int (k : Int)] H (.int (cellZ ns k)) := fun H1 e Q q E => ⟨a, ns, k, rfl, ex_l e h, fun H2 e2 => q H2 e2⟩
theorem Wd.cell {ns : List Int} (h : ∀ n ∈ ns, Wd n) (k : Nat) : Wd (cellZ ns k) := by
  unfold cellZ
  rw [List.getD_eq_getElem?_getD]
  cases e : ns[k]? with
  | none => exact Wd.lit (by decide)
  | some x => exact h x (List.mem_of_getElem? e)


/-! ### _law_draws -/
def drawMix (cell salt : Int) (k : Nat) : Int :=
  ((cell * 48271 + (salt * 97 + (k : Int)) * 69621) % 2147483647 / 8 * ((cell * 48271 + (salt * 97 + (k : Int)) * 69621) % 2147483647 % 50021 + 16807) + (k : Int)) % 998244353 / 11
def drawSt (cell salt base : Int) : Nat → Int × List Int
  | 0 => (if 10 ^ 18 ≤ cell then cell else 0, [])
  | k + 1 => if 0 < (drawSt cell salt base k).1 then ((drawSt cell salt base k).1 / base, (drawSt cell salt base k).2 ++ [(drawSt cell salt base k).1 % base]) else ((drawSt cell salt base k).1, (drawSt cell salt base k).2 ++ [drawMix cell salt k])
theorem drawSt_succ (cell salt base : Int) (k : Nat) : drawSt cell salt base (k + 1) = if 0 < (drawSt cell salt base k).1 then ((drawSt cell salt base k).1 / base, (drawSt cell salt base k).2 ++ [(drawSt cell salt base k).1 % base]) else ((drawSt cell salt base k).1, (drawSt cell salt base k).2 ++ [drawMix cell salt k]) := rfl
def draws (cell salt : Int) (count : Nat) (base : Int) : List Int := (drawSt cell salt base count).2
theorem drawSt_len (cell salt base : Int) : ∀ k, (drawSt cell salt base k).2.length = k
  | 0 => rfl
  | k + 1 => by
    have ih := drawSt_len cell salt base k
    rw [drawSt_succ]
    split <;> simp [ih]
theorem draws_len (cell salt : Int) (n : Nat) (base : Int) : (draws cell salt n base).length = n := drawSt_len cell salt base n
theorem drawMix_ge (cell salt : Int) (k : Nat) : 0 ≤ drawMix cell salt k ∧ drawMix cell salt k < 998244353 := by
  unfold drawMix
  generalize (((cell * 48271 + (salt * 97 + (k : Int)) * 69621) % 2147483647 / 8 * ((cell * 48271 + (salt * 97 + (k : Int)) * 69621) % 2147483647 % 50021 + 16807) + (k : Int))) = m
  omega
theorem drawSt_ok {cell salt base : Int} (hc : Wd cell) (hb : 0 < base) (hbw : Wd base) : ∀ k, Wd (drawSt cell salt base k).1 ∧ ∀ n ∈ (drawSt cell salt base k).2, 0 ≤ n ∧ Wd n
  | 0 => by
    refine ⟨?_, fun n hn => by cases hn⟩
    show Wd (if _ then _ else _)
    split
    · exact hc
    · exact Wd.lit (by decide)
  | k + 1 => by
    obtain ⟨h1, h2⟩ := drawSt_ok (salt := salt) hc hb hbw k
    rw [drawSt_succ]
    split
    · refine ⟨Wd.div h1, fun n hn => ?_⟩
      rcases List.mem_append.mp hn with e | e
      · exact h2 n e
      · rw [List.mem_singleton.mp e]
        exact ⟨Int.emod_nonneg _ (by omega), Wd.mod hb hbw⟩
    · refine ⟨h1, fun n hn => ?_⟩
      rcases List.mem_append.mp hn with e | e
      · exact h2 n e
      · rw [List.mem_singleton.mp e]
        have := drawMix_ge cell salt k
        exact ⟨this.1, Wd.small (by omega) (by omega)⟩
theorem draws_ok {cell salt base : Int} (hc : Wd cell) (hb : 0 < base) (hbw : Wd base) (n : Nat) : ∀ x ∈ draws cell salt n base, 0 ≤ x ∧ Wd x := (drawSt_ok hc hb hbw n).2
theorem drawSt_lt {cell salt base : Int} (hb : 0 < base) (hB : base ≤ 1000000000) : ∀ k, ∀ n ∈ (drawSt cell salt base k).2, 0 ≤ n ∧ n < 1000000000
  | 0 => fun n hn => by cases hn
  | k + 1 => by
    have h2 := drawSt_lt (cell := cell) (salt := salt) hb hB k
    rw [drawSt_succ]
    split
    · intro n hn
      rcases List.mem_append.mp hn with e | e
      · exact h2 n e
      · rw [List.mem_singleton.mp e]
        have a1 := Int.emod_nonneg (drawSt cell salt base k).1 (by omega : base ≠ 0)
        have a2 := Int.emod_lt_of_pos (drawSt cell salt base k).1 hb
        omega
    · intro n hn
      rcases List.mem_append.mp hn with e | e
      · exact h2 n e
      · rw [List.mem_singleton.mp e]
        have := drawMix_ge cell salt k
        omega
theorem draws_lt {cell salt base : Int} (hb : 0 < base) (hB : base ≤ 1000000000) (n : Nat) : ∀ x ∈ draws cell salt n base, 0 ≤ x ∧ x < 1000000000 := drawSt_lt hb hB n
def sp_draws (K : PySem.W.Frag) : Sp := fun vs H Q _ => ∃ (cell salt : Int) (count : Nat) (base : Int), vs = [.int cell, .int salt, .int (count : Int), .int base] ∧ Wd cell ∧ (-100000 ≤ salt ∧ salt ≤ 100000) ∧ count ≤ 90000 ∧ 0 < base ∧ base.natAbs.log2 < 9000 ∧
  ∀ p H', H p = none → Ex H H' → H' p = some (.lst ((draws cell salt count base).map V.int)) → Q (.ref p) H'
theorem cl_draws {cell salt base : Int} {count : Nat} {H : Hp} (h1 : Wd cell) (h2 : -100000 ≤ salt ∧ salt ≤ 100000) (h3 : count ≤ 90000) (h4 : 0 < base) (h5 : base.natAbs.log2 < 9000) :
    SpL (sp_draws K) [.int cell, .int salt, .int (count : Int), .int base] H ((draws cell salt count base).map V.int) := fun H1 e Q q E => ⟨cell, salt, count, base, rfl, h1, h2, h3, h4, h5, fun p H2 hp e2 hl => q p H2 hp e2 hl⟩
theorem ok_law_draws (T : Txt K mg P) : FnOk P w K mg base CX0 1 T.f_law_draws T.d_law_draws ["cell", "salt", "count", "base"] (sp_draws K) := by
  refine T.F_law_draws.ok sc_law_draws (fun vs H Q E h => ?_) (fun cdv A outer s H vs Q E hr h => ?_)
  · obtain ⟨cell, salt, count, base, rfl, _⟩ := h
    rfl
  · obtain ⟨cell, salt, count, b, rfl, hc, hs, hn, hb, hbl, q⟩ := h
    have hbw : Wd b := ⟨by omega⟩
    refine ⟨_, pss_cons (ps_set (i := 4) sc_law_draws.nd rfl (by first | exact Or.inl rfl | exact Or.inr rfl) (pe_int))
      (pss_cons (ps_if (pt_cmpR op_ge (pv 0) (pe_op op_pow (pe_int) (pe_int)) (nomark _))
      (pss_one (ps_set (i := 4) sc_law_draws.nd rfl (by first | exact Or.inl rfl | exact Or.inr rfl) (pv 0)))
      (pss_nil))
      (pss_cons (ps_set (i := 5) sc_law_draws.nd rfl (by first | exact Or.inl rfl | exact Or.inr rfl) (pe_lst (pa_nil)))
      (pss_cons (ps_for PassesOwn.never rfl (pi_range1 (by rfl) T.m_range (pa_cons (pv 2) (pa_nil))) (pg_name (i := 6) sc_law_draws.nd rfl (by first | exact Or.inl rfl | exact Or.inr rfl))
      (pss_one (ps_if (pt_cmpR op_gt (pv 4) (pe_int) (nomark _))
      (pss_cons (ps_expr (pe_bm PySem.F.plainAttrs_list PySem.F.slot_list_append PySem.F.type_list_append mt_append (pv 5) (pa_cons (pe_op op_mod (pe_callTy call_int1 (by rfl) T.m_int (by decide +kernel) (pa_cons (pv 4) (pa_nil))) (pv 3)) (pa_nil))))
      (pss_one (ps_set (i := 4) sc_law_draws.nd rfl (by first | exact Or.inl rfl | exact Or.inr rfl) (pe_op op_fdivW (pv 4) (pv 3)))))
      (pss_cons (ps_set (i := 7) sc_law_draws.nd rfl (by first | exact Or.inl rfl | exact Or.inr rfl) (pe_op op_mod (pe_callTy call_int1 (by rfl) T.m_int (by decide +kernel) (pa_cons (pe_op op_add (pe_op op_mulX (pv 0) (pe_int)) (pe_op op_mulX (pe_op op_add (pe_op op_mulX (pv 1) (pe_int)) (pv 6)) (pe_int))) (pa_nil))) (pe_int)))
      (pss_cons (ps_set (i := 7) sc_law_draws.nd rfl (by first | exact Or.inl rfl | exact Or.inr rfl) (pe_op op_mod (pe_callTy call_int1 (by rfl) T.m_int (by decide +kernel) (pa_cons (pe_op op_add (pe_op op_mulX (pe_op op_fdivW (pv 7) (pe_int)) (pe_op op_add (pe_op op_mod (pe_callTy call_int1 (by rfl) T.m_int (by decide +kernel) (pa_cons (pv 7) (pa_nil))) (pe_int)) (pe_int))) (pv 6)) (pa_nil))) (pe_int)))
      (pss_one (ps_expr (pe_bm PySem.F.plainAttrs_list PySem.F.slot_list_append PySem.F.type_list_append mt_append (pv 5) (pa_cons (pe_op op_fdivW (pv 7) (pe_int)) (pa_nil))))))))))
      (pss_one (ps_ret (pv 5)))))), ?_⟩
    refine q_asg ev_c fun H1 e1 => ?_
    refine q_ifAsg (v := .int (drawSt cell salt b 0).1) (b := decide (10 ^ 18 ≤ cell)) (et_test (ev_bin0 (j := 10 ^ 18) (ev_var rfl) (ev_is (ev_bin ev_c ev_c ⟨by decide, by decide, by decide⟩) (by decide)))) (fun h => ?_) (fun h => ?_) fun H2 e2 => ?_
    · have e0 : (drawSt cell salt b 0).1 = cell := if_pos (of_decide_eq_true h)
      rw [e0]
      exact ev_var rfl
    · have e0 : (drawSt cell salt b 0).1 = 0 := if_neg (of_decide_eq_false h)
      rw [e0]
      rfl
    refine q_asgL (el_lst ea_nil (by decide)) fun p H3 hp e3 h3 => ?_
    have hp0 : H p = none := fresh_back (e1.trans e2) hp
    refine q_forR1 (n := (count : Int)) (ea_cons (ev_var rfl) ea_nil) (by omega) (fun i σ' H' => ∃ kv mv : Option V, σ' = [some (.int cell), some (.int salt), some (.int (count : Int)), some (.int b), some (.int (drawSt cell salt b i).1), some (.ref p), kv, mv] ∧ Ex H H' ∧ H' p = some (.lst ((drawSt cell salt b i).2.map V.int)))
      (fun H4 e4 => ⟨none, none, rfl, ((e1.trans e2).trans e3).trans e4, e4 p _ h3⟩) (fun i σ' H' hi hP => ?_) (fun σ' H' hP => ?_)
    · obtain ⟨kv, mv, rfl, eH, hl⟩ := hP
      have hW := (drawSt_ok (salt := salt) hc hb hbw i).1
      have hz : ((drawSt cell salt b i).2.map V.int).length < 100000 := by
        rw [List.length_map, drawSt_len]
        omega
      refine s_if (b := decide (0 < (drawSt cell salt b i).1)) (et_test (ev_bin0 (ev_var rfl) ev_c)) (fun h H1 e1 => ?_) (fun h H1 e1 => ?_)
      · have e0 : drawSt cell salt b (i + 1) = ((drawSt cell salt b i).1 / b, (drawSt cell salt b i).2 ++ [(drawSt cell salt b i).1 % b]) := if_pos (of_decide_eq_true h)
        refine q_app (K := K) (e1 p _ hl) (ev_var rfl) (ev_bin (ev_intI (ev_var rfl)) (ev_var rfl) hb) hz fun H2 e2 => ?_
        refine s_asg (ev_bin (ev_var rfl) (ev_var rfl) ⟨hb, hbl⟩) fun H3 e3 => ⟨some (.int (i : Int)), mv, ?_, (((eH.trans e1).trans e2).mut hp0).trans e3, ?_⟩
        · rw [e0]; rfl
        · rw [e3 p _ upd_same, e0, List.map_append] <;> rfl
      · have e0 : drawSt cell salt b (i + 1) = ((drawSt cell salt b i).1, (drawSt cell salt b i).2 ++ [drawMix cell salt i]) := if_neg (of_decide_eq_false h)
        have hm := Int.emod_nonneg (cell * 48271 + (salt * 97 + (i : Int)) * 69621) (by decide : (2147483647 : Int) ≠ 0)
        have hm2 := Int.emod_lt_of_pos (cell * 48271 + (salt * 97 + (i : Int)) * 69621) (by decide : (0 : Int) < 2147483647)
        refine q_asg (v := .int ((cell * 48271 + (salt * 97 + (i : Int)) * 69621) % 2147483647)) (ev_bin (ev_intI (ev_bin0 (ev_bin (ev_var rfl) ev_c (Wd.mul hc (Wd.lit (by decide)))) (ev_bin (ev_bin0 (ev_bin (ev_var rfl) ev_c (Wd.mul (Wd.small (by omega) (by omega)) (Wd.lit (by decide)))) (ev_var rfl)) ev_c (Wd.mul (Wd.small (by omega) (by omega)) (Wd.lit (by decide)))))) ev_c (by decide)) fun H2 e2 => ?_
        refine q_asg (v := .int (((cell * 48271 + (salt * 97 + (i : Int)) * 69621) % 2147483647 / 8 * ((cell * 48271 + (salt * 97 + (i : Int)) * 69621) % 2147483647 % 50021 + 16807) + (i : Int)) % 998244353)) (ev_bin (ev_intI (ev_bin0 (ev_bin (ev_bin (ev_var rfl) ev_c ⟨by decide, by decide⟩) (ev_bin0 (ev_bin (ev_intI (ev_var rfl)) ev_c (by decide)) ev_c) (Wd.mul (Wd.div (Wd.small (by omega) (by omega))) (Wd.small (by omega) (by omega)))) (ev_var rfl))) ev_c (by decide)) fun H3 e3 => ?_
        refine s_app (K := K) (((e1.trans e2).trans e3) p _ hl) (ev_var rfl) (v := .int (drawMix cell salt i)) (ev_bin (ev_var rfl) ev_c ⟨by decide, by decide⟩) hz fun H4 e4 => ⟨some (.int (i : Int)), some (.int (((cell * 48271 + (salt * 97 + (i : Int)) * 69621) % 2147483647 / 8 * ((cell * 48271 + (salt * 97 + (i : Int)) * 69621) % 2147483647 % 50021 + 16807) + (i : Int)) % 998244353)), ?_, ((((eH.trans e1).trans e2).trans e3).trans e4).mut hp0, ?_⟩
        · rw [e0]; rfl
        · rw [upd_same, e0, List.map_append] <;> rfl
    · obtain ⟨kv, mv, rfl, eH, hl⟩ := hP
      have ec : (count : Int).toNat = count := by omega
      rw [ec] at hl
      exact s_ret (ev_var rfl) fun H1 e1 => q p H1 hp0 (eH.trans e1) (e1 p _ hl)


/-! ### _law_dense_place -/
def denseNs (number : Int) (n : Nat) : List Int := if n = 2 then [number / 6, number % 6] else [number]
def denseAt (shape : List Str) (number start : Int) (k : Nat) : It :=
  if shape.getD k Str.empty = Str.ofString "int" then .int ((denseNs number shape.length).getD k 0 * 3 + start % 1000 - 500) else .str (Str.ofString "ab" ++ (toString ((denseNs number shape.length).getD k 0 * 3 + start % 1000) : Str))
def denseZ (shape : List Str) (number start : Int) : List It := (List.range shape.length).map (denseAt shape number start)
theorem dense_ns {number : Int} {n k : Nat} (h : 0 ≤ number ∧ number ≤ 1000) : 0 ≤ (denseNs number n).getD k 0 ∧ (denseNs number n).getD k 0 ≤ 1000 := by
  unfold denseNs
  split
  · match k with
    | 0 => show 0 ≤ number / 6 ∧ number / 6 ≤ 1000; omega
    | 1 => show 0 ≤ number % 6 ∧ number % 6 ≤ 1000; omega
    | k + 2 => exact ⟨Int.le_refl 0, (by decide : (0 : Int) ≤ 1000)⟩
  · match k with
    | 0 => exact h
    | k + 1 => exact ⟨Int.le_refl 0, (by decide : (0 : Int) ≤ 1000)⟩
theorem denseAt_sc {shape : List Str} {number start : Int} (h : 0 ≤ number ∧ number ≤ 1000) (k : Nat) : (denseAt shape number start k).sc := by
  have h1 := dense_ns (n := shape.length) (k := k) h
  have h2 := Int.emod_nonneg start (by decide : (1000 : Int) ≠ 0)
  have h3 := Int.emod_lt_of_pos start (by decide : (0 : Int) < 1000)
  have e60 : (10 : Int) ^ 60 = 1000000000000000000000000000000000000000000000000000000000000 := by decide
  unfold denseAt
  split
  · show -(10 ^ 60) < _ ∧ _ < 10 ^ 60
    rw [e60]
    omega
  · have hb : ((denseNs number shape.length).getD k 0 * 3 + start % 1000).natAbs.log2 < 64 := PySem.Flt.log2_lt_of (by decide) (by omega)
    have e := int_text_length_le (k := 64) (by decide) hb
    show (Str.ofString "ab" ++ (toString ((denseNs number shape.length).getD k 0 * 3 + start % 1000)   : Str)).length ≤ 200
    rw [str_len, codes_app (x := [97, 98]) (by decide +kernel) rfl, List.length_append, ← str_len]
    have e2 : (Str.ofString (toString ((denseNs number shape.length).getD k 0 * 3 + start % 1000))).length = _ := PySem.ofString_length _
    show 2 + (Str.ofString (toString ((denseNs number shape.length).getD k 0 * 3 + start % 1000))).length ≤ 200
    omega
def sp_dense (K : PySem.W.Frag) : Sp := fun vs H Q _ => ∃ (a : Addr) (shape : List Str) (number start : Int), vs = [.ref a, .int number, .int start] ∧ SqT K H a (shape.map V.str) ∧ (shape.length = 1 ∨ shape.length = 2) ∧ (0 ≤ number ∧ number ≤ 1000) ∧
  ∀ p H', Ex H H' → H' p = some (.tup ((denseZ shape number start).map vz)) → Q (.ref p) H'
theorem cu_dense {a : Addr} {shape : List Str} {number start : Int} {H : Hp} (h : SqT K H a (shape.map V.str)) (hl : shape.length = 1 ∨ shape.length = 2) (hn : 0 ≤ number ∧ number ≤ 1000) : SpU (sp_dense K) [.ref a, .int number, .int start] H ((denseZ shape number start).map vz) := fun H1 e Q q E => ⟨a, shape, number, start, rfl, ex_t e h, hl, hn, fun p H2 e2 hp => q p H2 e2 hp⟩
theorem ok_law_dense_place (T : Txt K mg P) : FnOk P w K mg base CX0 1 T.f_law_dense_place T.d_law_dense_place ["shape", "number", "start"] (sp_dense K) := by
  refine T.F_law_dense_place.ok sc_law_dense_place (fun vs H Q E h => ?_) (fun cdv A outer s H vs Q E hr h => ?_)
  · obtain ⟨a, sh, n, st, rfl, _⟩ := h
    rfl
  · obtain ⟨a, sh, n, st, rfl, hA, hl, hn, q⟩ := h
    have h2 := Int.emod_nonneg st (by decide : (1000 : Int) ≠ 0)
    have h3 := Int.emod_lt_of_pos st (by decide : (0 : Int) < 1000)
    refine ⟨_, pss_cons (ps_set (i := 3) sc_law_dense_place.nd rfl (by first | exact Or.inl rfl | exact Or.inr rfl) (pe_lst (pa_cons (pv 1) (pa_nil))))
      (pss_cut (ps_if (pt_cmpR op_eq (pe_callB (r := rLenQ K) call_len_seq (by rfl) T.m_len (by decide +kernel) (pa_cons (pv 0) (pa_nil))) (pe_int) (nomark _))
      (pss_one (ps_set (i := 3) sc_law_dense_place.nd rfl (by first | exact Or.inl rfl | exact Or.inr rfl) (pe_lst (pa_cons (pe_op op_fdivW (pv 1) (pe_int)) (pa_cons (pe_op op_mod (pe_callTy call_int1 (by rfl) T.m_int (by decide +kernel) (pa_cons (pv 1) (pa_nil))) (pe_int)) (pa_nil))))))
      (pss_nil))
      (pss_cons (ps_set (i := 4) sc_law_dense_place.nd rfl (by first | exact Or.inl rfl | exact Or.inr rfl) (pe_lst (pa_nil)))
      (pss_cons (ps_for PassesOwn.never rfl (pi_range1 (by rfl) T.m_range (pa_cons (pe_callB (r := rLenQ K) call_len_seq (by rfl) T.m_len (by decide +kernel) (pa_cons (pv 0) (pa_nil))) (pa_nil))) (pg_name (i := 5) sc_law_dense_place.nd rfl (by first | exact Or.inl rfl | exact Or.inr rfl))
      (pss_one (ps_if (pt_cmpR op_eq (pe_ix (r := rIxT K) ix_tup (pv 0) (pv 5) (fun _ _ => rfl)) (pe_str) (nomark _))
      (pss_one (ps_expr (pe_bm PySem.F.plainAttrs_list PySem.F.slot_list_append PySem.F.type_list_append mt_append (pv 4) (pa_cons (pe_op op_sub (pe_op op_add (pe_op op_mulX (pe_ix (r := rIxL K) ix_list (pv 3) (pv 5) (fun _ _ => rfl)) (pe_int)) (pe_op op_mod (pe_callTy call_int1 (by rfl) T.m_int (by decide +kernel) (pa_cons (pv 2) (pa_nil))) (pe_int))) (pe_int)) (pa_nil)))))
      (pss_one (ps_expr (pe_bm PySem.F.plainAttrs_list PySem.F.slot_list_append PySem.F.type_list_append mt_append (pv 4) (pa_cons (pe_op op_add_str (pe_str) (pe_callTy call_str_int (by rfl) T.m_str (by decide +kernel) (pa_cons (pe_op op_add (pe_op op_mulX (pe_ix (r := rIxL K) ix_list (pv 3) (pv 5) (fun _ _ => rfl)) (pe_int)) (pe_op op_mod (pe_callTy call_int1 (by rfl) T.m_int (by decide +kernel) (pa_cons (pv 2) (pa_nil))) (pe_int))) (pa_nil)))) (pa_nil))))))))
      (pss_one (ps_ret (pe_callTy (r := rTupOf K) call_tuple_of (by rfl) T.m_tuple (by decide +kernel) (pa_cons (pv 4) (pa_nil)))))))), ?_⟩
    refine q_asgL (el_lst (ea_cons (ev_var rfl) ea_nil) (by show 1 ≤ 100000; decide)) fun l H1 hl1 e1 h1 => ?_
    refine q_cut (M := fun σ' H' => ∃ l2 : Addr, σ' = [some (.ref a), some (.int n), some (.int st), some (.ref l2), none, none] ∧ Ex H H' ∧ H' l2 = some (.lst ((denseNs n sh.length).map V.int))) ?_ fun σ' H' hM => ?_
    · refine s_if (b := decide (sh.length = 2)) (et_test (ev_is (ev_eqI (ev_lenT (K := K) (ev_var rfl) (ex_t e1 hA)) ev_c) (by rw [List.length_map]; exact congrArg V.bl (decide_eq_decide.mpr (by omega))))) (fun hb H2 e2 => ?_) (fun hb H2 e2 => ?_)
      · have hb := of_decide_eq_true hb
        refine s_asgL (el_lst (ea_cons (ev_bin (ev_var rfl) ev_c ⟨by decide, by decide⟩) (ea_cons (ev_bin (ev_intI (ev_var rfl)) ev_c (by decide)) ea_nil)) (by show 2 ≤ 100000; decide)) fun l2 H3 _ e3 h3 => ⟨l2, rfl, (e1.trans e2).trans e3, ?_⟩
        unfold denseNs
        rw [if_pos hb]
        exact h3
      · have hb := of_decide_eq_false hb
        refine ⟨l, rfl, e1.trans e2, ?_⟩
        unfold denseNs
        rw [if_neg hb]
        exact e2 l _ h1
    · obtain ⟨l2, rfl, eH, hl2⟩ := hM
      refine q_asgL (el_lst ea_nil (by decide)) fun p H3 hp e3 h3 => ?_
      have hp0 : H p = none := fresh_back eH hp
      have nl : l2 ≠ p := ne_of_none hl2 hp
      refine q_forR1 (n := (sh.length : Int)) (ea_cons (ev_is (ev_lenT (K := K) (ev_var rfl) (ex_t (eH.trans e3) hA)) (by rw [List.length_map])) ea_nil) (by omega)
        (fun i σ' H' => ∃ kv : Option V, σ' = [some (.ref a), some (.int n), some (.int st), some (.ref l2), some (.ref p), kv] ∧ Ex H H' ∧ H' l2 = some (.lst ((denseNs n sh.length).map V.int)) ∧ H' p = some (.lst (((denseZ sh n st).take i).map vz)))
        (fun H4 e4 => ⟨none, rfl, (eH.trans e3).trans e4, e4 _ _ (e3 _ _ hl2), e4 _ _ h3⟩) (fun i σ' H' hi hP => ?_) (fun σ' H' hP => ?_)
      · obtain ⟨kv, rfl, eH, hL, hP⟩ := hP
        have hi2 : i < sh.length := by omega
        have a1 : (sh.map V.str)[i]? = some (.str (sh.getD i Str.empty)) := by
          rw [List.getElem?_map, List.getElem?_eq_getElem hi2, List.getD_eq_getElem?_getD, List.getElem?_eq_getElem hi2] <;> rfl
        have hi3 : i < (denseNs n sh.length).length := by
          unfold denseNs
          split <;> simp <;> omega
        have a2 : ((denseNs n sh.length).map V.int)[i]? = some (.int ((denseNs n sh.length).getD i 0)) := by
          rw [List.getElem?_map, List.getElem?_eq_getElem hi3, List.getD_eq_getElem?_getD, List.getElem?_eq_getElem hi3] <;> rfl
        have hns := dense_ns (n := sh.length) (k := i) hn
        have ed : (denseZ sh n st)[i]? = some (denseAt sh n st i) := by
          unfold denseZ
          rw [List.getElem?_map, List.getElem?_range hi2] <;> rfl
        have hz : (((denseZ sh n st).take i).map vz).length < 100000 := by
          rw [List.length_map, List.length_take]
          omega
        have fin : ∀ H1, Ex H' H1 → ∀ y, y = vz (denseAt sh n st i) → ∃ kv : Option V, ([some (.ref a), some (.int n), some (.int st), some (.ref l2), some (.ref p), kv] : L2.St) = [some (.ref a), some (.int n), some (.int st), some (.ref l2), some (.ref p), some (.int (i : Int))] ∧ Ex H (upd H1 p (.lst (((denseZ sh n st).take i).map vz ++ [y]))) ∧
            upd H1 p (.lst (((denseZ sh n st).take i).map vz ++ [y])) l2 = some (.lst ((denseNs n sh.length).map V.int)) ∧ upd H1 p (.lst (((denseZ sh n st).take i).map vz ++ [y])) p = some (.lst (((denseZ sh n st).take (i + 1)).map vz)) := fun H1 e1 y hy => by
          refine ⟨_, rfl, (eH.trans e1).mut hp0, ?_, ?_⟩
          · rw [upd_ne nl]
            exact e1 _ _ hL
          · rw [upd_same, List.take_add_one, ed, List.map_append, hy] <;> rfl
        refine s_if (b := decide (sh.getD i Str.empty = Str.ofString "int")) (et_test (ev_eqS (ev_ixT (K := K) (ev_var rfl) (ev_var rfl) (ex_t eH hA) (at_nat a1)) ev_c)) (fun hb H1 e1 => ?_) (fun hb H1 e1 => ?_)
        · have eD : denseAt sh n st i = .int ((denseNs n sh.length).getD i 0 * 3 + st % 1000 - 500) := if_pos (of_decide_eq_true hb)
          refine s_app (K := K) (e1 p _ hP) (ev_var rfl) (ev_bin0 (ev_bin0 (ev_bin (ev_ixL (K := K) (ev_var rfl) (ev_var rfl) (sq_of (e1 _ _ hL)) (at_nat a2)) ev_c (Wd.mul (Wd.small (by omega) (by omega)) (Wd.lit (by decide)))) (ev_bin (ev_intI (ev_var rfl)) ev_c (by decide))) ev_c) hz fun H2 e2 => ?_
          obtain ⟨kv, ek, f⟩ := fin H2 (e1.trans e2) _ (by rw [eD] <;> rfl)
          exact ⟨some (.int (i : Int)), rfl, f⟩
        · have eD : denseAt sh n st i = .str (Str.ofString "ab" ++ (toString ((denseNs n sh.length).getD i 0 * 3 + st % 1000) : Str)) := if_neg (of_decide_eq_false hb)
          have hb : ((denseNs n sh.length).getD i 0 * 3 + st % 1000).natAbs.log2 < 64 := PySem.Flt.log2_lt_of (by decide) (by omega)
          have e := int_text_length_le (k := 64) (by decide) hb
          have e3 : (Str.ofString (toString ((denseNs n sh.length).getD i 0 * 3 + st % 1000))).length = _ := PySem.ofString_length _
          refine s_app (K := K) (e1 p _ hP) (ev_var rfl) (ev_addS ev_c (ev_strI (ev_bin0 (ev_bin (ev_ixL (K := K) (ev_var rfl) (ev_var rfl) (sq_of (e1 _ _ hL)) (at_nat a2)) ev_c (Wd.mul (Wd.small (by omega) (by omega)) (Wd.lit (by decide)))) (ev_bin (ev_intI (ev_var rfl)) ev_c (by decide))) (by omega)) ?_) hz fun H2 e2 => ?_
          · show (Str.ofString "ab").length + (Str.ofString (toString ((denseNs n sh.length).getD i 0 * 3 + st % 1000))).length ≤ 16777216
            rw [e3, show (Str.ofString "ab").length = 2 by decide +kernel]
            omega
          · obtain ⟨kv, ek, f⟩ := fin H2 (e1.trans e2) _ (by rw [eD] <;> rfl)
            exact ⟨some (.int (i : Int)), rfl, f⟩
      · obtain ⟨kv, rfl, eH, hL, hP⟩ := hP
        have ec : ((sh.length : Int)).toNat = (denseZ sh n st).length := by
          unfold denseZ
          rw [List.length_map, List.length_range]
          omega
        rw [ec, List.take_length] at hP
        exact s_retU (eu_ofL (K := K) (ev_var rfl) (sq_of hP)) fun p2 H1 _ e1 h1 => q p2 H1 (eH.trans e1) h1


/-! ### _law_integer -/
def integerZ (cell : Int) : Int :=
  if cell % 8 = 0 then 0 else if cell % 8 = 1 then 1 + cell / 8 % 12 else if cell % 8 = 2 then -1 - cell / 8 % 12 else if cell % 8 = 3 then 10 ^ 60 - 1 - cell / 8 % 3 else
  if cell % 8 = 4 then 1 - 10 ^ 60 + cell / 8 % 3 else if cell % 8 = 5 then (cell / 8 * 10 ^ 52 + cell / 8) % 10 ^ 60 else if cell % 8 = 6 then -(cell / 8 % 10 ^ 60) else cell / 8 % 2001 - 1000
theorem integerZ_lt (cell : Int) : -(10 ^ 60) < integerZ cell ∧ integerZ cell < 10 ^ 60 := by
  unfold integerZ
  have h1 := Int.emod_nonneg (cell / 8) (by decide : (12 : Int) ≠ 0)
  have h2 := Int.emod_lt_of_pos (cell / 8) (by decide : (0 : Int) < 12)
  have h3 := Int.emod_nonneg (cell / 8) (by decide : (3 : Int) ≠ 0)
  have h4 := Int.emod_lt_of_pos (cell / 8) (by decide : (0 : Int) < 3)
  have h5 := Int.emod_nonneg (cell / 8 * 10 ^ 52 + cell / 8) (by decide : (10 ^ 60 : Int) ≠ 0)
  have h6 := Int.emod_lt_of_pos (cell / 8 * 10 ^ 52 + cell / 8) (by decide : (0 : Int) < 10 ^ 60)
  have h7 := Int.emod_nonneg (cell / 8) (by decide : (10 ^ 60 : Int) ≠ 0)
  have h8 := Int.emod_lt_of_pos (cell / 8) (by decide : (0 : Int) < 10 ^ 60)
  have h9 := Int.emod_nonneg (cell / 8) (by decide : (2001 : Int) ≠ 0)
  have h10 := Int.emod_lt_of_pos (cell / 8) (by decide : (0 : Int) < 2001)
  generalize (cell / 8 * 10 ^ 52 + cell / 8) % 10 ^ 60 = a at *
  generalize cell / 8 % 10 ^ 60 = b at *
  generalize cell / 8 % 2001 = c at *
  generalize cell / 8 % 12 = d at *
  generalize cell / 8 % 3 = e at *
  have e60 : (10 : Int) ^ 60 = 1000000000000000000000000000000000000000000000000000000000000 := by decide
  rw [e60] at *
  repeat' split
  all_goals omega
theorem integerZ_log (cell : Int) : (integerZ cell).natAbs.log2 < 1920 := by
  have h := integerZ_lt cell
  have e60 : (10 : Int) ^ 60 = 1000000000000000000000000000000000000000000000000000000000000 := by decide
  rw [e60] at h
  refine Nat.lt_of_lt_of_le (PySem.Flt.log2_lt_of (k := 256) (by decide) ?_) (by decide)
  omega
def sp_integer : Sp := fun vs H Q _ => ∃ cell : Int, vs = [.int cell] ∧ Wd cell ∧ ∀ H', Ex H H' → Q (.int (integerZ cell)) H'
theorem cv_integer {cell : Int} {H : Hp} (hc : Wd cell) : SpV sp_integer [.int cell] H (.int (integerZ cell)) := fun H1 e Q q E => ⟨cell, rfl, hc, fun H2 e2 => q H2 e2⟩
theorem ok_law_integer (T : Txt K mg P) : FnOk P w K mg base CX0 1 T.f_law_integer T.d_law_integer ["cell"] sp_integer := by
  refine T.F_law_integer.ok sc_law_integer (fun vs H Q E h => ?_) (fun cdv A outer s H vs Q E hr h => ?_)
  · obtain ⟨n, rfl, _⟩ := h
    rfl
  · obtain ⟨n, rfl, hW, q⟩ := h
    unfold integerZ at q
    refine ⟨_, pss_cons (ps_set (i := 1) sc_law_integer.nd rfl (by first | exact Or.inl rfl | exact Or.inr rfl) (pe_op op_mod (pe_callTy call_int1 (by rfl) T.m_int (by decide +kernel) (pa_cons (pv 0) (pa_nil))) (pe_int)))
      (pss_cons (ps_set (i := 2) sc_law_integer.nd rfl (by first | exact Or.inl rfl | exact Or.inr rfl) (pe_op op_fdivW (pv 0) (pe_int)))
      (pss_cons (ps_if (pt_cmpR op_eq (pv 1) (pe_int) (nomark _))
      (pss_one (ps_ret (pe_int)))
      (pss_nil))
      (pss_cons (ps_if (pt_cmpR op_eq (pv 1) (pe_int) (nomark _))
      (pss_one (ps_ret (pe_op op_add (pe_int) (pe_op op_mod (pe_callTy call_int1 (by rfl) T.m_int (by decide +kernel) (pa_cons (pv 2) (pa_nil))) (pe_int)))))
      (pss_nil))
      (pss_cons (ps_if (pt_cmpR op_eq (pv 1) (pe_int) (nomark _))
      (pss_one (ps_ret (pe_op op_sub (pe_un un_neg (pe_int)) (pe_op op_mod (pe_callTy call_int1 (by rfl) T.m_int (by decide +kernel) (pa_cons (pv 2) (pa_nil))) (pe_int)))))
      (pss_nil))
      (pss_cons (ps_if (pt_cmpR op_eq (pv 1) (pe_int) (nomark _))
      (pss_one (ps_ret (pe_op op_sub (pe_op op_sub (pe_op op_pow (pe_int) (pe_int)) (pe_int)) (pe_op op_mod (pe_callTy call_int1 (by rfl) T.m_int (by decide +kernel) (pa_cons (pv 2) (pa_nil))) (pe_int)))))
      (pss_nil))
      (pss_cons (ps_if (pt_cmpR op_eq (pv 1) (pe_int) (nomark _))
      (pss_one (ps_ret (pe_op op_add (pe_op op_sub (pe_int) (pe_op op_pow (pe_int) (pe_int))) (pe_op op_mod (pe_callTy call_int1 (by rfl) T.m_int (by decide +kernel) (pa_cons (pv 2) (pa_nil))) (pe_int)))))
      (pss_nil))
      (pss_cons (ps_if (pt_cmpR op_eq (pv 1) (pe_int) (nomark _))
      (pss_one (ps_ret (pe_op op_mod (pe_callTy call_int1 (by rfl) T.m_int (by decide +kernel) (pa_cons (pe_op op_add (pe_op op_mulX (pv 2) (pe_op op_pow (pe_int) (pe_int))) (pv 2)) (pa_nil))) (pe_op op_pow (pe_int) (pe_int)))))
      (pss_nil))
      (pss_cons (ps_if (pt_cmpR op_eq (pv 1) (pe_int) (nomark _))
      (pss_one (ps_ret (pe_un un_neg (pe_op op_mod (pe_callTy call_int1 (by rfl) T.m_int (by decide +kernel) (pa_cons (pv 2) (pa_nil))) (pe_op op_pow (pe_int) (pe_int))))))
      (pss_nil))
      (pss_one (ps_ret (pe_op op_sub (pe_op op_mod (pe_callTy call_int1 (by rfl) T.m_int (by decide +kernel) (pa_cons (pv 2) (pa_nil))) (pe_int)) (pe_int)))))))))))), ?_⟩
    have p60 : ∀ {σ : L2.St} {H : Hp}, Ev (tOp (rI CPow fun i j => V.int (i ^ j.toNat)) (tC (.int 10)) (tC (.int 60))) σ H (.int (10 ^ 60)) := ev_bin ev_c ev_c ⟨by decide, by decide, by decide⟩
    have p52 : ∀ {σ : L2.St} {H : Hp}, Ev (tOp (rI CPow fun i j => V.int (i ^ j.toNat)) (tC (.int 10)) (tC (.int 52))) σ H (.int (10 ^ 52)) := ev_bin ev_c ev_c ⟨by decide, by decide, by decide⟩
    refine q_asg (ev_bin (ev_intI (ev_var rfl)) ev_c (by decide)) fun H1 e1 => ?_
    refine q_asg (ev_bin (ev_var rfl) ev_c ⟨by decide, by decide⟩) fun H2 e2 => ?_
    have e := e1.trans e2
    refine q_when (et_test (ev_eqI (ev_var rfl) ev_c)) (fun hb H3 e3 => ?_) (fun hb H3 e3 => ?_)
    · rw [if_pos (of_decide_eq_true hb)] at q
      exact s_ret ev_c fun H4 e4 => q H4 ((e.trans e3).trans e4)
    rw [if_neg (of_decide_eq_false hb)] at q
    have e := e.trans e3
    refine q_when (et_test (ev_eqI (ev_var rfl) ev_c)) (fun hb H3 e3 => ?_) (fun hb H3 e3 => ?_)
    · rw [if_pos (of_decide_eq_true hb)] at q
      exact s_ret (ev_bin0 ev_c (ev_bin (ev_intI (ev_var rfl)) ev_c (by decide))) fun H4 e4 => q H4 ((e.trans e3).trans e4)
    rw [if_neg (of_decide_eq_false hb)] at q
    have e := e.trans e3
    refine q_when (et_test (ev_eqI (ev_var rfl) ev_c)) (fun hb H3 e3 => ?_) (fun hb H3 e3 => ?_)
    · rw [if_pos (of_decide_eq_true hb)] at q
      exact s_ret (ev_bin0 (ev_neg ev_c) (ev_bin (ev_intI (ev_var rfl)) ev_c (by decide))) fun H4 e4 => q H4 ((e.trans e3).trans e4)
    rw [if_neg (of_decide_eq_false hb)] at q
    have e := e.trans e3
    refine q_when (et_test (ev_eqI (ev_var rfl) ev_c)) (fun hb H3 e3 => ?_) (fun hb H3 e3 => ?_)
    · rw [if_pos (of_decide_eq_true hb)] at q
      exact s_ret (ev_bin0 (ev_bin0 p60 ev_c) (ev_bin (ev_intI (ev_var rfl)) ev_c (by decide))) fun H4 e4 => q H4 ((e.trans e3).trans e4)
    rw [if_neg (of_decide_eq_false hb)] at q
    have e := e.trans e3
    refine q_when (et_test (ev_eqI (ev_var rfl) ev_c)) (fun hb H3 e3 => ?_) (fun hb H3 e3 => ?_)
    · rw [if_pos (of_decide_eq_true hb)] at q
      exact s_ret (ev_bin0 (ev_bin0 ev_c p60) (ev_bin (ev_intI (ev_var rfl)) ev_c (by decide))) fun H4 e4 => q H4 ((e.trans e3).trans e4)
    rw [if_neg (of_decide_eq_false hb)] at q
    have e := e.trans e3
    refine q_when (et_test (ev_eqI (ev_var rfl) ev_c)) (fun hb H3 e3 => ?_) (fun hb H3 e3 => ?_)
    · rw [if_pos (of_decide_eq_true hb)] at q
      exact s_ret (ev_bin (ev_intI (ev_bin0 (ev_bin (ev_var rfl) p52 (Wd.mul (Wd.div hW) (Wd.lit (by decide)))) (ev_var rfl))) p60 (by decide)) fun H4 e4 => q H4 ((e.trans e3).trans e4)
    rw [if_neg (of_decide_eq_false hb)] at q
    have e := e.trans e3
    refine q_when (et_test (ev_eqI (ev_var rfl) ev_c)) (fun hb H3 e3 => ?_) (fun hb H3 e3 => ?_)
    · rw [if_pos (of_decide_eq_true hb)] at q
      exact s_ret (ev_neg (ev_bin (ev_intI (ev_var rfl)) p60 (by decide))) fun H4 e4 => q H4 ((e.trans e3).trans e4)
    rw [if_neg (of_decide_eq_false hb)] at q
    have e := e.trans e3
    exact s_ret (ev_bin0 (ev_bin (ev_intI (ev_var rfl)) ev_c (by decide)) ev_c) fun H4 e4 => q H4 (e.trans e4)


/-! ### _law_char -/
/-- the law's signs -/
def signsZ : List Nat := [32, 33, 34, 35, 36] ++ (List.range 89).map (· + 38)
theorem signs_len : signsZ.length = 94 := by decide +kernel
theorem signs_ok : ∀ c ∈ signsZ, 32 ≤ c ∧ c ≤ 126 ∧ c ≠ 37 := by decide +kernel
theorem signs_eq : (Str.ofString " !\"#$&'()*+,-./0123456789:;<=>?@ABCDEFGHIJKLMNOPQRSTUVWXYZ[\\]^_`" ++ Str.ofString "abcdefghijklmnopqrstuvwxyz{|}~" : Str) = ⟨signsZ.toArray⟩ := by decide +kernel
def charC (n : Int) : Nat := signsZ.getD (n % 94).toNat 0
def charZ (n : Int) : Str := ⟨#[charC n]⟩
theorem charC_mem (n : Int) : charC n ∈ signsZ := by
  have h1 := Int.emod_nonneg n (by decide : (94 : Int) ≠ 0)
  have h2 := Int.emod_lt_of_pos n (by decide : (0 : Int) < 94)
  have h3 : (n % 94).toNat < signsZ.length := by rw [signs_len]; omega
  unfold charC
  rw [List.getD_eq_getElem?_getD, List.getElem?_eq_getElem h3]
  exact List.getElem_mem h3
def sp_char : Sp := fun vs H Q _ => ∃ n : Int, vs = [.int n] ∧ ∀ H', Ex H H' → Q (.str (charZ n)) H'
theorem cv_char {n : Int} {H : Hp} : SpV sp_char [.int n] H (.str (charZ n)) := fun H1 e Q q E => ⟨n, rfl, fun H2 e2 => q H2 e2⟩
theorem ok_law_char (T : Txt K mg P) : FnOk P w K mg base CX0 1 T.f_law_char T.d_law_char ["number"] sp_char := by
  refine T.F_law_char.ok sc_law_char (fun vs H Q E h => ?_) (fun cdv A outer s H vs Q E hr h => ?_)
  · obtain ⟨n, rfl, _⟩ := h
    rfl
  · obtain ⟨n, rfl, q⟩ := h
    have h1 := Int.emod_nonneg n (by decide : (94 : Int) ≠ 0)
    have h2 := Int.emod_lt_of_pos n (by decide : (0 : Int) < 94)
    refine ⟨_, pss_cons (ps_set (i := 1) sc_law_char.nd rfl (by first | exact Or.inl rfl | exact Or.inr rfl) (pe_str))
      (pss_cons (ps_set (i := 1) sc_law_char.nd rfl (by first | exact Or.inl rfl | exact Or.inr rfl) (pe_op op_add_str (pv 1) (pe_str)))
      (pss_one (ps_ret (pe_ix ix_str (pv 1) (pe_op op_mod (pe_callTy call_int1 (by rfl) T.m_int (by decide +kernel) (pa_cons (pv 0) (pa_nil))) (pe_int)) (fun _ _ => rfl))))), ?_⟩
    refine q_asg ev_c fun H1 e1 => ?_
    refine q_asg (ev_addS (ev_var rfl) ev_c (by decide +kernel)) fun H2 e2 => ?_
    refine s_ret (ev_ixS (z := ⟨signsZ.toArray⟩) (c := charC n) (ev_is (ev_var rfl) (congrArg V.str signs_eq)) (ev_bin (ev_intI (ev_var rfl)) ev_c (by decide)) (by decide +kernel) (at_cps rfl h1 (by rw [signs_len]; exact h2))) fun H3 e3 => q H3 ((e1.trans e2).trans e3)


/-! ### _law_text -/
def textLen (cell : Int) : Nat := ([0, 1, 2, 3, 4, 6, (cell / 8 % 61).toNat, 60] : List Nat).getD (cell % 8).toNat 0
theorem textLen_le (cell : Int) : textLen cell ≤ 60 := by
  have h1 := Int.emod_nonneg (cell / 8) (by decide : (61 : Int) ≠ 0)
  have h2 := Int.emod_lt_of_pos (cell / 8) (by decide : (0 : Int) < 61)
  have h3 : ∀ x ∈ ([0, 1, 2, 3, 4, 6, (cell / 8 % 61).toNat, 60] : List Nat), x ≤ 60 := by
    intro x hx
    simp only [List.mem_cons, List.not_mem_nil, or_false] at hx
    omega
  unfold textLen
  rw [List.getD_eq_getElem?_getD]
  cases e : ([0, 1, 2, 3, 4, 6, (cell / 8 % 61).toNat, 60] : List Nat)[(cell % 8).toNat]? with
  | none => exact Nat.zero_le _
  | some x => exact h3 x (List.mem_of_getElem? e)
def textC (cell : Int) : List Nat := (draws (cell / 8) (cell % 8) (textLen cell) 94).map charC
def textZ (cell : Int) : Str := ⟨(textC cell).toArray⟩
theorem textC_len (cell : Int) : (textC cell).length ≤ 60 := by
  unfold textC
  rw [List.length_map, draws_len]
  exact textLen_le cell
theorem textZ_len (cell : Int) : (textZ cell).length ≤ 60 := textC_len cell
theorem textC_ok (cell : Int) : ∀ c ∈ textC cell, c ∈ signsZ := fun c hc => by
  obtain ⟨n, _, e⟩ := List.mem_map.mp hc
  rw [← e]
  exact charC_mem n
def sp_text : Sp := fun vs H Q _ => ∃ cell : Int, vs = [.int cell] ∧ Wd cell ∧ ∀ H', Ex H H' → Q (.str (textZ cell)) H'
theorem cv_text {cell : Int} {H : Hp} (hc : Wd cell) : SpV sp_text [.int cell] H (.str (textZ cell)) := fun H1 e Q q E => ⟨cell, rfl, hc, fun H2 e2 => q H2 e2⟩
theorem ok_law_text (T : Txt K mg P) : FnOk P w K mg base CX0 2 T.f_law_text T.d_law_text ["cell"] sp_text := by
  refine T.F_law_text.ok sc_law_text (fun vs H Q E h => ?_) (fun cdv A outer s H vs Q E hr h => ?_)
  · obtain ⟨n, rfl, _⟩ := h
    rfl
  · obtain ⟨n, rfl, hW, q⟩ := h
    have h1 := Int.emod_nonneg n (by decide : (8 : Int) ≠ 0)
    have h2 := Int.emod_lt_of_pos n (by decide : (0 : Int) < 8)
    have h3 := Int.emod_nonneg (n / 8) (by decide : (61 : Int) ≠ 0)
    have hL := textLen_le n
    refine ⟨_, pss_cons (ps_set (i := 1) sc_law_text.nd rfl (by first | exact Or.inl rfl | exact Or.inr rfl) (pe_op op_mod (pe_callTy call_int1 (by rfl) T.m_int (by decide +kernel) (pa_cons (pv 0) (pa_nil))) (pe_int)))
      (pss_cons (ps_set (i := 2) sc_law_text.nd rfl (by first | exact Or.inl rfl | exact Or.inr rfl) (pe_op op_fdivW (pv 0) (pe_int)))
      (pss_cons (ps_set (i := 3) sc_law_text.nd rfl (by first | exact Or.inl rfl | exact Or.inr rfl) (pe_ix (r := rIxL K) ix_list (pe_lst (pa_cons (pe_int) (pa_cons (pe_int) (pa_cons (pe_int) (pa_cons (pe_int) (pa_cons (pe_int) (pa_cons (pe_int) (pa_cons (pe_op op_mod (pe_callTy call_int1 (by rfl) T.m_int (by decide +kernel) (pa_cons (pv 2) (pa_nil))) (pe_int)) (pa_cons (pe_int) (pa_nil)))))))))) (pv 1) (fun _ _ => rfl)))
      (pss_one (ps_ret (pe_join (pe_str) (pe_lc (own := [("number", 4)]) (g := gName 4) (tt := tYes) rfl sc_law_text.nd (pi_list (pe_call (ok_law_draws T) (hr.mono (by first | decide | omega)) (by rfl) T.g_law_draws T.F_law_draws.kp T.b_law_draws .nil pass0 (pa_cons (pv 2) (pa_cons (pv 1) (pa_cons (pv 3) (pa_cons (pe_int) (pa_nil))))))) (blkOk_by (N := ["cell", "choice", "rest", "length", "number"]) (sc := defScope s_law_text) (by decide +kernel)) (fun _ _ _ _ _ => pg_name (i := 4) sc_law_text.nd rfl (Or.inl rfl)) (fun _ _ _ _ _ => pts_nil) (fun _ _ _ _ _ => pe_call (ok_law_char T) (hr.mono (by first | decide | omega)) (by rfl) T.g_law_char T.F_law_char.kp T.b_law_char .nil pass0 (pa_cons (pv 4) (pa_nil))))))))), ?_⟩
    refine q_asg (ev_bin (ev_intI (ev_var rfl)) ev_c (by decide)) fun H1 e1 => ?_
    refine q_asg (ev_bin (ev_var rfl) ev_c ⟨by decide, by decide⟩) fun H2 e2 => ?_
    refine q_asg (v := .int (textLen n : Int)) (ev_ixN (el_lst (ea_cons ev_c (ea_cons ev_c (ea_cons ev_c (ea_cons ev_c (ea_cons ev_c (ea_cons ev_c (ea_cons (ev_bin (ev_intI (ev_var rfl)) ev_c (by decide)) (ea_cons ev_c ea_nil)))))))) (by show 8 ≤ 100000; decide)) (fun _ _ => ev_var rfl) (atI_of h1 ?_)) fun H3 e3 => ?_
    · unfold textLen
      have hh : n % 8 = 0 ∨ n % 8 = 1 ∨ n % 8 = 2 ∨ n % 8 = 3 ∨ n % 8 = 4 ∨ n % 8 = 5 ∨ n % 8 = 6 ∨ n % 8 = 7 := by omega
      rcases hh with e | e | e | e | e | e | e | e <;> rw [e]
      all_goals first | rfl | skip
      show some (V.int (n / 8 % 61)) = some (V.int (((n / 8 % 61).toNat : Nat) : Int))
      rw [Int.toNat_of_nonneg h3]
    · have et : textZ n = Txt.join (Str.ofString "") ((textC n).map fun c => (⟨#[c]⟩ : Str)) := (join_signs (textC n)).symm
      refine s_ret (v := .str (textZ n)) ?_ fun H4 e4 => q H4 (((e1.trans e2).trans e3).trans e4)
      rw [et]
      refine ev_joinN (K := K) ev_c ?_ ?_
      · have em : ((textC n).map fun c => (⟨#[c]⟩ : Str)).map V.str = (draws (n / 8) (n % 8) (textLen n) 94).map fun m => V.str (charZ m) := by
          unfold textC
          rw [List.map_map, List.map_map] <;> rfl
        rw [em]
        refine el_mapN (K := K) (el_call (ea_cons (ev_var rfl) (ea_cons (ev_var rfl) (ea_cons (ev_var rfl) (ea_cons ev_c ea_nil)))) (cl_draws (Wd.div hW) (by omega) (by omega) (by decide) (by decide))) (by rw [draws_len]; omega) (fun x => rfl) fun m _ H5 e5 => ev_call (ea_cons (ev_var rfl) ea_nil) cv_char
      · rw [sum_ones, List.length_map]
        have := textC_len n
        show (textC n).length + (textC n).length * 0 ≤ 16777216
        omega


/-! ### _law_value -/
def valZ (kind : Str) (cell : Int) : It := if (Txt.endswith kind (Str.ofString "?") && decide (cell % 4 = 3)) = true then .non else if cutS kind none (some 3) = Str.ofString "int" then .int (integerZ (cell / 4)) else .str (textZ (cell / 4))
theorem valZ_sc (kind : Str) (cell : Int) : (valZ kind cell).sc := by
  unfold valZ
  split
  · trivial
  · split
    · exact integerZ_lt _
    · have := textZ_len (cell / 4)
      show (textZ (cell / 4)).length ≤ 200
      omega
def sp_value : Sp := fun vs H Q _ => ∃ (kind : Str) (cell : Int), vs = [.str kind, .int cell] ∧ Wd cell ∧ kind.length ≤ 100000 ∧ ∀ H', Ex H H' → Q (vz (valZ kind cell)) H'
theorem cv_value {kind : Str} {cell : Int} {H : Hp} (hc : Wd cell) (hk : kind.length ≤ 100000) : SpV sp_value [.str kind, .int cell] H (vz (valZ kind cell)) := fun H1 e Q q E => ⟨kind, cell, rfl, hc, hk, fun H2 e2 => q H2 e2⟩
theorem ok_law_value (T : Txt K mg P) : FnOk P w K mg base CX0 3 T.f_law_value T.d_law_value ["kind", "cell"] sp_value := by
  refine T.F_law_value.ok sc_law_value (fun vs H Q E h => ?_) (fun cdv A outer s H vs Q E hr h => ?_)
  · obtain ⟨kind, n, rfl, _⟩ := h
    rfl
  · obtain ⟨kind, n, rfl, hW, hk, q⟩ := h
    unfold valZ at q
    refine ⟨_, pss_cons (ps_if (PW.pt (pw_and (pt_val (pe_m1 PySem.F.slot_str_endswith PySem.F.type_str_endswith mt_endswith (pv 0) (pe_str))) (pw_and1 (pt_cmpR op_eq (pe_op op_mod (pe_callTy call_int1 (by rfl) T.m_int (by decide +kernel) (pa_cons (pv 1) (pa_nil))) (pe_int)) (pe_int) (nomark _)))))
      (pss_one (ps_ret (pe_non)))
      (pss_nil))
      (pss_cons (ps_if (pt_cmpR op_eq (pe_slice sl_str (pv 0) (po_none) (po_some (pe_int))) (pe_str) (nomark _))
      (pss_one (ps_ret (pe_call (ok_law_integer T) (hr.mono (by first | decide | omega)) (by rfl) T.g_law_integer T.F_law_integer.kp T.b_law_integer .nil pass0 (pa_cons (pe_op op_fdivW (pv 1) (pe_int)) (pa_nil)))))
      (pss_nil))
      (pss_one (ps_ret (pe_call (ok_law_text T) (hr.mono (by first | decide | omega)) (by rfl) T.g_law_text T.F_law_text.kp T.b_law_text .nil pass0 (pa_cons (pe_op op_fdivW (pv 1) (pe_int)) (pa_nil)))))), ?_⟩
    refine q_when (et_and (et_B (ev_ends (ev_var rfl) ev_c)) fun _ => et_test (ev_eqI (ev_bin (ev_intI (ev_var rfl)) ev_c (by decide)) ev_c)) (fun hb H1 e1 => ?_) (fun hb H1 e1 => ?_)
    · rw [if_pos hb] at q
      exact s_ret ev_c fun H2 e2 => q H2 (e1.trans e2)
    rw [if_neg (by rw [hb]; exact Bool.false_ne_true)] at q
    refine q_when (et_test (ev_eqS (ev_slS (ev_var rfl) eo_none (eo_some ev_c) hk) ev_c)) (fun hb H2 e2 => ?_) (fun hb H2 e2 => ?_)
    · rw [if_pos (of_decide_eq_true hb)] at q
      exact s_ret (ev_call (ea_cons (ev_bin (ev_var rfl) ev_c ⟨by decide, by decide⟩) ea_nil) (cv_integer (Wd.div hW))) fun H3 e3 => q H3 ((e1.trans e2).trans e3)
    · rw [if_neg (of_decide_eq_false hb)] at q
      exact s_ret (ev_call (ea_cons (ev_bin (ev_var rfl) ev_c ⟨by decide, by decide⟩) ea_nil) (cv_text (Wd.div hW))) fun H3 e3 => q H3 ((e1.trans e2).trans e3)


/-! ### _law_drawn_place -/
def drawnZ (shape : List Str) (parts : List Int) : List It := (List.range shape.length).map fun k => valZ (shape.getD k Str.empty) (parts.getD k 0)
theorem drawnZ_sc (shape : List Str) (parts : List Int) : ∀ d ∈ drawnZ shape parts, d.sc := fun d hd => by
  obtain ⟨k, _, e⟩ := List.mem_map.mp hd
  rw [← e]
  exact valZ_sc _ _
def sp_drawn (K : PySem.W.Frag) : Sp := fun vs H Q _ => ∃ (a b : Addr) (shape : List Str) (parts : List Int), vs = [.ref a, .ref b] ∧ SqT K H a (shape.map V.str) ∧ SqL K H b (parts.map V.int) ∧ shape.length ≤ parts.length ∧ shape.length ≤ 100 ∧ (∀ n ∈ parts, Wd n) ∧ (∀ z ∈ shape, z.length ≤ 100000) ∧
  ∀ p H', Ex H H' → H' p = some (.tup ((drawnZ shape parts).map vz)) → Q (.ref p) H'
/-- key = _law_drawn_place(shape, a new list of ints) -/
theorem q_drawn {E : XK} {σ : L2.St} {H : Hp} {te : TE} {a : Addr} {shape : List Str} {parts : List Int} {tz : TS} {D : Ends} {i j : Nat} (hl : EvL te σ H (parts.map V.int)) (h : SqT K H a (shape.map V.str)) (h1 : shape.length ≤ parts.length) (h2 : shape.length ≤ 100) (h3 : ∀ n ∈ parts, Wd n) (h4 : ∀ z ∈ shape, z.length ≤ 100000)
    (k : ∀ p H1, Ex H H1 → H1 p = some (.tup ((drawnZ shape parts).map vz)) → tz D (σ.set i (some (.ref p))) H1) (hσ : σ[j]? = some (some (.ref a)) := by rfl) : tSeq (tAsg (tCall (sp_drawn K) [] E (tCons (tVar j) (tCons te tNil))) (gName i)) tz D σ H :=
  ⟨.ref a, hσ, hl H (Ex.refl H) _ fun b H1 _ e1 hb => ⟨a, b, shape, parts, rfl, ex_t e1 h, sq_of hb, h1, h2, h3, h4, fun p H2 e2 hp => k p H2 (e1.trans e2) hp⟩⟩
theorem ok_law_drawn_place (T : Txt K mg P) : FnOk P w K mg base CX0 4 T.f_law_drawn_place T.d_law_drawn_place ["shape", "parts"] (sp_drawn K) := by
  refine T.F_law_drawn_place.ok sc_law_drawn_place (fun vs H Q E h => ?_) (fun cdv A outer s H vs Q E hr h => ?_)
  · obtain ⟨a, b, sh, pa, rfl, _⟩ := h
    rfl
  · obtain ⟨a, b, sh, pa, rfl, hA, hB, hl, h100, hW, hz, q⟩ := h
    refine ⟨_, pss_one (ps_ret (pe_callTy (r := rTupOf K) call_tuple_of (by rfl) T.m_tuple (by decide +kernel) (pa_cons (pe_lc (own := [("k", 2)]) (g := gName 2) (tt := tYes) rfl sc_law_drawn_place.nd (pi_range1 (by rfl) T.m_range (pa_cons (pe_callB (r := rLenQ K) call_len_seq (by rfl) T.m_len (by decide +kernel) (pa_cons (pv 0) (pa_nil))) (pa_nil))) (blkOk_by (N := ["shape", "parts", "k"]) (sc := defScope s_law_drawn_place) (by decide +kernel)) (fun _ _ _ _ _ => pg_name (i := 2) sc_law_drawn_place.nd rfl (Or.inl rfl)) (fun _ _ _ _ _ => pts_nil) (fun _ _ _ _ _ => pe_call (ok_law_value T) (hr.mono (by first | decide | omega)) (by rfl) T.g_law_value T.F_law_value.kp T.b_law_value .nil pass0 (pa_cons (pe_ix (r := rIxT K) ix_tup (pv 0) (pv 2) (fun _ _ => rfl)) (pa_cons (pe_ix (r := rIxL K) ix_list (pv 1) (pv 2) (fun _ _ => rfl)) (pa_nil))))) (pa_nil)))), ?_⟩
    refine s_retU (eu_ofN (K := K) (xs := (drawnZ sh pa).map vz) ?_) fun p H1 _ e1 hp => q p H1 e1 hp
    refine el_mapR (n := sh.length) (ea_cons (ev_is (ev_lenT (K := K) (ev_var rfl) hA) (by rw [List.length_map])) ea_nil) (by omega) (fun x => rfl) (by rw [List.length_map]; unfold drawnZ; rw [List.length_map, List.length_range]) fun i y hi hy H1 e1 => ?_
    have hi2 : i < pa.length := by omega
    have a1 : (sh.map V.str)[i]? = some (.str (sh.getD i Str.empty)) := by
      rw [List.getElem?_map, List.getElem?_eq_getElem hi, List.getD_eq_getElem?_getD, List.getElem?_eq_getElem hi] <;> rfl
    have a2 : (pa.map V.int)[i]? = some (.int (pa.getD i 0)) := by
      rw [List.getElem?_map, List.getElem?_eq_getElem hi2, List.getD_eq_getElem?_getD, List.getElem?_eq_getElem hi2] <;> rfl
    have ey : y = vz (valZ (sh.getD i Str.empty) (pa.getD i 0)) := by
      unfold drawnZ at hy
      rw [List.getElem?_map, List.getElem?_map, List.getElem?_range hi] at hy
      exact (Option.some.inj hy).symm
    rw [ey]
    refine ev_call (ea_cons (ev_ixT (K := K) (ev_var rfl) (ev_var rfl) (ex_t e1 hA) (at_nat a1)) (ea_cons (ev_ixL (K := K) (ev_var rfl) (ev_var rfl) (ex_l e1 hB) (at_nat a2)) ea_nil)) (cv_value ?_ ?_)
    · refine hW _ ?_
      rw [List.getD_eq_getElem?_getD, List.getElem?_eq_getElem hi2]
      exact List.getElem_mem hi2
    · refine hz _ ?_
      rw [List.getD_eq_getElem?_getD, List.getElem?_eq_getElem hi]
      exact List.getElem_mem hi


/-! ### _law_shape -/
def shapesZ : List (List Str) := [["int"], ["text"], ["int", "text"], ["int"], ["text", "int"], ["int", "int"], ["text", "text"]]
def shapeZ (n : Int) : List Str := shapesZ.getD (n % 7).toNat []
theorem shapeZ_in (n : Int) : shapeZ n ∈ shapesZ := by
  have h1 := Int.emod_nonneg n (by decide : (7 : Int) ≠ 0)
  have h2 := Int.emod_lt_of_pos n (by decide : (0 : Int) < 7)
  have h3 : (n % 7).toNat < shapesZ.length := by show _ < 7; omega
  unfold shapeZ
  rw [List.getD_eq_getElem?_getD, List.getElem?_eq_getElem h3]
  exact List.getElem_mem h3
theorem shapes_ok : ∀ l ∈ shapesZ, (l.length = 1 ∨ l.length = 2) ∧ ∀ z ∈ l, z = Str.ofString "int" ∨ z = Str.ofString "text" := by decide +kernel
def sp_shape : Sp := fun vs H Q _ => ∃ n : Int, vs = [.int n] ∧ ∀ p H', Ex H H' → H' p = some (.tup ((shapeZ n).map V.str)) → Q (.ref p) H'
theorem cu_shape {n : Int} {H : Hp} : SpU sp_shape [.int n] H ((shapeZ n).map V.str) := fun H1 e Q q E => ⟨n, rfl, fun p H2 e2 hp => q p H2 e2 hp⟩
theorem ok_law_shape (T : Txt K mg P) : FnOk P w K mg base CX0 1 T.f_law_shape T.d_law_shape ["number"] sp_shape := by
  refine T.F_law_shape.ok sc_law_shape (fun vs H Q E h => ?_) (fun cdv A outer s H vs Q E hr h => ?_)
  · obtain ⟨n, rfl, _⟩ := h
    rfl
  · obtain ⟨n, rfl, q⟩ := h
    refine ⟨_, pss_cons (ps_set (i := 1) sc_law_shape.nd rfl (by first | exact Or.inl rfl | exact Or.inr rfl) (pe_lst (pa_cons (pe_tup (pa_cons (pe_str) (pa_nil))) (pa_cons (pe_tup (pa_cons (pe_str) (pa_nil))) (pa_cons (pe_tup (pa_cons (pe_str) (pa_cons (pe_str) (pa_nil)))) (pa_cons (pe_tup (pa_cons (pe_str) (pa_nil))) (pa_cons (pe_tup (pa_cons (pe_str) (pa_cons (pe_str) (pa_nil)))) (pa_cons (pe_tup (pa_cons (pe_str) (pa_cons (pe_str) (pa_nil)))) (pa_cons (pe_tup (pa_cons (pe_str) (pa_cons (pe_str) (pa_nil)))) (pa_nil))))))))))
      (pss_one (ps_ret (pe_ix (r := rIxL K) ix_list (pv 1) (pe_op op_mod (pe_callTy call_int1 (by rfl) T.m_int (by decide +kernel) (pa_cons (pv 0) (pa_nil))) (pe_int)) (fun _ _ => rfl)))), ?_⟩
    have t1 : ∀ {σ : L2.St} {H : Hp} {a : Str}, EvU (tTup (tCons (tC (.str a)) tNil)) σ H ([a].map V.str) := eu_tup (ea_cons ev_c ea_nil) (by show 1 ≤ 100000; decide)
    have t2 : ∀ {σ : L2.St} {H : Hp} {a b : Str}, EvU (tTup (tCons (tC (.str a)) (tCons (tC (.str b)) tNil))) σ H ([a, b].map V.str) := eu_tup (ea_cons ev_c (ea_cons ev_c ea_nil)) (by show 2 ≤ 100000; decide)
    refine q_asgLP (xss := shapesZ.map fun l => l.map V.str) (ep_cons t1 (ep_cons t1 (ep_cons t2 (ep_cons t1 (ep_cons t2 (ep_cons t2 (ep_cons t2 ep_nil))))))) (by show 7 ≤ 100000; decide) fun p ps H1 e1 hp hps => ?_
    have h1 := Int.emod_nonneg n (by decide : (7 : Int) ≠ 0)
    have h2 := Int.emod_lt_of_pos n (by decide : (0 : Int) < 7)
    have h3 : (n % 7).toNat < shapesZ.length := by show _ < 7; omega
    have hs : (shapesZ.map fun l => l.map V.str)[(n % 7).toNat]? = some ((shapeZ n).map V.str) := by
      rw [List.getElem?_map, List.getElem?_eq_getElem h3]
      unfold shapeZ
      rw [List.getD_eq_getElem?_getD, List.getElem?_eq_getElem h3] <;> rfl
    obtain ⟨a, ha, hH⟩ := paired_at (xss := shapesZ.map fun l => l.map V.str) hps hs
    refine s_ret (v := .ref a) (ev_ixL (K := K) (ev_var rfl) (ev_bin (ev_intI (ev_var rfl)) ev_c (by decide)) (sq_of hp) (atI_of h1 (by rw [List.getElem?_map, ha] <;> rfl))) fun H2 e2 => q a H2 (e1.trans e2) (e2 a _ hH)


/-! ### _law_thing -/
def thingZ (ns : List Int) (k : Nat) : Int := if k < ns.length then cellZ ns k else if ns.length = 0 then (k : Int) else (cellZ ns (k % ns.length) * 48271 + (k : Int) * 69621) % 2147483647
theorem Wd.thing {ns : List Int} (h : ∀ n ∈ ns, Wd n) {k : Nat} (hk : k ≤ 100000) : Wd (thingZ ns k) := by
  unfold thingZ
  split
  · exact Wd.cell h k
  · split
    · exact Wd.small (by omega) (by omega)
    · exact Wd.mod (by decide) (Wd.lit (by decide))
def sp_thing (K : PySem.W.Frag) : Sp := fun vs H Q _ => ∃ (a : Addr) (ns : List Int) (k : Nat), vs = [.ref a, .int (k : Int)] ∧ SqL K H a (ns.map V.int) ∧ (∀ n ∈ ns, Wd n) ∧ k ≤ 100000 ∧ ∀ H', Ex H H' → Q (.int (thingZ ns k)) H'
theorem cv_thing {a : Addr} {ns : List Int} {k : Nat} {H : Hp} (h : SqL K H a (ns.map V.int)) (hw : ∀ n ∈ ns, Wd n) (hk : k ≤ 100000) : SpV (sp_thing K) [.ref a, .int (k : Int)] H (.int (thingZ ns k)) := fun H1 e Q q E => ⟨a, ns, k, rfl, ex_l e h, hw, hk, fun H2 e2 => q H2 e2⟩
theorem ok_law_thing (T : Txt K mg P) : FnOk P w K mg base CX0 1 T.f_law_thing T.d_law_thing ["script", "k"] (sp_thing K) := by
  refine T.F_law_thing.ok sc_law_thing (fun vs H Q E h => ?_) (fun cdv A outer s H vs Q E hr h => ?_)
  · obtain ⟨a, ns, k, rfl, _⟩ := h
    rfl
  · obtain ⟨a, ns, k, rfl, hS, hw, hk1, q⟩ := h
    have el : (ns.map V.int).length = ns.length := List.length_map ..
    have item : ∀ j : Nat, j < ns.length → (ns.map V.int)[j]? = some (.int (cellZ ns j)) := fun j hj => by
      rw [List.getElem?_map, List.getElem?_eq_getElem hj]
      unfold cellZ
      rw [List.getD_eq_getElem?_getD, List.getElem?_eq_getElem hj] <;> rfl
    refine ⟨_, pss_cons (ps_if (pt_cmpR op_lt (pv 1) (pe_callB (r := rLenQ K) call_len_seq (by rfl) T.m_len (by decide +kernel) (pa_cons (pv 0) (pa_nil))) (nomark _))
      (pss_one (ps_ret (pe_ix (r := rIxL K) ix_list (pv 0) (pv 1) (fun _ _ => rfl))))
      (pss_nil))
      (pss_cons (ps_if (pt_cmpR op_eq (pe_callB (r := rLenQ K) call_len_seq (by rfl) T.m_len (by decide +kernel) (pa_cons (pv 0) (pa_nil))) (pe_int) (nomark _))
      (pss_one (ps_ret (pv 1)))
      (pss_nil))
      (pss_one (ps_ret (pe_op op_mod (pe_callTy call_int1 (by rfl) T.m_int (by decide +kernel) (pa_cons (pe_op op_add (pe_op op_mulX (pe_ix (r := rIxL K) ix_list (pv 0) (pe_op op_mod (pe_callTy call_int1 (by rfl) T.m_int (by decide +kernel) (pa_cons (pv 1) (pa_nil))) (pe_callB (r := rLenQ K) call_len_seq (by rfl) T.m_len (by decide +kernel) (pa_cons (pv 0) (pa_nil)))) (fun _ _ => rfl)) (pe_int)) (pe_op op_mulX (pv 1) (pe_int))) (pa_nil))) (pe_int))))), ?_⟩
    refine q_when (b := decide ((k : Int) < ((ns.map V.int).length : Int))) (et_test (ev_bin0 (ev_var rfl) (ev_lenQ (K := K) (ev_var rfl) hS))) (fun hb H1 e1 => ?_) (fun hb H1 e1 => ?_)
    · have hk : k < ns.length := by
        have := of_decide_eq_true hb
        rw [el] at this
        omega
      refine s_ret (ev_ixL (K := K) (ev_var rfl) (ev_var rfl) (ex_l e1 hS) (at_nat (item k hk))) fun H2 e2 => ?_
      have e0 : thingZ ns k = cellZ ns k := if_pos hk
      rw [← e0]
      exact q H2 (e1.trans e2)
    · have hk : ¬ k < ns.length := by
        have := of_decide_eq_false hb
        rw [el] at this
        omega
      refine q_when (et_test (ev_eqI (ev_lenQ (K := K) (ev_var rfl) (ex_l e1 hS)) ev_c)) (fun hb H2 e2 => ?_) (fun hb H2 e2 => ?_)
      · have h0 : ns.length = 0 := by
          have := of_decide_eq_true hb
          rw [el] at this
          omega
        refine s_ret (ev_var rfl) fun H3 e3 => ?_
        have e0 : thingZ ns k = (k : Int) := by unfold thingZ; rw [if_neg hk, if_pos h0]
        rw [← e0]
        exact q H3 ((e1.trans e2).trans e3)
      · have h0 : ¬ ns.length = 0 := by
          have := of_decide_eq_false hb
          rw [el] at this
          omega
        have hm : k % ns.length < ns.length := Nat.mod_lt _ (by omega)
        refine s_ret (ev_bin (i := cellZ ns (k % ns.length) * 48271 + (k : Int) * 69621) (ev_intI (ev_bin0 (ev_bin (ev_ixL (K := K) (i := ((k % ns.length : Nat) : Int)) (ev_var rfl) (ev_is (ev_bin (ev_intI (ev_var rfl)) (ev_lenQ (K := K) (ev_var rfl) (ex_l (e1.trans e2) hS)) (by rw [el]; omega)) (by rw [el]; rfl)) (ex_l (e1.trans e2) hS) (at_nat (item _ hm))) ev_c (Wd.mul (Wd.cell hw _) (Wd.lit (by decide)))) (ev_bin (ev_var rfl) ev_c (Wd.mul (Wd.small (by omega) (by omega)) (Wd.lit (by decide)))))) ev_c (by decide)) fun H3 e3 => ?_
        have e0 : thingZ ns k = (cellZ ns (k % ns.length) * 48271 + (k : Int) * 69621) % 2147483647 := by unfold thingZ; rw [if_neg hk, if_neg h0]
        rw [← e0]
        exact q H3 ((e1.trans e2).trans e3)


/-! ### _law_digest -/
theorem ok_law_digest (T : Txt K mg P) : FnOk P w K mg base CX0 1 T.f_law_digest T.d_law_digest ["text"] spDig := by
  refine T.F_law_digest.ok sc_law_digest (fun vs H Q E h => ?_) (fun cdv A outer s H vs Q E hr h => ?_)
  · obtain ⟨z, rfl, _⟩ := h
    rfl
  · obtain ⟨z, rfl, q⟩ := h
    refine ⟨_, pss_cons (ps_set (i := 1) sc_law_digest.nd rfl (by first | exact Or.inl rfl | exact Or.inr rfl) (pe_int))
      (pss_cons (ps_for PassesOwn.never rfl (pi_str (pv 0)) (pg_name (i := 2) sc_law_digest.nd rfl (by first | exact Or.inl rfl | exact Or.inr rfl))
      (pss_one (ps_set (i := 1) sc_law_digest.nd rfl (by first | exact Or.inl rfl | exact Or.inr rfl) (pe_op op_mod (pe_callTy call_int1 (by rfl) T.m_int (by decide +kernel) (pa_cons (pe_op op_add (pe_op op_mulX (pv 1) (pe_int)) (pe_callB call_ord (by rfl) T.m_ord (by decide +kernel) (pa_cons (pv 2) (pa_nil)))) (pa_nil))) (pe_int)))))
      (pss_one (ps_ret (pv 1)))), ?_⟩
    refine q_asg ev_c fun H1 e1 => ?_
    refine q_forS (ev_var rfl) (fun i σ' H' => ∃ cv : Option V, σ' = [some (.str z), some (.int (digZ (z.cps.toList.take i))), cv] ∧ Ex H H') (fun H2 e2 => ⟨none, rfl, e1.trans e2⟩) (fun i c σ' H' hc hP => ?_) (fun σ' H' hP => ?_)
    · obtain ⟨cv, rfl, eH⟩ := hP
      have hd := digZ_ge (z.cps.toList.take i)
      refine s_asg (v := .int (digZ (z.cps.toList.take (i + 1)))) ?_ fun H2 e2 => ⟨some (.str ⟨#[c]⟩), rfl, eH.trans e2⟩
      rw [digZ_succ hc, Int.mul_comm]
      exact ev_bin (ev_intI (ev_bin0 (ev_bin (ev_var rfl) ev_c (Wd.mul (Wd.small (by omega) (by omega)) (Wd.lit (by decide)))) (ev_ordS (ev_var rfl)))) ev_c (by decide)
    · obtain ⟨cv, rfl, eH⟩ := hP
      rw [List.take_length]
      exact s_ret (ev_var rfl) fun H2 e2 => q H2 (eH.trans e2)


/-! ### _law_written -/
theorem ok_law_written_at (T : Txt K mg P) : ∀ n : Nat, FnOk P w K mg base CX0 (n + 1) T.f_law_written T.d_law_written ["item"] (spEnc K n)
  | 0 => by
    refine T.F_law_written.ok sc_law_written (fun vs H Q E h => ?_) (fun cdv A outer s H vs Q E hr h => ?_)
    · obtain ⟨v, d, rfl, _⟩ := h
      rfl
    · obtain ⟨v, d, rfl, hD, hf, hz, q⟩ := h
      refine ⟨_, pss_cons (ps_if (pt_cmpR op_isN (pv 0) (pe_non) (nomark _))
      (pss_one (ps_ret (pe_str)))
      (pss_nil))
      (pss_cons (ps_if (pt_val (pe_callB (r := rIsi K) call_isi (by rfl) T.m_isinstance (by decide +kernel) (pa_cons (pv 0) (pa_cons (pe_bltn (v := .ty "str") (by rfl) T.m_str (by decide +kernel) rfl) (pa_nil)))))
      (pss_one (ps_ret (pe_op op_add_str (pe_op op_add_str (pe_op op_add_str (pe_str) (pe_callTy call_str_int (by rfl) T.m_str (by decide +kernel) (pa_cons (pe_callB call_len_str (by rfl) T.m_len (by decide +kernel) (pa_cons (pv 0) (pa_nil))) (pa_nil)))) (pe_str)) (pv 0))))
      (pss_nil))
      (pss_cons (ps_if (pt_val (pe_callB (r := rIsi K) call_isi (by rfl) T.m_isinstance (by decide +kernel) (pa_cons (pv 0) (pa_cons (pe_bltn (v := .ty "tuple") (by rfl) T.m_tuple (by decide +kernel) rfl) (pa_nil)))))
      (pss_one (ps_never))
      (pss_nil))
      (pss_one (ps_ret (pe_op op_add_str (pe_op op_add_str (pe_str) (pe_callTy call_str_int (by rfl) T.m_str (by decide +kernel) (pa_cons (pv 0) (pa_nil)))) (pe_str)))))), ?_⟩
      cases hD with
      | tup hS r => exact hf.elim
      | non => exact q_when (b := true) (et_test (ev_isNt (ev_var rfl))) (fun _ H1 e1 => s_ret ev_c fun H2 e2 => q H2 (e1.trans e2)) (fun z => nomatch z)
      | int i =>
        refine q_when (b := false) (et_test (ev_isNf (ev_var rfl))) (fun z => nomatch z) fun _ H1 e1 => ?_
        refine q_when (b := false) (et_B (ev_isi (K := K) (a := "int") (ev_var rfl) (fun _ _ => .base (.int i)) (by decide +kernel))) (fun z => nomatch z) fun _ H2 e2 => ?_
        refine q_when (b := false) (et_B (ev_isi (K := K) (a := "int") (ev_var rfl) (fun _ _ => .base (.int i)) (by decide +kernel))) (fun z => nomatch z) fun _ H3 e3 => ?_
        exact wr_int hf hz fun H4 e4 => q H4 (((e1.trans e2).trans e3).trans e4)
      | str z =>
        refine q_when (b := false) (et_test (ev_isNf (ev_var rfl))) (fun z => nomatch z) fun _ H1 e1 => ?_
        refine q_when (b := true) (et_B (ev_isi (K := K) (a := "str") (ev_var rfl) (fun _ _ => .base (.str z)) (by decide +kernel))) (fun _ H2 e2 => ?_) (fun z => nomatch z)
        exact wr_str hf hz fun H4 e4 => q H4 ((e1.trans e2).trans e4)
  | n + 1 => by
    have IH := ok_law_written_at T n
    refine T.F_law_written.ok sc_law_written (fun vs H Q E h => ?_) (fun cdv A outer s H vs Q E hr h => ?_)
    · obtain ⟨v, d, rfl, _⟩ := h
      rfl
    · obtain ⟨v, d, rfl, hD, hf, hz, q⟩ := h
      refine ⟨_, pss_cons (ps_if (pt_cmpR op_isN (pv 0) (pe_non) (nomark _))
      (pss_one (ps_ret (pe_str)))
      (pss_nil))
      (pss_cons (ps_if (pt_val (pe_callB (r := rIsi K) call_isi (by rfl) T.m_isinstance (by decide +kernel) (pa_cons (pv 0) (pa_cons (pe_bltn (v := .ty "str") (by rfl) T.m_str (by decide +kernel) rfl) (pa_nil)))))
      (pss_one (ps_ret (pe_op op_add_str (pe_op op_add_str (pe_op op_add_str (pe_str) (pe_callTy call_str_int (by rfl) T.m_str (by decide +kernel) (pa_cons (pe_callB call_len_str (by rfl) T.m_len (by decide +kernel) (pa_cons (pv 0) (pa_nil))) (pa_nil)))) (pe_str)) (pv 0))))
      (pss_nil))
      (pss_cons (ps_if (pt_val (pe_callB (r := rIsi K) call_isi (by rfl) T.m_isinstance (by decide +kernel) (pa_cons (pv 0) (pa_cons (pe_bltn (v := .ty "tuple") (by rfl) T.m_tuple (by decide +kernel) rfl) (pa_nil)))))
      (pss_one (ps_ret (pe_op op_add_str (pe_op op_add_str (pe_str) (pe_join (pe_str) (pe_lc (own := [("part", 1)]) (g := gName 1) (tt := tYes) rfl sc_law_written.nd (pi_tup (pv 0)) (blkOk_by (N := ["item", "part"]) (sc := defScope s_law_written) (by decide +kernel)) (fun _ _ _ _ _ => pg_name (i := 1) sc_law_written.nd rfl (Or.inl rfl)) (fun _ _ _ _ _ => pts_nil) (fun _ _ _ _ _ => pe_call IH (hr.mono (by omega)) (by rfl) T.g_law_written T.F_law_written.kp T.b_law_written .nil pass0 (pa_cons (pv 1) (pa_nil)))))) (pe_str))))
      (pss_nil))
      (pss_one (ps_ret (pe_op op_add_str (pe_op op_add_str (pe_str) (pe_callTy call_str_int (by rfl) T.m_str (by decide +kernel) (pa_cons (pv 0) (pa_nil)))) (pe_str)))))), ?_⟩
      cases hD with
      | non => exact q_when (b := true) (et_test (ev_isNt (ev_var rfl))) (fun _ H1 e1 => s_ret ev_c fun H2 e2 => q H2 (e1.trans e2)) (fun z => nomatch z)
      | int i =>
        refine q_when (b := false) (et_test (ev_isNf (ev_var rfl))) (fun z => nomatch z) fun _ H1 e1 => ?_
        refine q_when (b := false) (et_B (ev_isi (K := K) (a := "int") (ev_var rfl) (fun _ _ => .base (.int i)) (by decide +kernel))) (fun z => nomatch z) fun _ H2 e2 => ?_
        refine q_when (b := false) (et_B (ev_isi (K := K) (a := "int") (ev_var rfl) (fun _ _ => .base (.int i)) (by decide +kernel))) (fun z => nomatch z) fun _ H3 e3 => ?_
        exact wr_int hf hz fun H4 e4 => q H4 (((e1.trans e2).trans e3).trans e4)
      | str z =>
        refine q_when (b := false) (et_test (ev_isNf (ev_var rfl))) (fun z => nomatch z) fun _ H1 e1 => ?_
        refine q_when (b := true) (et_B (ev_isi (K := K) (a := "str") (ev_var rfl) (fun _ _ => .base (.str z)) (by decide +kernel))) (fun _ H2 e2 => ?_) (fun z => nomatch z)
        exact wr_str hf hz fun H4 e4 => q H4 ((e1.trans e2).trans e4)
      | @tup a xs ds hS r =>
        refine q_when (b := false) (et_test (ev_isNf (ev_var rfl))) (fun z => nomatch z) fun _ H1 e1 => ?_
        refine q_when (b := false) (et_B (ev_isi (K := K) (a := "tuple") (ev_var rfl) (fun H2 e2 => tyx_tup (ex_t (e1.trans e2) hS)) (by decide +kernel))) (fun z => nomatch z) fun _ H2 e2 => ?_
        refine q_when (b := true) (et_B (ev_isi (K := K) (a := "tuple") (ev_var rfl) (fun H3 e3 => tyx_tup (ex_t ((e1.trans e2).trans e3) hS)) (by decide +kernel))) (fun _ H3 e3 => ?_) (fun z => nomatch z)
        refine s_ret (ev_parts (K := K) (ev_var rfl) (ex_t ((e1.trans e2).trans e3) hS) (r.mono ((e1.trans e2).trans e3)) hf hz (fun x => rfl) fun x d H4 e4 hd hf2 hz2 => ev_call (ea_cons (ev_var rfl) ea_nil) (cv_enc hd hf2 hz2)) fun H4 e4 => q H4 (((e1.trans e2).trans e3).trans e4)
theorem ok_law_written (T : Txt K mg P) : FnOk P w K mg base CX0 7 T.f_law_written T.d_law_written ["item"] (spEnc K 6) := ok_law_written_at T 6


/-! ### _law_same -/
def spSame (K : PySem.W.Frag) (n : Nat) : Sp := fun vs H Q _ => ∃ (u v : V) (d : It), vs = [u, v] ∧ Dv K H u d ∧ Dv K H v d ∧ d.fit n ∧ ∀ H', Ex H H' → Q (.bl true) H'
theorem cv_same {K : PySem.W.Frag} {n : Nat} {u v : V} {d : It} {H : Hp} (h : Dv K H u d) (h2 : Dv K H v d) (hf : d.fit n) : SpV (spSame K n) [u, v] H (.bl true) := fun H1 e Q q E => ⟨u, v, d, rfl, h.mono e, h2.mono e, hf, fun H2 e2 => q H2 e2⟩
theorem DvL.get {K : PySem.W.Frag} {H : Hp} : ∀ {vs : List V} {ds : List It}, DvL K H vs ds → ∀ {i : Nat}, i < ds.length → ∃ v d, vs[i]? = some v ∧ ds[i]? = some d ∧ Dv K H v d
  | _, _, .cons h r, 0, _ => ⟨_, _, rfl, rfl, h⟩
  | _, _, .cons h r, i + 1, hi => by
    obtain ⟨v, d, h1, h2, h3⟩ := r.get (i := i) (Nat.lt_of_succ_lt_succ hi)
    exact ⟨v, d, by simpa using h1, by simpa using h2, h3⟩
theorem ok_law_same_at (T : Txt K mg P) : ∀ n : Nat, FnOk P w K mg base CX0 (n + 1) T.f_law_same T.d_law_same ["actual", "expected"] (spSame K n)
  | 0 => by
    refine T.F_law_same.ok sc_law_same (fun vs H Q E h => ?_) (fun cdv A outer s H vs Q E hr h => ?_)
    · obtain ⟨u, v, d, rfl, _⟩ := h
      rfl
    · obtain ⟨u, v, d, rfl, hU, hV, hf, q⟩ := h
      refine ⟨_, pss_cons (ps_if (pt_cmpR op_isN (pv 1) (pe_non) (nomark _))
      (pss_one (ps_ret (pe_cmpR op_isN (pv 0) (pe_non) (nomark _))))
      (pss_nil))
      (pss_cons (ps_if (pt_val (pe_callB (r := rIsi K) call_isi (by rfl) T.m_isinstance (by decide +kernel) (pa_cons (pv 1) (pa_cons (pe_bltn (v := .ty "tuple") (by rfl) T.m_tuple (by decide +kernel) rfl) (pa_nil)))))
      (pss_cons (ps_if (PW.pt (pw_or (pt_not (pt_val (pe_callB (r := rIsi K) call_isi (by rfl) T.m_isinstance (by decide +kernel) (pa_cons (pv 0) (pa_cons (pe_bltn (v := .ty "tuple") (by rfl) T.m_tuple (by decide +kernel) rfl) (pa_nil)))))) (pw_or1 (pt_cmpR op_ne (pe_callB (r := rLenQ K) call_len_seq (by rfl) T.m_len (by decide +kernel) (pa_cons (pv 0) (pa_nil))) (pe_callB (r := rLenQ K) call_len_seq (by rfl) T.m_len (by decide +kernel) (pa_cons (pv 1) (pa_nil))) (nomark _)))))
      (pss_one (ps_ret (pe_bl)))
      (pss_nil))
      (pss_cons (ps_for PassesOwn.never rfl (pi_range1 (by rfl) T.m_range (pa_cons (pe_callB (r := rLenQ K) call_len_seq (by rfl) T.m_len (by decide +kernel) (pa_cons (pv 1) (pa_nil))) (pa_nil))) (pg_name (i := 2) sc_law_same.nd rfl (by first | exact Or.inl rfl | exact Or.inr rfl))
      (pss_one (ps_never)))
      (pss_one (ps_ret (pe_bl)))))
      (pss_nil))
      (pss_cons (ps_if (pt_val (pe_callB (r := rIsi K) call_isi (by rfl) T.m_isinstance (by decide +kernel) (pa_cons (pv 1) (pa_cons (pe_bltn (v := .ty "str") (by rfl) T.m_str (by decide +kernel) rfl) (pa_nil)))))
      (pss_one (ps_ret (pe_and (pe_callB (r := rIsi K) call_isi (by rfl) T.m_isinstance (by decide +kernel) (pa_cons (pv 0) (pa_cons (pe_bltn (v := .ty "str") (by rfl) T.m_str (by decide +kernel) rfl) (pa_nil)))) (pe_one (pe_cmpR op_eq (pv 0) (pv 1) (nomark _))))))
      (pss_nil))
      (pss_one (ps_ret (pe_and (pe_callB (r := rIsi K) call_isi (by rfl) T.m_isinstance (by decide +kernel) (pa_cons (pv 0) (pa_cons (pe_bltn (v := .ty "int") (by rfl) T.m_int (by decide +kernel) rfl) (pa_nil)))) (pe_and (pe_not (pe_callB (r := rIsi K) call_isi (by rfl) T.m_isinstance (by decide +kernel) (pa_cons (pv 0) (pa_cons (pe_bltn (v := .ty "bool") (by rfl) T.m_bool (by decide +kernel) rfl) (pa_nil))))) (pe_one (pe_cmpR op_eq (pv 0) (pv 1) (nomark _))))))))), ?_⟩
      cases hV with
      | tup hS r => exact hf.elim
      | non =>
        cases hU
        exact q_when (b := true) (et_test (ev_isNt (ev_var rfl))) (fun _ H1 e1 => s_ret (ev_isNt (ev_var rfl)) fun H2 e2 => q H2 (e1.trans e2)) (fun z => nomatch z)
      | int i =>
        cases hU
        refine q_when (b := false) (et_test (ev_isNf (ev_var rfl))) (fun z => nomatch z) fun _ H1 e1 => ?_
        refine q_when (b := false) (et_B (ev_isi (K := K) (a := "int") (ev_var rfl) (fun _ _ => .base (.int i)) (by decide +kernel))) (fun z => nomatch z) fun _ H2 e2 => ?_
        refine q_when (b := false) (et_B (ev_isi (K := K) (a := "int") (ev_var rfl) (fun _ _ => .base (.int i)) (by decide +kernel))) (fun z => nomatch z) fun _ H3 e3 => ?_
        refine s_ret (v := .bl true) (ev_is (ev_andV (a := true) (b := true) (ev_isi (K := K) (a := "int") (ev_var rfl) (fun _ _ => .base (.int i)) (by decide +kernel)) fun _ => ev_is (ev_andV (a := true) (b := true) (ev_is (ev_notV (ev_isi (K := K) (a := "int") (r := false) (ev_var rfl) (fun _ _ => .base (.int i)) (by decide +kernel))) rfl) fun _ => ev_is (ev_eqI (ev_var rfl) (ev_var rfl)) (congrArg V.bl (decide_eq_true rfl))) rfl) rfl) fun H4 e4 => q H4 (((e1.trans e2).trans e3).trans e4)
      | str z =>
        cases hU
        refine q_when (b := false) (et_test (ev_isNf (ev_var rfl))) (fun z => nomatch z) fun _ H1 e1 => ?_
        refine q_when (b := false) (et_B (ev_isi (K := K) (a := "str") (ev_var rfl) (fun _ _ => .base (.str z)) (by decide +kernel))) (fun z => nomatch z) fun _ H2 e2 => ?_
        refine q_when (b := true) (et_B (ev_isi (K := K) (a := "str") (ev_var rfl) (fun _ _ => .base (.str z)) (by decide +kernel))) (fun _ H3 e3 => ?_) (fun z => nomatch z)
        refine s_ret (v := .bl true) (ev_is (ev_andV (a := true) (b := true) (ev_isi (K := K) (a := "str") (ev_var rfl) (fun _ _ => .base (.str z)) (by decide +kernel)) fun _ => ev_is (ev_eqS (ev_var rfl) (ev_var rfl)) (congrArg V.bl (decide_eq_true rfl))) rfl) fun H4 e4 => q H4 (((e1.trans e2).trans e3).trans e4)
  | n + 1 => by
    have IH := ok_law_same_at T n
    refine T.F_law_same.ok sc_law_same (fun vs H Q E h => ?_) (fun cdv A outer s H vs Q E hr h => ?_)
    · obtain ⟨u, v, d, rfl, _⟩ := h
      rfl
    · obtain ⟨u, v, d, rfl, hU, hV, hf, q⟩ := h
      refine ⟨_, pss_cons (ps_if (pt_cmpR op_isN (pv 1) (pe_non) (nomark _))
      (pss_one (ps_ret (pe_cmpR op_isN (pv 0) (pe_non) (nomark _))))
      (pss_nil))
      (pss_cons (ps_if (pt_val (pe_callB (r := rIsi K) call_isi (by rfl) T.m_isinstance (by decide +kernel) (pa_cons (pv 1) (pa_cons (pe_bltn (v := .ty "tuple") (by rfl) T.m_tuple (by decide +kernel) rfl) (pa_nil)))))
      (pss_cons (ps_if (PW.pt (pw_or (pt_not (pt_val (pe_callB (r := rIsi K) call_isi (by rfl) T.m_isinstance (by decide +kernel) (pa_cons (pv 0) (pa_cons (pe_bltn (v := .ty "tuple") (by rfl) T.m_tuple (by decide +kernel) rfl) (pa_nil)))))) (pw_or1 (pt_cmpR op_ne (pe_callB (r := rLenQ K) call_len_seq (by rfl) T.m_len (by decide +kernel) (pa_cons (pv 0) (pa_nil))) (pe_callB (r := rLenQ K) call_len_seq (by rfl) T.m_len (by decide +kernel) (pa_cons (pv 1) (pa_nil))) (nomark _)))))
      (pss_one (ps_ret (pe_bl)))
      (pss_nil))
      (pss_cons (ps_for PassesOwn.never rfl (pi_range1 (by rfl) T.m_range (pa_cons (pe_callB (r := rLenQ K) call_len_seq (by rfl) T.m_len (by decide +kernel) (pa_cons (pv 1) (pa_nil))) (pa_nil))) (pg_name (i := 2) sc_law_same.nd rfl (by first | exact Or.inl rfl | exact Or.inr rfl))
      (pss_one (ps_if (pt_not (pt_val (pe_call IH (hr.mono (by omega)) (by rfl) T.g_law_same T.F_law_same.kp T.b_law_same .nil pass0 (pa_cons (pe_ix (r := rIxT K) ix_tup (pv 0) (pv 2) (fun _ _ => rfl)) (pa_cons (pe_ix (r := rIxT K) ix_tup (pv 1) (pv 2) (fun _ _ => rfl)) (pa_nil))))))
      (pss_one (ps_ret (pe_bl)))
      (pss_nil))))
      (pss_one (ps_ret (pe_bl)))))
      (pss_nil))
      (pss_cons (ps_if (pt_val (pe_callB (r := rIsi K) call_isi (by rfl) T.m_isinstance (by decide +kernel) (pa_cons (pv 1) (pa_cons (pe_bltn (v := .ty "str") (by rfl) T.m_str (by decide +kernel) rfl) (pa_nil)))))
      (pss_one (ps_ret (pe_and (pe_callB (r := rIsi K) call_isi (by rfl) T.m_isinstance (by decide +kernel) (pa_cons (pv 0) (pa_cons (pe_bltn (v := .ty "str") (by rfl) T.m_str (by decide +kernel) rfl) (pa_nil)))) (pe_one (pe_cmpR op_eq (pv 0) (pv 1) (nomark _))))))
      (pss_nil))
      (pss_one (ps_ret (pe_and (pe_callB (r := rIsi K) call_isi (by rfl) T.m_isinstance (by decide +kernel) (pa_cons (pv 0) (pa_cons (pe_bltn (v := .ty "int") (by rfl) T.m_int (by decide +kernel) rfl) (pa_nil)))) (pe_and (pe_not (pe_callB (r := rIsi K) call_isi (by rfl) T.m_isinstance (by decide +kernel) (pa_cons (pv 0) (pa_cons (pe_bltn (v := .ty "bool") (by rfl) T.m_bool (by decide +kernel) rfl) (pa_nil))))) (pe_one (pe_cmpR op_eq (pv 0) (pv 1) (nomark _))))))))), ?_⟩
      cases hV with
      | non =>
        cases hU
        exact q_when (b := true) (et_test (ev_isNt (ev_var rfl))) (fun _ H1 e1 => s_ret (ev_isNt (ev_var rfl)) fun H2 e2 => q H2 (e1.trans e2)) (fun z => nomatch z)
      | int i =>
        cases hU
        refine q_when (b := false) (et_test (ev_isNf (ev_var rfl))) (fun z => nomatch z) fun _ H1 e1 => ?_
        refine q_when (b := false) (et_B (ev_isi (K := K) (a := "int") (ev_var rfl) (fun _ _ => .base (.int i)) (by decide +kernel))) (fun z => nomatch z) fun _ H2 e2 => ?_
        refine q_when (b := false) (et_B (ev_isi (K := K) (a := "int") (ev_var rfl) (fun _ _ => .base (.int i)) (by decide +kernel))) (fun z => nomatch z) fun _ H3 e3 => ?_
        refine s_ret (v := .bl true) (ev_is (ev_andV (a := true) (b := true) (ev_isi (K := K) (a := "int") (ev_var rfl) (fun _ _ => .base (.int i)) (by decide +kernel)) fun _ => ev_is (ev_andV (a := true) (b := true) (ev_is (ev_notV (ev_isi (K := K) (a := "int") (r := false) (ev_var rfl) (fun _ _ => .base (.int i)) (by decide +kernel))) rfl) fun _ => ev_is (ev_eqI (ev_var rfl) (ev_var rfl)) (congrArg V.bl (decide_eq_true rfl))) rfl) rfl) fun H4 e4 => q H4 (((e1.trans e2).trans e3).trans e4)
      | str z =>
        cases hU
        refine q_when (b := false) (et_test (ev_isNf (ev_var rfl))) (fun z => nomatch z) fun _ H1 e1 => ?_
        refine q_when (b := false) (et_B (ev_isi (K := K) (a := "str") (ev_var rfl) (fun _ _ => .base (.str z)) (by decide +kernel))) (fun z => nomatch z) fun _ H2 e2 => ?_
        refine q_when (b := true) (et_B (ev_isi (K := K) (a := "str") (ev_var rfl) (fun _ _ => .base (.str z)) (by decide +kernel))) (fun _ H3 e3 => ?_) (fun z => nomatch z)
        refine s_ret (v := .bl true) (ev_is (ev_andV (a := true) (b := true) (ev_isi (K := K) (a := "str") (ev_var rfl) (fun _ _ => .base (.str z)) (by decide +kernel)) fun _ => ev_is (ev_eqS (ev_var rfl) (ev_var rfl)) (congrArg V.bl (decide_eq_true rfl))) rfl) fun H4 e4 => q H4 (((e1.trans e2).trans e3).trans e4)
      | @tup a xs ds hS r =>
        cases hU with
        | @tup b ys _ hS2 r2 =>
        have lx := r.len
        have ly := r2.len
        have hz := hf.1
        refine q_when (b := false) (et_test (ev_isNf (ev_var rfl))) (fun z => nomatch z) fun _ H1 e1 => ?_
        refine q_when (b := true) (et_B (ev_isi (K := K) (a := "tuple") (ev_var rfl) (fun H2 e2 => tyx_tup (ex_t (e1.trans e2) hS)) (by decide +kernel))) (fun _ H2 e2 => ?_) (fun z => nomatch z)
        have E2 := e1.trans e2
        refine q_when (b := false) (et_is (et_or (a := false) (b := false) (et_is (et_not (et_B (ev_isi (K := K) (a := "tuple") (r := true) (ev_var rfl) (fun H3 e3 => tyx_tup (ex_t (E2.trans e3) hS2)) (by decide +kernel)))) rfl) fun _ => et_is (et_test (ev_neI (ev_lenT (K := K) (ev_var rfl) (ex_t E2 hS2)) (ev_lenT (K := K) (ev_var rfl) (ex_t E2 hS)))) (by rw [lx, ly]; simp)) rfl) (fun z => nomatch z) fun _ H3 e3 => ?_
        have E3 := E2.trans e3
        refine q_forR1 (n := (ds.length : Int)) (ea_cons (ev_is (ev_lenT (K := K) (ev_var rfl) (ex_t E3 hS)) (by rw [lx])) ea_nil) (by omega) (fun i σ' H' => ∃ kv : Option V, σ' = [some (.ref b), some (.ref a), kv] ∧ Ex H H')
          (fun H4 e4 => ⟨none, rfl, E3.trans e4⟩) (fun i σ' H' hi hP => ?_) (fun σ' H' hP => ?_)
        · obtain ⟨kv, rfl, eH⟩ := hP
          have hi2 : i < ds.length := by omega
          obtain ⟨v1, d1, h1, h2, h3⟩ := r.get hi2
          obtain ⟨v2, d2, g1, g2, g3⟩ := r2.get hi2
          have ed : d1 = d2 := Option.some.inj (h2.symm.trans g2)
          subst ed
          have hm : d1 ∈ ds := List.mem_of_getElem? h2
          refine s_when (b := false) (et_is (et_not (et_B (ev_call (ea_cons (ev_ixT (K := K) (ev_var rfl) (ev_var rfl) (ex_t eH hS2) (at_nat g1)) (ea_cons (ev_ixT (K := K) (ev_var rfl) (ev_var rfl) (ex_t eH hS) (at_nat h1)) ea_nil)) (cv_same (g3.mono eH) (h3.mono eH) (hf.2 d1 hm))))) rfl) (fun z => nomatch z) fun _ H4 e4 => ⟨_, rfl, eH.trans e4⟩
        · obtain ⟨kv, rfl, eH⟩ := hP
          exact s_ret ev_c fun H4 e4 => q H4 (eH.trans e4)
theorem ok_law_same (T : Txt K mg P) : FnOk P w K mg base CX0 14 T.f_law_same T.d_law_same ["actual", "expected"] (spSame K 13) := ok_law_same_at T 13
theorem ev_sameD {K : PySem.W.Frag} {E1 E2 : XK} {n : Nat} {σ : L2.St} {H : Hp} {te tv : TE} {v : V} {d : It} (ht : Ev te σ H (.str ⟨(encC d).toArray⟩)) (hv : Ev tv σ H v) (hD : Dv K H v d) (hf : d.fit 12) (hn : 12 ≤ n) (hz : (encC d).length ≤ 16000000) : Ev (tCall (spSame K n) [] E1 (tCons (tCall (spDec K) [] E2 (tCons te tNil)) (tCons tv tNil))) σ H (.bl true) := fun H1 e Q q =>
  ht H1 e _ fun H2 e2 => ⟨_, d, rfl, rfl, hf, hz, fun u H3 e3 hu => hv H3 ((e.trans e2).trans e3) _ fun H4 e4 => ⟨u, v, d, rfl, hu.mono e4, hD.mono (((e.trans e2).trans e3).trans e4), It.fit_mono hf hn, fun H5 e5 => q H5 (((e2.trans e3).trans e4).trans e5)⟩⟩
/-- against a pair made anew -/
theorem ev_samP {K : PySem.W.Frag} {E : XK} {n : Nat} {σ : L2.St} {H : Hp} {ta tb : TE} {u : V} {xs : List V} {ds : List It} (ha : Ev ta σ H u) (hb : EvU tb σ H xs) (hD : Dv K H u (.tup ds)) (hL : DvL K H xs ds) (hf : It.fit n (.tup ds)) : Ev (tCall (spSame K n) [] E (tCons ta (tCons tb tNil))) σ H (.bl true) := fun H1 e Q q =>
  ha H1 e _ fun H2 e2 => hb H2 (e.trans e2) _ fun p H3 _ e3 hp => ⟨u, .ref p, .tup ds, rfl, hD.mono ((e.trans e2).trans e3), .tup (st_of hp) (hL.mono ((e.trans e2).trans e3)), hf, fun H4 e4 => q H4 ((e2.trans e3).trans e4)⟩


/-! ### Book.address -/
def spBkA (C : Addr) : Sp := fun vs H Q _ => ∃ (p d : Addr) (kvs : List (Key × V)) (z : Str), vs = [.ref p, .str z] ∧ BkAt C H p d kvs ∧ kvs.length ≤ 90000 ∧ ∀ v H', valV (addK kvs z) (Sum.inr z : Key) = some v → H' d = some (.dK (addK kvs z)) → (∀ b o, H b = some o → b ≠ d → H' b = some o) → Q v H'
theorem ok_Book_address (T : Txt K mg P) : FnOk P w K mg base CX0 1 T.f_Book_address T.d_Book_address ["self", "text"] (spBkA T.C_Book) := by
  refine T.F_Book_address.ok sc_Book_address (fun vs H Q E h => ?_) (fun cdv A outer s H vs Q E hr h => ?_)
  · obtain ⟨p, d, kvs, z, rfl, _⟩ := h
    rfl
  · obtain ⟨p, d, kvs, z, rfl, ⟨⟨dx, hp⟩, hd⟩, hl, q⟩ := h
    have hu := hu_of hr
    have npd : p ≠ d := ne_of hp hd (by intro z; cases z)
    refine ⟨_, pss_cons (ps_if (pt_cmp (pc_dnotin hu (pv 1) (pe_fld (pv 0) rfl)))
      (pss_one (ps_dput hu (pe_fld (pv 0) rfl) (pv 1) (pe_op op_add (pe_callB call_lenD (by rfl) T.m_len (by decide +kernel) (pa_cons (pe_fld (pv 0) rfl) (pa_nil))) (pe_int)) rfl))
      (pss_nil))
      (pss_one (ps_ret (pe_dget hu (pe_fld (pv 0) rfl) (pv 1) (fun _ _ => rfl)))), ?_⟩
    refine ⟨_, rfl, _, rfl, p, T.C_Book, dx, _, _, rfl, hp, T.cl_Book, T.na_Book__addresses, aF_get d, d, _, rfl, DGet.k (k := Sum.inr z) hd, ?_⟩
    cases e : valV kvs (Sum.inr z : Key) with
    | some v =>
      refine ⟨_, rfl, ?_⟩
      refine iteF ?_
      have ea := addK_some e
      refine ⟨_, rfl, p, T.C_Book, dx, _, _, rfl, hp, T.cl_Book, T.na_Book__addresses, aF_get d, _, rfl, d, v, rfl, ?_, ?_⟩
      · rw [← e]
        exact DGet.k (k := Sum.inr z) hd
      · exact q v H (by rw [ea]; exact e) (by rw [ea]; exact hd) fun b o h _ => h
    | none =>
      refine ⟨_, rfl, ?_⟩
      refine iteT ?_
      have ea := addK_none e
      refine ⟨_, rfl, p, T.C_Book, dx, _, _, rfl, hp, T.cl_Book, T.na_Book__addresses, aF_get d, d, kvs, rfl, hd, _, _, rfl, rfl, ?_⟩
      refine ⟨_, rfl, p, T.C_Book, dx, _, _, rfl, hp, T.cl_Book, T.na_Book__addresses, aF_get d, _, rfl, d, _, rfl, DPut.k (k := Sum.inr z) hd (sz_lt (by omega)), ?_⟩
      have hp' : (upd H d (.dK (putK kvs (Sum.inr z : Key) (.int ((kvs.length : Int) + 1))))) p = some (.ins T.C_Book dx (aF d)) := by rw [upd_ne npd]; exact hp
      refine ⟨_, rfl, p, T.C_Book, dx, _, _, rfl, hp', T.cl_Book, T.na_Book__addresses, aF_get d, _, rfl, d, .int ((kvs.length : Int) + 1), rfl, ?_, ?_⟩
      · have := DGet.k (k := Sum.inr z) (upd_same (H := H) (a := d) (o := .dK (putK kvs (Sum.inr z : Key) (.int ((kvs.length : Int) + 1)))))
        rw [valV_put, if_pos rfl] at this
        exact this
      · exact q _ _ (by rw [ea, valV_put, if_pos rfl]) (by rw [ea]; exact upd_same) fun b o h hb => by rw [upd_ne hb]; exact h


/-! ### Chunks.put -/
def spCkP (C CB : Addr) : Sp := fun vs H Q _ => ∃ (p b t d : Addr) (r : Int) (kvs ks : List (Key × V)) (z : Str), vs = [.ref p, .str z] ∧ CkAt C H p b t r kvs ∧ BkAt CB H b d ks ∧ Nums ks ∧ d ≠ t ∧ ks.length ≤ 90000 ∧ kvs.length ≤ 90000 ∧
  ∀ (n : Int) H', valV (addK ks z) (Sum.inr z : Key) = some (.int n) → H' d = some (.dK (addK ks z)) → H' t = some (.dK (putK kvs (Sum.inl n : Key) (.str z))) → But [d, t] H H' → Q (.int n) H'
theorem ok_Chunks_put (T : Txt K mg P) : FnOk P w K mg base CX0 2 T.f_Chunks_put T.d_Chunks_put ["self", "text"] (spCkP T.C_Chunks T.C_Book) := by
  refine T.F_Chunks_put.ok sc_Chunks_put (fun vs H Q E h => ?_) (fun cdv A outer s H vs Q E hr h => ?_)
  · obtain ⟨p, b, t, d, r, kvs, ks, z, rfl, _⟩ := h
    rfl
  · obtain ⟨p, b, t, d, r, kvs, ks, z, rfl, ⟨⟨dx, hp⟩, ht⟩, ⟨⟨bx, hb⟩, hd⟩, hn, ndt, hl, hl2, q⟩ := h
    have hu := hu_of hr
    have npd : p ≠ d := ne_of hp hd (by intro z; cases z)
    have npt : p ≠ t := ne_of hp ht (by intro z; cases z)
    refine ⟨_, pss_cons (ps_set (i := 2) sc_Chunks_put.nd rfl (by first | exact Or.inl rfl | exact Or.inr rfl) (pe_meth (pe_fld (pv 0) rfl) T.cl_Book T.me_Book_address (ok_Book_address T) (hr.mono (by first | decide | omega)) T.b_Book_address .nil pass0 (pa_cons (pv 1) (pa_nil))))
      (pss_cons (ps_dput hu (pe_fld (pv 0) rfl) (pv 2) (pv 1) rfl)
      (pss_one (ps_ret (pv 2)))), ?_⟩
    refine ⟨_, rfl, p, T.C_Chunks, dx, _, _, rfl, hp, T.cl_Chunks, T.na_Chunks_book, cF_book b r t, ?_⟩
    refine ⟨b, bx, _, rfl, hb, aF_no _ (by decide +kernel), _, rfl, b, d, ks, z, rfl, ⟨⟨bx, hb⟩, hd⟩, hl, fun v H1 hv hd1 f1 => ?_⟩
    obtain ⟨n, hn2⟩ := addK_val hn z
    obtain rfl : v = .int n := Option.some.inj (hv.symm.trans hn2)
    have hp1 := f1 _ _ hp npd
    have ht1 := f1 _ _ ht ndt.symm
    refine ⟨_, rfl, _, rfl, p, T.C_Chunks, dx, _, _, rfl, hp1, T.cl_Chunks, T.na_Chunks__texts, cF_texts b r t, _, rfl, t, _, rfl, DPut.k (k := Sum.inl n) ht1 (sz_lt (by omega)), ?_⟩
    refine ⟨_, rfl, q n _ hv (by rw [upd_ne ndt]; exact hd1) upd_same fun c o e nc => ?_⟩
    have c1 : c ≠ d := fun z => nc (by rw [z]; exact List.mem_cons_self)
    have c2 : c ≠ t := fun z => nc (by rw [z]; exact List.mem_cons_of_mem _ List.mem_cons_self)
    rw [upd_ne c2]
    exact f1 _ _ e c1


/-! ### encode -/
theorem ok_encode_at (T : Txt K mg P) : ∀ n : Nat, FnOk P w K mg base CX0 (n + 1) T.f_encode T.d_encode ["item"] (spEnc K n)
  | 0 => by
    refine T.F_encode.ok sc_encode (fun vs H Q E h => ?_) (fun cdv A outer s H vs Q E hr h => ?_)
    · obtain ⟨v, d, rfl, _⟩ := h
      rfl
    · obtain ⟨v, d, rfl, hD, hf, hz, q⟩ := h
      refine ⟨_, pss_cons (ps_if (pt_cmpR op_isN (pv 0) (pe_non) (nomark _))
      (pss_one (ps_ret (pe_str)))
      (pss_nil))
      (pss_cons (ps_if (pt_val (pe_callB (r := rIsi K) call_isi (by rfl) T.m_isinstance (by decide +kernel) (pa_cons (pv 0) (pa_cons (pe_bltn (v := .ty "int") (by rfl) T.m_int (by decide +kernel) rfl) (pa_nil)))))
      (pss_one (ps_ret (pe_joined (.cons (pe_str) (.cons (pe_fmt (pv 0)) (.cons (pe_str) (.nil)))))))
      (pss_nil))
      (pss_cons (ps_if (pt_val (pe_callB (r := rIsi K) call_isi (by rfl) T.m_isinstance (by decide +kernel) (pa_cons (pv 0) (pa_cons (pe_bltn (v := .ty "str") (by rfl) T.m_str (by decide +kernel) rfl) (pa_nil)))))
      (pss_one (ps_ret (pe_joined (.cons (pe_str) (.cons (pe_fmt (pe_callB call_len_str (by rfl) T.m_len (by decide +kernel) (pa_cons (pv 0) (pa_nil)))) (.cons (pe_str) (.cons (pe_fmt (pv 0)) (.nil))))))))
      (pss_nil))
      (pss_one (ps_never)))), ?_⟩
      cases hD with
      | tup hS r => exact hf.elim
      | non => exact q_when (b := true) (et_test (ev_isNt (ev_var rfl))) (fun _ H1 e1 => s_ret ev_c fun H2 e2 => q H2 (e1.trans e2)) (fun z => nomatch z)
      | int i =>
        refine q_when (b := false) (et_test (ev_isNf (ev_var rfl))) (fun z => nomatch z) fun _ H1 e1 => ?_
        refine q_when (b := true) (et_B (ev_isi (K := K) (a := "int") (ev_var rfl) (fun _ _ => .base (.int i)) (by decide +kernel))) (fun _ H2 e2 => ?_) (fun z => nomatch z)
        exact enc_int hf hz fun H3 e3 => q H3 ((e1.trans e2).trans e3)
      | str z =>
        refine q_when (b := false) (et_test (ev_isNf (ev_var rfl))) (fun z => nomatch z) fun _ H1 e1 => ?_
        refine q_when (b := false) (et_B (ev_isi (K := K) (a := "str") (ev_var rfl) (fun _ _ => .base (.str z)) (by decide +kernel))) (fun z => nomatch z) fun _ H2 e2 => ?_
        refine q_when (b := true) (et_B (ev_isi (K := K) (a := "str") (ev_var rfl) (fun _ _ => .base (.str z)) (by decide +kernel))) (fun _ H3 e3 => ?_) (fun z => nomatch z)
        exact enc_str hf hz fun H4 e4 => q H4 (((e1.trans e2).trans e3).trans e4)
  | n + 1 => by
    have IH := ok_encode_at T n
    refine T.F_encode.ok sc_encode (fun vs H Q E h => ?_) (fun cdv A outer s H vs Q E hr h => ?_)
    · obtain ⟨v, d, rfl, _⟩ := h
      rfl
    · obtain ⟨v, d, rfl, hD, hf, hz, q⟩ := h
      refine ⟨_, pss_cons (ps_if (pt_cmpR op_isN (pv 0) (pe_non) (nomark _))
      (pss_one (ps_ret (pe_str)))
      (pss_nil))
      (pss_cons (ps_if (pt_val (pe_callB (r := rIsi K) call_isi (by rfl) T.m_isinstance (by decide +kernel) (pa_cons (pv 0) (pa_cons (pe_bltn (v := .ty "int") (by rfl) T.m_int (by decide +kernel) rfl) (pa_nil)))))
      (pss_one (ps_ret (pe_joined (.cons (pe_str) (.cons (pe_fmt (pv 0)) (.cons (pe_str) (.nil)))))))
      (pss_nil))
      (pss_cons (ps_if (pt_val (pe_callB (r := rIsi K) call_isi (by rfl) T.m_isinstance (by decide +kernel) (pa_cons (pv 0) (pa_cons (pe_bltn (v := .ty "str") (by rfl) T.m_str (by decide +kernel) rfl) (pa_nil)))))
      (pss_one (ps_ret (pe_joined (.cons (pe_str) (.cons (pe_fmt (pe_callB call_len_str (by rfl) T.m_len (by decide +kernel) (pa_cons (pv 0) (pa_nil)))) (.cons (pe_str) (.cons (pe_fmt (pv 0)) (.nil))))))))
      (pss_nil))
      (pss_one (ps_ret (pe_op op_add_str (pe_op op_add_str (pe_str) (pe_join (pe_str) (pe_lc (own := [("part", 1)]) (g := gName 1) (tt := tYes) rfl sc_encode.nd (pi_tup (pv 0)) (blkOk_by (N := ["item", "part"]) (sc := defScope s_encode) (by decide +kernel)) (fun _ _ _ _ _ => pg_name (i := 1) sc_encode.nd rfl (Or.inl rfl)) (fun _ _ _ _ _ => pts_nil) (fun _ _ _ _ _ => pe_call IH (hr.mono (by omega)) (by rfl) T.g_encode T.F_encode.kp T.b_encode .nil pass0 (pa_cons (pv 1) (pa_nil)))))) (pe_str)))))), ?_⟩
      cases hD with
      | non => exact q_when (b := true) (et_test (ev_isNt (ev_var rfl))) (fun _ H1 e1 => s_ret ev_c fun H2 e2 => q H2 (e1.trans e2)) (fun z => nomatch z)
      | int i =>
        refine q_when (b := false) (et_test (ev_isNf (ev_var rfl))) (fun z => nomatch z) fun _ H1 e1 => ?_
        refine q_when (b := true) (et_B (ev_isi (K := K) (a := "int") (ev_var rfl) (fun _ _ => .base (.int i)) (by decide +kernel))) (fun _ H2 e2 => ?_) (fun z => nomatch z)
        exact enc_int hf hz fun H3 e3 => q H3 ((e1.trans e2).trans e3)
      | str z =>
        refine q_when (b := false) (et_test (ev_isNf (ev_var rfl))) (fun z => nomatch z) fun _ H1 e1 => ?_
        refine q_when (b := false) (et_B (ev_isi (K := K) (a := "str") (ev_var rfl) (fun _ _ => .base (.str z)) (by decide +kernel))) (fun z => nomatch z) fun _ H2 e2 => ?_
        refine q_when (b := true) (et_B (ev_isi (K := K) (a := "str") (ev_var rfl) (fun _ _ => .base (.str z)) (by decide +kernel))) (fun _ H3 e3 => ?_) (fun z => nomatch z)
        exact enc_str hf hz fun H4 e4 => q H4 (((e1.trans e2).trans e3).trans e4)
      | @tup a xs ds hS r =>
        refine q_when (b := false) (et_test (ev_isNf (ev_var rfl))) (fun z => nomatch z) fun _ H1 e1 => ?_
        refine q_when (b := false) (et_B (ev_isi (K := K) (a := "tuple") (ev_var rfl) (fun H2 e2 => tyx_tup (ex_t (e1.trans e2) hS)) (by decide +kernel))) (fun z => nomatch z) fun _ H2 e2 => ?_
        refine q_when (b := false) (et_B (ev_isi (K := K) (a := "tuple") (ev_var rfl) (fun H3 e3 => tyx_tup (ex_t ((e1.trans e2).trans e3) hS)) (by decide +kernel))) (fun z => nomatch z) fun _ H3 e3 => ?_
        refine s_ret (ev_parts (K := K) (ev_var rfl) (ex_t ((e1.trans e2).trans e3) hS) (r.mono ((e1.trans e2).trans e3)) hf hz (fun x => rfl) fun x d H4 e4 hd hf2 hz2 => ev_call (ea_cons (ev_var rfl) ea_nil) (cv_enc hd hf2 hz2)) fun H4 e4 => q H4 (((e1.trans e2).trans e3).trans e4)
theorem ok_encode (T : Txt K mg P) : FnOk P w K mg base CX0 7 T.f_encode T.d_encode ["item"] (spEnc K 6) := ok_encode_at T 6


/-! ### digest -/
theorem ok_digest (T : Txt K mg P) : FnOk P w K mg base CX0 1 T.f_digest T.d_digest ["text"] spDig := by
  refine T.F_digest.ok sc_digest (fun vs H Q E h => ?_) (fun cdv A outer s H vs Q E hr h => ?_)
  · obtain ⟨z, rfl, _⟩ := h
    rfl
  · obtain ⟨z, rfl, q⟩ := h
    refine ⟨_, pss_cons (ps_set (i := 1) sc_digest.nd rfl (by first | exact Or.inl rfl | exact Or.inr rfl) (pe_int))
      (pss_cons (ps_for PassesOwn.never rfl (pi_str (pv 0)) (pg_name (i := 2) sc_digest.nd rfl (by first | exact Or.inl rfl | exact Or.inr rfl))
      (pss_one (ps_set (i := 1) sc_digest.nd rfl (by first | exact Or.inl rfl | exact Or.inr rfl) (pe_op op_mod (pe_op op_add (pe_op op_mulX (pe_int) (pv 1)) (pe_callB call_ord (by rfl) T.m_ord (by decide +kernel) (pa_cons (pv 2) (pa_nil)))) (pe_int)))))
      (pss_one (ps_ret (pv 1)))), ?_⟩
    refine q_asg ev_c fun H1 e1 => ?_
    refine q_forS (ev_var rfl) (fun i σ' H' => ∃ cv : Option V, σ' = [some (.str z), some (.int (digZ (z.cps.toList.take i))), cv] ∧ Ex H H') (fun H2 e2 => ⟨none, rfl, e1.trans e2⟩) (fun i c σ' H' hc hP => ?_) (fun σ' H' hP => ?_)
    · obtain ⟨cv, rfl, eH⟩ := hP
      have hd := digZ_ge (z.cps.toList.take i)
      refine s_asg (v := .int (digZ (z.cps.toList.take (i + 1)))) ?_ fun H2 e2 => ⟨some (.str ⟨#[c]⟩), rfl, eH.trans e2⟩
      rw [digZ_succ hc]
      exact ev_bin (ev_bin0 (ev_bin ev_c (ev_var rfl) (Wd.mul (Wd.lit (by decide)) (Wd.small (by omega) (by omega)))) (ev_ordS (ev_var rfl))) ev_c (by decide)
    · obtain ⟨cv, rfl, eH⟩ := hP
      rw [List.take_length]
      exact s_ret (ev_var rfl) fun H2 e2 => q H2 (eH.trans e2)


/-! ### ends_chunk -/
def endsZ (level : Int) (d : It) (count : Int) : Bool := if count = 8 then true else if 0 < level ∧ count < 2 then false else decide (digZ (encC (.tup [.int level, d])) % 4 = 0)
theorem fit_pair {level : Int} {d : It} (hl : -(10 ^ 60) < level ∧ level < 10 ^ 60) {n : Nat} (hd : d.fit n) : It.fit (n + 1) (.tup [.int level, d]) := by
  refine ⟨by show 2 ≤ 1000; decide, fun y hy => ?_⟩
  simp only [List.mem_cons, List.not_mem_nil, or_false] at hy
  rcases hy with e | e
  · subst e
    cases n <;> exact hl
  · subst e
    exact hd
theorem pair_len {level : Int} {d : It} (hl : -(10 ^ 60) < level ∧ level < 10 ^ 60) (hd : (encC d).length ≤ 15000000) : (encC (.tup [.int level, d])).length ≤ 16000000 := by
  have h1 := enc_int_len (log60 hl)
  rw [enc_tup_len]
  show (encC (.int level) ++ (encC d ++ [])).length + 2 ≤ _
  rw [List.length_append, List.append_nil]
  omega
/-- key: an item of the heap -/
def spEnds (K : PySem.W.Frag) : Sp := fun vs H Q _ => ∃ (level count : Int) (kv : V) (d : It), vs = [.int level, kv, .int count] ∧ Dv K H kv d ∧ d.fit 1 ∧ (encC d).length ≤ 15000000 ∧ (-(10 ^ 60) < level ∧ level < 10 ^ 60) ∧ ∀ H', Ex H H' → Q (.bl (endsZ level d count)) H'
theorem cv_ends {level count : Int} {kv : V} {d : It} {H : Hp} (h : Dv K H kv d) (hf : d.fit 1) (hz : (encC d).length ≤ 15000000) (hl : -(10 ^ 60) < level ∧ level < 10 ^ 60) : SpV (spEnds K) [.int level, kv, .int count] H (.bl (endsZ level d count)) := fun H1 e Q q E => ⟨level, count, kv, d, rfl, h.mono e, hf, hz, hl, fun H2 e2 => q H2 e2⟩
/-- f(g((level, key))): a pair is laid, written, and its digest taken -/
theorem ev_digPair {K : PySem.W.Frag} {σ : L2.St} {H : Hp} {ta tb : TE} {E E2 : XK} {level : Int} {kv : V} {d : It} (ha : Ev ta σ H (.int level)) (hb : Ev tb σ H kv) (h : Dv K H kv d) (hf : d.fit 1) (hz : (encC d).length ≤ 15000000) (hl : -(10 ^ 60) < level ∧ level < 10 ^ 60) :
    Ev (tCall spDig [] E (tCons (tCall (spEnc K 6) [] E2 (tCons (tTup (tCons ta (tCons tb tNil))) tNil)) tNil)) σ H (.int (digZ (encC (.tup [.int level, d])))) := by
  have h2 : Ev (tCall (spEnc K 6) [] E2 (tCons (tTup (tCons ta (tCons tb tNil))) tNil)) σ H (.str ⟨(encC (.tup [.int level, d])).toArray⟩) :=
    ev_callU (eu_tup (ea_cons ha (ea_cons hb ea_nil)) (by show 2 ≤ 100000; decide)) fun p H2 hp e2 => cv_enc (K := K) (n := 6) (.tup (st_of hp) (.cons (.int level) (.cons (h.mono e2) .nil))) (It.fit_mono (fit_pair hl hf) (by decide)) (pair_len hl hz)
  exact ev_call (ea_cons h2 ea_nil) cv_dig
theorem ok_ends_chunk (T : Txt K mg P) : FnOk P w K mg base CX0 8 T.f_ends_chunk T.d_ends_chunk ["level", "key", "count"] (spEnds K) := by
  refine T.F_ends_chunk.ok sc_ends_chunk (fun vs H Q E h => ?_) (fun cdv A outer s H vs Q E hr h => ?_)
  · obtain ⟨l, c, kv, d, rfl, _⟩ := h
    rfl
  · obtain ⟨l, c, kv, d, rfl, hD, hf, hz, hl, q⟩ := h
    unfold endsZ at q
    refine ⟨_, pss_cons (ps_if (pt_cmpR op_eq (pv 2) (pe_glob (v := .int 8) rfl T.k_MOST_ENTRIES ⟨_, rfl⟩) (nomark _))
      (pss_one (ps_ret (pe_bl)))
      (pss_nil))
      (pss_cons (ps_if (PW.pt (pw_and (pt_cmpR op_gt (pv 0) (pe_int) (nomark _)) (pw_and1 (pt_cmpR op_lt (pv 2) (pe_int) (nomark _)))))
      (pss_one (ps_ret (pe_bl)))
      (pss_nil))
      (pss_one (ps_ret (pe_cmpR op_eq (pe_op op_mod (pe_call (ok_digest T) (hr.mono (by first | decide | omega)) (by rfl) T.g_digest T.F_digest.kp T.b_digest .nil pass0 (pa_cons (pe_call (ok_encode T) (hr.mono (by first | decide | omega)) (by rfl) T.g_encode T.F_encode.kp T.b_encode .nil pass0 (pa_cons (pe_tup (pa_cons (pv 0) (pa_cons (pv 1) (pa_nil)))) (pa_nil))) (pa_nil))) (pe_int)) (pe_int) (nomark _))))), ?_⟩
    refine q_when (et_test (ev_eqI (ev_var rfl) ev_c)) (fun hb H1 e1 => ?_) (fun hb H1 e1 => ?_)
    · rw [if_pos (of_decide_eq_true hb)] at q
      exact s_ret ev_c fun H2 e2 => q H2 (e1.trans e2)
    rw [if_neg (of_decide_eq_false hb)] at q
    refine q_when (et_and (et_test (ev_bin0 (ev_var rfl) ev_c)) fun _ => et_test (ev_bin0 (ev_var rfl) ev_c)) (fun hb H2 e2 => ?_) (fun hb H2 e2 => ?_)
    · rw [if_pos (by simpa using hb)] at q
      exact s_ret ev_c fun H3 e3 => q H3 ((e1.trans e2).trans e3)
    · rw [if_neg (by simpa using hb)] at q
      exact s_ret (ev_eqI (ev_bin (ev_digPair (K := K) (ev_var rfl) (ev_var rfl) (hD.mono (e1.trans e2)) hf hz hl) ev_c (by decide)) ev_c) fun H3 e3 => q H3 ((e1.trans e2).trans e3)


/-! ### _sign_at -/
def spSign : Sp := fun vs H Q _ => ∃ (z : Str) (i c : Nat), vs = [.str z, .int (i : Int)] ∧ z.length ≤ 16000000 ∧ z.cps.toList[i]? = some c ∧ ∀ H', Ex H H' → Q (.str ⟨#[c]⟩) H'
theorem cv_sign {z : Str} {i c : Nat} {H : Hp} (hz : z.length ≤ 16000000) (h : z.cps.toList[i]? = some c) : SpV spSign [.str z, .int (i : Int)] H (.str ⟨#[c]⟩) := fun H1 e Q q E => ⟨z, i, c, rfl, hz, h, fun H2 e2 => q H2 e2⟩
theorem ok_sign_at (T : Txt K mg P) : FnOk P w K mg base CX0 1 T.f_sign_at T.d_sign_at ["text", "index"] spSign := by
  refine T.F_sign_at.ok sc_sign_at (fun vs H Q E h => ?_) (fun cdv A outer s H vs Q E hr h => ?_)
  · obtain ⟨z, i, c, rfl, _⟩ := h
    rfl
  · obtain ⟨z, i, c, rfl, hz, hc, q⟩ := h
    have hl : i < z.length := by
      rw [str_len]
      exact (List.getElem?_eq_some_iff.mp hc).1
    refine ⟨_, pss_cons (ps_if (pt_cmpR op_eq (pv 1) (pe_callB call_len_str (by rfl) T.m_len (by decide +kernel) (pa_cons (pv 0) (pa_nil))) (nomark _))
      (pss_one (ps_never))
      (pss_nil))
      (pss_one (ps_ret (pe_ix ix_str (pv 0) (pv 1) (fun _ _ => rfl)))), ?_⟩
    refine q_when (b := false) (et_is (et_test (ev_eqI (ev_var rfl) (ev_lenB (ev_var rfl) (by omega)))) (decide_eq_false (by omega))) (fun z => nomatch z) fun _ H1 e1 => ?_
    exact s_ret (ev_ixB (ev_var rfl) (ev_var rfl) (by omega) (at_natS hc)) fun H2 e2 => q H2 (e1.trans e2)


/-! ### _end_of_digits -/
def spEnd : Sp := fun vs H Q _ => ∃ (z : Str) (a ds r : List Nat) (cl most : Nat), vs = [.str z, .int (a.length : Int), .int (most : Int), .str ⟨#[cl]⟩] ∧ z.length ≤ 16000000 ∧ z.cps.toList = a ++ (ds ++ (cl :: r)) ∧ Digs ds most ∧ ¬ (48 ≤ cl ∧ cl ≤ 57) ∧ ∀ H', Ex H H' → Q (.int ((a.length + ds.length : Nat) : Int)) H'
theorem cv_end {z : Str} {a ds r : List Nat} {cl most : Nat} {H : Hp} (hz : z.length ≤ 16000000) (h : z.cps.toList = a ++ (ds ++ (cl :: r))) (hd : Digs ds most) (hc : ¬ (48 ≤ cl ∧ cl ≤ 57)) : SpV spEnd [.str z, .int (a.length : Int), .int (most : Int), .str ⟨#[cl]⟩] H (.int ((a.length + ds.length : Nat) : Int)) := fun H1 e Q q E => ⟨z, a, ds, r, cl, most, rfl, hz, h, hd, hc, fun H2 e2 => q H2 e2⟩
theorem ok_end_of_digits (T : Txt K mg P) : FnOk P w K mg base CX0 2 T.f_end_of_digits T.d_end_of_digits ["text", "first", "most", "closing"] spEnd := by
  refine T.F_end_of_digits.ok sc_end_of_digits (fun vs H Q E h => ?_) (fun cdv A outer s H vs Q E hr h => ?_)
  · obtain ⟨z, a, ds, r, cl, most, rfl, _⟩ := h
    rfl
  · obtain ⟨z, a, ds, r, cl, most, rfl, hz, hl, hd, hcl, q⟩ := h
    have at1 : ∀ j, j ≤ ds.length → ∃ c, z.cps.toList[a.length + j]? = some c ∧ (j < ds.length → ds[j]? = some c) ∧ (j = ds.length → c = cl) := fun j hj => by
      rw [hl, List.getElem?_append_right (by omega), Nat.add_sub_cancel_left]
      by_cases h : j < ds.length
      · rw [List.getElem?_append_left h]
        exact ⟨ds[j], List.getElem?_eq_getElem h, fun _ => List.getElem?_eq_getElem h, fun z => by omega⟩
      · have : j = ds.length := by omega
        subst this
        rw [List.getElem?_append_right (by omega), Nat.sub_self]
        exact ⟨cl, rfl, fun z => absurd z h, fun _ => rfl⟩
    have h0 : 0 < ds.length := List.length_pos_iff.mpr hd.ne
    refine ⟨_, pss_cons (ps_set (i := 4) sc_end_of_digits.nd rfl (by first | exact Or.inl rfl | exact Or.inr rfl) (pv 1))
      (pss_cons (ps_set (i := 5) sc_end_of_digits.nd rfl (by first | exact Or.inl rfl | exact Or.inr rfl) (pe_call (ok_sign_at T) (hr.mono (by first | decide | omega)) (by rfl) T.g_sign_at T.F_sign_at.kp T.b_sign_at .nil pass0 (pa_cons (pv 0) (pa_cons (pv 4) (pa_nil)))))
      (pss_cons (ps_while PassesOwn.never (pt_chain op_le_str op_le_str (pe_str) (pv 5) (pe_str))
      (pss_cons (ps_set (i := 6) sc_end_of_digits.nd rfl (by first | exact Or.inl rfl | exact Or.inr rfl) (pe_op op_sub (pv 4) (pv 1)))
      (pss_cons (ps_if (PW.pt (pw_or (pt_cmpR op_eq (pv 6) (pv 2) (nomark _)) (pw_or1 (PW.pt (pw_and (pt_cmpR op_eq (pv 6) (pe_int) (nomark _)) (pw_and1 (pt_cmpR op_eq (pe_ix ix_str (pv 0) (pv 1) (fun _ _ => rfl)) (pe_str) (nomark _))))))))
      (pss_one (ps_never))
      (pss_nil))
      (pss_cons (ps_aug (i := 4) sc_end_of_digits.nd rfl (by first | exact Or.inl rfl | exact Or.inr rfl) (pe_int) ip_add)
      (pss_one (ps_set (i := 5) sc_end_of_digits.nd rfl (by first | exact Or.inl rfl | exact Or.inr rfl) (pe_call (ok_sign_at T) (hr.mono (by first | decide | omega)) (by rfl) T.g_sign_at T.F_sign_at.kp T.b_sign_at .nil pass0 (pa_cons (pv 0) (pa_cons (pv 4) (pa_nil))))))))))
      (pss_cons (ps_if (PW.pt (pw_or (pt_cmpR op_eq (pv 4) (pv 1) (nomark _)) (pw_or1 (pt_cmpR op_ne (pv 5) (pv 3) (nomark _)))))
      (pss_one (ps_never))
      (pss_nil))
      (pss_one (ps_ret (pv 4)))))), ?_⟩
    refine q_asg (ev_var rfl) fun H1 e1 => ?_
    obtain ⟨c0, hc0, _, _⟩ := at1 0 (Nat.zero_le _)
    refine q_asg (ev_call (ea_cons (ev_var rfl) (ea_cons (ev_var rfl) ea_nil)) (cv_sign (i := a.length) hz (by simpa using hc0))) fun H2 e2 => ?_
    refine q_while (fun m σ' H' => ∃ (j c : Nat) (cv : Option V), m = ds.length - j ∧ j ≤ ds.length ∧ σ' = [some (.str z), some (.int (a.length : Int)), some (.int (most : Int)), some (.str ⟨#[cl]⟩), some (.int ((a.length + j : Nat) : Int)), some (.str ⟨#[c]⟩), cv] ∧ z.cps.toList[a.length + j]? = some c ∧ Ex H H') ds.length ⟨0, c0, none, rfl, Nat.zero_le _, rfl, hc0, e1.trans e2⟩ (fun m σ' H' hW => ?_)
    obtain ⟨j, c, cv, rfl, hj, rfl, hc, eH⟩ := hW
    obtain ⟨c', hc', hin, hout⟩ := at1 j hj
    have ecc : c' = c := Option.some.inj (hc'.symm.trans hc)
    subst ecc
    refine ⟨_, et_dig (ev_var rfl), fun hb H3 e3 => ?_, fun hb H3 e3 => ?_⟩
    · have hdig := of_decide_eq_true hb
      have hjl : j < ds.length := by
        by_cases h : j < ds.length
        · exact h
        · have := hout (by omega)
          rw [this] at hdig
          exact absurd hdig hcl
      have hlen := hd.len
      obtain ⟨c2, hc2, _, _⟩ := at1 (j + 1) (by omega)
      refine ⟨fun σ' H' => ∃ cv : Option V, σ' = [some (.str z), some (.int (a.length : Int)), some (.int (most : Int)), some (.str ⟨#[cl]⟩), some (.int ((a.length + (j + 1) : Nat) : Int)), some (.str ⟨#[c2]⟩), cv] ∧ Ex H H', fun σ2 H2 hN => ?_, ?_⟩
      · obtain ⟨cv, rfl, eN⟩ := hN
        exact ⟨ds.length - (j + 1), by omega, j + 1, c2, cv, rfl, by omega, rfl, hc2, eN⟩
      · refine q_asg (v := .int (j : Int)) (ev_is (ev_bin0 (ev_var rfl) (ev_var rfl)) (congrArg V.int (by omega))) fun H4 e4 => ?_
        refine q_when (b := false) (et_is (et_or (a := false) (b := false) (et_is (et_test (ev_eqI (ev_var rfl) (ev_var rfl))) (decide_eq_false (by omega))) fun _ => ?_) rfl) (fun z => nomatch z) fun _ H5 e5 => ?_
        · by_cases h1 : j = 1
          · obtain ⟨d0, hd0, hin0, _⟩ := at1 0 (Nat.zero_le _)
            have hd0' := hin0 h0
            have hne : d0 ≠ 48 := fun z => by
              rcases hd.lead with h | h
              · omega
              · apply h
                rw [← z, List.head?_eq_getElem?]
                exact hd0'
            refine et_is (et_and (a := true) (b := false) (et_is (et_test (ev_eqI (ev_var rfl) ev_c)) (decide_eq_true (by omega))) fun _ => et_is (et_test (ev_eqS (ev_ixB (c := d0) (ev_var rfl) (ev_var rfl) (by omega) (at_natS (by simpa using hd0))) ev_c)) ?_) rfl
            have e0 : (Str.ofString "0") = ⟨#[48]⟩ := by decide +kernel
            rw [e0, str1_eq]
            exact decide_eq_false hne
          · exact et_is (et_and (a := false) (b := false) (et_is (et_test (ev_eqI (ev_var rfl) ev_c)) (decide_eq_false (by omega))) fun z => nomatch z) rfl
        · refine q_asgAug (b := 1) rfl ev_c fun H6 e6 => ?_
          have ei : (((a.length + j : Nat) : Int) + 1) = ((a.length + (j + 1) : Nat) : Int) := by omega
          rw [ei]
          exact s_asg (ev_call (ea_cons (ev_var rfl) (ea_cons (ev_var rfl) ea_nil)) (cv_sign hz hc2)) fun H7 e7 => ⟨some (.int (j : Int)), rfl, ((((eH.trans e3).trans e4).trans e5).trans e6).trans e7⟩
    · have hdig := of_decide_eq_false hb
      have hjl : j = ds.length := by
        by_cases h : j < ds.length
        · have := hd.all _ (List.mem_of_getElem? (hin h))
          exact absurd this hdig
        · omega
      have hcc := hout hjl
      subst hjl
      subst hcc
      refine q_when (b := false) (et_is (et_or (a := false) (b := false) (et_is (et_test (ev_eqI (ev_var rfl) (ev_var rfl))) (decide_eq_false (by omega))) fun _ => et_is (et_test (ev_neS (ev_var rfl) (ev_var rfl))) (by simp)) rfl) (fun z => nomatch z) fun _ H4 e4 => ?_
      exact s_ret (ev_var rfl) fun H5 e5 => q H5 (((eH.trans e3).trans e4).trans e5)


/-! ### _read_integer -/
/-- a pair (value, place) -/
def spPair (K : PySem.W.Frag) (d : It) (e : Int) (H : Hp) (Q : VK) : Prop := ∀ t H' v, Ex H H' → H' t = some (.tup [v, .int e]) → Dv K H' v d → Q (.ref t) H'
theorem eu_ret2 {σ : L2.St} {H : Hp} {ta tb : TE} {D : Ends} {x y : V} (ha : Ev ta σ H x) (hb : Ev tb σ H y) (k : ∀ t H1, Ex H H1 → H1 t = some (.tup [x, y]) → D.rt (.ref t) H1) : tRet (tTup (tCons ta (tCons tb tNil))) D σ H :=
  s_retU (eu_tup (ea_cons ha (ea_cons hb ea_nil)) (by show 2 ≤ 100000; decide)) fun t H1 _ e1 ht => k t H1 e1 ht
theorem ev_intT {σ : L2.St} {H : Hp} {te : TE} {z : Str} {n : Int} (h : Ev te σ H (.str z)) (hn : PySem.intText? z = some n) (hl : z.length ≤ 640) : Ev (tCB (fun xs H Q => ∃ a n, xs = [V.str a] ∧ PySem.intText? a = some n ∧ a.length ≤ 640 ∧ Q (.int n) H) (tCons te tNil)) σ H (.int n) := fun H1 e Q q =>
  h H1 e _ fun H2 e2 => ⟨z, n, rfl, hn, hl, q H2 e2⟩
def spRInt (K : PySem.W.Frag) : Sp := fun vs H Q _ => ∃ (z : Str) (a r : List Nat) (i : Int), vs = [.str z, .int (a.length : Int)] ∧ z.length ≤ 16000000 ∧ z.cps.toList = a ++ (numC i ++ (59 :: r)) ∧ (-(10 ^ 60) < i ∧ i < 10 ^ 60) ∧ spPair K (.int i) ((a.length + (numC i).length + 1 : Nat) : Int) H Q
theorem ok_read_integer (T : Txt K mg P) : FnOk P w K mg base CX0 3 T.f_read_integer T.d_read_integer ["text", "index"] (spRInt K) := by
  refine T.F_read_integer.ok sc_read_integer (fun vs H Q E h => ?_) (fun cdv A outer s H vs Q E hr h => ?_)
  · obtain ⟨z, a, r, i, rfl, _⟩ := h
    rfl
  · obtain ⟨z, a, r, i, rfl, hz, hl, hi, q⟩ := h
    obtain ⟨hti, htl⟩ := int_at hi
    have e60 : (10 : Int) ^ 60 = 1000000000000000000000000000000000000000000000000000000000000 := by decide
    have n60 : (10 : Nat) ^ 60 = 1000000000000000000000000000000000000000000000000000000000000 := by decide
    have e58 : (Str.ofString ";") = ⟨#[59]⟩ := by decide +kernel
    have e45 : (Str.ofString "-") = ⟨#[45]⟩ := by decide +kernel
    have e48 : (Str.ofString "0") = ⟨#[48]⟩ := by decide +kernel
    have cz := cutS_at hl
    refine ⟨_, pss_cons (ps_set (i := 2) sc_read_integer.nd rfl (by first | exact Or.inl rfl | exact Or.inr rfl) (pv 1))
      (pss_cut (ps_if (pt_cmpR op_eq (pe_call (ok_sign_at T) (hr.mono (by first | decide | omega)) (by rfl) T.g_sign_at T.F_sign_at.kp T.b_sign_at .nil pass0 (pa_cons (pv 0) (pa_cons (pv 1) (pa_nil)))) (pe_str) (nomark _))
      (pss_cons (ps_set (i := 2) sc_read_integer.nd rfl (by first | exact Or.inl rfl | exact Or.inr rfl) (pe_op op_add (pv 1) (pe_int)))
      (pss_one (ps_if (pt_cmpR op_eq (pe_call (ok_sign_at T) (hr.mono (by first | decide | omega)) (by rfl) T.g_sign_at T.F_sign_at.kp T.b_sign_at .nil pass0 (pa_cons (pv 0) (pa_cons (pv 2) (pa_nil)))) (pe_str) (nomark _))
      (pss_one (ps_never))
      (pss_nil))))
      (pss_nil))
      (pss_cons (ps_set (i := 3) sc_read_integer.nd rfl (by first | exact Or.inl rfl | exact Or.inr rfl) (pe_call (ok_end_of_digits T) (hr.mono (by first | decide | omega)) (by rfl) T.g_end_of_digits T.F_end_of_digits.kp T.b_end_of_digits .nil pass0 (pa_cons (pv 0) (pa_cons (pv 2) (pa_cons (pe_glob (v := .int 60) rfl T.k_MOST_DIGITS ⟨_, rfl⟩) (pa_cons (pe_str) (pa_nil)))))))
      (pss_one (ps_ret (pe_tup (pa_cons (pe_callTy call_int_str (by rfl) T.m_int (by decide +kernel) (pa_cons (pe_slice sl_str (pv 0) (po_some (pv 1)) (po_some (pv 3))) (pa_nil))) (pa_cons (pe_op op_add (pv 3) (pe_int)) (pa_nil)))))))), ?_⟩
    refine q_asg (ev_var rfl) fun H1 e1 => ?_
    refine q_cut (M := fun σ' H' => ∃ (b : List Nat) (n : Nat), σ' = [some (.str z), some (.int (a.length : Int)), some (.int (b.length : Int)), none] ∧ Ex H H' ∧ z.cps.toList = b ++ (TL.numL n ++ (59 :: r)) ∧ n < 10 ^ 60 ∧ b.length + (TL.numL n).length = a.length + (numC i).length) ?_ fun σ' H' hM => ?_
    · cases i with
      | ofNat n =>
        have hn : n < 10 ^ 60 := by
          rw [n60]
          have := hi.2
          rw [e60] at this
          have h2 : ((n : Nat) : Int) < 1000000000000000000000000000000000000000000000000000000000000 := this
          omega
        have el : z.cps.toList = a ++ (TL.numL n ++ (59 :: r)) := by
          rw [hl, show numC (Int.ofNat n) = TL.numL n from numC_nat n]
        cases ec : TL.numL n with
        | nil => exact absurd ec (TL.numL_ne n)
        | cons c cs =>
          have hc : z.cps.toList[a.length]? = some c := by
            rw [el, ec, List.getElem?_append_right (Nat.le_refl _), Nat.sub_self] <;> rfl
          have hdig := TL.numL_digits n c (by rw [ec]; exact List.mem_cons_self ..)
          refine s_when (b := false) (et_is (et_test (ev_eqS (ev_call (ea_cons (ev_var rfl) (ea_cons (ev_var rfl) ea_nil)) (cv_sign hz hc)) ev_c)) ?_) (fun z => nomatch z) fun _ H2 e2 => ⟨a, n, rfl, e1.trans e2, el, hn, by rw [show numC (Int.ofNat n) = TL.numL n from numC_nat n]⟩
          rw [e45, str1_eq]
          exact decide_eq_false (by omega)
      | negSucc n =>
        have hn : n + 1 < 10 ^ 60 := by
          rw [n60]
          have := hi.1
          rw [e60] at this
          omega
        have el0 : z.cps.toList = a ++ (45 :: (TL.numL (n + 1) ++ (59 :: r))) := by
          rw [hl, numC_neg] <;> rfl
        have el : z.cps.toList = (a ++ [45]) ++ (TL.numL (n + 1) ++ (59 :: r)) := by
          rw [el0, List.append_assoc] <;> rfl
        have hc : z.cps.toList[a.length]? = some 45 := by
          rw [el0, List.getElem?_append_right (Nat.le_refl _), Nat.sub_self] <;> rfl
        refine s_when (b := true) (et_is (et_test (ev_eqS (ev_call (ea_cons (ev_var rfl) (ea_cons (ev_var rfl) ea_nil)) (cv_sign hz hc)) ev_c)) (by rw [e45]; exact decide_eq_true rfl)) (fun _ H2 e2 => ?_) (fun z => nomatch z)
        refine q_asg (v := .int ((a ++ [45]).length : Int)) (ev_is (ev_bin0 (ev_var rfl) ev_c) (congrArg V.int (by rw [List.length_append] <;> rfl))) fun H3 e3 => ?_
        cases ec : TL.numL (n + 1) with
        | nil => exact absurd ec (TL.numL_ne (n + 1))
        | cons c cs =>
          have hc2 : z.cps.toList[(a ++ [45]).length]? = some c := by
            rw [el, ec, List.getElem?_append_right (Nat.le_refl _), Nat.sub_self] <;> rfl
          have hne : c ≠ 48 := fun z => by
            rcases numL_head (n + 1) with h | h
            · rw [ec] at h
              have hr : cs = [] := List.length_eq_zero_iff.mp (by simpa using h)
              have hv := TL.numL_val (n + 1)
              rw [ec, hr, z] at hv
              have : (0 : Nat) = n + 1 := hv
              omega
            · rw [ec, z] at h
              exact h rfl
          refine s_when (b := false) (et_is (et_test (ev_eqS (ev_call (ea_cons (ev_var rfl) (ea_cons (ev_var rfl) ea_nil)) (cv_sign hz hc2)) ev_c)) ?_) (fun z => nomatch z) fun _ H4 e4 => ⟨a ++ [45], n + 1, rfl, ((e1.trans e2).trans e3).trans e4, el, hn, ?_⟩
          · rw [e48, str1_eq]
            exact decide_eq_false hne
          · simp only [numC_neg, List.length_append, List.length_cons, List.length_nil]
            omega
    · obtain ⟨b, n, rfl, eM, el, hn, hlen⟩ := hM
      have dg : Digs (TL.numL n) 60 := digs_num (by decide) hn
      refine q_asg (v := .int ((b.length + (TL.numL n).length : Nat) : Int)) (ev_call (ea_cons (ev_var rfl) (ea_cons (ev_var rfl) (ea_cons ev_c (ea_cons (ev_is ev_c (congrArg V.str e58)) ea_nil)))) (cv_end (most := 60) hz el dg (by omega))) fun H2 e2 => ?_
      rw [hlen]
      refine eu_ret2 (ev_intT (ev_is (ev_slB (ev_var rfl) (eo_some (ev_var rfl)) (eo_some (ev_var rfl)) (by omega)) (congrArg V.str cz)) hti htl) (ev_is (ev_bin0 (ev_var rfl) ev_c) (congrArg V.int (show ((a.length + (numC i).length : Nat) : Int) + 1 = ((a.length + (numC i).length + 1 : Nat) : Int) by omega))) fun t H3 e3 ht => q t H3 (.int i) (eM.trans (e2.trans e3)) ht (.int i)


/-! ### _read_text -/
def spRText (K : PySem.W.Frag) : Sp := fun vs H Q _ => ∃ (z : Str) (a r : List Nat) (x : Str), vs = [.str z, .int (a.length : Int)] ∧ z.length ≤ 16000000 ∧ z.cps.toList = a ++ (numC (x.length : Int) ++ (58 :: (x.cps.toList ++ r))) ∧ x.length ≤ 999999 ∧ spPair K (.str x) ((a.length + (numC (x.length : Int)).length + 1 + x.length : Nat) : Int) H Q
theorem ok_read_text (T : Txt K mg P) : FnOk P w K mg base CX0 3 T.f_read_text T.d_read_text ["text", "index"] (spRText K) := by
  refine T.F_read_text.ok sc_read_text (fun vs H Q E h => ?_) (fun cdv A outer s H vs Q E hr h => ?_)
  · obtain ⟨z, a, r, x, rfl, _⟩ := h
    rfl
  · obtain ⟨z, a, r, x, rfl, hz, hl, hx, q⟩ := h
    have e58 : (Str.ofString ":") = ⟨#[58]⟩ := by decide +kernel
    have hx6 : x.length < 10 ^ 6 := by
      show x.length < 1000000
      omega
    have hn : numC (x.length : Int) = TL.numL x.length := numC_nat _
    rw [hn] at hl q
    have dg : Digs (TL.numL x.length) 6 := digs_num (by decide) hx6
    have d6 := dg.len
    have cz := cutS_at hl
    have hlen : z.length = a.length + ((TL.numL x.length).length + (1 + (x.length + r.length))) := by
      rw [str_len, hl, List.length_append, List.length_append, List.length_cons, List.length_append, ← str_len]
      omega
    have hl2 : z.cps.toList = (a ++ (TL.numL x.length ++ [58])) ++ (x.cps.toList ++ r) := by
      rw [hl]
      simp
    have la : (a ++ (TL.numL x.length ++ [58])).length = a.length + (TL.numL x.length).length + 1 := by
      rw [List.length_append, List.length_append, List.length_singleton]
      omega
    have cx := cutS_at hl2
    rw [la, ← str_len] at cx
    have ex : (⟨x.cps.toList.toArray⟩ : Str) = x := str_ext rfl
    rw [ex] at cx
    have hti : intText? (⟨(TL.numL x.length).toArray⟩ : Str) = some (x.length : Int) := by
      have e : (⟨(TL.numL x.length).toArray⟩ : Str) = Str.ofString (toString ((x.length : Nat) : Int)) := str_ext (TL.tl_num x.length).symm
      rw [e]
      exact TL.int_num (by omega)
    refine ⟨_, pss_cons (ps_set (i := 2) sc_read_text.nd rfl (by first | exact Or.inl rfl | exact Or.inr rfl) (pe_call (ok_end_of_digits T) (hr.mono (by first | decide | omega)) (by rfl) T.g_end_of_digits T.F_end_of_digits.kp T.b_end_of_digits .nil pass0 (pa_cons (pv 0) (pa_cons (pv 1) (pa_cons (pe_glob (v := .int 6) rfl T.k_MOST_LENGTH_DIGITS ⟨_, rfl⟩) (pa_cons (pe_str) (pa_nil)))))))
      (pss_cons (ps_set (i := 3) sc_read_text.nd rfl (by first | exact Or.inl rfl | exact Or.inr rfl) (pe_op op_add (pv 2) (pe_int)))
      (pss_cons (ps_set (i := 4) sc_read_text.nd rfl (by first | exact Or.inl rfl | exact Or.inr rfl) (pe_op op_add (pv 3) (pe_callTy call_int_str (by rfl) T.m_int (by decide +kernel) (pa_cons (pe_slice sl_str (pv 0) (po_some (pv 1)) (po_some (pv 2))) (pa_nil)))))
      (pss_cons (ps_if (pt_cmpR op_gt (pv 4) (pe_callB call_len_str (by rfl) T.m_len (by decide +kernel) (pa_cons (pv 0) (pa_nil))) (nomark _))
      (pss_one (ps_never))
      (pss_nil))
      (pss_one (ps_ret (pe_tup (pa_cons (pe_slice sl_str (pv 0) (po_some (pv 3)) (po_some (pv 4))) (pa_cons (pv 4) (pa_nil))))))))), ?_⟩
    refine q_asg (v := .int ((a.length + (TL.numL x.length).length : Nat) : Int)) (ev_call (ea_cons (ev_var rfl) (ea_cons (ev_var rfl) (ea_cons ev_c (ea_cons (ev_is ev_c (congrArg V.str e58)) ea_nil)))) (cv_end (most := 6) hz hl dg (by omega))) fun H1 e1 => ?_
    refine q_asg (v := .int ((a.length + (TL.numL x.length).length + 1 : Nat) : Int)) (ev_is (ev_bin0 (ev_var rfl) ev_c) (congrArg V.int (by omega))) fun H2 e2 => ?_
    refine q_asg (v := .int ((a.length + (TL.numL x.length).length + 1 + x.length : Nat) : Int)) (ev_is (ev_bin0 (ev_var rfl) (ev_intT (ev_is (ev_slB (ev_var rfl) (eo_some (ev_var rfl)) (eo_some (ev_var rfl)) (by omega)) (congrArg V.str cz)) hti (by show (TL.numL x.length).toArray.size ≤ 640; rw [List.size_toArray]; omega))) (congrArg V.int (by omega))) fun H3 e3 => ?_
    refine q_when (b := false) (et_is (et_test (ev_bin0 (ev_var rfl) (ev_lenB (ev_var rfl) (by omega)))) (decide_eq_false (by omega))) (fun z => nomatch z) fun _ H4 e4 => ?_
    refine eu_ret2 (ev_is (ev_slB (ev_var rfl) (eo_some (ev_var rfl)) (eo_some (ev_var rfl)) (by omega)) (congrArg V.str cx)) (ev_var rfl) fun t H5 e5 ht => q t H5 (.str x) ((((e1.trans e2).trans e3).trans e4).trans e5) ht (.str x)


/-! ### _read_item -/
/-- the item d stands in the text behind a -/
def spItem (K : PySem.W.Frag) (n : Nat) : Sp := fun vs H Q _ => ∃ (z : Str) (a r : List Nat) (level : Nat) (d : It), vs = [.str z, .int (a.length : Int), .int (level : Int)] ∧ z.length ≤ 16000000 ∧ z.cps.toList = a ++ (encC d ++ r) ∧ d.fit n ∧ level + n ≤ 12 ∧ spPair K d ((a.length + (encC d).length : Nat) : Int) H Q
/-- the parts ds and a closing sign stand behind a -/
def spTup (K : PySem.W.Frag) (n : Nat) : Sp := fun vs H Q _ => ∃ (z : Str) (a r : List Nat) (level : Nat) (ds : List It), vs = [.str z, .int (a.length : Int), .int (level : Int)] ∧ z.length ≤ 16000000 ∧ z.cps.toList = a ++ (encL ds ++ (41 :: r)) ∧ (∀ d ∈ ds, It.fit n d) ∧ ds.length ≤ 1000 ∧ level + n ≤ 12 ∧ spPair K (.tup ds) ((a.length + (encL ds).length + 1 : Nat) : Int) H Q
theorem encC_first (d : It) : ∃ c rest, encC d = c :: rest ∧ c ≠ 41 := by
  cases d with
  | non => exact ⟨110, [], rfl, by decide⟩
  | int i => exact ⟨105, _, rfl, by decide⟩
  | str z => exact ⟨116, _, rfl, by decide⟩
  | tup xs => exact ⟨40, _, rfl, by decide⟩
theorem sg (c : Nat) (s : String) (x : Nat) (h : (Str.ofString s) = ⟨#[x]⟩) : decide ((⟨#[c]⟩ : Str) = Str.ofString s) = decide (c = x) := by rw [h, str1_eq]
/-- part, index = f(text, index, level) -/
theorem q_part {sp : Sp} {E : XK} {K : PySem.W.Frag} {σ : L2.St} {H : Hp} {ta tb tc : TE} {x y u : V} {tz : TS} {D : Ends} {n i j : Nat} (ha : Ev ta σ H x) (hb : Ev tb σ H y) (hc : Ev tc σ H u) (hn : 2 = n)
    (h : ∀ H1, Ex H H1 → sp [x, y, u] H1 (fun v H2 => gTup K 2 (gCons (gName i) (gCons (gName j) gNil)) v σ H2 fun σ' H' => tz D σ' H') E) : tSeq (tAsg (tCall sp [] E (tCons ta (tCons tb (tCons tc tNil)))) (gTup K n (gCons (gName i) (gCons (gName j) gNil)))) tz D σ H := by
  subst hn
  exact ha H (Ex.refl H) _ fun H1 e1 => hb H1 e1 _ fun H2 e2 => hc H2 (e1.trans e2) _ fun H3 e3 => h H3 ((e1.trans e2).trans e3)
/-- a pair of a new tuple and a value -/
theorem eu_pair' {σ : L2.St} {H : Hp} {ta tb : TE} {xs : List V} {y : V} (h : EvU ta σ H xs) (hb : Ev tb σ H y) : ∀ H1, Ex H H1 → ∀ Q : VK, (∀ t u H2, Ex H1 H2 → H2 u = some (.tup xs) → H2 t = some (.tup [.ref u, y]) → Q (.ref t) H2) → tTup (tCons ta (tCons tb tNil)) σ H1 Q := fun H1 e Q q =>
  h H1 e _ fun u H2 _ e2 hu => hb H2 (e.trans e2) _ fun H3 e3 => ⟨(by show 2 ≤ sizeLine; decide), fun t ht => q t u _ ((e2.trans e3).trans (Ex.new ht)) (by rw [upd_ne (ne_of_none (e3 _ _ hu) ht)]; exact e3 _ _ hu) upd_same⟩
theorem s_retPr {σ : L2.St} {H : Hp} {ta tb : TE} {xs : List V} {y : V} {D : Ends} (h : EvU ta σ H xs) (hb : Ev tb σ H y) (k : ∀ t u H2, Ex H H2 → H2 u = some (.tup xs) → H2 t = some (.tup [.ref u, y]) → D.rt (.ref t) H2) : tRet (tTup (tCons ta (tCons tb tNil))) D σ H := eu_pair' h hb H (Ex.refl H) _ k
theorem s_callP {sp : Sp} {E : XK} {σ : L2.St} {H : Hp} {ta tb : TE} {x y : V} {D : Ends} (ha : Ev ta σ H x) (hb : Ev tb σ H y) (h : ∀ H1, Ex H H1 → sp [x, y] H1 D.rt E) : tRet (tCall sp [] E (tCons ta (tCons tb tNil))) D σ H :=
  ha H (Ex.refl H) _ fun H1 e1 => hb H1 e1 _ fun H2 e2 => h H2 (e1.trans e2)
theorem s_callP3 {sp : Sp} {E : XK} {σ : L2.St} {H : Hp} {ta tb tc : TE} {x y u : V} {D : Ends} (ha : Ev ta σ H x) (hb : Ev tb σ H y) (hc : Ev tc σ H u) (h : ∀ H1, Ex H H1 → sp [x, y, u] H1 D.rt E) : tRet (tCall sp [] E (tCons ta (tCons tb (tCons tc tNil)))) D σ H :=
  ha H (Ex.refl H) _ fun H1 e1 => hb H1 e1 _ fun H2 e2 => hc H2 (e1.trans e2) _ fun H3 e3 => h H3 ((e1.trans e2).trans e3)
theorem ok_read_tuple_of {n k : Nat} (T : Txt K mg P) (hk : 4 ≤ k) (IHI : FnOk P w K mg base CX0 k T.f_read_item T.d_read_item ["text", "index", "level"] (spItem K n)) : FnOk P w K mg base CX0 (k + 1) T.f_read_tuple T.d_read_tuple ["text", "index", "level"] (spTup K n) := by
  refine T.F_read_tuple.ok sc_read_tuple (fun vs H Q E h => ?_) (fun cdv A outer s H vs Q E hr h => ?_)
  · obtain ⟨z, a, r, l, ds, rfl, _⟩ := h
    rfl
  · obtain ⟨z, a, r, l, ds, rfl, hz, hl, hf, h1000, hlv, q⟩ := h
    have ec : (Str.ofString ")") = ⟨#[41]⟩ := by decide +kernel
    refine ⟨_, pss_cons (ps_set (i := 3) sc_read_tuple.nd rfl (by first | exact Or.inl rfl | exact Or.inr rfl) (pe_lst (pa_nil)))
      (pss_cons (ps_while PassesOwn.never (pt_cmpR op_ne (pe_call (ok_sign_at T) (hr.mono (by first | decide | omega)) (by rfl) T.g_sign_at T.F_sign_at.kp T.b_sign_at .nil pass0 (pa_cons (pv 0) (pa_cons (pv 1) (pa_nil)))) (pe_str) (nomark _))
      (pss_cons (ps_asg (pe_call IHI (hr.mono (by omega)) (by rfl) T.g_read_item T.F_read_item.kp T.b_read_item .nil pass0 (pa_cons (pv 0) (pa_cons (pv 1) (pa_cons (pv 2) (pa_nil))))) (pg_tup rfl (pgs_cons (pg_name (i := 4) sc_read_tuple.nd rfl (by first | exact Or.inl rfl | exact Or.inr rfl)) (pgs_cons (pg_name (i := 1) sc_read_tuple.nd rfl (by first | exact Or.inl rfl | exact Or.inr rfl)) (pgs_nil)))))
      (pss_one (ps_expr (pe_bm PySem.F.plainAttrs_list PySem.F.slot_list_append PySem.F.type_list_append mt_append (pv 3) (pa_cons (pv 4) (pa_nil)))))))
      (pss_one (ps_ret (pe_tup (pa_cons (pe_callTy (r := rTupOf K) call_tuple_of (by rfl) T.m_tuple (by decide +kernel) (pa_cons (pv 3) (pa_nil))) (pa_cons (pe_op op_add (pv 1) (pe_int)) (pa_nil))))))), ?_⟩
    refine q_asgL (el_lst ea_nil (by decide)) fun p H1 np e1 hp => ?_
    have cat : ∀ j, encL ds = encL (ds.take j) ++ encL (ds.drop j) := fun j => by rw [← encL_app, List.take_append_drop]
    refine q_while (fun m σ' H' => ∃ (j : Nat) (vs : List V) (pv : Option V), m = ds.length - j ∧ j ≤ ds.length ∧ σ' = [some (.str z), some (.int ((a.length + (encL (ds.take j)).length : Nat) : Int)), some (.int (l : Int)), some (.ref p), pv] ∧ Ex H H' ∧ H' p = some (.lst vs) ∧ DvL K H' vs (ds.take j)) ds.length ⟨0, [], none, rfl, Nat.zero_le _, rfl, e1, hp, .nil⟩ (fun m σ' H' hW => ?_)
    obtain ⟨j, vs, pv, rfl, hj, rfl, eH, hp, hv⟩ := hW
    have hvl : vs.length = j := by
      rw [hv.len, List.length_take]
      omega
    by_cases hjl : j < ds.length
    · have hdj : ds.drop j = ds[j] :: ds.drop (j + 1) := List.drop_eq_getElem_cons hjl
      have el : z.cps.toList = (a ++ encL (ds.take j)) ++ (encC ds[j] ++ (encL (ds.drop (j + 1)) ++ (41 :: r))) := by
        rw [hl, cat j, hdj]
        show a ++ ((encL (ds.take j) ++ (encC ds[j] ++ encL (ds.drop (j + 1)))) ++ (41 :: r)) = _
        simp
      have la : (a ++ encL (ds.take j)).length = a.length + (encL (ds.take j)).length := List.length_append ..
      obtain ⟨c, rest, hc1, hc2⟩ := encC_first ds[j]
      have hc : z.cps.toList[a.length + (encL (ds.take j)).length]? = some c := by
        rw [el, hc1, ← la, List.getElem?_append_right (Nat.le_refl _), Nat.sub_self] <;> rfl
      refine ⟨true, et_is (et_test (ev_neS (ev_call (ea_cons (ev_var rfl) (ea_cons (ev_var rfl) ea_nil)) (cv_sign hz hc)) ev_c)) (by rw [ec, str1_eq, decide_eq_false hc2] <;> rfl), fun _ H2 e2 => ?_, fun z => nomatch z⟩
      refine ⟨fun σ' H' => ∃ (vs : List V) (pv : Option V), σ' = [some (.str z), some (.int ((a.length + (encL (ds.take (j + 1))).length : Nat) : Int)), some (.int (l : Int)), some (.ref p), pv] ∧ Ex H H' ∧ H' p = some (.lst vs) ∧ DvL K H' vs (ds.take (j + 1)), fun σ2 H3 hN => ?_, ?_⟩
      · obtain ⟨vs, pv, rfl, e3, h3, h4⟩ := hN
        exact ⟨ds.length - (j + 1), by omega, j + 1, vs, pv, rfl, by omega, rfl, e3, h3, h4⟩
      · have tk : ds.take (j + 1) = ds.take j ++ [ds[j]] := by rw [List.take_add_one, List.getElem?_eq_getElem hjl] <;> rfl
        have lk : (encL (ds.take (j + 1))).length = (encL (ds.take j)).length + (encC ds[j]).length := by
          rw [tk, encL_app, List.length_append]
          show _ + (encC ds[j] ++ []).length = _
          rw [List.append_nil]
        refine q_part (ev_var rfl) (ev_is (ev_var rfl) (congrArg V.int (by rw [la]))) (ev_var rfl) (by rfl) fun H4 e4 => ⟨z, a ++ encL (ds.take j), _, l, ds[j], rfl, hz, el, hf _ (List.getElem_mem hjl), hlv, fun t H5 v e5 h5 hv5 => ⟨t, _, rfl, st_of h5, rfl, v, _, rfl, _, _, rfl, rfl, ?_⟩⟩
        have ei : (((a ++ encL (ds.take j)).length + (encC ds[j]).length : Nat) : Int) = ((a.length + (encL (ds.take (j + 1))).length : Nat) : Int) := by
          rw [la, lk]
          omega
        rw [ei]
        have E5 := (e2.trans e4).trans e5
        refine s_app (K := K) (E5 _ _ hp) (ev_var rfl) (ev_var rfl) (by omega) fun H6 e6 => ⟨vs ++ [v], some v, rfl, ((eH.trans E5).trans e6).mut np, upd_same, ?_⟩
        rw [tk]
        exact ((hv.mono (E5.trans e6)).app (.cons (hv5.mono e6) .nil)).monoN (.upd ((E5.trans e6) _ _ hp))
    · have hje : j = ds.length := by omega
      subst hje
      rw [List.take_length] at hv
      rw [List.take_length]
      have hc : z.cps.toList[a.length + (encL ds).length]? = some 41 := by
        rw [hl, ← List.append_assoc, ← List.length_append, List.getElem?_append_right (Nat.le_refl _), Nat.sub_self] <;> rfl
      refine ⟨false, et_is (et_test (ev_neS (ev_call (ea_cons (ev_var rfl) (ea_cons (ev_var rfl) ea_nil)) (cv_sign hz hc)) ev_c)) (by rw [ec, str1_eq, decide_eq_true rfl] <;> rfl), (fun z => nomatch z), fun _ H2 e2 => ?_⟩
      refine s_retPr (eu_ofL (K := K) (ev_var rfl) (sq_of (e2 _ _ hp))) (ev_is (ev_bin0 (ev_var rfl) ev_c) (congrArg V.int (show ((a.length + (encL ds).length : Nat) : Int) + 1 = ((a.length + (encL ds).length + 1 : Nat) : Int) by omega))) fun t u H3 e3 hu ht => q t H3 (.ref u) ((eH.trans e2).trans e3) ht (.tup (st_of hu) (hv.mono (e2.trans e3)))
theorem ok_item_at (T : Txt K mg P) : ∀ n : Nat, FnOk P w K mg base CX0 (2 * n + 4) T.f_read_item T.d_read_item ["text", "index", "level"] (spItem K n)
  | 0 => by
    refine T.F_read_item.ok sc_read_item (fun vs H Q E h => ?_) (fun cdv A outer s H vs Q E hr h => ?_)
    · obtain ⟨z, a, r, l, d, rfl, _⟩ := h
      rfl
    · obtain ⟨z, a, r, l, d, rfl, hz, hl, hf, hlv, q⟩ := h
      have en : (Str.ofString "n") = ⟨#[110]⟩ := by decide +kernel
      have ei : (Str.ofString "i") = ⟨#[105]⟩ := by decide +kernel
      have et : (Str.ofString "t") = ⟨#[116]⟩ := by decide +kernel
      have eo : (Str.ofString "(") = ⟨#[40]⟩ := by decide +kernel
      have hd0 : ∀ c rest, encC d = c :: rest → z.cps.toList[a.length]? = some c := fun c rest e => by
        rw [hl, e, List.getElem?_append_right (Nat.le_refl _), Nat.sub_self] <;> rfl
      have hs : ∀ (c x : Nat), c ≠ x → ∀ s, (Str.ofString s) = ⟨#[x]⟩ → decide ((⟨#[c]⟩ : Str) = Str.ofString s) = false := fun c x h s hx => by
        rw [hx, str1_eq]
        exact decide_eq_false h
      have ht : ∀ (x : Nat) (s : String), (Str.ofString s) = ⟨#[x]⟩ → decide ((⟨#[x]⟩ : Str) = Str.ofString s) = true := fun x s hx => by
        rw [hx]
        exact decide_eq_true rfl
      refine ⟨_, pss_cons (ps_set (i := 3) sc_read_item.nd rfl (by first | exact Or.inl rfl | exact Or.inr rfl) (pe_call (ok_sign_at T) (hr.mono (by first | decide | omega)) (by rfl) T.g_sign_at T.F_sign_at.kp T.b_sign_at .nil pass0 (pa_cons (pv 0) (pa_cons (pv 1) (pa_nil)))))
      (pss_cons (ps_if (pt_cmpR op_eq (pv 3) (pe_str) (nomark _))
      (pss_one (ps_ret (pe_tup (pa_cons (pe_non) (pa_cons (pe_op op_add (pv 1) (pe_int)) (pa_nil))))))
      (pss_nil))
      (pss_cons (ps_if (pt_cmpR op_eq (pv 3) (pe_str) (nomark _))
      (pss_one (ps_ret (pe_call (ok_read_integer T) (hr.mono (by first | decide | omega)) (by rfl) T.g_read_integer T.F_read_integer.kp T.b_read_integer .nil pass0 (pa_cons (pv 0) (pa_cons (pe_op op_add (pv 1) (pe_int)) (pa_nil))))))
      (pss_nil))
      (pss_cons (ps_if (pt_cmpR op_eq (pv 3) (pe_str) (nomark _))
      (pss_one (ps_ret (pe_call (ok_read_text T) (hr.mono (by first | decide | omega)) (by rfl) T.g_read_text T.F_read_text.kp T.b_read_text .nil pass0 (pa_cons (pv 0) (pa_cons (pe_op op_add (pv 1) (pe_int)) (pa_nil))))))
      (pss_nil))
      (pss_cons (ps_if (PW.pt (pw_and (pt_cmpR op_eq (pv 3) (pe_str) (nomark _)) (pw_and1 (pt_cmpR op_lt (pv 2) (pe_glob (v := .int 12) rfl T.k_MOST_LEVELS ⟨_, rfl⟩) (nomark _)))))
      (pss_one (ps_never))
      (pss_nil))
      (pss_one (ps_never)))))), ?_⟩
      cases d with
      | non =>
        refine q_asg (ev_call (ea_cons (ev_var rfl) (ea_cons (ev_var rfl) ea_nil)) (cv_sign hz (hd0 110 [] rfl))) fun H1 e1 => ?_
        refine q_when (b := true) (et_is (et_test (ev_eqS (ev_var rfl) ev_c)) (ht 110 _ en)) (fun _ H2 e2 => ?_) (fun z => nomatch z)
        exact eu_ret2 ev_c (ev_is (ev_bin0 (ev_var rfl) ev_c) (congrArg V.int (show (a.length : Int) + 1 = ((a.length + (encC .non).length : Nat) : Int) by show _ = ((a.length + 1 : Nat) : Int); omega))) fun t H3 e3 h3 => q t H3 .non ((e1.trans e2).trans e3) h3 .non
      | int i =>
        refine q_asg (ev_call (ea_cons (ev_var rfl) (ea_cons (ev_var rfl) ea_nil)) (cv_sign hz (hd0 105 _ rfl))) fun H1 e1 => ?_
        refine q_when (b := false) (et_is (et_test (ev_eqS (ev_var rfl) ev_c)) (hs 105 110 (by decide) _ en)) (fun z => nomatch z) fun _ H2 e2 => ?_
        refine q_when (b := true) (et_is (et_test (ev_eqS (ev_var rfl) ev_c)) (ht 105 _ ei)) (fun _ H3 e3 => ?_) (fun z => nomatch z)
        have hl2 : z.cps.toList = (a ++ [105]) ++ (numC i ++ (59 :: r)) := by
          rw [hl]
          show a ++ ((105 :: (numC i ++ [59])) ++ r) = _
          simp
        refine s_callP (ev_var rfl) (ev_is (ev_bin0 (ev_var rfl) ev_c) (congrArg V.int (show (a.length : Int) + 1 = ((a ++ [105]).length : Int) by rw [List.length_append] <;> rfl))) fun H4 e4 => ⟨z, a ++ [105], r, i, rfl, hz, hl2, fit_int60 hf, fun t H5 v e5 h5 hv => ?_⟩
        refine q t H5 v ((((e1.trans e2).trans e3).trans e4).trans e5) ?_ hv
        rw [h5]
        have : (a ++ [105]).length + (numC i).length + 1 = a.length + (encC (.int i)).length := by
          show _ = a.length + (105 :: (numC i ++ [59])).length
          simp only [List.length_append, List.length_cons, List.length_nil]
          omega
        rw [this]
      | str x =>
        refine q_asg (ev_call (ea_cons (ev_var rfl) (ea_cons (ev_var rfl) ea_nil)) (cv_sign hz (hd0 116 _ rfl))) fun H1 e1 => ?_
        refine q_when (b := false) (et_is (et_test (ev_eqS (ev_var rfl) ev_c)) (hs 116 110 (by decide) _ en)) (fun z => nomatch z) fun _ H2 e2 => ?_
        refine q_when (b := false) (et_is (et_test (ev_eqS (ev_var rfl) ev_c)) (hs 116 105 (by decide) _ ei)) (fun z => nomatch z) fun _ H3 e3 => ?_
        refine q_when (b := true) (et_is (et_test (ev_eqS (ev_var rfl) ev_c)) (ht 116 _ et)) (fun _ H4 e4 => ?_) (fun z => nomatch z)
        have hl2 : z.cps.toList = (a ++ [116]) ++ (numC (x.length : Int) ++ (58 :: (x.cps.toList ++ r))) := by
          rw [hl]
          show a ++ ((116 :: (numC (x.length : Int) ++ (58 :: x.cps.toList))) ++ r) = _
          simp
        refine s_callP (ev_var rfl) (ev_is (ev_bin0 (ev_var rfl) ev_c) (congrArg V.int (show (a.length : Int) + 1 = ((a ++ [116]).length : Int) by rw [List.length_append] <;> rfl))) fun H5 e5 => ⟨z, a ++ [116], r, x, rfl, hz, hl2, fit_str hf, fun t H6 v e6 h6 hv => ?_⟩
        refine q t H6 v (((((e1.trans e2).trans e3).trans e4).trans e5).trans e6) ?_ hv
        rw [h6]
        have : (a ++ [116]).length + (numC (x.length : Int)).length + 1 + x.length = a.length + (encC (.str x)).length := by
          show _ = a.length + (116 :: (numC (x.length : Int) ++ (58 :: x.cps.toList))).length
          simp only [List.length_append, List.length_cons, List.length_nil, str_len]
          omega
        rw [this]
      | tup ds =>
        exact hf.elim
  | n + 1 => by
    have IHT := ok_read_tuple_of T (by omega) (ok_item_at T n)
    refine T.F_read_item.ok sc_read_item (fun vs H Q E h => ?_) (fun cdv A outer s H vs Q E hr h => ?_)
    · obtain ⟨z, a, r, l, d, rfl, _⟩ := h
      rfl
    · obtain ⟨z, a, r, l, d, rfl, hz, hl, hf, hlv, q⟩ := h
      have en : (Str.ofString "n") = ⟨#[110]⟩ := by decide +kernel
      have ei : (Str.ofString "i") = ⟨#[105]⟩ := by decide +kernel
      have et : (Str.ofString "t") = ⟨#[116]⟩ := by decide +kernel
      have eo : (Str.ofString "(") = ⟨#[40]⟩ := by decide +kernel
      have hd0 : ∀ c rest, encC d = c :: rest → z.cps.toList[a.length]? = some c := fun c rest e => by
        rw [hl, e, List.getElem?_append_right (Nat.le_refl _), Nat.sub_self] <;> rfl
      have hs : ∀ (c x : Nat), c ≠ x → ∀ s, (Str.ofString s) = ⟨#[x]⟩ → decide ((⟨#[c]⟩ : Str) = Str.ofString s) = false := fun c x h s hx => by
        rw [hx, str1_eq]
        exact decide_eq_false h
      have ht : ∀ (x : Nat) (s : String), (Str.ofString s) = ⟨#[x]⟩ → decide ((⟨#[x]⟩ : Str) = Str.ofString s) = true := fun x s hx => by
        rw [hx]
        exact decide_eq_true rfl
      refine ⟨_, pss_cons (ps_set (i := 3) sc_read_item.nd rfl (by first | exact Or.inl rfl | exact Or.inr rfl) (pe_call (ok_sign_at T) (hr.mono (by first | decide | omega)) (by rfl) T.g_sign_at T.F_sign_at.kp T.b_sign_at .nil pass0 (pa_cons (pv 0) (pa_cons (pv 1) (pa_nil)))))
      (pss_cons (ps_if (pt_cmpR op_eq (pv 3) (pe_str) (nomark _))
      (pss_one (ps_ret (pe_tup (pa_cons (pe_non) (pa_cons (pe_op op_add (pv 1) (pe_int)) (pa_nil))))))
      (pss_nil))
      (pss_cons (ps_if (pt_cmpR op_eq (pv 3) (pe_str) (nomark _))
      (pss_one (ps_ret (pe_call (ok_read_integer T) (hr.mono (by first | decide | omega)) (by rfl) T.g_read_integer T.F_read_integer.kp T.b_read_integer .nil pass0 (pa_cons (pv 0) (pa_cons (pe_op op_add (pv 1) (pe_int)) (pa_nil))))))
      (pss_nil))
      (pss_cons (ps_if (pt_cmpR op_eq (pv 3) (pe_str) (nomark _))
      (pss_one (ps_ret (pe_call (ok_read_text T) (hr.mono (by first | decide | omega)) (by rfl) T.g_read_text T.F_read_text.kp T.b_read_text .nil pass0 (pa_cons (pv 0) (pa_cons (pe_op op_add (pv 1) (pe_int)) (pa_nil))))))
      (pss_nil))
      (pss_cons (ps_if (PW.pt (pw_and (pt_cmpR op_eq (pv 3) (pe_str) (nomark _)) (pw_and1 (pt_cmpR op_lt (pv 2) (pe_glob (v := .int 12) rfl T.k_MOST_LEVELS ⟨_, rfl⟩) (nomark _)))))
      (pss_one (ps_ret (pe_call IHT (hr.mono (by omega)) (by rfl) T.g_read_tuple T.F_read_tuple.kp T.b_read_tuple .nil pass0 (pa_cons (pv 0) (pa_cons (pe_op op_add (pv 1) (pe_int)) (pa_cons (pe_op op_add (pv 2) (pe_int)) (pa_nil)))))))
      (pss_nil))
      (pss_one (ps_never)))))), ?_⟩
      cases d with
      | non =>
        refine q_asg (ev_call (ea_cons (ev_var rfl) (ea_cons (ev_var rfl) ea_nil)) (cv_sign hz (hd0 110 [] rfl))) fun H1 e1 => ?_
        refine q_when (b := true) (et_is (et_test (ev_eqS (ev_var rfl) ev_c)) (ht 110 _ en)) (fun _ H2 e2 => ?_) (fun z => nomatch z)
        exact eu_ret2 ev_c (ev_is (ev_bin0 (ev_var rfl) ev_c) (congrArg V.int (show (a.length : Int) + 1 = ((a.length + (encC .non).length : Nat) : Int) by show _ = ((a.length + 1 : Nat) : Int); omega))) fun t H3 e3 h3 => q t H3 .non ((e1.trans e2).trans e3) h3 .non
      | int i =>
        refine q_asg (ev_call (ea_cons (ev_var rfl) (ea_cons (ev_var rfl) ea_nil)) (cv_sign hz (hd0 105 _ rfl))) fun H1 e1 => ?_
        refine q_when (b := false) (et_is (et_test (ev_eqS (ev_var rfl) ev_c)) (hs 105 110 (by decide) _ en)) (fun z => nomatch z) fun _ H2 e2 => ?_
        refine q_when (b := true) (et_is (et_test (ev_eqS (ev_var rfl) ev_c)) (ht 105 _ ei)) (fun _ H3 e3 => ?_) (fun z => nomatch z)
        have hl2 : z.cps.toList = (a ++ [105]) ++ (numC i ++ (59 :: r)) := by
          rw [hl]
          show a ++ ((105 :: (numC i ++ [59])) ++ r) = _
          simp
        refine s_callP (ev_var rfl) (ev_is (ev_bin0 (ev_var rfl) ev_c) (congrArg V.int (show (a.length : Int) + 1 = ((a ++ [105]).length : Int) by rw [List.length_append] <;> rfl))) fun H4 e4 => ⟨z, a ++ [105], r, i, rfl, hz, hl2, fit_int60 hf, fun t H5 v e5 h5 hv => ?_⟩
        refine q t H5 v ((((e1.trans e2).trans e3).trans e4).trans e5) ?_ hv
        rw [h5]
        have : (a ++ [105]).length + (numC i).length + 1 = a.length + (encC (.int i)).length := by
          show _ = a.length + (105 :: (numC i ++ [59])).length
          simp only [List.length_append, List.length_cons, List.length_nil]
          omega
        rw [this]
      | str x =>
        refine q_asg (ev_call (ea_cons (ev_var rfl) (ea_cons (ev_var rfl) ea_nil)) (cv_sign hz (hd0 116 _ rfl))) fun H1 e1 => ?_
        refine q_when (b := false) (et_is (et_test (ev_eqS (ev_var rfl) ev_c)) (hs 116 110 (by decide) _ en)) (fun z => nomatch z) fun _ H2 e2 => ?_
        refine q_when (b := false) (et_is (et_test (ev_eqS (ev_var rfl) ev_c)) (hs 116 105 (by decide) _ ei)) (fun z => nomatch z) fun _ H3 e3 => ?_
        refine q_when (b := true) (et_is (et_test (ev_eqS (ev_var rfl) ev_c)) (ht 116 _ et)) (fun _ H4 e4 => ?_) (fun z => nomatch z)
        have hl2 : z.cps.toList = (a ++ [116]) ++ (numC (x.length : Int) ++ (58 :: (x.cps.toList ++ r))) := by
          rw [hl]
          show a ++ ((116 :: (numC (x.length : Int) ++ (58 :: x.cps.toList))) ++ r) = _
          simp
        refine s_callP (ev_var rfl) (ev_is (ev_bin0 (ev_var rfl) ev_c) (congrArg V.int (show (a.length : Int) + 1 = ((a ++ [116]).length : Int) by rw [List.length_append] <;> rfl))) fun H5 e5 => ⟨z, a ++ [116], r, x, rfl, hz, hl2, fit_str hf, fun t H6 v e6 h6 hv => ?_⟩
        refine q t H6 v (((((e1.trans e2).trans e3).trans e4).trans e5).trans e6) ?_ hv
        rw [h6]
        have : (a ++ [116]).length + (numC (x.length : Int)).length + 1 + x.length = a.length + (encC (.str x)).length := by
          show _ = a.length + (116 :: (numC (x.length : Int) ++ (58 :: x.cps.toList))).length
          simp only [List.length_append, List.length_cons, List.length_nil, str_len]
          omega
        rw [this]
      | tup ds =>
        refine q_asg (ev_call (ea_cons (ev_var rfl) (ea_cons (ev_var rfl) ea_nil)) (cv_sign hz (hd0 40 _ rfl))) fun H1 e1 => ?_
        refine q_when (b := false) (et_is (et_test (ev_eqS (ev_var rfl) ev_c)) (hs 40 110 (by decide) _ en)) (fun z => nomatch z) fun _ H2 e2 => ?_
        refine q_when (b := false) (et_is (et_test (ev_eqS (ev_var rfl) ev_c)) (hs 40 105 (by decide) _ ei)) (fun z => nomatch z) fun _ H3 e3 => ?_
        refine q_when (b := false) (et_is (et_test (ev_eqS (ev_var rfl) ev_c)) (hs 40 116 (by decide) _ et)) (fun z => nomatch z) fun _ H4 e4 => ?_
        refine q_when (b := true) (et_is (et_and (a := true) (b := true) (et_is (et_test (ev_eqS (ev_var rfl) ev_c)) (ht 40 _ eo)) fun _ => et_is (et_test (ev_bin0 (ev_var rfl) ev_c)) (decide_eq_true (by omega))) rfl) (fun _ H5 e5 => ?_) (fun z => nomatch z)
        have hl2 : z.cps.toList = (a ++ [40]) ++ (encL ds ++ (41 :: r)) := by
          rw [hl]
          show a ++ ((40 :: (encL ds ++ [41])) ++ r) = _
          simp
        refine s_callP3 (ev_var rfl) (ev_is (ev_bin0 (ev_var rfl) ev_c) (congrArg V.int (show (a.length : Int) + 1 = ((a ++ [40]).length : Int) by rw [List.length_append] <;> rfl))) (ev_is (ev_bin0 (ev_var rfl) ev_c) (congrArg V.int (show (l : Int) + 1 = ((l + 1 : Nat) : Int) by omega))) fun H6 e6 => ⟨z, a ++ [40], r, l + 1, ds, rfl, hz, hl2, hf.2, hf.1, by omega, fun t H7 v e7 h7 hv => ?_⟩
        refine q t H7 v ((((((e1.trans e2).trans e3).trans e4).trans e5).trans e6).trans e7) ?_ hv
        rw [h7]
        have : (a ++ [40]).length + (encL ds).length + 1 = a.length + (encC (.tup ds)).length := by
          rw [enc_tup_len, List.length_append, List.length_singleton]
          omega
        rw [this]
theorem ok_read_item (T : Txt K mg P) : FnOk P w K mg base CX0 28 T.f_read_item T.d_read_item ["text", "index", "level"] (spItem K 12) := ok_item_at T 12


/-! ### decode_prefix -/
theorem ok_decode_prefix (T : Txt K mg P) : FnOk P w K mg base CX0 29 T.f_decode_prefix T.d_decode_prefix ["text", "index"] (fun vs H Q E => ∃ x y : V, vs = [x, y] ∧ spItem K 12 [x, y, .int 0] H Q E) := by
  refine T.F_decode_prefix.ok sc_decode_prefix (fun vs H Q E h => ?_) (fun cdv A outer s H vs Q E hr h => ?_)
  · obtain ⟨x, y, rfl, _⟩ := h
    rfl
  · obtain ⟨x, y, rfl, h⟩ := h
    obtain ⟨z, a, r, l, d, eq, hz, hl, hf, hlv, q⟩ := h
    refine ⟨_, pss_one (ps_ret (pe_call (ok_read_item T) (hr.mono (by first | decide | omega)) (by rfl) T.g_read_item T.F_read_item.kp T.b_read_item .nil pass0 (pa_cons (pv 0) (pa_cons (pv 1) (pa_cons (pe_int) (pa_nil)))))), ?_⟩
    refine s_callP3 (ev_var rfl) (ev_var rfl) ev_c fun H4 e4 => ⟨z, a, r, l, d, eq, hz, hl, hf, hlv, fun t H5 v e5 h5 hv => q t H5 v (e4.trans e5) h5 hv⟩


/-! ### decode -/
theorem q_part2 {sp : Sp} {E : XK} {K : PySem.W.Frag} {σ : L2.St} {H : Hp} {ta tb : TE} {x y : V} {tz : TS} {D : Ends} {n i j : Nat} (ha : Ev ta σ H x) (hb : Ev tb σ H y) (hn : 2 = n)
    (h : ∀ H1, Ex H H1 → sp [x, y] H1 (fun v H2 => gTup K 2 (gCons (gName i) (gCons (gName j) gNil)) v σ H2 fun σ' H' => tz D σ' H') E) : tSeq (tAsg (tCall sp [] E (tCons ta (tCons tb tNil))) (gTup K n (gCons (gName i) (gCons (gName j) gNil)))) tz D σ H := by
  subst hn
  exact ha H (Ex.refl H) _ fun H1 e1 => hb H1 e1 _ fun H2 e2 => h H2 (e1.trans e2)
theorem ok_decode (T : Txt K mg P) : FnOk P w K mg base CX0 30 T.f_decode T.d_decode ["text"] (spDec K) := by
  refine T.F_decode.ok sc_decode (fun vs H Q E h => ?_) (fun cdv A outer s H vs Q E hr h => ?_)
  · obtain ⟨z, d, rfl, _⟩ := h
    rfl
  · obtain ⟨z, d, rfl, hz, hf, hl, q⟩ := h
    have el : z.length = (encC d).length := by rw [hz, str_len]
    refine ⟨_, pss_cons (ps_try_thru0 (pss_one (ps_asg (pe_call (ok_decode_prefix T) (hr.mono (by first | decide | omega)) (by rfl) T.g_decode_prefix T.F_decode_prefix.kp T.b_decode_prefix .nil pass0 (pa_cons (pv 0) (pa_cons (pe_int) (pa_nil)))) (pg_tup rfl (pgs_cons (pg_name (i := 1) sc_decode.nd rfl (by first | exact Or.inl rfl | exact Or.inr rfl)) (pgs_cons (pg_name (i := 2) sc_decode.nd rfl (by first | exact Or.inl rfl | exact Or.inr rfl)) (pgs_nil)))))))
      (pss_cons (ps_if (pt_cmpR op_lt (pv 2) (pe_callB call_len_str (by rfl) T.m_len (by decide +kernel) (pa_cons (pv 0) (pa_nil))) (nomark _))
      (pss_one (ps_never))
      (pss_nil))
      (pss_one (ps_ret (pv 1)))), ?_⟩
    refine q_part2 (ev_var rfl) ev_c (by rfl) fun H1 e1 => ⟨_, _, rfl, z, [], [], 0, d, rfl, by omega, by rw [hz]; simp, hf, by omega, fun t H2 v e2 h2 hv => ⟨t, _, rfl, st_of h2, rfl, v, _, rfl, _, _, rfl, rfl, ?_⟩⟩
    have ez : (([] : List Nat).length + (encC d).length : Nat) = z.length := by rw [el]; simp
    refine q_when (b := false) (et_is (et_test (ev_bin0 (ev_var rfl) (ev_lenB (ev_var rfl) (by omega)))) (decide_eq_false (by rw [ez]; omega))) (fun z => nomatch z) fun _ H3 e3 => ?_
    exact s_ret (ev_var rfl) fun H4 e4 => q v H4 (((e1.trans e2).trans e3).trans e4) (hv.mono (e3.trans e4))


/-! ### _chunk_address -/
/-! ### raw readings -/
theorem op_run {r : R2} {ta tb : TE} {σ : L2.St} {H : Hp} {Q : VK} (k : ta σ H fun x H1 => tb σ H1 fun y H2 => r x y H2 Q) : tOp r ta tb σ H Q := k
theorem lst_run {ta : TA} {σ : L2.St} {H : Hp} {Q : VK} (k : ta σ H fun vs H1 => vs.length ≤ sizeLine ∧ ∀ p, H1 p = none → Q (.ref p) (upd H1 p (.lst vs))) : tLst ta σ H Q := k
theorem tup_run {ta : TA} {σ : L2.St} {H : Hp} {Q : VK} (k : ta σ H fun vs H1 => vs.length ≤ sizeLine ∧ ∀ p, H1 p = none → Q (.ref p) (upd H1 p (.tup vs))) : tTup ta σ H Q := k
theorem cons_run {te : TE} {tr : TA} {σ : L2.St} {H : Hp} {Q : List V → Hp → Prop} (k : te σ H fun v H1 => tr σ H1 fun vs H2 => Q (v :: vs) H2) : tCons te tr σ H Q := k
theorem call_run {sp : Sp} {dvs : List V} {E : XK} {ta : TA} {σ : L2.St} {H : Hp} {Q : VK} (k : ta σ H fun vs H1 => sp (vs ++ dvs) H1 Q E) : tCall sp dvs E ta σ H Q := k
theorem asg_run {te : TE} {σ : L2.St} {H : Hp} {D : Ends} {i : Nat} (k : te σ H fun v H1 => D.nx (σ.set i (some v)) H1) : tAsg te (gName i) D σ H := k
theorem ret_run {te : TE} {σ : L2.St} {H : Hp} {D : Ends} (k : te σ H D.rt) : tRet te D σ H := k
theorem c_run {σ : L2.St} {H : Hp} {Q : VK} {v : V} (q : Q v H) : tC v σ H Q := q
theorem var_run {i : Nat} {σ : L2.St} {H : Hp} {Q : VK} {v : V} (h : σ[i]? = some (some v)) (q : Q v H) : tVar i σ H Q := ⟨v, h, q⟩
theorem ev_run {te : TE} {σ : L2.St} {H : Hp} {v : V} {Q : VK} (h : Ev te σ H v) (q : ∀ H2, Ex H H2 → Q v H2) : te σ H Q := h H (Ex.refl H) Q q
theorem el_run {te : TE} {σ : L2.St} {H : Hp} {xs : List V} {Q : VK} (h : EvL te σ H xs) (q : ∀ p H2, H p = none → Ex H H2 → H2 p = some (.lst xs) → Q (.ref p) H2) : te σ H Q := h H (Ex.refl H) Q q
theorem eu_run {te : TE} {σ : L2.St} {H : Hp} {xs : List V} {Q : VK} (h : EvU te σ H xs) (q : ∀ p H2, H p = none → Ex H H2 → H2 p = some (.tup xs) → Q (.ref p) H2) : te σ H Q := h H (Ex.refl H) Q q
theorem if_run {t : TT} {ta tb : TE} {σ : L2.St} {H : Hp} {b : Bool} {Q : VK} (h : EvT t σ H b) (h1 : b = true → ∀ H1, Ex H H1 → ta σ H1 Q) (h2 : b = false → ∀ H1, Ex H H1 → tb σ H1 Q) : tIf t ta tb σ H Q := h H (Ex.refl H) _ fun H1 e => by
  cases b with
  | true => exact h1 rfl H1 e
  | false => exact h2 rfl H1 e
theorem q_dropK {te : TE} {tz : TS} {σ : L2.St} {H : Hp} {D : Ends} (h : te σ H fun _ H1 => tz D σ H1) : tSeq (tDrop te) tz D σ H := h
theorem nil_run {σ : L2.St} {H : Hp} {Q : List V → Hp → Prop} (k : Q [] H) : tNil σ H Q := k
theorem lcl_run {K : PySem.W.Frag} {te tl : TE} {g : TG} {tt : TT} {σ : L2.St} {H : Hp} {Q : VK} {vs : List Nat} (k : te σ H fun x H1 => tLc (iList K (tC x)) g tt tl vs σ H1 Q) : tLc (iList K te) g tt tl vs σ H Q := k
theorem cb_run {r : List V → Hp → VK → Prop} {ta : TA} {σ : L2.St} {H : Hp} {Q : VK} (k : ta σ H fun vs H1 => r vs H1 Q) : tCB r ta σ H Q := k

/-! ### a store over a book: what it holds is the book's -/
def adr (zs : List Str) (z : Str) : Int := 1 + (posZ z (addZ zs z) : Nat)
abbrev Sto := List Str × List (Key × V)
def putW (s : Sto) (z : Str) : Sto := (addZ s.1 z, putK s.2 (Sum.inl (adr s.1 z) : Key) (.str z))
def Con (zs : List Str) (kvs : List (Key × V)) : Prop := ∀ (k : Key) (v : V), valV kvs k = some v → ∃ (j : Nat) (z : Str), k = Sum.inl (1 + (j : Int)) ∧ zs[j]? = some z ∧ v = .str z
def Le (a b : List (Key × V)) : Prop := ∀ (k : Key) (v : V), valV a k = some v → valV b k = some v
theorem Le.refl (a : List (Key × V)) : Le a a := fun _ _ h => h
theorem Le.trans {a b c : List (Key × V)} (h : Le a b) (g : Le b c) : Le a c := fun k v e => g k v (h k v e)
theorem con_nil (zs : List Str) : Con zs [] := fun k v h => by cases h
theorem putW_val (s : Sto) (z : Str) : valV (putW s z).2 (Sum.inl (adr s.1 z) : Key) = some (.str z) := by
  show valV (putK s.2 _ _) _ = _
  rw [valV_put, if_pos rfl]
theorem con_put {s : Sto} (nd : s.1.Nodup) (h : Con s.1 s.2) (z : Str) : Con (putW s z).1 (putW s z).2 ∧ Le s.2 (putW s z).2 := by
  have hat : (addZ s.1 z)[posZ z (addZ s.1 z)]? = some z := posZ_at (addZ_mem s.1 z)
  refine ⟨fun k v hv => ?_, fun k v hv => ?_⟩
  · have hv : valV (putK s.2 (Sum.inl (adr s.1 z) : Key) (.str z)) k = some v := hv
    rw [valV_put] at hv
    split at hv
    · rename_i e
      refine ⟨posZ z (addZ s.1 z), z, ?_, hat, (Option.some.inj hv).symm⟩
      first | exact e | exact e.symm
    · obtain ⟨j, y, h1, h2, h3⟩ := h k v hv
      exact ⟨j, y, h1, addZ_old h2, h3⟩
  · show valV (putK s.2 (Sum.inl (adr s.1 z) : Key) (.str z)) k = some v
    rw [valV_put]
    split
    · rename_i e
      obtain ⟨j, y, h1, h2, h3⟩ := h k v hv
      have e2 : (1 : Int) + (j : Int) = adr s.1 z := by
        have e3 : (Sum.inl (1 + (j : Int)) : Key) = Sum.inl (adr s.1 z) := by
          rw [← h1]
          first | exact e | exact e.symm
        exact Sum.inl.inj e3
      have : y = z := (addZ_eq nd h2).mpr e2
      rw [h3, this]
    · exact hv
structure StW (CC CB : Addr) (H : Hp) (p b t d : Addr) (r : Int) (s : Sto) (n : Nat) : Prop where
  ck : CkAt CC H p b t r s.2
  bk : BkAt CB H b d (bkL 1 s.1)
  dt : d ≠ t
  bp : b ≠ p
  nd : s.1.Nodup
  lz : s.1.length ≤ n
  lk : s.2.length ≤ n
  co : Con s.1 s.2
theorem putKW_le (kvs : List (Key × V)) (k : Key) (v : V) : (putK kvs k v).length ≤ kvs.length + 1 := by
  unfold putK
  split
  · rw [List.length_map]; omega
  · rw [List.length_append]; exact Nat.le_refl _
section
variable {CC CB : Addr} {H H' : Hp} {p b t d : Addr} {r r' : Int} {s : Sto} {n m : Nat}
theorem StW.mono (h : StW CC CB H p b t d r s n) (e : Ex H H') : StW CC CB H' p b t d r s n := { h with ck := h.ck.mono e, bk := h.bk.mono e }
theorem StW.up (h : StW CC CB H p b t d r s n) (e : n ≤ m) : StW CC CB H p b t d r s m := { h with lz := Nat.le_trans h.lz e, lk := Nat.le_trans h.lk e }
theorem StW.ne (h : StW CC CB H p b t d r s n) : p ≠ t ∧ p ≠ d ∧ b ≠ t ∧ b ≠ d := by
  obtain ⟨⟨dx, hp⟩, ht⟩ := h.ck
  obtain ⟨⟨bx, hb⟩, hd⟩ := h.bk
  exact ⟨ne_of hp ht (by intro z; cases z), ne_of hp hd (by intro z; cases z), ne_of hb ht (by intro z; cases z), ne_of hb hd (by intro z; cases z)⟩
theorem StW.but {S : List Addr} (h : StW CC CB H p b t d r s n) (f : But S H H') (hp : p ∉ S) (hb : b ∉ S) (ht : t ∉ S) (hd : d ∉ S) : StW CC CB H' p b t d r s n := by
  obtain ⟨⟨dx, h1⟩, h2⟩ := h.ck
  obtain ⟨⟨bx, h3⟩, h4⟩ := h.bk
  exact { h with ck := ⟨⟨dx, f _ _ h1 hp⟩, f _ _ h2 ht⟩, bk := ⟨⟨bx, f _ _ h3 hb⟩, f _ _ h4 hd⟩ }
/-- lists may change -/
theorem StW.lst {S : List Addr} (h : StW CC CB H p b t d r s n) (f : But S H H') (hS : ∀ c ∈ S, H c = none ∨ ∃ xs, H c = some (.lst xs)) : StW CC CB H' p b t d r s n := by
  obtain ⟨⟨dx, h1⟩, h2⟩ := id h.ck
  obtain ⟨⟨bx, h3⟩, h4⟩ := id h.bk
  have no : ∀ {c : Addr} {u : HO}, H c = some u → (∀ xs, u ≠ .lst xs) → c ∉ S := fun hc hn z => by
    rcases hS _ z with e | ⟨xs, e⟩
    · rw [e] at hc; cases hc
    · rw [e] at hc; exact hn xs (Option.some.inj hc).symm
  exact h.but f (no h1 fun _ z => nomatch z) (no h3 fun _ z => nomatch z) (no h2 fun _ z => nomatch z) (no h4 fun _ z => nomatch z)
theorem StW.read (h : StW CC CB H p b t d r s n) (c : CkAt CC H' p b t r' s.2) (f : But [p] H H') : StW CC CB H' p b t d r' s n := by
  obtain ⟨⟨bx, h3⟩, h4⟩ := h.bk
  have n := h.ne
  exact { h with ck := c, bk := ⟨⟨bx, f _ _ h3 (fun z => h.bp (List.mem_singleton.mp z))⟩, f _ _ h4 (fun z => n.2.1 (List.mem_singleton.mp z).symm)⟩ }
/-- chunks.put(text) -/
theorem putW_run {z : Str} {Q : VK} {E : XK} (h : StW CC CB H p b t d r s n) (hn : n ≤ 89000)
    (k : ∀ H', StW CC CB H' p b t d r (putW s z) (n + 1) → But [d, t] H H' → Q (.int (adr s.1 z)) H') : spCkP CC CB [.ref p, .str z] H Q E := by
  obtain ⟨⟨dx, h1⟩, h2⟩ := h.ck
  obtain ⟨⟨bx, h3⟩, h4⟩ := h.bk
  have ne := h.ne
  refine ⟨p, b, t, d, r, s.2, bkL 1 s.1, z, rfl, h.ck, h.bk, nums_bk 1 s.1, h.dt, by rw [bkL_len]; have := h.lz; omega, by have := h.lk; omega, fun i H' hv hd ht f => ?_⟩
  rw [addK_bk] at hv hd
  rw [bkL_val, if_pos (addZ_mem s.1 z)] at hv
  have hi : i = adr s.1 z := (V.int.inj (Option.some.inj hv)).symm
  subst hi
  have hz := h.lz
  have hk := h.lk
  refine k H' ⟨⟨⟨dx, f _ _ h1 ?_⟩, ht⟩, ⟨⟨bx, f _ _ h3 ?_⟩, hd⟩, h.dt, h.bp, addZ_nodup h.nd, ?_, ?_, (con_put h.nd h.co z).1⟩ f
  · simp only [List.mem_cons, List.not_mem_nil, or_false, not_or]
    exact ⟨ne.2.1, ne.1⟩
  · simp only [List.mem_cons, List.not_mem_nil, or_false, not_or]
    exact ⟨ne.2.2.2, ne.2.2.1⟩
  · have := addZ_len s.1 z
    show (addZ s.1 z).length ≤ _
    omega
  · have := putKW_le s.2 (Sum.inl (adr s.1 z) : Key) (.str z)
    show (putK s.2 _ _).length ≤ _
    omega
end
/-- tuples stay -/
def ExU (H H' : Hp) : Prop := ∀ a u, H a = some u → ((∃ xs, u = .tup xs) ∨ ∃ o u', u = .frz o u') → H' a = some u
theorem ExU.refl (H : Hp) : ExU H H := fun _ _ h _ => h
theorem ExU.trans {H H1 H2 : Hp} (a : ExU H H1) (b : ExU H1 H2) : ExU H H2 := fun x o h n => b x o (a x o h n) n
theorem Ex.u {H H' : Hp} (e : Ex H H') : ExU H H' := fun a o h _ => e a o h
theorem exu_t {K : PySem.W.Frag} {H H' : Hp} {a : Addr} {xs : List V} (e : ExU H H') (h : SqT K H a xs) : SqT K H' a xs := by
  rcases h with (h | ⟨o, h⟩) | h
  · exact .inl (.inl (e _ _ h (.inl ⟨_, rfl⟩)))
  · exact .inl (.inr ⟨o, e _ _ h (.inr ⟨_, _, rfl⟩)⟩)
  · exact .inr h
mutual
theorem Dv.monoU {K : PySem.W.Frag} {H H' : Hp} (e : ExU H H') : ∀ {v : V} {d : It}, Dv K H v d → Dv K H' v d
  | _, _, .non => .non
  | _, _, .int i => .int i
  | _, _, .str z => .str z
  | _, _, .tup h r => .tup (exu_t e h) (DvL.monoU e r)
theorem DvL.monoU {K : PySem.W.Frag} {H H' : Hp} (e : ExU H H') : ∀ {vs : List V} {ds : List It}, DvL K H vs ds → DvL K H' vs ds
  | _, _, .nil => .nil
  | _, _, .cons h r => .cons (Dv.monoU e h) (DvL.monoU e r)
end
theorem But.u {S : List Addr} {H H' : Hp} (f : But S H H') (hS : ∀ c ∈ S, ∀ u, H c = some u → ¬ ((∃ xs, u = .tup xs) ∨ ∃ o u', u = .frz o u')) : ExU H H' := fun a u h n => f a u h fun z => hS a z u h n
/-- the addresses of a store are no tuples -/
theorem StW.u {CC CB : Addr} {H H' : Hp} {p b t d : Addr} {r : Int} {s : Sto} {n : Nat} (h : StW CC CB H p b t d r s n) {S : List Addr} (hS : ∀ c ∈ S, c = p ∨ c = d ∨ c = t) (f : But S H H') : ExU H H' := f.u fun c hc u hu hn => by
  obtain ⟨⟨dx, h1⟩, h2⟩ := id h.ck
  have h4 := h.bk.2
  have : u = .ins CC dx (cF b r t) ∨ u = .dK (bkL 1 s.1) ∨ u = .dK s.2 := by
    rcases hS c hc with rfl | rfl | rfl
    · rw [h1] at hu; exact .inl (Option.some.inj hu).symm
    · rw [h4] at hu; exact .inr (.inl (Option.some.inj hu).symm)
    · rw [h2] at hu; exact .inr (.inr (Option.some.inj hu).symm)
  rcases this with rfl | rfl | rfl
  · rcases hn with ⟨_, z⟩ | ⟨_, _, z⟩ <;> cases z
  · rcases hn with ⟨_, z⟩ | ⟨_, _, z⟩ <;> cases z
  · rcases hn with ⟨_, z⟩ | ⟨_, _, z⟩ <;> cases z
theorem But.freshW {p : Addr} {H H' : Hp} {a : Addr} {o : HO} (f : But [p] H H') (hp : H' p = some o) (ha : H' a = none) : H a = none := by
  cases e : H a with
  | none => rfl
  | some u =>
    have n : a ∉ [p] := fun z => by rw [List.mem_singleton.mp z, hp] at ha; cases ha
    rw [f _ _ e n] at ha
    cases ha

/-! ### trees: groups, chunks, levels -/
def txtI (d : It) : Str := ⟨(encC d).toArray⟩
def keyI : It → It
  | .tup (k :: _) => k
  | _ => .non
def cntE (lv : Nat) (e : It) : Int := match lv with
  | 0 => 1
  | _ + 1 => (match e with
    | .tup [_, _, .int c] => c
    | _ => 0)
def totE (lv : Nat) (es : List It) : Int := (es.map (cntE lv)).sum
def adrE : It → Int
  | .tup [_, .int a, _] => a
  | _ => 0
def rowsI (g : List It) : It := .tup [.str (Str.ofString "rows"), .tup g]
def nodeI (lv : Nat) (g : List It) : It := match lv with
  | 0 => rowsI g
  | l + 1 => .tup [.str (Str.ofString "node"), .int ((l + 1 : Nat) : Int), .tup g]
def grp (lv : Nat) : List It → List It → List (List It)
  | part, [] => if part = [] then [] else [part]
  | part, e :: r => if endsZ (lv : Int) (keyI e) ((part.length : Int) + 1) = true then (part ++ [e]) :: grp lv [] r else grp lv (part ++ [e]) r
def upI (lv : Nat) (s : Sto) (g : List It) : It := .tup [keyI (g.getLastD .non), .int (adr s.1 (txtI (nodeI lv g))), .int (totE lv g)]
def lvl (lv : Nat) : Sto → List (List It) → Sto × List It
  | s, [] => (s, [])
  | s, g :: gs => ((lvl lv (putW s (txtI (nodeI lv g))) gs).1, upI lv s g :: (lvl lv (putW s (txtI (nodeI lv g))) gs).2)
/-- an entry of a level -/
structure EOk (lv : Nat) (e : It) : Prop where
  sh : ∃ k r, e = .tup (k :: r) ∧ (lv ≠ 0 → ∃ a c, r = [.int a, .int c])
  kf : (keyI e).fit 1
  kl : (encC (keyI e)).length ≤ 5000
  ef : e.fit 2
  el : (encC e).length ≤ 40000
  ct : 0 ≤ cntE lv e
theorem endsZ_8 {l : Int} {d : It} : endsZ l d 8 = true := by unfold endsZ; rw [if_pos rfl]
theorem endsZ_2 {l c : Int} {d : It} (h0 : 0 < l) (h : endsZ l d c = true) : 2 ≤ c := by
  unfold endsZ at h
  split at h
  · omega
  · split at h
    · cases h
    · omega
theorem grp_flat (lv : Nat) : ∀ (es part : List It), (grp lv part es).flatten = part ++ es
  | [], part => by
    unfold grp
    split
    · rename_i e; rw [e] <;> rfl
    · simp
  | e :: r, part => by
    unfold grp
    split
    · rw [List.flatten_cons, grp_flat lv r []]; simp
    · rw [grp_flat lv r (part ++ [e])]; simp
theorem grp_ne (lv : Nat) : ∀ (es part : List It), ∀ g ∈ grp lv part es, g ≠ []
  | [], part, g, h => by
    unfold grp at h
    split at h
    · cases h
    · rename_i e
      rw [List.mem_singleton.mp h]; exact e
  | e :: r, part, g, h => by
    unfold grp at h
    split at h
    · rcases List.mem_cons.mp h with h | h
      · rw [h]; simp
      · exact grp_ne lv r [] g h
    · exact grp_ne lv r (part ++ [e]) g h
theorem grp_8 (lv : Nat) : ∀ (es part : List It), part.length ≤ 7 → ∀ g ∈ grp lv part es, g.length ≤ 8
  | [], part, hp, g, h => by
    unfold grp at h
    split at h
    · cases h
    · rw [List.mem_singleton.mp h]; omega
  | e :: r, part, hp, g, h => by
    unfold grp at h
    split at h
    · rcases List.mem_cons.mp h with h | h
      · rw [h, List.length_append, List.length_singleton]; omega
      · exact grp_8 lv r [] (by simp) g h
    · rename_i hn
      refine grp_8 lv r (part ++ [e]) ?_ g h
      rw [List.length_append, List.length_singleton]
      by_cases h7 : part.length = 7
      · rw [h7] at hn
        exact absurd endsZ_8 hn
      · omega
theorem grp_len (lv : Nat) : ∀ (es part : List It), (grp lv part es).length ≤ part.length + es.length
  | [], part => by
    unfold grp
    split
    · exact Nat.zero_le _
    · rename_i h
      have : part.length ≠ 0 := fun z => h (List.eq_nil_of_length_eq_zero z)
      show 1 ≤ _; omega
  | e :: r, part => by
    unfold grp
    split
    · have := grp_len lv r []
      rw [List.length_cons, List.length_cons]
      simp only [List.length_nil] at this
      omega
    · have := grp_len lv r (part ++ [e])
      rw [List.length_append, List.length_singleton] at this
      rw [List.length_cons]; omega
theorem grp_half {lv : Nat} (h0 : 0 < lv) : ∀ (es part : List It), 2 * (grp lv part es).length ≤ part.length + es.length + 1
  | [], part => by
    unfold grp
    split
    · show 0 ≤ _; omega
    · rename_i h
      have : part.length ≠ 0 := fun z => h (List.eq_nil_of_length_eq_zero z)
      show 2 * 1 ≤ part.length + 0 + 1; omega
  | e :: r, part => by
    unfold grp
    split
    · rename_i h
      have := grp_half h0 r []
      have h2 := endsZ_2 (by omega) h
      rw [List.length_cons, List.length_cons]
      simp only [List.length_nil] at this
      omega
    · have := grp_half h0 r (part ++ [e])
      rw [List.length_append, List.length_singleton] at this
      rw [List.length_cons]; omega
theorem grp_pos {lv : Nat} {es : List It} (h : es ≠ []) : grp lv [] es ≠ [] := fun z => by
  have := grp_flat lv es []
  rw [z] at this
  exact h (by simpa using this.symm)
theorem lvl_len (lv : Nat) : ∀ (gs : List (List It)) (s : Sto), (lvl lv s gs).2.length = gs.length
  | [], _ => rfl
  | g :: gs, s => by
    show ((lvl lv _ gs).2.length + 1) = _
    rw [lvl_len lv gs] <;> rfl
theorem lvl_con (lv : Nat) : ∀ (gs : List (List It)) (s : Sto), s.1.Nodup → Con s.1 s.2 → (lvl lv s gs).1.1.Nodup ∧ Con (lvl lv s gs).1.1 (lvl lv s gs).1.2 ∧ Le s.2 (lvl lv s gs).1.2
  | [], s, nd, hc => ⟨nd, hc, Le.refl _⟩
  | g :: gs, s, nd, hc => by
    have c1 := con_put nd hc (txtI (nodeI lv g))
    obtain ⟨h1, h2, h3⟩ := lvl_con lv gs (putW s (txtI (nodeI lv g))) (addZ_nodup nd) c1.1
    exact ⟨h1, h2, c1.2.trans h3⟩
theorem totE_app (lv : Nat) (a b : List It) : totE lv (a ++ b) = totE lv a + totE lv b := by
  unfold totE
  rw [List.map_append, List.sum_append]
theorem totE_nn {lv : Nat} : ∀ {es : List It}, (∀ e ∈ es, EOk lv e) → 0 ≤ totE lv es
  | [], _ => Int.le_refl 0
  | e :: es, h => by
    have h1 := (h e List.mem_cons_self).ct
    have h2 := totE_nn fun x hx => h x (List.mem_cons_of_mem e hx)
    show 0 ≤ cntE lv e + totE lv es
    omega
theorem totE_up (lv : Nat) : ∀ (gs : List (List It)) (s : Sto), totE (lv + 1) (lvl lv s gs).2 = totE lv gs.flatten
  | [], _ => rfl
  | g :: gs, s => by
    rw [List.flatten_cons, totE_app]
    show totE lv g + totE (lv + 1) (lvl lv _ gs).2 = _
    rw [totE_up lv gs]
theorem small_fit {i : Int} {n : Nat} (h : -1000000 ≤ i ∧ i ≤ 1000000) : It.fit n (.int i) := by
  have e60 : (10 : Int) ^ 60 = 1000000000000000000000000000000000000000000000000000000000000 := by decide
  cases n <;> (show -(10 ^ 60) < i ∧ i < 10 ^ 60; rw [e60]; omega)
theorem small_len {i : Int} (h : -1000000 ≤ i ∧ i ≤ 1000000) : (encC (.int i)).length ≤ 1923 := enc_int_len (fit_int (n := 0) (small_fit h))
theorem adr_le {zs : List Str} {z : Str} : 1 ≤ adr zs z ∧ adr zs z ≤ (zs.length : Int) + 1 := by
  have h1 := posZ_lt (addZ_mem zs z)
  have h2 := addZ_len zs z
  unfold adr
  omega
theorem upI_ok {lv : Nat} {s : Sto} {g : List It} (hg : g ≠ []) (h : ∀ e ∈ g, EOk lv e) (hs : s.1.length ≤ 100000) (ht : totE lv g ≤ 100000) : EOk (lv + 1) (upI lv s g) := by
  have hm : g.getLastD .non ∈ g := by
    cases g with
    | nil => exact absurd rfl hg
    | cons a r =>
      rw [List.getLastD_cons]
      exact List.getLastD_mem_cons
  have he := h _ hm
  have h0 := totE_nn h
  have ha := adr_le (zs := s.1) (z := txtI (nodeI lv g))
  have f1 : It.fit 1 (.int (adr s.1 (txtI (nodeI lv g)))) := small_fit (by omega)
  have f2 : It.fit 1 (.int (totE lv g)) := small_fit (by omega)
  have l1 := small_len (i := adr s.1 (txtI (nodeI lv g))) (by omega)
  have l2 := small_len (i := totE lv g) (by omega)
  have hk := he.kl
  refine ⟨⟨_, _, rfl, fun _ => ⟨_, _, rfl⟩⟩, he.kf, he.kl, ⟨by show 3 ≤ 1000; decide, fun y hy => ?_⟩, ?_, h0⟩
  · simp only [List.mem_cons, List.not_mem_nil, or_false] at hy
    rcases hy with rfl | rfl | rfl
    · exact he.kf
    · exact f1
    · exact f2
  · unfold upI
    rw [enc_tup_len]
    show (encC (keyI (g.getLastD .non)) ++ (encC (.int (adr s.1 (txtI (nodeI lv g)))) ++ (encC (.int (totE lv g)) ++ []))).length + 2 ≤ _
    rw [List.length_append, List.length_append, List.length_append, List.length_nil]
    omega
theorem totE_mem {lv : Nat} : ∀ {gs : List (List It)}, (∀ e ∈ gs.flatten, EOk lv e) → ∀ g ∈ gs, totE lv g ≤ totE lv gs.flatten
  | [], _, g, h => nomatch h
  | a :: gs, he, g, h => by
    rw [List.flatten_cons] at he ⊢
    rw [totE_app]
    have h1 := totE_nn (lv := lv) (es := a) fun e hx => he e (List.mem_append_left _ hx)
    have h2 := totE_nn (lv := lv) (es := gs.flatten) fun e hx => he e (List.mem_append_right _ hx)
    rcases List.mem_cons.mp h with h | h
    · rw [h]; omega
    · have := totE_mem (lv := lv) (gs := gs) (fun e hx => he e (List.mem_append_right _ hx)) g h
      omega
theorem lvl_ok {lv : Nat} : ∀ {gs : List (List It)} {s : Sto}, (∀ g ∈ gs, g ≠ []) → (∀ e ∈ gs.flatten, EOk lv e) → s.1.length + gs.length ≤ 100000 → totE lv gs.flatten ≤ 100000 → ∀ e ∈ (lvl lv s gs).2, EOk (lv + 1) e
  | [], s, _, _, _, _, e, h => nomatch h
  | g :: gs, s, hn, he, hs, ht, e, h => by
    have hg := totE_mem he g List.mem_cons_self
    have he1 : ∀ e ∈ g, EOk lv e := fun e hx => he e (by rw [List.flatten_cons]; exact List.mem_append_left _ hx)
    have he2 : ∀ e ∈ gs.flatten, EOk lv e := fun e hx => he e (by rw [List.flatten_cons]; exact List.mem_append_right _ hx)
    rw [List.length_cons] at hs
    rw [List.flatten_cons, totE_app] at ht
    have hz := totE_nn he1
    rcases List.mem_cons.mp h with h | h
    · rw [h]
      exact upI_ok (hn g List.mem_cons_self) he1 (by omega) (by rw [List.flatten_cons, totE_app] at hg; have := totE_nn he2; omega)
    · refine lvl_ok (fun g' hg' => hn g' (List.mem_cons_of_mem _ hg')) he2 ?_ (by omega) e h
      have := addZ_len s.1 (txtI (nodeI lv g))
      show (addZ s.1 _).length + gs.length ≤ _
      omega
/-! ### the level that holds the rest of a tree -/
def fin (lv : Nat) (s : Sto) (out part rest : List It) : Sto × List It := ((lvl lv s (grp lv part rest)).1, out ++ (lvl lv s (grp lv part rest)).2)
theorem fin_end {lv : Nat} {s : Sto} {out : List It} : fin lv s out [] [] = (s, out) := by
  unfold fin grp
  rw [if_pos rfl]
  show (s, out ++ []) = _
  rw [List.append_nil]
theorem fin_last {lv : Nat} {s : Sto} {out part : List It} (h : part ≠ []) : fin lv s out part [] = (putW s (txtI (nodeI lv part)), out ++ [upI lv s part]) := by
  unfold fin grp
  rw [if_neg h] <;> rfl
theorem fin_yes {lv : Nat} {s : Sto} {out part r : List It} {e : It} (h : endsZ (lv : Int) (keyI e) ((part.length : Int) + 1) = true) : fin lv s out part (e :: r) = fin lv (putW s (txtI (nodeI lv (part ++ [e])))) (out ++ [upI lv s (part ++ [e])]) [] r := by
  unfold fin
  rw [grp, if_pos h]
  show (_, out ++ (upI lv s (part ++ [e]) :: _)) = _
  rw [List.append_assoc] <;> rfl
theorem fin_no {lv : Nat} {s : Sto} {out part r : List It} {e : It} (h : endsZ (lv : Int) (keyI e) ((part.length : Int) + 1) = false) : fin lv s out part (e :: r) = fin lv s out (part ++ [e]) r := by
  unfold fin
  rw [grp, if_neg (by rw [h]; exact Bool.false_ne_true)]
/-- all levels -/
def joinZ : Nat → Nat → Sto → List It → Sto × Int
  | 0, _, s, es => (s, adrE (es.headD .non))
  | f + 1, lv, s, es => if es.length ≤ 1 then (s, adrE (es.headD .non)) else joinZ f (lv + 1) (lvl lv s (grp lv [] es)).1 (lvl lv s (grp lv [] es)).2
def buildZ (s : Sto) (es : List It) : Sto × Int := if es = [] then (putW s (txtI (rowsI [])), adr s.1 (txtI (rowsI []))) else joinZ es.length 1 (lvl 0 s (grp 0 [] es)).1 (lvl 0 s (grp 0 [] es)).2
/-! ### what stands beneath an entry, a chunk -/
inductive SubL {α : Type} (S : It → List α → Prop) : List It → List α → Prop
  | nil : SubL S [] []
  | cons {e : It} {es : List It} {l1 l2 : List α} (h : S e l1) (r : SubL S es l2) : SubL S (e :: es) (l1 ++ l2)
theorem SubL.imp {α : Type} {S S' : It → List α → Prop} (f : ∀ e l, S e l → S' e l) : ∀ {es : List It} {l : List α}, SubL S es l → SubL S' es l
  | _, _, .nil => .nil
  | _, _, .cons h r => .cons (f _ _ h) (r.imp f)
theorem SubL.app {α : Type} {S : It → List α → Prop} : ∀ {a b : List It} {l m : List α}, SubL S a l → SubL S b m → SubL S (a ++ b) (l ++ m)
  | _, _, _, _, .nil, h => h
  | _, _, _, _, .cons (l1 := l1) (l2 := l2) h r, g => by
    rw [List.append_assoc, List.cons_append]
    exact .cons h (r.app g)
theorem SubL.split {α : Type} {S : It → List α → Prop} : ∀ {a b : List It} {l : List α}, SubL S (a ++ b) l → ∃ l1 l2, l = l1 ++ l2 ∧ SubL S a l1 ∧ SubL S b l2
  | [], b, l, h => ⟨[], l, rfl, .nil, h⟩
  | x :: a, b, _, .cons (l1 := l1) h r => by
    obtain ⟨m1, m2, rfl, h1, h2⟩ := r.split
    exact ⟨l1 ++ m1, m2, by rw [List.append_assoc], .cons h h1, h2⟩
structure GOk (lv : Nat) (g : List It) : Prop where
  es : ∀ e ∈ g, EOk lv e
  ln : g.length ≤ 8
  lv : lv ≤ 1000
theorem GOk.fit {lv : Nat} {g : List It} (h : GOk lv g) {n : Nat} (hn : 4 ≤ n) : (nodeI lv g).fit n := by
  refine It.fit_mono (n := 4) ?_ hn
  have fg : It.fit 3 (.tup g) := ⟨by have := h.ln; omega, fun y hy => (h.es y hy).ef⟩
  cases lv with
  | zero =>
    refine ⟨by show 2 ≤ 1000; decide, fun y hy => ?_⟩
    simp only [List.mem_cons, List.not_mem_nil, or_false] at hy
    rcases hy with rfl | rfl
    · show (Str.ofString "rows").length ≤ 999999; decide +kernel
    · exact fg
  | succ l =>
    refine ⟨by show 3 ≤ 1000; decide, fun y hy => ?_⟩
    simp only [List.mem_cons, List.not_mem_nil, or_false] at hy
    have hl := h.lv
    rcases hy with rfl | rfl | rfl
    · show (Str.ofString "node").length ≤ 999999; decide +kernel
    · exact small_fit (by omega)
    · exact fg
theorem GOk.size {lv : Nat} {g : List It} (h : GOk lv g) : (encC (nodeI lv g)).length ≤ 1000000 := by
  have hg : (encL g).length ≤ g.length * 40000 := encL_len fun e he => (h.es e he).el
  have h8 := h.ln
  have hg2 : (encC (.tup g)).length ≤ 320002 := by
    rw [enc_tup_len]
    have : g.length * 40000 ≤ 8 * 40000 := Nat.mul_le_mul_right _ h8
    omega
  have hr := enc_str_len (z := Str.ofString "rows") (by decide +kernel)
  have hn := enc_str_len (z := Str.ofString "node") (by decide +kernel)
  have er : (Str.ofString "rows").length = 4 := by decide +kernel
  have en : (Str.ofString "node").length = 4 := by decide +kernel
  cases lv with
  | zero =>
    show (encC (.tup [.str (Str.ofString "rows"), .tup g])).length ≤ _
    rw [enc_tup_len]
    show (encC (.str (Str.ofString "rows")) ++ (encC (.tup g) ++ [])).length + 2 ≤ _
    rw [List.length_append, List.length_append, List.length_nil]
    omega
  | succ l =>
    have hl := h.lv
    have hi := small_len (i := ((l + 1 : Nat) : Int)) (by omega)
    show (encC (.tup [.str (Str.ofString "node"), .int ((l + 1 : Nat) : Int), .tup g])).length ≤ _
    rw [enc_tup_len]
    show (encC (.str (Str.ofString "node")) ++ (encC (.int ((l + 1 : Nat) : Int)) ++ (encC (.tup g) ++ []))).length + 2 ≤ _
    rw [List.length_append, List.length_append, List.length_append, List.length_nil]
    omega
def SubOf (kvs : List (Key × V)) : Nat → It → List It → Prop
  | 0, e, l => l = [e]
  | n + 1, e, l => ∃ k a g, e = .tup [k, .int a, .int (l.length : Int)] ∧ valV kvs (Sum.inl a : Key) = some (.str (txtI (nodeI n g))) ∧ GOk n g ∧ l ≠ [] ∧ SubL (SubOf kvs n) g l
theorem SubOf.le {a b : List (Key × V)} (h : Le a b) : ∀ {n : Nat} {e : It} {l : List It}, SubOf a n e l → SubOf b n e l
  | 0, _, _, x => x
  | n + 1, e, l, ⟨k, ad, g, h1, h2, h3, h4, h5⟩ => ⟨k, ad, g, h1, h _ _ h2, h3, h4, h5.imp fun _ _ x => SubOf.le h x⟩
def RootOf (kvs : List (Key × V)) (h : Nat) (a : Int) (l : List It) : Prop := ∃ g, valV kvs (Sum.inl a : Key) = some (.str (txtI (nodeI h g))) ∧ GOk h g ∧ SubL (SubOf kvs h) g l ∧ totE h g = (l.length : Int)
theorem RootOf.le {a b : List (Key × V)} (h : Le a b) {n : Nat} {r : Int} {l : List It} (x : RootOf a n r l) : RootOf b n r l := by
  obtain ⟨g, h1, h2, h3, h4⟩ := x
  exact ⟨g, h _ _ h1, h2, h3.imp fun _ _ y => y.le h, h4⟩
theorem sub_tot {kvs : List (Key × V)} {lv : Nat} : ∀ {es l : List It}, SubL (SubOf kvs lv) es l → totE lv es = (l.length : Int)
  | _, _, .nil => rfl
  | _, _, .cons (e := e) (es := es) (l1 := l1) (l2 := l2) h r => by
    have ih := sub_tot r
    show cntE lv e + totE lv es = _
    rw [ih, List.length_append]
    cases lv with
    | zero =>
      have : l1 = [e] := h
      rw [this]
      show (1 : Int) + _ = _
      simp
    | succ n =>
      obtain ⟨k, a, g, rfl, _⟩ := h
      show (l1.length : Int) + _ = _
      omega
theorem sub_ne {kvs : List (Key × V)} {lv : Nat} {e : It} {l : List It} (h : SubOf kvs lv e l) : l ≠ [] := by
  cases lv with
  | zero =>
    have : l = [e] := h
    rw [this]; simp
  | succ n =>
    obtain ⟨_, _, _, _, _, _, h, _⟩ := h
    exact h
theorem subl_ne {kvs : List (Key × V)} {lv : Nat} {es l : List It} (h : SubL (SubOf kvs lv) es l) (hn : es ≠ []) : l ≠ [] := by
  cases h with
  | nil => exact absurd rfl hn
  | cons h r =>
    intro z
    exact sub_ne h (List.append_eq_nil_iff.mp z).1
theorem lvl_sub {lv : Nat} : ∀ {gs : List (List It)} {s : Sto} {l : List It}, s.1.Nodup → Con s.1 s.2 → (∀ g ∈ gs, g ≠ [] ∧ GOk lv g) → SubL (SubOf s.2 lv) gs.flatten l → SubL (SubOf (lvl lv s gs).1.2 (lv + 1)) (lvl lv s gs).2 l
  | [], s, l, _, _, _, h => by
    cases h
    exact .nil
  | g :: gs, s, l, nd, hc, hg, h => by
    rw [List.flatten_cons] at h
    obtain ⟨l1, l2, rfl, h1, h2⟩ := h.split
    have c1 := con_put nd hc (txtI (nodeI lv g))
    have cl := lvl_con lv gs (putW s (txtI (nodeI lv g))) (addZ_nodup nd) c1.1
    have hg1 := hg g List.mem_cons_self
    have ih := lvl_sub (gs := gs) (s := putW s (txtI (nodeI lv g))) (l := l2) (addZ_nodup nd) c1.1 (fun g' h' => hg g' (List.mem_cons_of_mem _ h')) (h2.imp fun _ _ y => y.le c1.2)
    refine .cons ?_ ih
    refine ⟨keyI (g.getLastD .non), adr s.1 (txtI (nodeI lv g)), g, ?_, cl.2.2 _ _ (putW_val s _), hg1.2, subl_ne h1 hg1.1, h1.imp fun _ _ y => y.le (c1.2.trans cl.2.2)⟩
    unfold upI
    rw [sub_tot h1]
theorem sub_leaf {kvs : List (Key × V)} : ∀ {es : List It}, SubL (SubOf kvs 0) es es
  | [] => .nil
  | e :: es => .cons (l1 := [e]) rfl sub_leaf
theorem root_of {kvs : List (Key × V)} {lv : Nat} {es l : List It} (h : SubL (SubOf kvs (lv + 1)) es l) (h1 : es.length = 1) : RootOf kvs lv (adrE (es.headD .non)) l := by
  match es, h1, h with
  | [e], _, .cons (l1 := l1) (l2 := l2) h r =>
    cases r
    rw [List.append_nil]
    obtain ⟨k, a, g, rfl, h2, h3, _, h4⟩ := h
    exact ⟨g, h2, h3, h4, sub_tot h4⟩
theorem joinZ_root : ∀ {f lv : Nat} {s : Sto} {es l : List It}, s.1.Nodup → Con s.1 s.2 → (∀ e ∈ es, EOk (lv + 1) e) → SubL (SubOf s.2 (lv + 1)) es l → es ≠ [] → es.length ≤ f + 1 → lv + f ≤ 999 → s.1.length + 5 * es.length ≤ 90000 → totE (lv + 1) es ≤ 100000 →
    (∃ h, RootOf (joinZ f (lv + 1) s es).1.2 h (joinZ f (lv + 1) s es).2 l) ∧ Le s.2 (joinZ f (lv + 1) s es).1.2 ∧ (joinZ f (lv + 1) s es).1.1.Nodup ∧ Con (joinZ f (lv + 1) s es).1.1 (joinZ f (lv + 1) s es).1.2
  | 0, lv, s, es, l, nd, hc, he, hs, hn, hl, _, _, _ => by
    have h1 : es.length = 1 := by
      have : es.length ≠ 0 := fun z => hn (List.eq_nil_of_length_eq_zero z)
      omega
    exact ⟨⟨lv, root_of hs h1⟩, Le.refl _, nd, hc⟩
  | f + 1, lv, s, es, l, nd, hc, he, hs, hn, hl, hf, hz, ht => by
    unfold joinZ
    split
    · rename_i h1
      have h1 : es.length = 1 := by
        have : es.length ≠ 0 := fun z => hn (List.eq_nil_of_length_eq_zero z)
        omega
      exact ⟨⟨lv, root_of hs h1⟩, Le.refl _, nd, hc⟩
    · rename_i h1
      have gf := grp_flat (lv + 1) es []
      rw [List.nil_append] at gf
      have cl := lvl_con (lv + 1) (grp (lv + 1) [] es) s nd hc
      have g2 := grp_half (lv := lv + 1) (by omega) es []
      have gl : (grp (lv + 1) [] es).length ≠ 0 := fun z => grp_pos hn (List.eq_nil_of_length_eq_zero z)
      simp only [List.length_nil] at g2
      have ln := lvl_len (lv + 1) (grp (lv + 1) [] es) s
      have hok := lvl_ok (lv := lv + 1) (gs := grp (lv + 1) [] es) (s := s) (grp_ne (lv + 1) es []) (by rw [gf]; exact he) (by omega) (by rw [gf]; exact ht)
      have hsb := lvl_sub (lv := lv + 1) (gs := grp (lv + 1) [] es) (s := s) (l := l) nd hc (fun g hg => ⟨grp_ne (lv + 1) es [] g hg, fun e hx => he e (by rw [← gf]; exact List.mem_flatten.mpr ⟨g, hg, hx⟩), grp_8 (lv + 1) es [] (by simp) g hg, by omega⟩) (by rw [gf]; exact hs)
      have hzl : ∀ (gs : List (List It)) (s : Sto), (lvl (lv + 1) s gs).1.1.length ≤ s.1.length + gs.length := fun gs => by
        induction gs with
        | nil => exact fun s => Nat.le_refl _
        | cons g gs ih =>
          intro s
          have h1 := ih (putW s (txtI (nodeI (lv + 1) g)))
          have h2 := addZ_len s.1 (txtI (nodeI (lv + 1) g))
          have h1 : (lvl (lv + 1) (putW s (txtI (nodeI (lv + 1) g))) gs).1.1.length ≤ (addZ s.1 (txtI (nodeI (lv + 1) g))).length + gs.length := h1
          show (lvl (lv + 1) (putW s (txtI (nodeI (lv + 1) g))) gs).1.1.length ≤ s.1.length + (gs.length + 1)
          omega
      have hz1 := hzl (grp (lv + 1) [] es) s
      obtain ⟨k1, k2, k3, k4⟩ := joinZ_root (f := f) (lv := lv + 1) cl.1 cl.2.1 hok hsb (fun z => by rw [z] at ln; exact gl ln.symm) (by omega) (by omega) (by omega) (by rw [totE_up, gf]; exact ht)
      exact ⟨k1, cl.2.2.trans k2, k3, k4⟩
theorem buildZ_root {s : Sto} {es : List It} (nd : s.1.Nodup) (hc : Con s.1 s.2) (he : ∀ e ∈ es, EOk 0 e) (hl : es.length ≤ 990) (hz : s.1.length ≤ 80000) : (∃ h, RootOf (buildZ s es).1.2 h (buildZ s es).2 es) ∧ Le s.2 (buildZ s es).1.2 ∧ (buildZ s es).1.1.Nodup ∧ Con (buildZ s es).1.1 (buildZ s es).1.2 := by
  unfold buildZ
  split
  · rename_i h
    subst h
    have c1 := con_put nd hc (txtI (rowsI []))
    exact ⟨⟨0, [], putW_val s _, ⟨fun _ h => (nomatch h), by decide, by decide⟩, .nil, rfl⟩, c1.2, addZ_nodup nd, c1.1⟩
  · rename_i hn
    have gf := grp_flat 0 es []
    rw [List.nil_append] at gf
    have ht : totE 0 es = (es.length : Int) := sub_tot (kvs := s.2) sub_leaf
    have cl := lvl_con 0 (grp 0 [] es) s nd hc
    have g1 := grp_len 0 es []
    simp only [List.length_nil] at g1
    have gl : (grp 0 [] es).length ≠ 0 := fun z => grp_pos hn (List.eq_nil_of_length_eq_zero z)
    have ln := lvl_len 0 (grp 0 [] es) s
    have hok := lvl_ok (lv := 0) (gs := grp 0 [] es) (s := s) (grp_ne 0 es []) (by rw [gf]; exact he) (by omega) (by rw [gf, ht]; omega)
    have hsb := lvl_sub (lv := 0) (gs := grp 0 [] es) (s := s) (l := es) nd hc (fun g hg => ⟨grp_ne 0 es [] g hg, fun e hx => he e (by rw [← gf]; exact List.mem_flatten.mpr ⟨g, hg, hx⟩), grp_8 0 es [] (by simp) g hg, by omega⟩) (by rw [gf]; exact sub_leaf)
    have hzl : ∀ (gs : List (List It)) (s : Sto), (lvl 0 s gs).1.1.length ≤ s.1.length + gs.length := fun gs => by
      induction gs with
      | nil => exact fun s => Nat.le_refl _
      | cons g gs ih =>
        intro s
        have h1 := ih (putW s (txtI (nodeI 0 g)))
        have h2 := addZ_len s.1 (txtI (nodeI 0 g))
        have h1 : (lvl 0 (putW s (txtI (nodeI 0 g))) gs).1.1.length ≤ (addZ s.1 (txtI (nodeI 0 g))).length + gs.length := h1
        show (lvl 0 (putW s (txtI (nodeI 0 g))) gs).1.1.length ≤ s.1.length + (gs.length + 1)
        omega
    have hz1 := hzl (grp 0 [] es) s
    obtain ⟨k1, k2, k3, k4⟩ := joinZ_root (f := es.length) (lv := 0) cl.1 cl.2.1 hok hsb (fun z => by rw [z] at ln; exact gl ln.symm) (by omega) (by omega) (by omega) (by rw [totE_up, gf, ht]; omega)
    exact ⟨k1, cl.2.2.trans k2, k3, k4⟩
theorem log60b {i : Int} (h : -1000000 ≤ i ∧ i ≤ 1000000) : -(10 ^ 60) < i ∧ i < 10 ^ 60 := fit_int60 (n := 0) (small_fit h)
theorem joinZ_stop {f lv : Nat} {s : Sto} {es : List It} (h : es.length ≤ 1) : joinZ f lv s es = (s, adrE (es.headD .non)) := by
  cases f with
  | zero => rfl
  | succ f => unfold joinZ; rw [if_pos h]
theorem joinZ_go {f lv : Nat} {s : Sto} {es : List It} (h : ¬ es.length ≤ 1) : joinZ (f + 1) lv s es = joinZ f (lv + 1) (lvl lv s (grp lv [] es)).1 (lvl lv s (grp lv [] es)).2 := by
  rw [joinZ, if_neg h]
theorem lvl_zs (lv : Nat) : ∀ (gs : List (List It)) (s : Sto), (lvl lv s gs).1.1.length ≤ s.1.length + gs.length
  | [], _ => Nat.le_refl _
  | g :: gs, s => by
    have h1 := lvl_zs lv gs (putW s (txtI (nodeI lv g)))
    have h2 := addZ_len s.1 (txtI (nodeI lv g))
    have h1 : (lvl lv (putW s (txtI (nodeI lv g))) gs).1.1.length ≤ (addZ s.1 (txtI (nodeI lv g))).length + gs.length := h1
    show (lvl lv (putW s (txtI (nodeI lv g))) gs).1.1.length ≤ s.1.length + (gs.length + 1)
    omega
theorem joinZ_le : ∀ {f lv : Nat} {s : Sto} {es : List It}, s.1.Nodup → Con s.1 s.2 → Le s.2 (joinZ f lv s es).1.2
  | 0, _, _, _, _, _ => Le.refl _
  | f + 1, lv, s, es, nd, hc => by
    unfold joinZ
    split
    · exact Le.refl _
    · have cl := lvl_con lv (grp lv [] es) s nd hc
      exact cl.2.2.trans (joinZ_le cl.1 cl.2.1)

/-! ### the tree's heap side -/
def iOr (a b : TI) : TI := fun σ H R => a σ H R ∨ b σ H R
theorem pi_or {X : Cx} {tg l : Expr} {a b : TI} (ha : PI X tg l a) (hb : PI X tg l b) : PI X tg l (iOr a b) := ⟨fun pins s σ H R I h => h.elim (ha.run pins s σ H R I) (hb.run pins s σ H R I)⟩
theorem el_orL {a b : TI} {g : TG} {t : TT} {te : TE} {vs : List Nat} {σ : L2.St} {H : Hp} {ys : List V} (h : EvL (tLc a g t te vs) σ H ys) : EvL (tLc (iOr a b) g t te vs) σ H ys := fun H1 e Q q => Or.inl (h H1 e Q q)
theorem el_orR {a b : TI} {g : TG} {t : TT} {te : TE} {vs : List Nat} {σ : L2.St} {H : Hp} {ys : List V} (h : EvL (tLc b g t te vs) σ H ys) : EvL (tLc (iOr a b) g t te vs) σ H ys := fun H1 e Q q => Or.inr (h H1 e Q q)
section
variable {K : PySem.W.Frag} {H : Hp}
theorem dv_tup {v : V} {ds : List It} (h : Dv K H v (.tup ds)) : ∃ a xs, v = .ref a ∧ SqT K H a xs ∧ DvL K H xs ds := by
  cases h with
  | tup h r => exact ⟨_, _, rfl, h, r⟩
theorem dvl_nil {vs : List V} (h : DvL K H vs []) : vs = [] := by
  cases h; rfl
theorem dvl_cons {vs : List V} {d : It} {ds : List It} (h : DvL K H vs (d :: ds)) : ∃ v us, vs = v :: us ∧ Dv K H v d ∧ DvL K H us ds := by
  cases h with
  | cons h r => exact ⟨_, _, rfl, h, r⟩
theorem dv_int {v : V} {i : Int} (h : Dv K H v (.int i)) : v = .int i := by cases h; rfl
theorem dv_str {v : V} {z : Str} (h : Dv K H v (.str z)) : v = .str z := by cases h; rfl
theorem dvl_get : ∀ {vs : List V} {ds : List It}, DvL K H vs ds → ∀ {i : Nat} {v : V}, vs[i]? = some v → ∃ d, ds[i]? = some d ∧ Dv K H v d
  | _, _, .cons h _, 0, v, e => ⟨_, rfl, by rw [← Option.some.inj e]; exact h⟩
  | _, _, .cons _ r, i + 1, v, e => by
    obtain ⟨d, h1, h2⟩ := dvl_get r (i := i) (by simpa using e)
    exact ⟨d, by simpa using h1, h2⟩
theorem dvl_rev : ∀ {vs : List V} {ds : List It}, DvL K H vs ds → DvL K H vs.reverse ds.reverse
  | _, _, .nil => .nil
  | _, _, .cons h r => by
    rw [List.reverse_cons, List.reverse_cons]
    exact (dvl_rev r).app (.cons h .nil)
end
/-- a piece: a level, an entry -/
def pcI (lv : Nat) (e : It) : It := .tup [.int (lv : Int), e]
theorem totE_0 (es : List It) : totE 0 es = (es.length : Int) := by
  induction es with
  | nil => rfl
  | cons e es ih =>
    show (1 : Int) + totE 0 es = _
    rw [ih, List.length_cons]
    omega
theorem ev_sumN {K : PySem.W.Frag} {σ : L2.St} {H : Hp} {tl : TE} {ns : List Int} {n : Int} (h : EvL tl σ H (ns.map V.int)) (hn : ns.sum = n) : Ev (tCB (rSum K) (tCons tl tNil)) σ H (.int n) := fun H1 e Q q => h H1 e _ fun a H2 _ e2 ha => ⟨a, ns, rfl, sq_of ha, by rw [hn]; exact q H2 e2⟩
/-! ### items, lists of items, told by what they are -/
def EI (K : PySem.W.Frag) (te : TE) (σ : L2.St) (H : Hp) (d : It) : Prop := ∀ H1, Ex H H1 → ∀ Q : VK, (∀ v H2, Ex H1 H2 → Dv K H2 v d → Q v H2) → te σ H1 Q
def EDI (K : PySem.W.Frag) (te : TE) (σ : L2.St) (H : Hp) (ds : List It) : Prop := ∀ H1, Ex H H1 → ∀ Q : VK, (∀ p vs H2, H1 p = none → Ex H1 H2 → H2 p = some (.lst vs) → DvL K H2 vs ds → Q (.ref p) H2) → te σ H1 Q
theorem ei_ev {K : PySem.W.Frag} {te : TE} {σ : L2.St} {H : Hp} {v : V} {d : It} (h : Ev te σ H v) (hd : Dv K H v d) : EI K te σ H d := fun H1 e Q q => h H1 e _ fun H2 e2 => q v H2 e2 (hd.mono (e.trans e2))
def EAI (K : PySem.W.Frag) (ta : TA) (σ : L2.St) (H : Hp) (ds : List It) : Prop := ∀ H1, Ex H H1 → ∀ R : List V → Hp → Prop, (∀ vs H2, Ex H1 H2 → DvL K H2 vs ds → R vs H2) → ta σ H1 R
theorem eai_nil {K : PySem.W.Frag} {σ : L2.St} {H : Hp} : EAI K tNil σ H [] := fun H1 _ R r => r [] H1 (Ex.refl _) .nil
theorem eai_cons {K : PySem.W.Frag} {te : TE} {tr : TA} {σ : L2.St} {H : Hp} {d : It} {ds : List It} (h : EI K te σ H d) (hr : EAI K tr σ H ds) : EAI K (tCons te tr) σ H (d :: ds) := fun H1 e R r => h H1 e _ fun v H2 e2 hv => hr H2 (e.trans e2) _ fun vs H3 e3 hvs => r (v :: vs) H3 (e2.trans e3) (.cons (hv.mono e3) hvs)
theorem ei_tup {K : PySem.W.Frag} {ta : TA} {σ : L2.St} {H : Hp} {ds : List It} (h : EAI K ta σ H ds) (hl : ds.length ≤ 100000) : EI K (tTup ta) σ H (.tup ds) := fun H1 e Q q => h H1 e _ fun vs H2 e2 hd => ⟨by rw [hd.len]; exact sz_of hl, fun p hp => q _ _ (e2.trans (Ex.new hp)) (.tup (st_of upd_same) (hd.mono (Ex.new hp)))⟩
theorem dvl_take {K : PySem.W.Frag} {H : Hp} {us : List V} {ds : List It} {i : Nat} {d : It} {v : V} (h : DvL K H us (ds.take i)) (hd : ds[i]? = some d) (hv : Dv K H v d) : DvL K H (us ++ [v]) (ds.take (i + 1)) := by
  rw [List.take_add_one, hd]
  exact h.app (.cons hv .nil)
section
variable {K : PySem.W.Frag} {σ : L2.St} {H : Hp} {te tl : TE} {j : Nat} {vs : List Nat} {xs : List V} {ds : List It}
theorem edi_T {a : Addr} (h : Ev te σ H (.ref a)) (hx : SqT K H a xs) (hn : xs.length = ds.length) (hz : ds.length ≤ 40000) (hw : ∀ x, wipe ((wipe σ vs).set j (some x)) vs = wipe σ vs)
    (he : ∀ (i : Nat) x d H1, xs[i]? = some x → ds[i]? = some d → Ex H H1 → EI K tl ((wipe σ vs).set j (some x)) H1 d) : EDI K (tLc (iTup K te) (gName j) tYes tl vs) σ H ds := by
  intro H0 e Q q
  refine h H0 e _ fun H1 e1 => ⟨a, rfl, ⟨xs, ex_t (e.trans e1) hx⟩, fun Dl hD => ?_⟩
  refine lc_tup (xs := xs) (fun i H' => H1 Dl = none ∧ Ex H1 H' ∧ ∃ us, H' Dl = some (.lst us) ∧ us.length = i ∧ DvL K H' us (ds.take i)) ⟨hD, Ex.new hD, [], upd_same, rfl, .nil⟩ (fun i H' _ z => ex_t ((e.trans e1).trans z.2.1) hx) (fun i x H' hi z => ⟨hw x, ?_⟩) (fun H' z => ?_)
  · obtain ⟨p1, p2, us, p3, p4, p5⟩ := z
    have hi2 := (List.getElem?_eq_some_iff.mp hi).1
    have hd : ds[i]? = some (ds[i]'(by omega)) := List.getElem?_eq_getElem (by omega)
    refine he i x _ H' hi hd ((e.trans e1).trans p2) H' (Ex.refl H') _ fun v H4 e4 hv => ⟨us, e4 Dl _ p3, sz_lt (by omega), p1, (p2.trans e4).mut p1, us ++ [v], upd_same, by rw [List.length_append, p4] <;> rfl, ?_⟩
    have n := ExN.upd (o := .lst (us ++ [v])) (e4 Dl _ p3)
    exact dvl_take ((p5.mono e4).monoN n) hd (hv.monoN n)
  · obtain ⟨p1, p2, us, p3, p4, p5⟩ := z
    rw [List.take_of_length_le (by omega)] at p5
    exact q Dl us H' (fresh_back e1 p1) (e1.trans p2) p3 p5
theorem edi_L {a : Addr} (h : Ev te σ H (.ref a)) (hx : SqL K H a xs) (hn : xs.length = ds.length) (hz : ds.length ≤ 40000) (hw : ∀ x, wipe ((wipe σ vs).set j (some x)) vs = wipe σ vs)
    (he : ∀ (i : Nat) x d H1, xs[i]? = some x → ds[i]? = some d → Ex H H1 → EI K tl ((wipe σ vs).set j (some x)) H1 d) : EDI K (tLc (iList K te) (gName j) tYes tl vs) σ H ds := by
  intro H0 e Q q
  refine h H0 e _ fun H1 e1 => ⟨a, rfl, ⟨xs, ex_l (e.trans e1) hx⟩, fun Dl hD => ?_⟩
  refine lc_list (xs := xs) (fun i H' => H1 Dl = none ∧ Ex H1 H' ∧ ∃ us, H' Dl = some (.lst us) ∧ us.length = i ∧ DvL K H' us (ds.take i)) ⟨hD, Ex.new hD, [], upd_same, rfl, .nil⟩ (fun i H' _ z => ex_l ((e.trans e1).trans z.2.1) hx) (fun i x H' hi z => ⟨hw x, ?_⟩) (fun H' z => ?_)
  · obtain ⟨p1, p2, us, p3, p4, p5⟩ := z
    have hi2 := (List.getElem?_eq_some_iff.mp hi).1
    have hd : ds[i]? = some (ds[i]'(by omega)) := List.getElem?_eq_getElem (by omega)
    refine he i x _ H' hi hd ((e.trans e1).trans p2) H' (Ex.refl H') _ fun v H4 e4 hv => ⟨us, e4 Dl _ p3, sz_lt (by omega), p1, (p2.trans e4).mut p1, us ++ [v], upd_same, by rw [List.length_append, p4] <;> rfl, ?_⟩
    have n := ExN.upd (o := .lst (us ++ [v])) (e4 Dl _ p3)
    exact dvl_take ((p5.mono e4).monoN n) hd (hv.monoN n)
  · obtain ⟨p1, p2, us, p3, p4, p5⟩ := z
    rw [List.take_of_length_le (by omega)] at p5
    exact q Dl us H' (fresh_back e1 p1) (e1.trans p2) p3 p5
end
theorem edi_run {K : PySem.W.Frag} {te : TE} {σ : L2.St} {H : Hp} {ds : List It} {Q : VK} (h : EDI K te σ H ds) (q : ∀ p vs H2, H p = none → Ex H H2 → H2 p = some (.lst vs) → DvL K H2 vs ds → Q (.ref p) H2) : te σ H Q := h H (Ex.refl H) Q q
theorem ei_run {K : PySem.W.Frag} {te : TE} {σ : L2.St} {H : Hp} {d : It} {Q : VK} (h : EI K te σ H d) (q : ∀ v H2, Ex H H2 → Dv K H2 v d → Q v H2) : te σ H Q := h H (Ex.refl H) Q q
theorem exu_upd {H : Hp} {p : Addr} {xs : List V} {o : HO} (h : H p = some (.lst xs)) : ExU H (upd H p o) := fun a u e n => by
  rw [upd_ne (fun z => by
    rw [z, h] at e
    obtain rfl := Option.some.inj e
    rcases n with ⟨_, z⟩ | ⟨_, _, z⟩ <;> cases z)]
  exact e
theorem pop_atW {xs : List V} {y : V} : (xs ++ [y])[(xs ++ [y]).length - 1]? = some y := by
  rw [List.length_append, List.getElem?_append_right (by simp)]
  simp
theorem dvl_snoc {K : PySem.W.Frag} {H : Hp} : ∀ {vs : List V} {ds : List It} {d : It}, DvL K H vs (ds ++ [d]) → ∃ us v, vs = us ++ [v] ∧ DvL K H us ds ∧ Dv K H v d
  | _, [], d, h => by
    obtain ⟨v, us, rfl, h1, h2⟩ := dvl_cons h
    obtain rfl := dvl_nil h2
    exact ⟨[], v, rfl, .nil, h1⟩
  | _, x :: ds, d, h => by
    obtain ⟨v, us, rfl, h1, h2⟩ := dvl_cons (ds := ds ++ [d]) h
    obtain ⟨ws, w, rfl, h3, h4⟩ := dvl_snoc h2
    exact ⟨v :: ws, w, rfl, .cons h1 h3, h4⟩
theorem el_revL {K : PySem.W.Frag} {σ : L2.St} {H : Hp} {te : TE} {ts : TO} {a : Addr} {xs : List V} (h : Ev te σ H (.ref a)) (hs : EvO ts σ H (some (-1))) (hx : SqL K H a xs) : EvL (tRevL K te ts) σ H xs.reverse := fun H1 e Q q => h H1 e _ fun H2 e2 => hs H2 (e.trans e2) _ fun H3 e3 => ⟨a, xs, rfl, rfl, ex_l ((e.trans e2).trans e3) hx, fun p hp => q p _ (fresh_back (e2.trans e3) hp) ((e2.trans e3).trans (Ex.new hp)) upd_same⟩
theorem et_tru {K : PySem.W.Frag} {σ : L2.St} {H : Hp} {te : TE} {a : Addr} {xs : List V} (h : Ev te σ H (.ref a)) (hx : SqL K H a xs) : EvT (fun σ H Q => te σ H fun x H' => ∃ k, TruV K x H' k ∧ Q k H') σ H (!xs.isEmpty) := fun H1 e Q q => h H1 e _ fun H2 e2 => ⟨!xs.isEmpty, .inl ⟨_, ex_l (e.trans e2) hx, rfl⟩, q H2 e2⟩
theorem pop_goW {K : PySem.W.Frag} {σ : L2.St} {H : Hp} {j : Nat} {wa : Addr} {xs : List V} {y : V} {Q : VK} (ha : σ[j]? = some (some (.ref wa))) (hp : H wa = some (.lst (xs ++ [y]))) (k : Q y (upd H wa (.lst xs))) : tBM0 K "list" rPop (tVar j) σ H Q :=
  ⟨_, ha, .inl ⟨rfl, _, sq_of hp⟩, wa, xs ++ [y], y, rfl, rfl, hp, pop_atW, by rw [List.dropLast_concat]; exact k⟩
/-- xs.append(x), x read raw -/
theorem app_run {K : PySem.W.Frag} {σ : L2.St} {H : Hp} {te : TE} {j : Nat} {p : Addr} {xs : List V} {Q : VK} (hp : H p = some (.lst xs)) (ha : σ[j]? = some (some (.ref p))) (k : te σ H fun v H1 => rAppend (.ref p) [v] H1 Q) : tBM K "list" rAppend (tVar j) (tCons te tNil) σ H Q :=
  ⟨_, ha, .inl ⟨rfl, _, sq_of hp⟩, k⟩
theorem app_end {H : Hp} {p : Addr} {xs : List V} {v : V} {Q : VK} (hp : H p = some (.lst xs)) (hz : xs.length < sizeLine) (k : Q .non (upd H p (.lst (xs ++ [v])))) : rAppend (.ref p) [v] H Q := ⟨p, xs, v, rfl, rfl, hp, hz, k⟩
theorem But.fresh2 {S : List Addr} {H H1 H2 : Hp} {a c : Addr} (f : But S H H1) (g : But [a, c] H1 H2) (ha : H a = none) (hc : H c = none) : But S H H2 := fun x u h n => g x u (f x u h n) (by
  simp only [List.mem_cons, List.not_mem_nil, or_false, not_or]
  exact ⟨ne_of_none h ha, ne_of_none h hc⟩)
theorem But.fresh1 {S : List Addr} {H H1 H2 : Hp} {a : Addr} (f : But S H H1) (g : But [a] H1 H2) (ha : H a = none) : But S H H2 := fun x u h n => g x u (f x u h n) (by
  simp only [List.mem_cons, List.not_mem_nil, or_false]
  exact ne_of_none h ha)
theorem But.noneW {S : List Addr} {H H' : Hp} {a : Addr} (f : But S H H') (h : H' a = none) (hs : ∀ c ∈ S, ∃ u, H' c = some u) : H a = none := by
  cases e : H a with
  | none => rfl
  | some u =>
    have n : a ∉ S := fun z => by
      obtain ⟨u', hu⟩ := hs a z
      rw [h] at hu; cases hu
    rw [f _ _ e n] at h; cases h
theorem StW.dts {CC CB : Addr} {H : Hp} {p b t d : Addr} {r : Int} {s : Sto} {n : Nat} (h : StW CC CB H p b t d r s n) : ∀ c ∈ [d, t], ∃ u, H c = some u := fun c hc => by
  simp only [List.mem_cons, List.not_mem_nil, or_false] at hc
  rcases hc with rfl | rfl
  · exact ⟨_, h.bk.2⟩
  · exact ⟨_, h.ck.2⟩
/-- a list is not the store's -/
theorem StW.nl {CC CB : Addr} {H : Hp} {p b t d : Addr} {r : Int} {s : Sto} {n : Nat} (h : StW CC CB H p b t d r s n) {c : Addr} {xs : List V} (hc : H c = some (.lst xs)) : c ∉ [d, t] ∧ c ∉ [p] := by
  obtain ⟨⟨px, hp⟩, ht⟩ := id h.ck
  refine ⟨?_, ?_⟩
  · simp only [List.mem_cons, List.not_mem_nil, or_false, not_or]
    exact ⟨ne_of hc h.bk.2 (by intro z; cases z), ne_of hc ht (by intro z; cases z)⟩
  · simp only [List.mem_cons, List.not_mem_nil, or_false]
    exact ne_of hc hp (by intro z; cases z)
theorem CkAt.lst {CC : Addr} {H H' : Hp} {p b t : Addr} {r : Int} {kvs : List (Key × V)} {S : List Addr} (h : CkAt CC H p b t r kvs) (f : But S H H') (hS : ∀ c ∈ S, H c = none ∨ ∃ xs, H c = some (.lst xs)) : CkAt CC H' p b t r kvs := by
  obtain ⟨⟨dx, h1⟩, h2⟩ := h
  have no : ∀ {c : Addr} {u : HO}, H c = some u → (∀ xs, u ≠ .lst xs) → c ∉ S := fun hc hn z => by
    rcases hS _ z with e | ⟨xs, e⟩
    · rw [e] at hc; cases hc
    · rw [e] at hc; exact hn xs (Option.some.inj hc).symm
  exact ⟨⟨dx, f _ _ h1 (no h1 fun _ z => nomatch z)⟩, f _ _ h2 (no h2 fun _ z => nomatch z)⟩
theorem CkAt.u {CC : Addr} {H H' : Hp} {p b t : Addr} {r : Int} {kvs : List (Key × V)} (h : CkAt CC H p b t r kvs) (f : But [p] H H') : ExU H H' := f.u fun c hc u hu hn => by
  obtain ⟨⟨dx, h1⟩, h2⟩ := h
  rw [List.mem_singleton.mp hc, h1] at hu
  obtain rfl := Option.some.inj hu
  rcases hn with ⟨_, z⟩ | ⟨_, _, z⟩ <;> cases z
theorem CkAt.nl {CC : Addr} {H : Hp} {p b t : Addr} {r : Int} {kvs : List (Key × V)} (h : CkAt CC H p b t r kvs) {c : Addr} {xs : List V} (hc : H c = some (.lst xs)) : c ∉ [p] := by
  obtain ⟨⟨dx, h1⟩, h2⟩ := h
  simp only [List.mem_cons, List.not_mem_nil, or_false]
  exact ne_of hc h1 (by intro z; cases z)

def spCA (K : PySem.W.Frag) : Sp := fun vs H Q _ => ∃ (v : V) (lv : It) (k : It) (a : Int) (r : List It), vs = [v] ∧ Dv K H v (.tup [lv, .tup (k :: .int a :: r)]) ∧ ∀ H', Ex H H' → Q (.int a) H'
theorem ok_chunk_address (T : Txt K mg P) : FnOk P w K mg base CX0 1 T.f_chunk_address T.d_chunk_address ["piece"] (spCA K) := by
  refine T.F_chunk_address.ok sc_chunk_address (fun vs H Q E h => ?_) (fun cdv A outer s H vs Q E hr h => ?_)
  · obtain ⟨v, lv, k, a, r, rfl, _⟩ := h
    rfl
  · obtain ⟨v, lv, k, a, r, rfl, hD, q⟩ := h
    refine ⟨_, pss_one (ps_ret (pe_ix (r := rIxT K) ix_tup (pe_ix (r := rIxT K) ix_tup (pv 0) (pe_int) (fun _ _ => rfl)) (pe_int) (fun _ _ => rfl))), ?_⟩
    obtain ⟨p, xs, rfl, h1, r1⟩ := dv_tup hD
    obtain ⟨x0, xs, rfl, _, r1⟩ := dvl_cons r1
    obtain ⟨x1, xs, rfl, g1, r1⟩ := dvl_cons r1
    obtain ⟨p2, ys, rfl, h2, r2⟩ := dv_tup g1
    obtain ⟨y0, ys, rfl, _, r2⟩ := dvl_cons r2
    obtain ⟨y1, ys, rfl, g2, r2⟩ := dvl_cons r2
    obtain rfl := dv_int g2
    exact s_ret (ev_ixT (K := K) (ev_ixT (K := K) (ev_var rfl) ev_c h1 (at_nat (j := 1) rfl)) ev_c h2 (at_nat (j := 1) rfl)) q


/-! ### _count_entries -/
def spCE (K : PySem.W.Frag) : Sp := fun vs H Q _ => ∃ (lv : Nat) (a : Addr) (xs : List V) (es : List It), vs = [.int (lv : Int), .ref a] ∧ (SqL K H a xs ∨ SqT K H a xs) ∧ DvL K H xs es ∧ (∀ e ∈ es, EOk lv e) ∧ es.length ≤ 1000 ∧ ∀ H', Ex H H' → Q (.int (totE lv es)) H'
theorem ok_count_entries (T : Txt K mg P) : FnOk P w K mg base CX0 1 T.f_count_entries T.d_count_entries ["level", "entries"] (spCE K) := by
  refine T.F_count_entries.ok sc_count_entries (fun vs H Q E h => ?_) (fun cdv A outer s H vs Q E hr h => ?_)
  · obtain ⟨lv, a, xs, es, rfl, _⟩ := h
    rfl
  · obtain ⟨lv, a, xs, es, rfl, hS, hD, he, hl, q⟩ := h
    refine ⟨_, pss_cons (ps_if (pt_cmpR op_eq (pv 0) (pe_int) (nomark _))
      (pss_one (ps_ret (pe_callB (r := rLenQ K) call_len_seq (by rfl) T.m_len (by decide +kernel) (pa_cons (pv 1) (pa_nil)))))
      (pss_nil))
      (pss_one (ps_ret (pe_callB (cr_sum rfl) (by rfl) T.m_sum (by decide +kernel) (pa_cons (pe_lc (own := [("entry", 2)]) (g := gName 2) (tt := tYes) rfl sc_count_entries.nd (pi_or (pi_list (pv 1)) (pi_tup (pv 1))) (blkOk_by (N := ["level", "entries", "entry"]) (sc := defScope s_count_entries) (by decide +kernel)) (fun _ _ _ _ _ => pg_name (i := 2) sc_count_entries.nd rfl (Or.inl rfl)) (fun _ _ _ _ _ => pts_nil) (fun _ _ _ _ _ => pe_ix (r := rIxT K) ix_tup (pv 2) (pe_int) (fun _ _ => rfl))) (pa_nil))))), ?_⟩
    have hlen := hD.len
    cases lv with
    | zero =>
      rw [totE_0] at q
      refine q_when (b := true) (et_is (et_test (ev_eqI (ev_var rfl) ev_c)) (by rfl)) (fun _ H1 e1 => ?_) (fun z => nomatch z)
      refine ret_run (cons_run (var_run rfl ⟨a, xs, rfl, ?_, ?_⟩))
      · exact hS.imp (ex_l e1) (ex_t e1)
      · rw [hlen]
        exact q H1 e1
    | succ n =>
      refine q_when (b := false) (et_is (et_test (ev_eqI (ev_var rfl) ev_c)) (by simp; omega)) (fun z => nomatch z) fun _ H1 e1 => ?_
      have item : ∀ (i : Nat) (x y : V), xs[i]? = some x → ((es.map (cntE (n + 1))).map V.int)[i]? = some y → ∀ {σ : L2.St} {j : Nat} {H2 : Hp}, σ[j]? = some (some x) → Ex H1 H2 → Ev (tOp (rIxT K) (tVar j) (tC (.int 2))) σ H2 y := fun i x y hx hy σ j H2 hj e2 => by
        obtain ⟨d, hd, hv⟩ := dvl_get hD hx
        rw [List.getElem?_map, List.getElem?_map, hd] at hy
        have ey := (Option.some.inj hy).symm
        have ho := he d (List.mem_of_getElem? hd)
        obtain ⟨k, r, e, h0⟩ := ho.sh
        obtain ⟨a, c, rfl⟩ := h0 (by omega)
        subst e
        obtain ⟨p, ws, rfl, h1, r1⟩ := dv_tup hv
        obtain ⟨x0, ws, rfl, _, r1⟩ := dvl_cons r1
        obtain ⟨x1, ws, rfl, _, r1⟩ := dvl_cons r1
        obtain ⟨x2, ws, rfl, g2, r1⟩ := dvl_cons r1
        obtain rfl := dv_int g2
        rw [ey]
        exact ev_ixT (K := K) (ev_var hj) ev_c (ex_t (e1.trans e2) h1) (at_nat (j := 2) rfl)
      have hln : ((es.map (cntE (n + 1))).map V.int).length = xs.length := by rw [List.length_map, List.length_map, hlen]
      rcases hS with hS | hS
      · exact s_ret (ev_sumN (ns := es.map (cntE (n + 1))) (el_orL (el_mapL (K := K) (ev_var rfl) (ex_l e1 hS) (by omega) (fun x => rfl) hln fun i x y hx hy H2 e2 => item i x y hx hy rfl e2)) rfl) fun H2 e2 => q H2 (e1.trans e2)
      · exact s_ret (ev_sumN (ns := es.map (cntE (n + 1))) (el_orR (el_mapT (K := K) (ev_var rfl) (ex_t e1 hS) (by omega) (fun x => rfl) hln fun i x y hx hy H2 e2 => item i x y hx hy rfl e2)) rfl) fun H2 e2 => q H2 (e1.trans e2)


/-! ### _read_chunk -/
theorem node_at {K : PySem.W.Frag} {H : Hp} {v : V} {lv : Nat} {g : List It} (h : Dv K H v (nodeI lv g)) : ∃ a y ys, v = .ref a ∧ SqT K H y ys ∧ DvL K H ys g ∧ (match lv with | 0 => SqT K H a [.str (Str.ofString "rows"), .ref y] | l + 1 => SqT K H a [.str (Str.ofString "node"), .int ((l + 1 : Nat) : Int), .ref y]) := by
  cases lv with
  | zero =>
    obtain ⟨p, xs, rfl, h1, r1⟩ := dv_tup (ds := [.str (Str.ofString "rows"), .tup g]) h
    obtain ⟨x0, xs, rfl, g0, r1⟩ := dvl_cons r1
    obtain ⟨x1, xs, rfl, g1, r1⟩ := dvl_cons r1
    obtain rfl := dvl_nil r1
    obtain rfl := dv_str g0
    obtain ⟨y, ys, rfl, h2, r2⟩ := dv_tup g1
    exact ⟨p, y, ys, rfl, h2, r2, h1⟩
  | succ l =>
    obtain ⟨p, xs, rfl, h1, r1⟩ := dv_tup (ds := [.str (Str.ofString "node"), .int ((l + 1 : Nat) : Int), .tup g]) h
    obtain ⟨x0, xs, rfl, g0, r1⟩ := dvl_cons r1
    obtain ⟨x1, xs, rfl, g1, r1⟩ := dvl_cons r1
    obtain ⟨x2, xs, rfl, g2, r1⟩ := dvl_cons r1
    obtain rfl := dvl_nil r1
    obtain rfl := dv_str g0
    obtain rfl := dv_int g1
    obtain ⟨y, ys, rfl, h2, r2⟩ := dv_tup g2
    exact ⟨p, y, ys, rfl, h2, r2, h1⟩
def spRCh (K : PySem.W.Frag) (CC : Addr) : Sp := fun vs H Q _ => ∃ (p b t : Addr) (r n : Int) (kvs : List (Key × V)) (lv : Nat) (g : List It), vs = [.ref p, .int n] ∧ CkAt CC H p b t r kvs ∧ valV kvs (Sum.inl n : Key) = some (.str (txtI (nodeI lv g))) ∧ GOk lv g ∧
  ∀ H' x y ys, CkAt CC H' p b t (r + 1) kvs → But [p] H H' → SqT K H' x [.int (lv : Int), .ref y] → SqT K H' y ys → DvL K H' ys g → Q (.ref x) H'
theorem ok_read_chunk (T : Txt K mg P) : FnOk P w K mg base CX0 31 T.f_read_chunk T.d_read_chunk ["chunks", "address"] (spRCh K T.C_Chunks) := by
  refine T.F_read_chunk.ok sc_read_chunk (fun vs H Q E h => ?_) (fun cdv A outer s H vs Q E hr h => ?_)
  · obtain ⟨p, b, t, r, n, kvs, lv, g, rfl, _⟩ := h
    rfl
  · obtain ⟨p, b, t, r, n, kvs, lv, g, rfl, hc, hv, hg, q⟩ := h
    refine ⟨_, pss_cons (ps_set (i := 2) sc_read_chunk.nd rfl (by first | exact Or.inl rfl | exact Or.inr rfl) (pe_call (ok_decode T) (hr.mono (by first | decide | omega)) (by rfl) T.g_decode T.F_decode.kp T.b_decode .nil pass0 (pa_cons (pe_meth (pv 0) T.cl_Chunks T.me_Chunks_get (ok_Chunks_get T) (hr.mono (by first | decide | omega)) T.b_Chunks_get .nil pass0 (pa_cons (pv 1) (pa_nil))) (pa_nil))))
      (pss_cons (ps_if (pt_cmpR op_eq (pe_ix (r := rIxT K) ix_tup (pv 2) (pe_int) (fun _ _ => rfl)) (pe_str) (nomark _))
      (pss_one (ps_ret (pe_tup (pa_cons (pe_int) (pa_cons (pe_ix (r := rIxT K) ix_tup (pv 2) (pe_int) (fun _ _ => rfl)) (pa_nil))))))
      (pss_nil))
      (pss_one (ps_ret (pe_tup (pa_cons (pe_ix (r := rIxT K) ix_tup (pv 2) (pe_int) (fun _ _ => rfl)) (pa_cons (pe_ix (r := rIxT K) ix_tup (pv 2) (pe_int) (fun _ _ => rfl)) (pa_nil))))))), ?_⟩
    obtain ⟨⟨px, hp1⟩, ht1⟩ := id hc
    refine q_asgK (call_run (cons_run ⟨_, rfl, p, px, _, rfl, hp1, cF_no b r t (by decide +kernel) (by decide +kernel) (by decide +kernel), cons_run (var_run rfl ?_)⟩))
    refine ⟨p, b, t, r, n, kvs, _, rfl, hc, hv, fun H1 hc1 f1 => ⟨_, nodeI lv g, rfl, rfl, hg.fit (by decide), Nat.le_trans hg.size (by decide), fun v H2 e2 hd => ?_⟩⟩
    obtain ⟨a, y, ys, rfl, hy, hys, ha⟩ := node_at hd
    have hc2 := hc1.mono e2
    have f2 := f1.trans (But.of e2)
    cases lv with
    | zero =>
      have ha : SqT K H2 a [.str (Str.ofString "rows"), .ref y] := ha
      refine q_when (b := true) (et_is (et_test (ev_eqS (ev_ixT (K := K) (ev_var rfl) ev_c ha (at_nat (j := 0) rfl)) ev_c)) (by decide +kernel)) (fun _ H3 e3 => ?_) (fun z => nomatch z)
      refine s_retU (eu_tup (ea_cons ev_c (ea_cons (ev_ixT (K := K) (ev_var rfl) ev_c (ex_t e3 ha) (at_nat (j := 1) rfl)) ea_nil)) (by show 2 ≤ 100000; decide)) fun x H4 _ e4 hx => ?_
      exact q H4 x y ys (hc2.mono (e3.trans e4)) (f2.trans (But.of (e3.trans e4))) (st_of hx) (ex_t (e3.trans e4) hy) (hys.mono (e3.trans e4))
    | succ l =>
      have ha : SqT K H2 a [.str (Str.ofString "node"), .int ((l + 1 : Nat) : Int), .ref y] := ha
      refine q_when (b := false) (et_is (et_test (ev_eqS (ev_ixT (K := K) (ev_var rfl) ev_c ha (at_nat (j := 0) rfl)) ev_c)) (by decide +kernel)) (fun z => nomatch z) fun _ H3 e3 => ?_
      refine s_retU (eu_tup (ea_cons (ev_ixT (K := K) (ev_var rfl) ev_c (ex_t e3 ha) (at_nat (j := 1) rfl)) (ea_cons (ev_ixT (K := K) (ev_var rfl) ev_c (ex_t e3 ha) (at_nat (j := 2) rfl)) ea_nil)) (by show 2 ≤ 100000; decide)) fun x H4 _ e4 hx => ?_
      exact q H4 x y ys (hc2.mono (e3.trans e4)) (f2.trans (But.of (e3.trans e4))) (st_of hx) (ex_t (e3.trans e4) hy) (hys.mono (e3.trans e4))


/-! ### read_pieces -/
def spRP (K : PySem.W.Frag) (CC : Addr) : Sp := fun vs H Q _ => ∃ (p b t : Addr) (r n : Int) (kvs : List (Key × V)) (lv : Nat) (g : List It), vs = [.ref p, .int n] ∧ CkAt CC H p b t r kvs ∧ valV kvs (Sum.inl n : Key) = some (.str (txtI (nodeI lv g))) ∧ GOk lv g ∧
  ∀ H' q us, CkAt CC H' p b t (r + 1) kvs → But [p] H H' → H q = none → H' q = some (.lst us) → DvL K H' us (g.map (pcI lv)) → Q (.ref q) H'
theorem ok_read_pieces (T : Txt K mg P) : FnOk P w K mg base CX0 32 T.f_read_pieces T.d_read_pieces ["chunks", "address"] (spRP K T.C_Chunks) := by
  refine T.F_read_pieces.ok sc_read_pieces (fun vs H Q E h => ?_) (fun cdv A outer s H vs Q E hr h => ?_)
  · obtain ⟨p, b, t, r, n, kvs, lv, g, rfl, _⟩ := h
    rfl
  · obtain ⟨p, b, t, r, n, kvs, lv, g, rfl, hc, hv, hg, q⟩ := h
    refine ⟨_, pss_cons (ps_asg (pe_call (ok_read_chunk T) (hr.mono (by first | decide | omega)) (by rfl) T.g_read_chunk T.F_read_chunk.kp T.b_read_chunk .nil pass0 (pa_cons (pv 0) (pa_cons (pv 1) (pa_nil)))) (pg_tup rfl (pgs_cons (pg_name (i := 2) sc_read_pieces.nd rfl (by first | exact Or.inl rfl | exact Or.inr rfl)) (pgs_cons (pg_name (i := 3) sc_read_pieces.nd rfl (by first | exact Or.inl rfl | exact Or.inr rfl)) (pgs_nil)))))
      (pss_one (ps_ret (pe_lc (own := [("entry", 4)]) (g := gName 4) (tt := tYes) rfl sc_read_pieces.nd (pi_tup (pv 3)) (blkOk_by (N := ["chunks", "address", "level", "entries", "entry"]) (sc := defScope s_read_pieces) (by decide +kernel)) (fun _ _ _ _ _ => pg_name (i := 4) sc_read_pieces.nd rfl (Or.inl rfl)) (fun _ _ _ _ _ => pts_nil) (fun _ _ _ _ _ => pe_tup (pa_cons (pv 2) (pa_cons (pv 4) (pa_nil))))))), ?_⟩
    obtain ⟨⟨px, hp1⟩, ht1⟩ := id hc
    refine q_part2 (ev_var rfl) (ev_var rfl) (by rfl) fun H1 e1 => ⟨p, b, t, r, n, kvs, lv, g, rfl, hc.mono e1, hv, hg, fun H2 x y ys hc2 f2 hx hy hys => ⟨x, _, rfl, hx, rfl, _, _, rfl, _, _, rfl, rfl, ?_⟩⟩
    have f := (But.of (S := [p]) e1).trans f2
    have h8 := hg.ln
    refine ret_run (edi_run (K := K) (ds := g.map (pcI lv)) (edi_T (K := K) (ev_var rfl) hy (by rw [List.length_map, hys.len]) (by rw [List.length_map]; omega) (fun x => rfl) fun i x d H3 hx3 hd3 e3 => ?_) fun q' us H3 hq' e3 h3 d3 => ?_)
    · rw [List.getElem?_map] at hd3
      obtain ⟨d0, hd0, hvd⟩ := dvl_get hys hx3
      rw [hd0] at hd3
      obtain rfl : pcI lv d0 = d := Option.some.inj hd3
      exact ei_tup (eai_cons (ei_ev (ev_var rfl) (.int _)) (eai_cons (ei_ev (ev_var rfl) (hvd.mono e3)) eai_nil)) (by show 2 ≤ 100000; decide)
    · have n2 : H2 q' = none := hq'
      have n1 : H q' = none := (But.freshW (show But [p] H H2 from f) hc2.1.choose_spec n2)
      exact q H3 q' us (hc2.mono e3) (f.trans (But.of e3)) n1 h3 d3


/-! ### open_piece -/
def spOP (K : PySem.W.Frag) (CC : Addr) : Sp := fun vs H Q _ => ∃ (p b t : Addr) (r : Int) (v : V) (kvs : List (Key × V)) (lv : Nat) (g : List It) (lt k : It) (a : Int) (rr : List It), vs = [.ref p, v] ∧ Dv K H v (.tup [lt, .tup (k :: .int a :: rr)]) ∧ CkAt CC H p b t r kvs ∧ valV kvs (Sum.inl a : Key) = some (.str (txtI (nodeI lv g))) ∧ GOk lv g ∧
  ∀ H' q us, CkAt CC H' p b t (r + 1) kvs → But [p] H H' → H q = none → H' q = some (.lst us) → DvL K H' us (g.map (pcI lv)) → Q (.ref q) H'
theorem ok_open_piece (T : Txt K mg P) : FnOk P w K mg base CX0 33 T.f_open_piece T.d_open_piece ["chunks", "piece"] (spOP K T.C_Chunks) := by
  refine T.F_open_piece.ok sc_open_piece (fun vs H Q E h => ?_) (fun cdv A outer s H vs Q E hr h => ?_)
  · obtain ⟨p, b, t, r, v, kvs, lv, g, lt, k, a, rr, rfl, _⟩ := h
    rfl
  · obtain ⟨p, b, t, r, v, kvs, lv, g, lt, k, a, rr, rfl, hD, hc, hv, hg, q⟩ := h
    refine ⟨_, pss_one (ps_ret (pe_call (ok_read_pieces T) (hr.mono (by first | decide | omega)) (by rfl) T.g_read_pieces T.F_read_pieces.kp T.b_read_pieces .nil pass0 (pa_cons (pv 0) (pa_cons (pe_call (ok_chunk_address T) (hr.mono (by first | decide | omega)) (by rfl) T.g_chunk_address T.F_chunk_address.kp T.b_chunk_address .nil pass0 (pa_cons (pv 1) (pa_nil))) (pa_nil))))), ?_⟩
    refine ret_run (call_run (cons_run (var_run rfl (cons_run (call_run (cons_run (var_run rfl ⟨v, lt, k, a, rr, rfl, hD, fun H1 e1 => ?_⟩)))))))
    exact ⟨p, b, t, r, a, kvs, lv, g, rfl, hc.mono e1, hv, hg, fun H' q' us c f n h d => q H' q' us c ((But.of e1).trans f) (fresh_back e1 n) h d⟩


/-! ### _put_chunk -/
theorem enc_runI {K : PySem.W.Frag} {n : Nat} {E : XK} {ta : TA} {σ : L2.St} {H : Hp} {Q : VK} {ds : List It} (h : EAI K ta σ H ds) (hf : It.fit n (.tup ds)) (hl : ds.length ≤ 1000) (hz : (encC (.tup ds)).length ≤ 16000000)
    (k : ∀ H1, Ex H H1 → Q (.str (txtI (.tup ds))) H1) : tCall (spEnc K n) [] E (tCons (tTup ta) tNil) σ H Q :=
  call_run (cons_run (ei_run (ei_tup h (by omega)) fun v H1 e1 hv => ⟨v, .tup ds, rfl, hv, hf, hz, fun H2 e2 => k H2 (e1.trans e2)⟩))
theorem ei_tupL {K : PySem.W.Frag} {σ : L2.St} {H : Hp} {te : TE} {a : Addr} {xs : List V} {ds : List It} (h : Ev te σ H (.ref a)) (hx : SqL K H a xs) (hd : DvL K H xs ds) : EI K (tCB (rTupOf K) (tCons te tNil)) σ H (.tup ds) := fun H1 e Q q => h H1 e _ fun H2 e2 => ⟨a, xs, rfl, .inl ⟨ex_l (e.trans e2) hx, fun p hp => q _ _ (e2.trans (Ex.new hp)) (.tup (st_of upd_same) (hd.mono ((e.trans e2).trans (Ex.new hp))))⟩⟩
def spPC (K : PySem.W.Frag) (CC CB : Addr) : Sp := fun vs H Q _ => ∃ (p b t d : Addr) (r : Int) (s : Sto) (n : Nat) (lv : Nat) (a : Addr) (xs : List V) (g : List It), vs = [.ref p, .int (lv : Int), .ref a] ∧ StW CC CB H p b t d r s n ∧ n ≤ 88500 ∧ SqL K H a xs ∧ DvL K H xs g ∧ g ≠ [] ∧ GOk lv g ∧ totE lv g ≤ 100000 ∧
  ∀ H' x, StW CC CB H' p b t d r (putW s (txtI (nodeI lv g))) (n + 1) → But [d, t] H H' → Dv K H' x (pcI (lv + 1) (upI lv s g)) → Q x H'
theorem ok_put_chunk (T : Txt K mg P) : FnOk P w K mg base CX0 8 T.f_put_chunk T.d_put_chunk ["chunks", "level", "entries"] (spPC K T.C_Chunks T.C_Book) := by
  refine T.F_put_chunk.ok sc_put_chunk (fun vs H Q E h => ?_) (fun cdv A outer s H vs Q E hr h => ?_)
  · obtain ⟨p, b, t, d, r, s, n, lv, a, xs, g, rfl, _⟩ := h
    rfl
  · obtain ⟨p, b, t, d, r, s, n, lv, a, xs, g, rfl, hst, hn, hS, hD, hg, hG, ht, q⟩ := h
    refine ⟨_, pss_cut (ps_if (pt_cmpR op_eq (pv 1) (pe_int) (nomark _))
      (pss_one (ps_set (i := 3) sc_put_chunk.nd rfl (by first | exact Or.inl rfl | exact Or.inr rfl) (pe_call (ok_encode T) (hr.mono (by first | decide | omega)) (by rfl) T.g_encode T.F_encode.kp T.b_encode .nil pass0 (pa_cons (pe_tup (pa_cons (pe_str) (pa_cons (pe_callTy (r := rTupOf K) call_tuple_of (by rfl) T.m_tuple (by decide +kernel) (pa_cons (pv 2) (pa_nil))) (pa_nil)))) (pa_nil)))))
      (pss_one (ps_set (i := 3) sc_put_chunk.nd rfl (by first | exact Or.inl rfl | exact Or.inr rfl) (pe_call (ok_encode T) (hr.mono (by first | decide | omega)) (by rfl) T.g_encode T.F_encode.kp T.b_encode .nil pass0 (pa_cons (pe_tup (pa_cons (pe_str) (pa_cons (pv 1) (pa_cons (pe_callTy (r := rTupOf K) call_tuple_of (by rfl) T.m_tuple (by decide +kernel) (pa_cons (pv 2) (pa_nil))) (pa_nil))))) (pa_nil))))))
      (pss_one (ps_ret (pe_tup (pa_cons (pe_op op_add (pv 1) (pe_int)) (pa_cons (pe_tup (pa_cons (pe_ix (r := rIxT K) ix_tup (pe_ix (r := rIxL K) ix_list (pv 2) (pe_un un_neg (pe_int)) (fun _ _ => rfl)) (pe_int) (fun _ _ => rfl)) (pa_cons (pe_meth (pv 0) T.cl_Chunks T.me_Chunks_put (ok_Chunks_put T) (hr.mono (by first | decide | omega)) T.b_Chunks_put .nil pass0 (pa_cons (pv 3) (pa_nil))) (pa_cons (pe_call (ok_count_entries T) (hr.mono (by first | decide | omega)) (by rfl) T.g_count_entries T.F_count_entries.kp T.b_count_entries .nil pass0 (pa_cons (pv 1) (pa_cons (pv 2) (pa_nil)))) (pa_nil))))) (pa_nil)))))), ?_⟩
    have h8 := hG.ln
    have hlv := hG.lv
    have hlen := hD.len
    refine q_cut (M := fun σ' H' => σ' = [some (.ref p), some (.int (lv : Int)), some (.ref a), some (.str (txtI (nodeI lv g)))] ∧ Ex H H') ?_ fun σ' H' hM => ?_
    · have hf := hG.fit (n := 6) (by decide)
      have hz := hG.size
      cases lv with
      | zero =>
        refine s_if (b := true) (et_is (et_test (ev_eqI (ev_var rfl) ev_c)) (by rfl)) (fun _ H1 e1 => ?_) (fun z => nomatch z)
        exact asg_run (enc_runI (K := K) (ds := [.str (Str.ofString "rows"), .tup g]) (eai_cons (ei_ev ev_c (.str _)) (eai_cons (ei_tupL (ev_var rfl) (ex_l e1 hS) (hD.mono e1)) eai_nil)) hf (by show 2 ≤ 1000; decide) (Nat.le_trans hz (by decide)) fun H2 e2 => ⟨rfl, e1.trans e2⟩)
      | succ l =>
        refine s_if (b := false) (et_is (et_test (ev_eqI (ev_var rfl) ev_c)) (by simp; omega)) (fun z => nomatch z) (fun _ H1 e1 => ?_)
        exact asg_run (enc_runI (K := K) (ds := [.str (Str.ofString "node"), .int ((l + 1 : Nat) : Int), .tup g]) (eai_cons (ei_ev ev_c (.str _)) (eai_cons (ei_ev (ev_var rfl) (.int _)) (eai_cons (ei_tupL (ev_var rfl) (ex_l e1 hS) (hD.mono e1)) eai_nil))) hf (by show 3 ≤ 1000; decide) (Nat.le_trans hz (by decide)) fun H2 e2 => ⟨rfl, e1.trans e2⟩)
    · obtain ⟨rfl, e1⟩ := hM
      have hst1 := hst.mono e1
      obtain ⟨g0, z, rfl⟩ : ∃ g0 z, g = g0 ++ [z] := ⟨g.dropLast, g.getLast hg, (List.dropLast_concat_getLast hg).symm⟩
      have ez : (g0 ++ [z]).getLastD .non = z := by simp
      obtain ⟨v, hv, hvz⟩ : ∃ v, xs[g0.length]? = some v ∧ Dv K H v z := by
        have hl2 : g0.length < xs.length := by rw [hlen, List.length_append, List.length_singleton]; omega
        refine ⟨xs[g0.length], List.getElem?_eq_getElem hl2, ?_⟩
        exact hD.at (List.getElem?_eq_getElem hl2) (by rw [List.getElem?_append_right (Nat.le_refl _), Nat.sub_self] <;> rfl)
      obtain ⟨k, rr, ek, _⟩ := (hG.es z (by simp)).sh
      subst ek
      obtain ⟨pz, zs, rfl, hz1, hz2⟩ := dv_tup hvz
      obtain ⟨kv, zs, rfl, hk, _⟩ := dvl_cons hz2
      have hat : atI xs (-1) = some (.ref pz) := by
        have hl2 : xs.length = g0.length + 1 := by rw [hlen, List.length_append, List.length_singleton]
        unfold atI ixN
        rw [if_neg (by decide), if_pos (by omega), hl2]
        show xs[((-1 : Int) + ((g0.length + 1 : Nat) : Int)).toNat]? = _
        rw [show ((-1 : Int) + ((g0.length + 1 : Nat) : Int)).toNat = g0.length from by omega]
        exact hv
      obtain ⟨⟨px, hp1⟩, ht1⟩ := id hst1.ck
      refine ret_run (tup_run (cons_run (op_run (var_run rfl (c_run ⟨_, _, rfl, rfl, cons_run (tup_run (cons_run (ev_run (ev_ixT (K := K) (ev_ixL (K := K) (ev_var rfl) (ev_un ev_c ru_neg) (ex_l e1 hS) hat) ev_c (ex_t e1 hz1) (at_nat (j := 0) rfl)) fun H2 e2 => cons_run ?_)))⟩)))))
      refine ⟨_, rfl, p, px, _, rfl, e2 _ _ hp1, cF_no b r t (by decide +kernel) (by decide +kernel) (by decide +kernel), cons_run (var_run rfl (nil_run ?_))⟩
      refine putW_run (hst1.mono e2) (by omega) fun H3 hst3 f3 => ?_
      have u3 : ExU H H3 := ExU.trans (Ex.u (e1.trans e2)) ((hst1.mono e2).u (fun c hc => by simp only [List.mem_cons, List.not_mem_nil, or_false] at hc; exact .inr hc) f3)
      have hS3 : SqL K H3 a xs := by
        rcases ex_l (e1.trans e2) hS with (h | ⟨o, h⟩) | h
        · refine .inl (.inl (f3 _ _ h fun z => ?_))
          have h2 := hst1.mono e2
          simp only [List.mem_cons, List.not_mem_nil, or_false] at z
          rcases z with rfl | rfl
          · rw [h2.bk.2] at h; cases h
          · rw [h2.ck.2] at h; cases h
        · refine .inl (.inr ⟨o, f3 _ _ h fun z => ?_⟩)
          have h2 := hst1.mono e2
          simp only [List.mem_cons, List.not_mem_nil, or_false] at z
          rcases z with rfl | rfl
          · rw [h2.bk.2] at h; cases h
          · rw [h2.ck.2] at h; cases h
        · exact .inr h
      have hD3 := hD.monoU u3
      refine cons_run (call_run (cons_run (var_run rfl (cons_run (var_run rfl ⟨lv, a, xs, _, rfl, .inl hS3, hD3, hG.es, by omega, fun H4 e4 => ?_⟩)))))
      refine ⟨by show 3 ≤ sizeLine; decide, fun q1 hq1 => ⟨by show 2 ≤ sizeLine; decide, fun q2 hq2 => ?_⟩⟩
      have E4 := (e4.trans (Ex.new (o := .tup [kv, .int (adr s.1 (txtI (nodeI lv (g0 ++ [It.tup (k :: rr)])))), .int (totE lv (g0 ++ [It.tup (k :: rr)]))]) hq1)).trans (Ex.new (o := .tup [.int ((lv : Int) + 1), .ref q1]) hq2)
      refine q _ _ (hst3.mono E4) ((But.of (e1.trans e2)).trans (f3.trans (But.of E4))) ?_
      have hk4 : Dv K _ kv k := hk.monoU (ExU.trans u3 (Ex.u E4))
      refine .tup (st_of upd_same) (.cons ?_ (.cons (.tup (st_of ((Ex.new hq2) _ _ upd_same)) (.cons ?_ (.cons (.int _) (.cons (.int _) .nil)))) .nil))
      · show Dv K _ (.int ((lv : Int) + 1)) (.int ((lv + 1 : Nat) : Int))
        rw [show ((lv + 1 : Nat) : Int) = (lv : Int) + 1 from by omega]
        exact .int _
      · rw [ez]
        exact hk4


/-! ### _pack_level -/
def spPL (K : PySem.W.Frag) (CC CB : Addr) : Sp := fun vs H Q _ => ∃ (p b t d : Addr) (r : Int) (s : Sto) (n : Nat) (lv : Nat) (a : Addr) (xs : List V) (es : List It), vs = [.ref p, .int (lv : Int), .ref a] ∧ StW CC CB H p b t d r s n ∧ n + es.length ≤ 88000 ∧ lv ≤ 990 ∧ SqL K H a xs ∧ DvL K H xs (es.map (pcI lv)) ∧ (∀ e ∈ es, EOk lv e) ∧ totE lv es ≤ 100000 ∧
  ∀ H' q us, StW CC CB H' p b t d r (lvl lv s (grp lv [] es)).1 (n + es.length) → But [d, t] H H' → H q = none → H' q = some (.lst us) → DvL K H' us ((lvl lv s (grp lv [] es)).2.map (pcI (lv + 1))) → Q (.ref q) H'
/-- where a level's walk stands -/
structure PkS (K : PySem.W.Frag) (CC CB : Addr) (H0 H : Hp) (p b t d : Addr) (r : Int) (wa pk pt : Addr) (lv N : Nat) (s : Sto) (n : Nat) (out part rest : List It) (res : Sto × List It) : Prop where
  st : StW CC CB H p b t d r s n
  bu : n + (part.length + rest.length) ≤ N
  w : ∃ vs, H wa = some (.lst vs) ∧ DvL K H vs (rest.reverse.map (pcI lv))
  k : ∃ vs, H pk = some (.lst vs) ∧ DvL K H vs (out.map (pcI (lv + 1)))
  q : ∃ vs, H pt = some (.lst vs) ∧ DvL K H vs part
  p7 : part.length ≤ 7
  fi : fin lv s out part rest = res
  eo : ∀ e ∈ part ++ rest, EOk lv e
  tt : totE lv (part ++ rest) ≤ 100000
  ne : wa ≠ pk ∧ wa ≠ pt ∧ pk ≠ pt
  nw : H0 wa = none ∧ H0 pk = none ∧ H0 pt = none
  f : But [d, t] H0 H
  ol : out.length ≤ n
section
variable {K : PySem.W.Frag} {CC CB : Addr} {H0 H H' : Hp} {p b t d : Addr} {r : Int} {wa pk pt : Addr} {lv N : Nat} {s : Sto} {n : Nat} {out part rest : List It} {res : Sto × List It}
theorem PkS.mono (h : PkS K CC CB H0 H p b t d r wa pk pt lv N s n out part rest res) (e : Ex H H') : PkS K CC CB H0 H' p b t d r wa pk pt lv N s n out part rest res :=
  { h with st := h.st.mono e, w := let ⟨vs, h1, h2⟩ := h.w; ⟨vs, e _ _ h1, h2.mono e⟩, k := let ⟨vs, h1, h2⟩ := h.k; ⟨vs, e _ _ h1, h2.mono e⟩, q := let ⟨vs, h1, h2⟩ := h.q; ⟨vs, e _ _ h1, h2.mono e⟩, f := h.f.trans (But.of e) }
end
set_option maxHeartbeats 4000000 in
theorem ok_pack_level (T : Txt K mg P) : FnOk P w K mg base CX0 34 T.f_pack_level T.d_pack_level ["chunks", "level", "pieces"] (spPL K T.C_Chunks T.C_Book) := by
  refine T.F_pack_level.ok sc_pack_level (fun vs H Q E h => ?_) (fun cdv A outer s H vs Q E hr h => ?_)
  · obtain ⟨p, b, t, d, r, s, n, lv, a, xs, es, rfl, _⟩ := h
    rfl
  · obtain ⟨p, b, t, d, r, s0, n, lv, a, xs, es, rfl, hst, hn, hlv, hS, hD, he, ht, q⟩ := h
    refine ⟨_, pss_cons (ps_set (i := 3) sc_pack_level.nd rfl (by first | exact Or.inl rfl | exact Or.inr rfl) (pe_revL (pv 2) (po_some (pe_un un_neg (pe_int)))))
      (pss_cons (ps_set (i := 4) sc_pack_level.nd rfl (by first | exact Or.inl rfl | exact Or.inr rfl) (pe_lst (pa_nil)))
      (pss_cons (ps_set (i := 5) sc_pack_level.nd rfl (by first | exact Or.inl rfl | exact Or.inr rfl) (pe_lst (pa_nil)))
      (pss_cons (ps_while PassesOwn.never (pt_truth (pv 3) (by intro _; rfl))
      (pss_cons (ps_set (i := 6) sc_pack_level.nd rfl (by first | exact Or.inl rfl | exact Or.inr rfl) (pe_bm0 PySem.F.plainAttrs_list PySem.F.slot_list_pop PySem.F.type_list_pop mt_pop (pv 3)))
      (pss_cons (ps_asg (pv 6) (pg_tup rfl (pgs_cons (pg_name (i := 7) sc_pack_level.nd rfl (by first | exact Or.inl rfl | exact Or.inr rfl)) (pgs_cons (pg_name (i := 8) sc_pack_level.nd rfl (by first | exact Or.inl rfl | exact Or.inr rfl)) (pgs_nil)))))
      (pss_one (ps_if (pt_cmpR op_eq (pv 7) (pv 1) (nomark _))
      (pss_cons (ps_expr (pe_bm PySem.F.plainAttrs_list PySem.F.slot_list_append PySem.F.type_list_append mt_append (pv 5) (pa_cons (pv 8) (pa_nil))))
      (pss_one (ps_if (pt_val (pe_call (ok_ends_chunk T) (hr.mono (by first | decide | omega)) (by rfl) T.g_ends_chunk T.F_ends_chunk.kp T.b_ends_chunk .nil pass0 (pa_cons (pv 1) (pa_cons (pe_ix (r := rIxT K) ix_tup (pv 8) (pe_int) (fun _ _ => rfl)) (pa_cons (pe_callB (r := rLenQ K) call_len_seq (by rfl) T.m_len (by decide +kernel) (pa_cons (pv 5) (pa_nil))) (pa_nil))))))
      (pss_cons (ps_expr (pe_bm PySem.F.plainAttrs_list PySem.F.slot_list_append PySem.F.type_list_append mt_append (pv 4) (pa_cons (pe_call (ok_put_chunk T) (hr.mono (by first | decide | omega)) (by rfl) T.g_put_chunk T.F_put_chunk.kp T.b_put_chunk .nil pass0 (pa_cons (pv 0) (pa_cons (pv 1) (pa_cons (pv 5) (pa_nil))))) (pa_nil))))
      (pss_one (ps_set (i := 5) sc_pack_level.nd rfl (by first | exact Or.inl rfl | exact Or.inr rfl) (pe_lst (pa_nil)))))
      (pss_nil))))
      (pss_one (ps_if (pt_truth (pv 5) (by intro _; rfl))
      (pss_one (ps_expr (pe_bm PySem.F.plainAttrs_list PySem.F.slot_list_extend PySem.F.type_list_extend mt_extend (pv 3) (pa_cons (pe_revL (pe_call (ok_open_piece T) (hr.mono (by first | decide | omega)) (by rfl) T.g_open_piece T.F_open_piece.kp T.b_open_piece .nil pass0 (pa_cons (pv 0) (pa_cons (pv 6) (pa_nil)))) (po_some (pe_un un_neg (pe_int)))) (pa_nil)))))
      (pss_one (ps_expr (pe_bm PySem.F.plainAttrs_list PySem.F.slot_list_append PySem.F.type_list_append mt_append (pv 4) (pa_cons (pv 6) (pa_nil))))))))))))
      (pss_cut (ps_if (pt_truth (pv 5) (by intro _; rfl))
      (pss_one (ps_expr (pe_bm PySem.F.plainAttrs_list PySem.F.slot_list_append PySem.F.type_list_append mt_append (pv 4) (pa_cons (pe_call (ok_put_chunk T) (hr.mono (by first | decide | omega)) (by rfl) T.g_put_chunk T.F_put_chunk.kp T.b_put_chunk .nil pass0 (pa_cons (pv 0) (pa_cons (pv 1) (pa_cons (pv 5) (pa_nil))))) (pa_nil)))))
      (pss_nil))
      (pss_one (ps_ret (pv 4))))))), ?_⟩
    have hlen := hD.len
    rw [List.length_map] at hlen
    refine q_asgL (el_revL (K := K) (ev_var rfl) (eo_some (ev_un ev_c ru_neg)) hS) fun wa H1 hwa e1 hw1 => ?_
    refine q_asgL (el_lst ea_nil (by decide)) fun pk H2 hpk e2 hk2 => ?_
    refine q_asgL (el_lst ea_nil (by decide)) fun pt H3 hpt e3 ht3 => ?_
    have E3 := (e1.trans e2).trans e3
    obtain ⟨res, hres⟩ : ∃ res, res = fin lv s0 [] [] es := ⟨_, rfl⟩
    have hst3 := hst.mono E3
    have nwk : wa ≠ pk := ne_of_none hw1 hpk
    have nwt : wa ≠ pt := ne_of_none (e2 _ _ hw1) hpt
    have nkt : pk ≠ pt := ne_of_none hk2 hpt
    have S3 : PkS K T.C_Chunks T.C_Book H H3 p b t d r wa pk pt lv (n + es.length) s0 n [] [] es res := by
      refine ⟨hst3, by simp, ⟨_, (e2.trans e3) _ _ hw1, ?_⟩, ⟨[], e3 _ _ hk2, .nil⟩, ⟨[], ht3, .nil⟩, by simp, hres.symm, he, ht, ⟨nwk, nwt, nkt⟩, ⟨hwa, fresh_back e1 hpk, fresh_back (e1.trans e2) hpt⟩, But.of E3, Nat.zero_le _⟩
      rw [List.map_reverse]
      exact dvl_rev (hD.mono E3)
    refine q_while (fun m σ' H' => ∃ (pt : Addr) (s' : Sto) (n' : Nat) (out part rest : List It) (x6 x7 x8 : Option V), σ' = [some (.ref p), some (.int (lv : Int)), some (.ref a), some (.ref wa), some (.ref pk), some (.ref pt), x6, x7, x8] ∧ m = rest.length ∧ PkS K T.C_Chunks T.C_Book H H' p b t d r wa pk pt lv (n + es.length) s' n' out part rest res) es.length
      ⟨pt, s0, n, [], [], es, none, none, none, rfl, rfl, S3⟩ (fun m σ' H' hW => ?_)
    obtain ⟨pt, s', n', out, part, rest, x6, x7, x8, rfl, rfl, S⟩ := hW
    obtain ⟨ws0, hw0, hwd0⟩ := S.w
    refine ⟨!ws0.isEmpty, et_tru (K := K) (ev_var rfl) (sq_of hw0), fun hb H1 e1 => ⟨_, fun σ2 H2 h => h, ?_⟩, fun hb H1 e1 => ?_⟩
    · replace S := S.mono e1
      obtain ⟨ws, hw, hwd⟩ := S.w
      obtain ⟨ks, hk, hkd⟩ := S.k
      obtain ⟨ps, hp, hpd⟩ := S.q
      have hpl := hpd.len
      have hkl := hkd.len
      cases rest with
      | nil =>
        obtain rfl := dvl_nil hwd0
        cases hb
      | cons e rr =>
        rw [List.reverse_cons, List.map_append] at hwd
        obtain ⟨w0, v, rfl, hw0d, hvd⟩ := dvl_snoc (ds := rr.reverse.map (pcI lv)) (d := pcI lv e) hwd
        obtain ⟨pv', zs, rfl, hz1, hz2⟩ := dv_tup hvd
        obtain ⟨z0, zs, rfl, hl0, hz2⟩ := dvl_cons hz2
        obtain ⟨ev, zs, rfl, hev, hz2⟩ := dvl_cons hz2
        obtain rfl := dvl_nil hz2
        obtain rfl := dv_int hl0
        have heo := S.eo e (by simp)
        obtain ⟨ke, re, ee, _⟩ := heo.sh
        subst ee
        obtain ⟨pe, ys, rfl, hy1, hy2⟩ := dv_tup hev
        obtain ⟨kv, ys, rfl, hkv, _⟩ := dvl_cons hy2
        refine q_asgK (pop_goW rfl hw ?_)
        have u1 := exu_upd (o := .lst w0) hw
        obtain ⟨n1, n2, n3⟩ := S.ne
        refine ⟨_, rfl, pv', _, rfl, exu_t u1 hz1, rfl, _, _, rfl, _, _, rfl, rfl, ?_⟩
        refine s_if (b := true) (et_is (et_test (ev_eqI (ev_var rfl) (ev_var rfl))) (by simp)) (fun _ H2 e2 => ?_) (fun z => nomatch z)
        have hpa : (upd H1 wa (.lst w0)) pt = some (.lst ps) := by rw [upd_ne n2.symm]; exact hp
        have hbu := S.bu
        have hp7 := S.p7
        rw [List.length_cons] at hbu
        have hps : ps.length < 100000 := by omega
        refine q_app (K := K) (e2 _ _ hpa) (ev_var rfl) (ev_var rfl) hps fun H3 e3 => ?_
        have E23 := e2.trans e3
        have hw3 : (upd H3 pt (.lst (ps ++ [.ref pe]))) wa = some (.lst w0) := by rw [upd_ne n2]; exact E23 _ _ upd_same
        have hk3 : (upd H3 pt (.lst (ps ++ [.ref pe]))) pk = some (.lst ks) := by rw [upd_ne n3]; exact E23 _ _ (by rw [upd_ne n1.symm]; exact hk)
        have hp3 : (upd H3 pt (.lst (ps ++ [.ref pe]))) pt = some (.lst (ps ++ [.ref pe])) := upd_same
        have u3 : ExU H1 (upd H3 pt (.lst (ps ++ [.ref pe]))) := ExU.trans (ExU.trans u1 (Ex.u E23)) (exu_upd (E23 _ _ hpa))
        have b3 : But [wa, pt] H1 (upd H3 pt (.lst (ps ++ [.ref pe]))) := ((But.put (List.mem_cons_self)).trans (But.of E23)).trans (But.put (List.mem_cons_of_mem _ List.mem_cons_self))
        generalize upd H3 pt (.lst (ps ++ [.ref pe])) = H4 at hw3 hk3 hp3 u3 b3 ⊢
        have st4 := S.st.lst b3 fun c hc => by
          simp only [List.mem_cons, List.not_mem_nil, or_false] at hc
          rcases hc with rfl | rfl
          · exact .inr ⟨_, hw⟩
          · exact .inr ⟨_, hp⟩
        have f4 := S.f.fresh2 b3 S.nw.1 S.nw.2.2
        have hpd4 : DvL K H4 (ps ++ [.ref pe]) (part ++ [.tup (ke :: re)]) := (hpd.monoU u3).app (.cons (hev.monoU u3) .nil)
        have hgo : GOk lv (part ++ [.tup (ke :: re)]) := ⟨fun x hx => S.eo x (by
          rcases List.mem_append.mp hx with h | h
          · exact List.mem_append_left _ h
          · exact List.mem_append_right _ (by rw [List.mem_singleton.mp h]; exact List.mem_cons_self)), by rw [List.length_append, List.length_singleton]; omega, by omega⟩
        have eT : part ++ .tup (ke :: re) :: rr = (part ++ [.tup (ke :: re)]) ++ rr := by simp
        have htt := S.tt
        have heo2 := S.eo
        rw [eT] at htt heo2
        rw [totE_app] at htt
        have tt1 := totE_nn hgo.es
        have tt2 := totE_nn (lv := lv) (es := rr) fun x hx => heo2 x (List.mem_append_right _ hx)
        have hplen : (ps ++ [V.ref pe]).length = part.length + 1 := by rw [List.length_append, List.length_singleton, hpl]
        have hkl2 : ks.length = out.length := by rw [hkl, List.length_map]
        have hol := S.ol
        refine s_if (b := endsZ (lv : Int) ke ((part.length : Int) + 1)) (et_B (ev_is (ev_call (ea_cons (ev_var rfl) (ea_cons (ev_ixT (K := K) (ev_var rfl) ev_c (exu_t u3 hy1) (at_nat (j := 0) rfl)) (ea_cons (ev_lenQ (K := K) (ev_var rfl) (sq_of hp3)) ea_nil))) (cv_ends (hkv.monoU u3) heo.kf (Nat.le_trans heo.kl (by decide)) (log60b (by omega)))) (by rw [hplen]; rfl))) (fun hb2 H5 e5 => ?_) (fun hb2 H5 e5 => ?_)
        · have st5 := st4.mono e5
          refine q_dropK (app_run (j := 4) (e5 _ _ hk3) rfl (call_run (cons_run (var_run rfl (cons_run (var_run rfl (cons_run (var_run rfl (nil_run ?_)))))))))
          refine ⟨p, b, t, d, r, s', n', lv, pt, ps ++ [.ref pe], part ++ [.tup (ke :: re)], rfl, st5, by omega, sq_of (e5 _ _ hp3), hpd4.mono e5, by simp, hgo, by omega, fun H6 x st6 f6 hx => ?_⟩
          have nk5 := st5.nl (e5 _ _ hk3)
          have nw5 := st5.nl (e5 _ _ hw3)
          have hk6 := f6 _ _ (e5 _ _ hk3) nk5.1
          refine app_end hk6 (sz_lt (by omega)) ?_
          have b7 : But [pk] H6 (upd H6 pk (.lst (ks ++ [x]))) := But.put List.mem_cons_self
          have u7 := exu_upd (o := .lst (ks ++ [x])) hk6
          have hk7 := upd_same (H := H6) (a := pk) (o := .lst (ks ++ [x]))
          have hw7 : (upd H6 pk (.lst (ks ++ [x]))) wa = some (.lst w0) := by rw [upd_ne n1]; exact f6 _ _ (e5 _ _ hw3) nw5.1
          have u47 : ExU H4 (upd H6 pk (.lst (ks ++ [x]))) := ExU.trans (ExU.trans (Ex.u e5) (st5.u (fun c hc => by simp only [List.mem_cons, List.not_mem_nil, or_false] at hc; exact .inr hc) f6)) u7
          have st7 := st6.lst b7 fun c hc => by
            rw [List.mem_singleton.mp hc]; exact .inr ⟨_, hk6⟩
          have f7 := ((f4.trans (But.of e5)).trans f6).fresh1 b7 S.nw.2.1
          have hx7 := hx.monoU u7
          generalize upd H6 pk (.lst (ks ++ [x])) = H7 at hk7 hw7 u47 st7 f7 hx7 ⊢
          refine s_asgL (el_lst ea_nil (by decide)) fun pt2 H8 hpt2 e8 h8 => ⟨rr.length, by simp, pt2, putW s' (txtI (nodeI lv (part ++ [.tup (ke :: re)]))), n' + 1, out ++ [upI lv s' (part ++ [.tup (ke :: re)])], [], rr, _, _, _, rfl, rfl, ?_⟩
          refine ⟨st7.mono e8, by simp only [List.length_nil]; omega, ⟨w0, e8 _ _ hw7, (hw0d.monoU (ExU.trans u3 u47)).mono e8⟩, ⟨ks ++ [x], e8 _ _ hk7, ?_⟩, ⟨[], h8, .nil⟩, by simp, ?_, fun y hy => heo2 y (List.mem_append_right _ hy), by show totE lv rr ≤ _; omega, ⟨n1, ne_of_none hw7 hpt2, ne_of_none hk7 hpt2⟩, ⟨S.nw.1, S.nw.2.1, f7.noneW hpt2 st7.dts⟩, f7.trans (But.of e8), by rw [List.length_append, List.length_singleton]; omega⟩
          · rw [List.map_append]
            exact ((hkd.monoU (ExU.trans u3 u47)).app (.cons hx7 .nil)).mono e8
          · exact (fin_yes (e := .tup (ke :: re)) hb2).symm.trans S.fi
        · refine ⟨rr.length, by simp, pt, s', n', out, part ++ [.tup (ke :: re)], rr, _, _, _, rfl, rfl, ?_⟩
          refine ⟨st4.mono e5, by rw [List.length_append, List.length_singleton]; omega, ⟨w0, e5 _ _ hw3, (hw0d.monoU u3).mono e5⟩, ⟨ks, e5 _ _ hk3, (hkd.monoU u3).mono e5⟩, ⟨_, e5 _ _ hp3, hpd4.mono e5⟩, ?_, ?_, heo2, by rw [totE_app]; exact htt, ⟨n1, n2, n3⟩, S.nw, f4.trans (But.of e5), hol⟩
          · rw [List.length_append, List.length_singleton]
            by_cases h7 : part.length = 7
            · rw [h7] at hb2
              have h8 : endsZ (lv : Int) ke 8 = false := hb2
              rw [endsZ_8] at h8
              cases h8
            · omega
          · exact (fin_no (e := .tup (ke :: re)) hb2).symm.trans S.fi
    · replace S := S.mono e1
      have hb2 : ws0.isEmpty = true := by simpa using hb
      obtain rfl := List.isEmpty_iff.mp hb2
      have hr0 : rest = [] := by
        have := hwd0.len
        rw [List.length_map, List.length_reverse] at this
        exact List.eq_nil_of_length_eq_zero this.symm
      subst hr0
      obtain ⟨ks, hk, hkd⟩ := S.k
      obtain ⟨ps, hp, hpd⟩ := S.q
      have hkl := hkd.len
      rw [List.length_map] at hkl
      have hol := S.ol
      have hbu := S.bu
      rw [List.length_nil] at hbu
      have eR : res = ((lvl lv s0 (grp lv [] es)).1, (lvl lv s0 (grp lv [] es)).2) := by rw [hres] <;> rfl
      refine q_cut (M := fun σ' H' => σ'[4]? = some (some (V.ref pk)) ∧ StW T.C_Chunks T.C_Book H' p b t d r res.1 (n + es.length) ∧ But [d, t] H H' ∧ ∃ us, H' pk = some (.lst us) ∧ DvL K H' us (res.2.map (pcI (lv + 1)))) ?_ fun σ' H' hM => ?_
      · refine s_when (b := !ps.isEmpty) (et_tru (K := K) (ev_var rfl) (sq_of hp)) (fun hb3 H2 e2 => ?_) (fun hb3 H2 e2 => ?_)
        · have hne : part ≠ [] := fun z => by
            subst z
            obtain rfl := dvl_nil hpd
            cases hb3
          have st2 := S.st.mono e2
          have hpos : part.length ≠ 0 := fun z => hne (List.eq_nil_of_length_eq_zero z)
          have hgo : GOk lv part := ⟨fun x hx => S.eo x (List.mem_append_left _ hx), by have := S.p7; omega, by omega⟩
          have htt := S.tt
          rw [List.append_nil] at htt
          refine app_run (j := 4) (e2 _ _ hk) rfl (call_run (cons_run (var_run rfl (cons_run (var_run rfl (cons_run (var_run rfl (nil_run ?_))))))))
          refine ⟨p, b, t, d, r, s', n', lv, pt, ps, part, rfl, st2, by omega, sq_of (e2 _ _ hp), hpd.mono e2, hne, hgo, htt, fun H6 x st6 f6 hx => ?_⟩
          have hk6 := f6 _ _ (e2 _ _ hk) (st2.nl (e2 _ _ hk)).1
          refine app_end hk6 (sz_lt (by omega)) ?_
          have b7 : But [pk] H6 (upd H6 pk (.lst (ks ++ [x]))) := But.put List.mem_cons_self
          have u7 := exu_upd (o := .lst (ks ++ [x])) hk6
          have e : res = (putW s' (txtI (nodeI lv part)), out ++ [upI lv s' part]) := by rw [← S.fi, fin_last hne]
          refine ⟨rfl, ?_, ((S.f.trans (But.of e2)).trans f6).fresh1 b7 S.nw.2.1, ks ++ [x], upd_same, ?_⟩
          · rw [e]
            exact (st6.lst b7 fun c hc => by rw [List.mem_singleton.mp hc]; exact .inr ⟨_, hk6⟩).up (by omega)
          · rw [e]
            show DvL K _ _ ((out ++ [upI lv s' part]).map _)
            rw [List.map_append]
            exact (((hkd.mono e2).monoU (st2.u (fun c hc => by simp only [List.mem_cons, List.not_mem_nil, or_false] at hc; exact .inr hc) f6)).app (.cons hx .nil)).monoU u7
        · have hb4 : ps.isEmpty = true := by simpa using hb3
          obtain rfl := List.isEmpty_iff.mp hb4
          have hp0 : part = [] := List.eq_nil_of_length_eq_zero hpd.len.symm
          subst hp0
          have e : res = (s', out) := by rw [← S.fi, fin_end]
          refine ⟨rfl, ?_, S.f.trans (But.of e2), ks, e2 _ _ hk, ?_⟩
          · rw [e]
            exact (S.st.mono e2).up (by omega)
          · rw [e]
            exact hkd.mono e2
      · obtain ⟨h4, st, f, us, hus, hud⟩ := hM
        rw [eR] at st hud
        exact ret_run (var_run h4 (q H' pk us st f S.nw.2.1 hus hud))


/-! ### _join -/
def spJN (K : PySem.W.Frag) (CC CB : Addr) : Sp := fun vs H Q _ => ∃ (p b t d : Addr) (r : Int) (s : Sto) (n : Nat) (a : Addr) (xs : List V) (es : List It), vs = [.ref p, .ref a] ∧ StW CC CB H p b t d r s n ∧ n + 5 * es.length ≤ 88000 ∧ es.length ≤ 800 ∧ SqL K H a xs ∧ DvL K H xs (es.map (pcI 0)) ∧ (∀ e ∈ es, EOk 0 e) ∧
  ∀ H', StW CC CB H' p b t d r (buildZ s es).1 (n + 5 * es.length + 1) → But [d, t] H H' → Q (.int (buildZ s es).2) H'
theorem dv_pc {K : PySem.W.Frag} {H : Hp} {v : V} {lv : Nat} {e : It} (h : Dv K H v (pcI lv e)) : ∃ a x, v = .ref a ∧ SqT K H a [.int (lv : Int), x] ∧ Dv K H x e := by
  obtain ⟨a, xs, rfl, h1, h2⟩ := dv_tup h
  obtain ⟨x0, xs, rfl, g0, h2⟩ := dvl_cons h2
  obtain ⟨x1, xs, rfl, g1, h2⟩ := dvl_cons h2
  obtain rfl := dvl_nil h2
  obtain rfl := dv_int g0
  exact ⟨a, x1, rfl, h1, g1⟩
theorem ok_join (T : Txt K mg P) : FnOk P w K mg base CX0 35 T.f_join T.d_join ["chunks", "pieces"] (spJN K T.C_Chunks T.C_Book) := by
  refine T.F_join.ok sc_join (fun vs H Q E h => ?_) (fun cdv A outer s H vs Q E hr h => ?_)
  · obtain ⟨p, b, t, d, r, s, n, a, xs, es, rfl, _⟩ := h
    rfl
  · obtain ⟨p, b, t, d, r, s0, n, a, xs, es, rfl, hst, hn, hL8, hS, hD, he, q⟩ := h
    refine ⟨_, pss_cons (ps_if (pt_not (pt_truth (pv 1) (by intro _; rfl)))
      (pss_one (ps_ret (pe_meth (pv 0) T.cl_Chunks T.me_Chunks_put (ok_Chunks_put T) (hr.mono (by first | decide | omega)) T.b_Chunks_put .nil pass0 (pa_cons (pe_call (ok_encode T) (hr.mono (by first | decide | omega)) (by rfl) T.g_encode T.F_encode.kp T.b_encode .nil pass0 (pa_cons (pe_tup (pa_cons (pe_str) (pa_cons (pe_tup (pa_nil)) (pa_nil)))) (pa_nil))) (pa_nil)))))
      (pss_nil))
      (pss_cons (ps_while PassesOwn.never (PW.pt (pw_and (pt_cmpR op_eq (pe_callB (r := rLenQ K) call_len_seq (by rfl) T.m_len (by decide +kernel) (pa_cons (pv 1) (pa_nil))) (pe_int) (nomark _)) (pw_and1 (pt_cmpR op_gt (pe_ix (r := rIxT K) ix_tup (pe_ix (r := rIxL K) ix_list (pv 1) (pe_int) (fun _ _ => rfl)) (pe_int) (fun _ _ => rfl)) (pe_int) (nomark _)))))
      (pss_one (ps_set (i := 1) sc_join.nd rfl (by first | exact Or.inl rfl | exact Or.inr rfl) (pe_call (ok_open_piece T) (hr.mono (by first | decide | omega)) (by rfl) T.g_open_piece T.F_open_piece.kp T.b_open_piece .nil pass0 (pa_cons (pv 0) (pa_cons (pe_ix (r := rIxL K) ix_list (pv 1) (pe_int) (fun _ _ => rfl)) (pa_nil)))))))
      (pss_cons (ps_set (i := 2) sc_join.nd rfl (by first | exact Or.inl rfl | exact Or.inr rfl) (pe_int))
      (pss_cons (ps_set (i := 1) sc_join.nd rfl (by first | exact Or.inl rfl | exact Or.inr rfl) (pe_call (ok_pack_level T) (hr.mono (by first | decide | omega)) (by rfl) T.g_pack_level T.F_pack_level.kp T.b_pack_level .nil pass0 (pa_cons (pv 0) (pa_cons (pv 2) (pa_cons (pv 1) (pa_nil))))))
      (pss_cons (ps_while PassesOwn.never (pt_cmpR op_gt (pe_callB (r := rLenQ K) call_len_seq (by rfl) T.m_len (by decide +kernel) (pa_cons (pv 1) (pa_nil))) (pe_int) (nomark _))
      (pss_cons (ps_aug (i := 2) sc_join.nd rfl (by first | exact Or.inl rfl | exact Or.inr rfl) (pe_int) ip_add)
      (pss_one (ps_set (i := 1) sc_join.nd rfl (by first | exact Or.inl rfl | exact Or.inr rfl) (pe_call (ok_pack_level T) (hr.mono (by first | decide | omega)) (by rfl) T.g_pack_level T.F_pack_level.kp T.b_pack_level .nil pass0 (pa_cons (pv 0) (pa_cons (pv 2) (pa_cons (pv 1) (pa_nil)))))))))
      (pss_one (ps_ret (pe_call (ok_chunk_address T) (hr.mono (by first | decide | omega)) (by rfl) T.g_chunk_address T.F_chunk_address.kp T.b_chunk_address .nil pass0 (pa_cons (pe_ix (r := rIxL K) ix_list (pv 1) (pe_int) (fun _ _ => rfl)) (pa_nil))))))))), ?_⟩
    have hlen := hD.len
    rw [List.length_map] at hlen
    refine q_when (b := xs.isEmpty) (et_is (et_not (et_tru (K := K) (ev_var rfl) hS)) (by simp)) (fun hb H1 e1 => ?_) (fun hb H1 e1 => ?_)
    · obtain rfl := List.isEmpty_iff.mp hb
      obtain rfl : es = [] := List.eq_nil_of_length_eq_zero hlen.symm
      have hst1 := hst.mono e1
      obtain ⟨⟨px, hp1⟩, ht1⟩ := id hst1.ck
      refine ret_run ⟨_, rfl, p, px, _, rfl, hp1, cF_no b r t (by decide +kernel) (by decide +kernel) (by decide +kernel), cons_run (enc_runI (K := K) (ds := [.str (Str.ofString "rows"), .tup []]) (eai_cons (ei_ev ev_c (.str _)) (eai_cons (ei_tup eai_nil (by decide)) eai_nil)) (GOk.fit (lv := 0) (g := []) ⟨fun _ h => (nomatch h), by decide, by decide⟩ (by decide)) (by decide) (by decide +kernel) fun H2 e2 => nil_run ?_)⟩
      exact putW_run (z := txtI (rowsI [])) (hst1.mono e2) (by omega) fun H3 st3 f3 => q H3 (st3.up (by omega)) ((But.of (e1.trans e2)).trans f3)
    · have hne : es ≠ [] := fun z => by
        subst z
        obtain rfl := List.eq_nil_of_length_eq_zero hlen
        cases hb
      have hpos : es.length ≠ 0 := fun z => hne (List.eq_nil_of_length_eq_zero z)
      have hS1 := ex_l e1 hS
      have hD1 := hD.mono e1
      have hst1 := hst.mono e1
      have bz : buildZ s0 es = joinZ es.length 1 (lvl 0 s0 (grp 0 [] es)).1 (lvl 0 s0 (grp 0 [] es)).2 := by unfold buildZ; rw [if_neg hne]
      rw [bz] at q
      obtain ⟨v0, hv0⟩ : ∃ v0, xs[0]? = some v0 := ⟨_, List.getElem?_eq_getElem (by omega)⟩
      obtain ⟨d0, hd0, hvd⟩ := dvl_get hD hv0
      rw [List.getElem?_map] at hd0
      obtain ⟨e0, he0⟩ : ∃ e0, es[0]? = some e0 := ⟨_, List.getElem?_eq_getElem (by omega)⟩
      rw [he0] at hd0
      obtain rfl : pcI 0 e0 = d0 := Option.some.inj hd0
      obtain ⟨a0, x0, rfl, h0, _⟩ := dv_pc hvd
      refine q_while (fun m σ' H' => σ' = [some (.ref p), some (.ref a), none] ∧ Ex H H') 0 ⟨rfl, e1⟩ (fun m σ' H' hW => ?_)
      obtain ⟨rfl, eW⟩ := hW
      refine ⟨false, et_is (et_and (a := decide ((xs.length : Int) = 1)) (b := false) (et_test (ev_eqI (ev_lenQ (K := K) (ev_var rfl) (ex_l eW hS)) ev_c)) fun _ => et_is (et_test (ev_bin0 (ev_ixT (K := K) (ev_ixL (K := K) (ev_var rfl) ev_c (ex_l eW hS) (at_nat (j := 0) hv0)) ev_c (ex_t eW h0) (at_nat (j := 0) rfl)) ev_c)) (by simp)) (by simp), (fun z => nomatch z), fun _ H2 e2 => ?_⟩
      have E2 := eW.trans e2
      refine q_asg ev_c fun H3 e3 => ?_
      have E3 := E2.trans e3
      refine q_asgK (call_run (cons_run (var_run rfl (cons_run (var_run rfl (cons_run (var_run rfl (nil_run ?_))))))))
      have ht0 : totE 0 es = (es.length : Int) := totE_0 es
      refine ⟨p, b, t, d, r, s0, n, 0, a, xs, es, rfl, hst.mono E3, by omega, by decide, ex_l E3 hS, hD.mono E3, he, by omega, fun H4 qa us st4 f4 _ hqa hus => ?_⟩
      have gf := grp_flat 0 es []
      rw [List.nil_append] at gf
      have g1 := grp_len 0 es []
      simp only [List.length_nil] at g1
      have gl : (grp 0 [] es).length ≠ 0 := fun z => grp_pos hne (List.eq_nil_of_length_eq_zero z)
      have ln := lvl_len 0 (grp 0 [] es) s0
      have hz0 := hst.lz
      have hok := lvl_ok (lv := 0) (gs := grp 0 [] es) (s := s0) (grp_ne 0 es []) (by rw [gf]; exact he) (by omega) (by rw [gf, ht0]; omega)
      have htt := totE_up 0 (grp 0 [] es) s0
      rw [gf, ht0] at htt
      refine q_while (fun m σ' H' => ∃ (lv f n' : Nat) (s : Sto) (qa : Addr) (us : List V) (es' : List It), σ' = [some (.ref p), some (.ref qa), some (.int (lv : Int))] ∧ m = es'.length ∧ StW T.C_Chunks T.C_Book H' p b t d r s n' ∧ But [d, t] H H' ∧ H' qa = some (.lst us) ∧ DvL K H' us (es'.map (pcI (lv + 1))) ∧ (∀ e ∈ es', EOk (lv + 1) e) ∧ es' ≠ [] ∧ n' + 4 * es'.length ≤ n + 5 * es.length ∧ totE (lv + 1) es' = (es.length : Int) ∧ joinZ f (lv + 1) s es' = joinZ es.length 1 (lvl 0 s0 (grp 0 [] es)).1 (lvl 0 s0 (grp 0 [] es)).2 ∧ es'.length ≤ f + 1 ∧ lv + f ≤ 900) (lvl 0 s0 (grp 0 [] es)).2.length
        ⟨0, es.length, n + es.length, _, qa, us, _, rfl, rfl, st4, (But.of E3).trans f4, hqa, hus, hok, fun z => by rw [z] at ln; exact gl ln.symm, by omega, htt, rfl, by omega, by omega⟩ (fun m σ' H' hW => ?_)
      obtain ⟨lv, f, n', s, qa, us, es', rfl, rfl, st, fH, hq', hud, hok', hne', hph, htt', hj, hl', hlf⟩ := hW
      have hul := hud.len
      rw [List.length_map] at hul
      have hpos' : es'.length ≠ 0 := fun z => hne' (List.eq_nil_of_length_eq_zero z)
      refine ⟨decide ((us.length : Int) > 1), et_test (ev_bin0 (ev_lenQ (K := K) (ev_var rfl) (sq_of hq')) ev_c), fun hb H5 e5 => ⟨_, fun σ2 H2 h => h, ?_⟩, fun hb H5 e5 => ?_⟩
      · have h2 : 2 ≤ es'.length := by have := of_decide_eq_true hb; omega
        obtain ⟨f', rfl⟩ : ∃ f', f = f' + 1 := ⟨f - 1, by omega⟩
        refine q_aug rfl ev_c fun H6 e6 => ?_
        have E6 := e5.trans e6
        refine asg_run (call_run (cons_run (var_run rfl (cons_run (var_run rfl (cons_run (var_run rfl (nil_run ?_))))))))
        have ec : ((lv : Int) + 1) = ((lv + 1 : Nat) : Int) := by omega
        refine ⟨p, b, t, d, r, s, n', lv + 1, qa, us, es', by rw [← ec] <;> rfl, st.mono E6, by omega, by omega, sq_of (E6 _ _ hq'), hud.mono E6, hok', by omega, fun H7 qb us2 st7 f7 _ hqb hus2 => ?_⟩
        have gf' := grp_flat (lv + 1) es' []
        rw [List.nil_append] at gf'
        have gh := grp_half (lv := lv + 1) (by omega) es' []
        simp only [List.length_nil] at gh
        have gl' : (grp (lv + 1) [] es').length ≠ 0 := fun z => grp_pos hne' (List.eq_nil_of_length_eq_zero z)
        have ln' := lvl_len (lv + 1) (grp (lv + 1) [] es') s
        have hz := st.lz
        have hok2 := lvl_ok (lv := lv + 1) (gs := grp (lv + 1) [] es') (s := s) (grp_ne (lv + 1) es' []) (by rw [gf']; exact hok') (by omega) (by rw [gf', htt']; omega)
        have htt2 := totE_up (lv + 1) (grp (lv + 1) [] es') s
        rw [gf', htt'] at htt2
        refine ⟨_, ?_, lv + 1, f', n' + es'.length, _, qb, us2, _, by rw [← ec] <;> rfl, rfl, st7, (fH.trans (But.of E6)).trans f7, hqb, hus2, hok2, fun z => by rw [z] at ln'; exact gl' ln'.symm, by omega, htt2, ?_, by omega, by omega⟩
        · omega
        · rw [← hj, joinZ_go (by omega)]
      · have h1 : es'.length = 1 := by have := of_decide_eq_false hb; omega
        obtain ⟨e9, rfl⟩ : ∃ e9, es' = [e9] := by
          match es', h1 with
          | [e9], _ => exact ⟨e9, rfl⟩
        obtain ⟨k9, r9, ee, hk9⟩ := (hok' e9 (by simp)).sh
        obtain ⟨a9, c9, rfl⟩ := hk9 (by omega)
        subst ee
        obtain ⟨u9, us, rfl, hu9, hud⟩ := dvl_cons (d := pcI (lv + 1) (.tup [k9, .int a9, .int c9])) (ds := []) hud
        obtain rfl := dvl_nil hud
        have st5 := st.mono e5
        rw [joinZ_stop (by simp)] at hj
        have hj2 : joinZ es.length 1 (lvl 0 s0 (grp 0 [] es)).1 (lvl 0 s0 (grp 0 [] es)).2 = (s, a9) := hj.symm
        rw [hj2] at q
        refine ret_run (call_run (cons_run (ev_run (ev_ixL (K := K) (ev_var rfl) ev_c (sq_of (e5 _ _ hq')) (at_nat (j := 0) rfl)) fun H6 e6 => nil_run ?_)))
        exact ⟨u9, _, k9, a9, _, rfl, (hu9.mono e5).mono e6, fun H7 e7 => q H7 ((st5.mono e6).mono e7 |>.up (by simp only [List.length_singleton] at hph; omega)) (fH.trans (But.of ((e5.trans e6).trans e7)))⟩


/-! ### build -/
def spBL (K : PySem.W.Frag) (CC CB : Addr) : Sp := fun vs H Q _ => ∃ (p b t d : Addr) (r : Int) (s : Sto) (n : Nat) (a : Addr) (xs : List V) (es : List It), vs = [.ref p, .ref a] ∧ StW CC CB H p b t d r s n ∧ n + 5 * es.length ≤ 88000 ∧ es.length ≤ 800 ∧ SqL K H a xs ∧ DvL K H xs es ∧ (∀ e ∈ es, EOk 0 e) ∧
  ∀ H', StW CC CB H' p b t d r (buildZ s es).1 (n + 5 * es.length + 1) → But [d, t] H H' → Q (.int (buildZ s es).2) H'
theorem ok_build (T : Txt K mg P) : FnOk P w K mg base CX0 36 T.f_build T.d_build ["chunks", "entries"] (spBL K T.C_Chunks T.C_Book) := by
  refine T.F_build.ok sc_build (fun vs H Q E h => ?_) (fun cdv A outer s H vs Q E hr h => ?_)
  · obtain ⟨p, b, t, d, r, s, n, a, xs, es, rfl, _⟩ := h
    rfl
  · obtain ⟨p, b, t, d, r, s0, n, a, xs, es, rfl, hst, hn, hL8, hS, hD, he, q⟩ := h
    refine ⟨_, pss_one (ps_ret (pe_call (ok_join T) (hr.mono (by first | decide | omega)) (by rfl) T.g_join T.F_join.kp T.b_join .nil pass0 (pa_cons (pv 0) (pa_cons (pe_lc (own := [("entry", 2)]) (g := gName 2) (tt := tYes) rfl sc_build.nd (pi_list (pv 1)) (blkOk_by (N := ["chunks", "entries", "entry"]) (sc := defScope s_build) (by decide +kernel)) (fun _ _ _ _ _ => pg_name (i := 2) sc_build.nd rfl (Or.inl rfl)) (fun _ _ _ _ _ => pts_nil) (fun _ _ _ _ _ => pe_tup (pa_cons (pe_int) (pa_cons (pv 2) (pa_nil))))) (pa_nil))))), ?_⟩
    have hlen := hD.len
    refine ret_run (call_run (cons_run (var_run rfl (cons_run (edi_run (K := K) (ds := es.map (pcI 0)) (edi_L (K := K) (ev_var rfl) hS (by rw [List.length_map, hlen]) (by rw [List.length_map]; omega) (fun x => rfl) fun i x d1 H3 hx3 hd3 e3 => ?_) fun q' us H3 hq' e3 h3 d3 => nil_run ?_)))))
    · rw [List.getElem?_map] at hd3
      obtain ⟨d0, hd0, hvd⟩ := dvl_get hD hx3
      rw [hd0] at hd3
      obtain rfl : pcI 0 d0 = d1 := Option.some.inj hd3
      exact ei_tup (eai_cons (ei_ev ev_c (.int _)) (eai_cons (ei_ev (ev_var rfl) (hvd.mono e3)) eai_nil)) (by show 2 ≤ 100000; decide)
    · exact ⟨p, b, t, d, r, s0, n, q', us, es, rfl, hst.mono e3, hn, hL8, sq_of h3, d3, he, fun H4 st f => q H4 st ((But.of e3).trans f)⟩


/-! ### height -/
/-! ### addresses beneath; the levels' texts -/
def SubA (kvs : List (Key × V)) : Nat → It → List Int → Prop
  | 0, _, l => l = []
  | n + 1, e, l => ∃ k a c g l', e = .tup [k, .int a, c] ∧ valV kvs (Sum.inl a : Key) = some (.str (txtI (nodeI n g))) ∧ GOk n g ∧ SubL (SubA kvs n) g l' ∧ l = a :: l'
theorem SubA.le {a b : List (Key × V)} (h : Le a b) : ∀ {n : Nat} {e : It} {l : List Int}, SubA a n e l → SubA b n e l
  | 0, _, _, x => x
  | n + 1, e, l, ⟨k, ad, c, g, l', h1, h2, h3, h4, h5⟩ => ⟨k, ad, c, g, l', h1, h _ _ h2, h3, h4.imp fun _ _ x => SubA.le h x, h5⟩
def adF (F : List Str) (z : Str) : Int := 1 + (posZ z F : Nat)
def upF (F : List Str) (lv : Nat) (g : List It) : It := .tup [keyI (g.getLastD .non), .int (adF F (txtI (nodeI lv g))), .int (totE lv g)]
theorem addZ_pre (zs : List Str) (z : Str) : zs <+: addZ zs z := by
  unfold addZ
  split
  · exact List.prefix_refl _
  · exact List.prefix_append _ _
theorem lvl_pre (lv : Nat) : ∀ (gs : List (List It)) (s : Sto), s.1 <+: (lvl lv s gs).1.1
  | [], _ => List.prefix_refl _
  | g :: gs, s => (addZ_pre s.1 (txtI (nodeI lv g))).trans (lvl_pre lv gs (putW s (txtI (nodeI lv g))))
theorem joinZ_pre : ∀ (f lv : Nat) (s : Sto) (es : List It), s.1 <+: (joinZ f lv s es).1.1
  | 0, _, _, _ => List.prefix_refl _
  | f + 1, lv, s, es => by
    unfold joinZ
    split
    · exact List.prefix_refl _
    · exact (lvl_pre lv _ s).trans (joinZ_pre f (lv + 1) _ _)
theorem adr_F {zs F : List Str} {z : Str} (h : addZ zs z <+: F) : adr zs z = adF F z := by
  obtain ⟨ys, rfl⟩ := h
  unfold adr adF
  rw [posZ_app ys (addZ_mem zs z)]
theorem upI_F {lv : Nat} {s : Sto} {g : List It} {F : List Str} (h : addZ s.1 (txtI (nodeI lv g)) <+: F) : upI lv s g = upF F lv g := by
  unfold upI upF
  rw [adr_F h]
theorem lvl_F {lv : Nat} {F : List Str} : ∀ {gs : List (List It)} {s : Sto}, (lvl lv s gs).1.1 <+: F → (lvl lv s gs).2 = gs.map (upF F lv)
  | [], _, _ => rfl
  | g :: gs, s, h => by
    have h1 : addZ s.1 (txtI (nodeI lv g)) <+: F := (lvl_pre lv gs (putW s (txtI (nodeI lv g)))).trans h
    show upI lv s g :: (lvl lv _ gs).2 = upF F lv g :: gs.map (upF F lv)
    rw [upI_F h1, lvl_F (gs := gs) (s := putW s (txtI (nodeI lv g))) h]
theorem lvl_has {lv : Nat} {F : List Str} {kv : List (Key × V)} : ∀ {gs : List (List It)} {s : Sto}, s.1.Nodup → Con s.1 s.2 → (lvl lv s gs).1.1 <+: F → Le (lvl lv s gs).1.2 kv → ∀ g ∈ gs, txtI (nodeI lv g) ∈ F ∧ valV kv (Sum.inl (adF F (txtI (nodeI lv g))) : Key) = some (.str (txtI (nodeI lv g)))
  | [], _, _, _, _, _, g, h => nomatch h
  | g0 :: gs, s, nd, hc, hp, hl, g, h => by
    have c1 := con_put nd hc (txtI (nodeI lv g0))
    rcases List.mem_cons.mp h with h | h
    · subst h
      have h1 : addZ s.1 (txtI (nodeI lv g)) <+: F := (lvl_pre lv gs (putW s (txtI (nodeI lv g)))).trans hp
      refine ⟨h1.subset (addZ_mem _ _), ?_⟩
      rw [← adr_F h1]
      exact hl _ _ ((lvl_con lv gs (putW s (txtI (nodeI lv g))) (addZ_nodup nd) c1.1).2.2 _ _ (putW_val s _))
    · exact lvl_has (gs := gs) (s := putW s (txtI (nodeI lv g0))) (addZ_nodup nd) c1.1 hp hl g h
theorem lvl_subA {lv : Nat} : ∀ {gs : List (List It)} {s : Sto} {L : List Int}, s.1.Nodup → Con s.1 s.2 → (∀ g ∈ gs, GOk lv g) → SubL (SubA s.2 lv) gs.flatten L → ∃ L', SubL (SubA (lvl lv s gs).1.2 (lv + 1)) (lvl lv s gs).2 L' ∧ L'.Perm ((lvl lv s gs).2.map adrE ++ L)
  | [], s, L, _, _, _, h => by
    cases h
    exact ⟨[], .nil, List.Perm.refl _⟩
  | g :: gs, s, L, nd, hc, hg, h => by
    rw [List.flatten_cons] at h
    obtain ⟨l1, l2, rfl, h1, h2⟩ := h.split
    have c1 := con_put nd hc (txtI (nodeI lv g))
    have cl := lvl_con lv gs (putW s (txtI (nodeI lv g))) (addZ_nodup nd) c1.1
    obtain ⟨L', k1, k2⟩ := lvl_subA (gs := gs) (s := putW s (txtI (nodeI lv g))) (L := l2) (addZ_nodup nd) c1.1 (fun g' h' => hg g' (List.mem_cons_of_mem _ h')) (h2.imp fun _ _ y => y.le c1.2)
    refine ⟨(adr s.1 (txtI (nodeI lv g)) :: l1) ++ L', .cons ⟨_, _, _, g, l1, rfl, cl.2.2 _ _ (putW_val s _), hg g List.mem_cons_self, h1.imp fun _ _ y => y.le (c1.2.trans cl.2.2), rfl⟩ k1, ?_⟩
    show (adr s.1 (txtI (nodeI lv g)) :: (l1 ++ L')).Perm (adr s.1 (txtI (nodeI lv g)) :: ((lvl lv _ gs).2.map adrE ++ (l1 ++ l2)))
    refine List.Perm.cons _ ?_
    refine (List.Perm.append_left l1 k2).trans ?_
    rw [← List.append_assoc, ← List.append_assoc]
    exact List.Perm.append_right l2 List.perm_append_comm
def grpL (lv : Nat) (es : List It) : List (List It) := if es = [] then [[]] else grp lv [] es
def txL (lv : Nat) (es : List It) : List Str := (grpL lv es).map fun g => txtI (nodeI lv g)
def levT (F : List Str) : Nat → Nat → List It → List (List Str)
  | 0, _, _ => []
  | f + 1, lv, es => if (grpL lv es).length = 1 then [txL lv es] else txL lv es :: levT F f (lv + 1) ((grpL lv es).map (upF F lv))
def LevOk (F : List Str) (kv : List (Key × V)) : Nat → Nat → List It → Prop
  | 0, _, _ => False
  | f + 1, lv, es => (∀ g ∈ grpL lv es, txtI (nodeI lv g) ∈ F ∧ valV kv (Sum.inl (adF F (txtI (nodeI lv g))) : Key) = some (.str (txtI (nodeI lv g)))) ∧ ((grpL lv es).length = 1 ∨ (es ≠ [] ∧ LevOk F kv f (lv + 1) ((grpL lv es).map (upF F lv))))
def levR (F : List Str) (f lv : Nat) (es : List It) : List (List Str) := if es.length ≤ 1 then [] else levT F f lv es
theorem levT_go {F : List Str} {f lv : Nat} {es : List It} (hn : es ≠ []) : levT F (f + 1) lv es = txL lv es :: levR F f (lv + 1) ((grpL lv es).map (upF F lv)) := by
  have h0 : (grpL lv es).length ≠ 0 := fun z => by
    unfold grpL at z
    rw [if_neg hn] at z
    exact grp_pos hn (List.eq_nil_of_length_eq_zero z)
  rw [levT]
  unfold levR
  rw [List.length_map]
  by_cases h1 : (grpL lv es).length = 1
  · rw [if_pos h1, if_pos (by omega)]
  · rw [if_neg h1, if_neg (by omega)]
structure Lv (F : List Str) (kv : List (Key × V)) (lv f : Nat) (es : List It) (a : Int) (L : List Int) (h : Nat) (g : List It) (l : List Int) : Prop where
  v : valV kv (Sum.inl a : Key) = some (.str (txtI (nodeI h g)))
  gk : GOk h g
  s : SubL (SubA kv h) g l
  p : (a :: l).Perm (((levR F f (lv + 1) es).flatten.map (adF F)) ++ L)
  hl : h = lv + (levR F f (lv + 1) es).length
  o : es.length ≤ 1 ∨ LevOk F kv f (lv + 1) es
  la : (es.length ≤ 1 ∧ a = adrE (es.headD .non)) ∨ ∃ pre, (levR F f (lv + 1) es).flatten = pre ++ [txtI (nodeI h g)] ∧ a = adF F (txtI (nodeI h g))
theorem pw2 {n k : Nat} (h : n ≤ 2 ^ (k + 1)) : (n + 1) / 2 ≤ 2 ^ k := by
  have : 2 ^ (k + 1) = 2 * 2 ^ k := by rw [Nat.pow_succ, Nat.mul_comm]
  omega
theorem map_adF {F : List Str} {lv : Nat} {gs : List (List It)} : (gs.map (upF F lv)).map adrE = (gs.map fun g => txtI (nodeI lv g)).map (adF F) := by
  rw [List.map_map, List.map_map]
  exact List.map_congr_left fun g _ => rfl
/-- one level up: what the levels above say of this one -/
theorem Lv.down {F : List Str} {kv : List (Key × V)} {lv f : Nat} {es : List It} {a : Int} {L L' : List Int} {h : Nat} {g : List It} {l : List Int} (hn : es ≠ []) (hh : ∀ g ∈ grpL lv es, txtI (nodeI lv g) ∈ F ∧ valV kv (Sum.inl (adF F (txtI (nodeI lv g))) : Key) = some (.str (txtI (nodeI lv g))))
    (x : Lv F kv lv f ((grpL lv es).map (upF F lv)) a L' h g l) (hp : L'.Perm ((txL lv es).map (adF F) ++ L)) :
    (a :: l).Perm (((levT F (f + 1) lv es).flatten.map (adF F)) ++ L) ∧ h + 1 = lv + (levT F (f + 1) lv es).length ∧ LevOk F kv (f + 1) lv es ∧ ∃ pre, (levT F (f + 1) lv es).flatten = pre ++ [txtI (nodeI h g)] ∧ a = adF F (txtI (nodeI h g)) := by
  have e := levT_go (F := F) (f := f) (lv := lv) hn
  rw [e]
  have h0 : (grpL lv es).length ≠ 0 := fun z => by
    unfold grpL at z
    rw [if_neg hn] at z
    exact grp_pos hn (List.eq_nil_of_length_eq_zero z)
  refine ⟨?_, ?_, ⟨hh, ?_⟩, ?_⟩
  · rw [List.flatten_cons, List.map_append]
    refine (x.p.trans (List.Perm.append_left _ hp)).trans ?_
    rw [← List.append_assoc]
    exact List.Perm.append_right L List.perm_append_comm
  · rw [x.hl, List.length_cons]; omega
  · rcases x.o with h1 | h1
    · rw [List.length_map] at h1
      exact .inl (by omega)
    · exact .inr ⟨hn, h1⟩
  · rcases x.la with ⟨h1, h2⟩ | ⟨pre, h1, h2⟩
    · rw [List.length_map] at h1
      obtain ⟨g1, hg1⟩ : ∃ g1, grpL lv es = [g1] := by
        match hq : grpL lv es, h1, h0 with
        | [g1], _, _ => exact ⟨g1, rfl⟩
        | [], _, h0 => exact absurd rfl h0
        | _ :: _ :: _, h1, _ => simp at h1
      rw [hg1] at h2
      have h2 : a = adF F (txtI (nodeI lv g1)) := h2
      have hv := (hh g1 (by rw [hg1]; exact List.mem_cons_self)).2
      rw [← h2, x.v] at hv
      have et : txtI (nodeI h g) = txtI (nodeI lv g1) := V.str.inj (Option.some.inj hv)
      refine ⟨[], ?_, by rw [et]; exact h2⟩
      unfold levR txL
      rw [hg1, if_pos (show (List.map (upF F lv) [g1]).length ≤ 1 from Nat.le_refl 1), et] <;> rfl
    · exact ⟨txL lv es ++ pre, by rw [List.flatten_cons, h1, List.append_assoc], h2⟩
theorem joinZ_lev : ∀ {f lv f' : Nat} {s : Sto} {es : List It} {L : List Int}, s.1.Nodup → Con s.1 s.2 → (∀ e ∈ es, EOk (lv + 1) e) → SubL (SubA s.2 (lv + 1)) es L → es ≠ [] → es.length ≤ f + 1 → lv + f ≤ 999 → s.1.length + 5 * es.length ≤ 90000 → totE (lv + 1) es ≤ 100000 → es.length ≤ 2 ^ f' →
    ∃ h g l, Lv (joinZ f (lv + 1) s es).1.1 (joinZ f (lv + 1) s es).1.2 lv f' es (joinZ f (lv + 1) s es).2 L h g l
  | f, lv, f', s, es, L, nd, hc, he, hs, hn, hl, hf, hz, ht, hp => by
    by_cases h1 : es.length ≤ 1
    · rw [joinZ_stop h1]
      have h1' : es.length = 1 := by
        have : es.length ≠ 0 := fun z => hn (List.eq_nil_of_length_eq_zero z)
        omega
      match es, h1', hs with
      | [e], _, .cons (l1 := l1) (l2 := l2) h r =>
        cases r
        obtain ⟨k, a, c, g, l', rfl, h2, h3, h4, rfl⟩ := h
        have hr : ∀ F, levR F f' (lv + 1) [It.tup [k, .int a, c]] = [] := fun F => by unfold levR; rw [if_pos (show [It.tup [k, It.int a, c]].length ≤ 1 from Nat.le_refl 1)]
        refine ⟨lv, g, l', h2, h3, h4, ?_, by rw [hr] <;> rfl, .inl (Nat.le_refl 1), .inl ⟨Nat.le_refl 1, rfl⟩⟩
        rw [hr, List.append_nil]
        exact List.Perm.refl _
    · obtain ⟨f0, rfl⟩ : ∃ f0, f = f0 + 1 := ⟨f - 1, by omega⟩
      obtain ⟨f1, rfl⟩ : ∃ f1, f' = f1 + 1 := by
        cases f' with
        | zero => rw [Nat.pow_zero] at hp; omega
        | succ f1 => exact ⟨f1, rfl⟩
      have gf := grp_flat (lv + 1) es []
      rw [List.nil_append] at gf
      have cl := lvl_con (lv + 1) (grp (lv + 1) [] es) s nd hc
      have g2 := grp_half (lv := lv + 1) (by omega) es []
      have gl : (grp (lv + 1) [] es).length ≠ 0 := fun z => grp_pos hn (List.eq_nil_of_length_eq_zero z)
      simp only [List.length_nil] at g2
      have ln := lvl_len (lv + 1) (grp (lv + 1) [] es) s
      have hok := lvl_ok (lv := lv + 1) (gs := grp (lv + 1) [] es) (s := s) (grp_ne (lv + 1) es []) (by rw [gf]; exact he) (by omega) (by rw [gf]; exact ht)
      have hgo : ∀ g ∈ grp (lv + 1) [] es, GOk (lv + 1) g := fun g hg => ⟨fun e hx => he e (by rw [← gf]; exact List.mem_flatten.mpr ⟨g, hg, hx⟩), grp_8 (lv + 1) es [] (by simp) g hg, by omega⟩
      obtain ⟨L', hs', hpm⟩ := lvl_subA (lv := lv + 1) (gs := grp (lv + 1) [] es) (s := s) (L := L) nd hc hgo (by rw [gf]; exact hs)
      have hz1 := lvl_zs (lv + 1) (grp (lv + 1) [] es) s
      have hp2 := pw2 hp
      obtain ⟨h, g, l, x⟩ := joinZ_lev (f := f0) (lv := lv + 1) (f' := f1) cl.1 cl.2.1 hok hs' (fun z => by rw [z] at ln; exact gl ln.symm) (by omega) (by omega) (by omega) (by rw [totE_up, gf]; exact ht) (by omega)
      have ej := joinZ_go (f := f0) (lv := lv + 1) (s := s) h1
      rw [← ej] at x
      have hpre : (lvl (lv + 1) s (grp (lv + 1) [] es)).1.1 <+: (joinZ (f0 + 1) (lv + 1) s es).1.1 := by rw [ej]; exact joinZ_pre _ _ _ _
      have hle : Le (lvl (lv + 1) s (grp (lv + 1) [] es)).1.2 (joinZ (f0 + 1) (lv + 1) s es).1.2 := by
        rw [ej]
        exact joinZ_le cl.1 cl.2.1
      have hF := lvl_F hpre
      have hh := lvl_has nd hc hpre hle
      have eg : grpL (lv + 1) es = grp (lv + 1) [] es := by unfold grpL; rw [if_neg hn]
      rw [hF] at x hpm
      rw [map_adF] at hpm
      rw [← eg] at x hh hpm
      obtain ⟨k1, k2, k3, pre, k4, k5⟩ := x.down hn hh hpm
      have er : levR (joinZ (f0 + 1) (lv + 1) s es).1.1 (f1 + 1) (lv + 1) es = levT (joinZ (f0 + 1) (lv + 1) s es).1.1 (f1 + 1) (lv + 1) es := by unfold levR; rw [if_neg h1]
      exact ⟨h, g, l, x.v, x.gk, x.s, by rw [er]; exact k1, by rw [er]; omega, .inr k3, .inr ⟨pre, by rw [er]; exact k4, k5⟩⟩
theorem subA_leaf {kvs : List (Key × V)} : ∀ {es : List It}, SubL (SubA kvs 0) es []
  | [] => .nil
  | e :: es => SubL.cons (l1 := []) (l2 := []) (show SubA kvs 0 e [] from rfl) subA_leaf
theorem buildZ_lev {s : Sto} {es : List It} (nd : s.1.Nodup) (hc : Con s.1 s.2) (he : ∀ e ∈ es, EOk 0 e) (hl : es.length ≤ 800) (hz : s.1.length ≤ 80000) : ∃ h g l, valV (buildZ s es).1.2 (Sum.inl (buildZ s es).2 : Key) = some (.str (txtI (nodeI h g))) ∧ GOk h g ∧ SubL (SubA (buildZ s es).1.2 h) g l ∧
    ((buildZ s es).2 :: l).Perm ((levT (buildZ s es).1.1 40 0 es).flatten.map (adF (buildZ s es).1.1)) ∧ h + 1 = (levT (buildZ s es).1.1 40 0 es).length ∧ LevOk (buildZ s es).1.1 (buildZ s es).1.2 40 0 es ∧ ∃ pre, (levT (buildZ s es).1.1 40 0 es).flatten = pre ++ [txtI (nodeI h g)] ∧ (buildZ s es).2 = adF (buildZ s es).1.1 (txtI (nodeI h g)) := by
  by_cases hn : es = []
  · subst hn
    have eb : buildZ s [] = (putW s (txtI (rowsI [])), adr s.1 (txtI (rowsI []))) := by unfold buildZ; rw [if_pos rfl]
    rw [eb]
    have ea : adr s.1 (txtI (rowsI [])) = adF (putW s (txtI (rowsI []))).1 (txtI (rowsI [])) := adr_F (List.prefix_refl _)
    have e1 : ∀ F, levT F 40 0 [] = [[txtI (rowsI [])]] := fun F => rfl
    have hg : grpL 0 [] = [[]] := rfl
    refine ⟨0, [], [], putW_val s _, ⟨fun _ h => (nomatch h), by decide, by decide⟩, .nil, ?_, by rw [e1] <;> rfl, ⟨fun g h => ?_, .inl rfl⟩, [], by rw [e1] <;> rfl, ea⟩
    · rw [e1, ea]
      exact List.Perm.refl _
    · rw [hg] at h
      rw [List.mem_singleton.mp h]
      refine ⟨addZ_mem _ _, ?_⟩
      show valV (putW s (txtI (rowsI []))).2 (Sum.inl (adF (putW s (txtI (rowsI []))).1 (txtI (rowsI []))) : Key) = _
      rw [← ea]
      exact putW_val s _
  · have eb : buildZ s es = joinZ es.length 1 (lvl 0 s (grp 0 [] es)).1 (lvl 0 s (grp 0 [] es)).2 := by unfold buildZ; rw [if_neg hn]
    have gf := grp_flat 0 es []
    rw [List.nil_append] at gf
    have ht : totE 0 es = (es.length : Int) := totE_0 es
    have cl := lvl_con 0 (grp 0 [] es) s nd hc
    have g1 := grp_len 0 es []
    simp only [List.length_nil] at g1
    have gl : (grp 0 [] es).length ≠ 0 := fun z => grp_pos hn (List.eq_nil_of_length_eq_zero z)
    have ln := lvl_len 0 (grp 0 [] es) s
    have hok := lvl_ok (lv := 0) (gs := grp 0 [] es) (s := s) (grp_ne 0 es []) (by rw [gf]; exact he) (by omega) (by rw [gf, ht]; omega)
    have hgo : ∀ g ∈ grp 0 [] es, GOk 0 g := fun g hg => ⟨fun e hx => he e (by rw [← gf]; exact List.mem_flatten.mpr ⟨g, hg, hx⟩), grp_8 0 es [] (by simp) g hg, by omega⟩
    obtain ⟨L', hs', hpm⟩ := lvl_subA (lv := 0) (gs := grp 0 [] es) (s := s) (L := []) nd hc hgo (by rw [gf]; exact subA_leaf)
    have hz1 := lvl_zs 0 (grp 0 [] es) s
    obtain ⟨h, g, l, x⟩ := joinZ_lev (f := es.length) (lv := 0) (f' := 39) cl.1 cl.2.1 hok hs' (fun z => by rw [z] at ln; exact gl ln.symm) (by omega) (by omega) (by omega) (by rw [totE_up, gf, ht]; omega) (by rw [ln]; exact Nat.le_trans (by omega : (grp 0 [] es).length ≤ 800) (by decide))
    rw [← eb] at x
    have hpre : (lvl 0 s (grp 0 [] es)).1.1 <+: (buildZ s es).1.1 := by rw [eb]; exact joinZ_pre _ _ _ _
    have hle : Le (lvl 0 s (grp 0 [] es)).1.2 (buildZ s es).1.2 := by
      rw [eb]
      exact joinZ_le cl.1 cl.2.1
    have hF := lvl_F hpre
    have hh := lvl_has nd hc hpre hle
    have eg : grpL 0 es = grp 0 [] es := by unfold grpL; rw [if_neg hn]
    rw [hF] at x hpm
    rw [map_adF] at hpm
    rw [← eg] at x hh hpm
    obtain ⟨k1, k2, k3, pre, k4, k5⟩ := x.down hn hh hpm
    rw [List.append_nil] at k1
    exact ⟨h, g, l, x.v, x.gk, x.s, k1, k2.trans (Nat.zero_add _), k3, pre, k4, k5⟩

def spHT (K : PySem.W.Frag) (CC : Addr) : Sp := fun vs H Q _ => ∃ (p b t : Addr) (r n : Int) (kvs : List (Key × V)) (h : Nat) (g : List It), vs = [.ref p, .int n] ∧ CkAt CC H p b t r kvs ∧ valV kvs (Sum.inl n : Key) = some (.str (txtI (nodeI h g))) ∧ GOk h g ∧
  ∀ H' r', CkAt CC H' p b t r' kvs → But [p] H H' → Q (.int ((h + 1 : Nat) : Int)) H'
theorem ok_height (T : Txt K mg P) : FnOk P w K mg base CX0 32 T.f_height T.d_height ["chunks", "root"] (spHT K T.C_Chunks) := by
  refine T.F_height.ok sc_height (fun vs H Q E h => ?_) (fun cdv A outer s H vs Q E hr h => ?_)
  · obtain ⟨p, b, t, r, n, kvs, h, g, rfl, _⟩ := h
    rfl
  · obtain ⟨p, b, t, r, n, kvs, h, g, rfl, hc, hv, hg, q⟩ := h
    refine ⟨_, pss_cons (ps_asg (pe_call (ok_read_chunk T) (hr.mono (by first | decide | omega)) (by rfl) T.g_read_chunk T.F_read_chunk.kp T.b_read_chunk .nil pass0 (pa_cons (pv 0) (pa_cons (pv 1) (pa_nil)))) (pg_tup rfl (pgs_cons (pg_name (i := 2) sc_height.nd rfl (by first | exact Or.inl rfl | exact Or.inr rfl)) (pgs_cons (pg_name (i := 3) sc_height.nd rfl (by first | exact Or.inl rfl | exact Or.inr rfl)) (pgs_nil)))))
      (pss_one (ps_ret (pe_op op_add (pv 2) (pe_int)))), ?_⟩
    refine q_part2 (ev_var rfl) (ev_var rfl) (by rfl) fun H1 e1 => ⟨p, b, t, r, n, kvs, h, g, rfl, hc.mono e1, hv, hg, fun H2 x y ys hc2 f2 hx hy hys => ⟨x, _, rfl, hx, rfl, _, _, rfl, _, _, rfl, rfl, ?_⟩⟩
    have f := (But.of (S := [p]) e1).trans f2
    exact s_ret (v := .int ((h + 1 : Nat) : Int)) (ev_is (ev_bin0 (ev_var rfl) ev_c) (by rfl)) fun H3 e3 => q H3 (r + 1) (hc2.mono e3) (f.trans (But.of e3))


/-! ### reachable -/
abbrev Pd := Nat × Int × List It × List Int
def pdA (ps : List Pd) : List Int := ps.map fun x => x.2.1
def pdD (ps : List Pd) : List Int := (ps.map fun x => x.2.2.2).flatten
theorem suba_tri {kvs : List (Key × V)} {n : Nat} : ∀ {g : List It} {l : List Int}, SubL (SubA kvs (n + 1)) g l → (∀ e ∈ g, EOk (n + 1) e) → ∃ ts : List Pd, g.map adrE = pdA ts ∧ l.Perm (pdA ts ++ pdD ts) ∧ (∀ x ∈ ts, x.1 = n ∧ valV kvs (Sum.inl x.2.1 : Key) = some (.str (txtI (nodeI n x.2.2.1))) ∧ GOk n x.2.2.1 ∧ SubL (SubA kvs n) x.2.2.1 x.2.2.2)
  | _, _, .nil, _ => ⟨[], rfl, List.Perm.refl _, fun x h => nomatch h⟩
  | _, _, .cons (e := e) (es := es) (l1 := l1) (l2 := l2) h r, he => by
    obtain ⟨ts, h1, h2, h3⟩ := suba_tri r fun x hx => he x (List.mem_cons_of_mem _ hx)
    obtain ⟨k, a, c, g, l', rfl, hv, hg, hs, rfl⟩ := h
    obtain ⟨k2, r2, ee, hh⟩ := (he _ List.mem_cons_self).sh
    obtain ⟨a3, c3, rfl⟩ := hh (by omega)
    cases ee
    refine ⟨(n, a, g, l') :: ts, ?_, ?_, fun x hx => ?_⟩
    · show a :: es.map adrE = a :: pdA ts
      rw [h1]
    · show (a :: (l' ++ l2)).Perm (a :: (pdA ts ++ (l' ++ pdD ts)))
      refine List.Perm.cons _ ?_
      refine (List.Perm.append_left l' h2).trans ?_
      rw [← List.append_assoc, ← List.append_assoc]
      exact List.Perm.append_right _ List.perm_append_comm
    · rcases List.mem_cons.mp hx with hx | hx
      · rw [hx]; exact ⟨rfl, hv, hg, hs⟩
      · exact h3 x hx
theorem et_gt {σ : L2.St} {H : Hp} {a b : Int} (i : Nat) (h : σ[i]? = some (some (.int a))) : EvT (tTest (tOp (rI0 fun i j => V.bl (decide (j < i))) (tVar i) (tC (.int b)))) σ H (decide (a > b)) := et_test (ev_bin0 (ev_var h) ev_c)
def spRE (K : PySem.W.Frag) (CC : Addr) : Sp := fun vs H Q _ => ∃ (p b t : Addr) (r n : Int) (kvs : List (Key × V)) (h : Nat) (g : List It) (l : List Int), vs = [.ref p, .int n] ∧ CkAt CC H p b t r kvs ∧ valV kvs (Sum.inl n : Key) = some (.str (txtI (nodeI h g))) ∧ GOk h g ∧ SubL (SubA kvs h) g l ∧ l.length ≤ 5000 ∧
  ∀ H' r' q (ys : List Int), CkAt CC H' p b t r' kvs → But [p] H H' → H q = none → H' q = some (.lst (ys.map V.int)) → ys.Perm (n :: l) → ys.Pairwise (· ≤ ·) → Q (.ref q) H'
theorem sub0_nil {kvs : List (Key × V)} : ∀ {g : List It} {l : List Int}, SubL (SubA kvs 0) g l → l = []
  | _, _, .nil => rfl
  | _, _, .cons (l1 := l1) (l2 := l2) h r => by
    have h1 : l1 = [] := h
    rw [h1, sub0_nil r] <;> rfl
theorem pd_app (a b : List Pd) : pdA (a ++ b) = pdA a ++ pdA b ∧ pdD (a ++ b) = pdD a ++ pdD b := by
  unfold pdA pdD
  exact ⟨by rw [List.map_append], by rw [List.map_append, List.flatten_append]⟩
set_option maxHeartbeats 4000000 in
theorem ok_reachable (T : Txt K mg P) : FnOk P w K mg base CX0 32 T.f_reachable T.d_reachable ["chunks", "root"] (spRE K T.C_Chunks) := by
  refine T.F_reachable.ok sc_reachable (fun vs H Q E h => ?_) (fun cdv A outer s H vs Q E hr h => ?_)
  · obtain ⟨p, b, t, r, n, kvs, h, g, l, rfl, _⟩ := h
    rfl
  · obtain ⟨p, b, t, r, n, kvs, h, g, l, rfl, hc, hv, hg, hs, hl, q⟩ := h
    refine ⟨_, pss_cons (ps_set (i := 2) sc_reachable.nd rfl (by first | exact Or.inl rfl | exact Or.inr rfl) (pe_lst (pa_cons (pv 1) (pa_nil))))
      (pss_cons (ps_set (i := 3) sc_reachable.nd rfl (by first | exact Or.inl rfl | exact Or.inr rfl) (pe_lst (pa_cons (pv 1) (pa_nil))))
      (pss_cons (ps_while PassesOwn.never (pt_truth (pv 3) (by intro _; rfl))
      (pss_cons (ps_asg (pe_call (ok_read_chunk T) (hr.mono (by first | decide | omega)) (by rfl) T.g_read_chunk T.F_read_chunk.kp T.b_read_chunk .nil pass0 (pa_cons (pv 0) (pa_cons (pe_bm0 PySem.F.plainAttrs_list PySem.F.slot_list_pop PySem.F.type_list_pop mt_pop (pv 3)) (pa_nil)))) (pg_tup rfl (pgs_cons (pg_name (i := 4) sc_reachable.nd rfl (by first | exact Or.inl rfl | exact Or.inr rfl)) (pgs_cons (pg_name (i := 5) sc_reachable.nd rfl (by first | exact Or.inl rfl | exact Or.inr rfl)) (pgs_nil)))))
      (pss_one (ps_if (pt_cmpR op_gt (pv 4) (pe_int) (nomark _))
      (pss_cons (ps_setLc (i := 6) (own := [("entry", 7)]) (g := gName 7) (tt := tYes) (by rfl) sc_reachable.nd rfl rfl (sw_true rfl rfl rfl (by decide +kernel)) (pi_tup (pv 5)) (blkOk_by (N := ["chunks", "root", "addresses", "unread", "level", "entries", "below", "entry"]) (sc := defScope s_reachable) (by decide +kernel)) (fun _ _ _ _ _ => pg_name (i := 7) sc_reachable.nd rfl (Or.inl rfl)) (fun _ _ _ _ _ => pts_nil) (fun _ _ _ _ _ => pe_ix (r := rIxT K) ix_tup (pv 7) (pe_int) (fun _ _ => rfl)))
      (pss_cons (ps_expr (pe_bm PySem.F.plainAttrs_list PySem.F.slot_list_extend PySem.F.type_list_extend mt_extend (pv 2) (pa_cons (pv 6) (pa_nil))))
      (pss_one (ps_if (pt_cmpR op_gt (pv 4) (pe_int) (nomark _))
      (pss_one (ps_expr (pe_bm PySem.F.plainAttrs_list PySem.F.slot_list_extend PySem.F.type_list_extend mt_extend (pv 3) (pa_cons (pv 6) (pa_nil)))))
      (pss_nil)))))
      (pss_nil)))))
      (pss_one (ps_ret (pe_callB (r := rSortedI K) cr_sortedI (by rfl) T.m_sorted (by decide +kernel) (pa_cons (pv 2) (pa_nil))))))), ?_⟩
    refine q_asgL (el_lst (ea_cons (ev_var rfl) ea_nil) (by show 1 ≤ 100000; decide)) fun aa H1 haa e1 ha1 => ?_
    refine q_asgL (el_lst (ea_cons (ev_var rfl) ea_nil) (by show 1 ≤ 100000; decide)) fun ua H2 hua e2 hu2 => ?_
    have E2 := e1.trans e2
    have nau : aa ≠ ua := ne_of_none ha1 hua
    have hua0 : H ua = none := fresh_back e1 hua
    refine q_while (fun m σ' H' => ∃ (r' : Int) (ps : List Pd) (al : List Int) (x4 x5 x6 x7 : Option V), σ' = [some (.ref p), some (.int n), some (.ref aa), some (.ref ua), x4, x5, x6, x7] ∧ m = ps.length + (pdD ps).length ∧ CkAt T.C_Chunks H' p b t r' kvs ∧ But [p] H H' ∧ H' aa = some (.lst (al.map V.int)) ∧ H' ua = some (.lst ((pdA ps).reverse.map V.int)) ∧ (al ++ pdD ps).Perm (n :: l) ∧ (∀ x ∈ ps, valV kvs (Sum.inl x.2.1 : Key) = some (.str (txtI (nodeI x.1 x.2.2.1))) ∧ GOk x.1 x.2.2.1 ∧ SubL (SubA kvs x.1) x.2.2.1 x.2.2.2) ∧ ps.length ≤ al.length) (1 + l.length)
      ⟨r, [(h, n, g, l)], [n], none, none, none, none, rfl, by show 1 + l.length = 1 + (l ++ []).length; rw [List.append_nil], hc.mono E2, But.of E2, e2 _ _ ha1, hu2, by show (n :: (l ++ [])).Perm (n :: l); rw [List.append_nil], fun x hx => by rw [List.mem_singleton.mp hx]; exact ⟨hv, hg, hs⟩, Nat.le_refl _⟩ (fun m σ' H' hW => ?_)
    obtain ⟨r', ps, al, x4, x5, x6, x7, rfl, rfl, hc', f', ha', hu', hpm, hps, hpl⟩ := hW
    have hpml := hpm.length_eq
    rw [List.length_append, List.length_cons] at hpml
    refine ⟨!((pdA ps).reverse.map V.int).isEmpty, et_tru (K := K) (ev_var rfl) (sq_of hu'), fun hb H3 e3 => ⟨_, fun σ2 H2 h => h, ?_⟩, fun hb H3 e3 => ?_⟩
    · cases ps with
      | nil => cases hb
      | cons x rr =>
        obtain ⟨lv, ad, g1, l1⟩ := x
        obtain ⟨hv1, hg1, hs1⟩ := hps _ List.mem_cons_self
        have hv1 : valV kvs (Sum.inl ad : Key) = some (.str (txtI (nodeI lv g1))) := hv1
        have hg1 : GOk lv g1 := hg1
        have hs1 : SubL (SubA kvs lv) g1 l1 := hs1
        have eu : ((pdA ((lv, ad, g1, l1) :: rr)).reverse.map V.int) = (pdA rr).reverse.map V.int ++ [.int ad] := by
          show ((ad :: pdA rr).reverse.map V.int) = _
          rw [List.reverse_cons, List.map_append] <;> rfl
        rw [eu] at hu'
        have ed : pdD ((lv, ad, g1, l1) :: rr) = l1 ++ pdD rr := rfl
        rw [ed] at hpm hpml ⊢
        rw [List.length_append] at hpml ⊢
        rw [List.length_cons] at hpl ⊢
        have hu3 := e3 _ _ hu'
        have b1 : But [ua] H3 (upd H3 ua (.lst ((pdA rr).reverse.map V.int))) := But.put List.mem_cons_self
        have hc4 := (hc'.mono e3).lst b1 fun c hcc => by rw [List.mem_singleton.mp hcc]; exact .inr ⟨_, hu3⟩
        have ha4 : (upd H3 ua (.lst ((pdA rr).reverse.map V.int))) aa = some (.lst (al.map V.int)) := by rw [upd_ne nau]; exact e3 _ _ ha'
        have hu4 := upd_same (H := H3) (a := ua) (o := .lst ((pdA rr).reverse.map V.int))
        have f4 : But [p] H (upd H3 ua (.lst ((pdA rr).reverse.map V.int))) := (f'.trans (But.of e3)).fresh1 b1 hua0
        refine call_run (cons_run (var_run rfl (cons_run (pop_goW rfl hu3 (nil_run ?_)))))
        generalize upd H3 ua (.lst ((pdA rr).reverse.map V.int)) = H4 at hc4 ha4 hu4 f4 ⊢
        refine ⟨p, b, t, r', ad, kvs, lv, g1, rfl, hc4, hv1, hg1, fun H5 x y ys hc5 f5 hx hy hys => ⟨x, _, rfl, hx, rfl, _, _, rfl, _, _, rfl, rfl, ?_⟩⟩
        have ha5 := f5 _ _ ha4 (hc4.nl ha4)
        have hu5 := f5 _ _ hu4 (hc4.nl hu4)
        have f5' := f4.trans f5
        have hyl := hys.len
        have h8 := hg1.ln
        have hrr : ∀ x ∈ rr, valV kvs (Sum.inl x.2.1 : Key) = some (.str (txtI (nodeI x.1 x.2.2.1))) ∧ GOk x.1 x.2.2.1 ∧ SubL (SubA kvs x.1) x.2.2.1 x.2.2.2 := fun x hx => hps x (List.mem_cons_of_mem _ hx)
        cases lv with
        | zero =>
          obtain rfl := sub0_nil hs1
          refine s_when (b := decide (((0 : Nat) : Int) > 0)) (et_gt 4 rfl) (fun hb => absurd hb (by decide)) fun _ H6 e6 => ?_
          exact ⟨rr.length + (pdD rr).length, by simp, r' + 1, rr, al, _, _, _, _, rfl, rfl, hc5.mono e6, f5'.trans (But.of e6), e6 _ _ ha5, e6 _ _ hu5, hpm, hrr, by omega⟩
        | succ k =>
          obtain ⟨ts, t1, t2, t3⟩ := suba_tri hs1 hg1.es
          have tl : ts.length = g1.length := by have := congrArg List.length t1; unfold pdA at this; rw [List.length_map, List.length_map] at this; exact this.symm
          have t2l := t2.length_eq
          rw [List.length_append] at t2l
          have prl : (pdA rr).length = rr.length := by unfold pdA; rw [List.length_map]
          have pal : (pdA ts).length = ts.length := by unfold pdA; rw [List.length_map]
          refine s_when (b := decide (((k + 1 : Nat) : Int) > 0)) (et_gt 4 rfl) (fun _ H6 e6 => ?_) (fun hb => absurd (decide_eq_true (show ((k + 1 : Nat) : Int) > 0 by omega)) (by rw [hb]; exact Bool.false_ne_true))
          refine q_asgL (xs := (pdA ts).map V.int) (el_mapT (K := K) (ev_var rfl) (ex_t e6 hy) (by omega) (fun x => rfl) (by rw [List.length_map, pal]; omega) fun i x y hx2 hy2 H7 e7 => ?_) fun ba H7 hba e7 hb7 => ?_
          · obtain ⟨d, hd, hvd⟩ := dvl_get hys hx2
            rw [← t1, List.getElem?_map, List.getElem?_map, hd] at hy2
            have ho := hg1.es d (List.mem_of_getElem? hd)
            obtain ⟨k0, r0, e0, h0⟩ := ho.sh
            obtain ⟨a0, c0, rfl⟩ := h0 (by omega)
            subst e0
            obtain ⟨pz, zs, rfl, hz1, hz2⟩ := dv_tup hvd
            obtain ⟨z0, zs, rfl, _, hz2⟩ := dvl_cons hz2
            obtain ⟨z1, zs, rfl, hz3, hz2⟩ := dvl_cons hz2
            obtain rfl := dv_int hz3
            rw [← (Option.some.inj hy2 : _ = y)]
            exact ev_ixT (K := K) (ev_var rfl) ev_c (ex_t (e6.trans e7) hz1) (at_nat (j := 1) rfl)
          · have ha7 := (e6.trans e7) _ _ ha5
            have hu7 := (e6.trans e7) _ _ hu5
            have hc7 := (hc5.mono e6).mono e7
            have nab : aa ≠ ba := ne_of_none (e6 _ _ ha5) hba
            have nub : ua ≠ ba := ne_of_none (e6 _ _ hu5) hba
            have f7 := (f5'.trans (But.of e6)).trans (But.of e7)
            refine q_dropK ⟨_, rfl, .inl ⟨rfl, _, sq_of ha7⟩, cons_run (var_run rfl (nil_run ⟨aa, ba, al.map V.int, (pdA ts).map V.int, rfl, rfl, ha7, hb7, sz_of (by rw [List.length_map, List.length_map]; omega), ?_⟩))⟩
            have b8 : But [aa] H7 (upd H7 aa (.lst (al.map V.int ++ (pdA ts).map V.int))) := But.put List.mem_cons_self
            have hc8 := hc7.lst b8 fun c hcc => by rw [List.mem_singleton.mp hcc]; exact .inr ⟨_, ha7⟩
            have f8 := f7.fresh1 b8 haa
            have ha8 : (upd H7 aa (.lst (al.map V.int ++ (pdA ts).map V.int))) aa = some (.lst ((al ++ pdA ts).map V.int)) := by rw [upd_same, List.map_append]
            have hu8 : (upd H7 aa (.lst (al.map V.int ++ (pdA ts).map V.int))) ua = some (.lst ((pdA rr).reverse.map V.int)) := by rw [upd_ne nau.symm]; exact hu7
            have hb8 : (upd H7 aa (.lst (al.map V.int ++ (pdA ts).map V.int))) ba = some (.lst ((pdA ts).map V.int)) := by rw [upd_ne nab.symm]; exact hb7
            generalize upd H7 aa (.lst (al.map V.int ++ (pdA ts).map V.int)) = H8 at hc8 f8 ha8 hu8 hb8 ⊢
            cases k with
            | zero =>
              have hd0 : pdD ts = [] := by
                unfold pdD
                refine List.flatten_eq_nil_iff.mpr fun l hl => ?_
                obtain ⟨x, hx, rfl⟩ := List.mem_map.mp hl
                exact sub0_nil (t3 x hx).2.2.2
              rw [hd0, List.append_nil] at t2
              rw [hd0] at t2l
              refine s_when (b := decide (((0 + 1 : Nat) : Int) > 1)) (et_gt 4 rfl) (fun hb => absurd hb (by decide)) fun _ H9 e9 => ?_
              refine ⟨rr.length + (pdD rr).length, by omega, r' + 1, rr, al ++ pdA ts, _, _, _, _, rfl, rfl, hc8.mono e9, f8.trans (But.of e9), e9 _ _ ha8, e9 _ _ hu8, ?_, hrr, by rw [List.length_append]; omega⟩
              refine List.Perm.trans ?_ hpm
              rw [List.append_assoc]
              exact List.Perm.append_left _ (List.Perm.append_right _ t2.symm)
            | succ k =>
              refine s_when (b := decide (((k + 1 + 1 : Nat) : Int) > 1)) (et_gt 4 rfl) (fun _ H9 e9 => ?_) (fun hb => absurd (decide_eq_true (show ((k + 1 + 1 : Nat) : Int) > 1 by omega)) (by rw [hb]; exact Bool.false_ne_true))
              have hu9 := e9 _ _ hu8
              refine ⟨_, rfl, .inl ⟨rfl, _, sq_of hu9⟩, cons_run (var_run rfl (nil_run ⟨ua, ba, (pdA rr).reverse.map V.int, (pdA ts).map V.int, rfl, rfl, hu9, e9 _ _ hb8, sz_of (by rw [List.length_map, List.length_map, List.length_reverse, prl]; omega), ?_⟩))⟩
              have b10 : But [ua] H9 (upd H9 ua (.lst ((pdA rr).reverse.map V.int ++ (pdA ts).map V.int))) := But.put List.mem_cons_self
              have hd2 : pdD (ts.reverse ++ rr) = pdD ts.reverse ++ pdD rr := (pd_app _ _).2
              have hdp : (pdD ts.reverse).Perm (pdD ts) := by
                unfold pdD
                exact List.Perm.flatten ((List.reverse_perm ts).map _)
              refine ⟨(ts.reverse ++ rr).length + (pdD (ts.reverse ++ rr)).length, ?_, r' + 1, ts.reverse ++ rr, al ++ pdA ts, _, _, _, _, rfl, rfl, ?_, ?_, ?_, ?_, ?_, fun x hx => ?_, ?_⟩
              · rw [hd2, List.length_append, List.length_append, List.length_reverse, hdp.length_eq]
                omega
              · exact (hc8.mono e9).lst b10 fun c hcc => by rw [List.mem_singleton.mp hcc]; exact .inr ⟨_, hu9⟩
              · exact (f8.trans (But.of e9)).fresh1 b10 hua0
              · rw [upd_ne nau]; exact e9 _ _ ha8
              · have er : (pdA ts.reverse).reverse = pdA ts := by unfold pdA; rw [List.map_reverse, List.reverse_reverse]
                rw [upd_same, (pd_app _ _).1, List.reverse_append, List.map_append, er]
              · refine List.Perm.trans ?_ hpm
                rw [hd2, List.append_assoc]
                refine List.Perm.append_left _ ?_
                rw [← List.append_assoc]
                exact List.Perm.append_right _ ((List.Perm.append_left _ hdp).trans t2.symm)
              · rcases List.mem_append.mp hx with hx | hx
                · obtain ⟨y1, y2⟩ := t3 x (List.mem_reverse.mp hx)
                  rw [y1]; exact y2
                · exact hrr x hx
              · rw [List.length_append, List.length_append, List.length_reverse]
                omega
    · have hp0 : ps = [] := by
        cases ps with
        | nil => rfl
        | cons x rr =>
          have : ((pdA (x :: rr)).reverse.map V.int) ≠ [] := by
            show ((x.2.1 :: pdA rr).reverse.map V.int) ≠ []
            simp
          exact absurd (List.isEmpty_iff.mp (by simpa using hb)) this
      subst hp0
      have hpm : (al ++ []).Perm (n :: l) := hpm
      rw [List.append_nil] at hpm
      refine ret_run (cb_run (cons_run (var_run rfl (nil_run ⟨aa, al, rfl, sq_of (e3 _ _ ha'), fun ys q' hp hsrt hq' => ?_⟩))))
      exact q _ r' q' ys ((hc'.mono e3).mono (Ex.new hq')) ((f'.trans (But.of e3)).trans (But.of (Ex.new hq'))) ((f'.trans (But.of e3)).noneW hq' fun c hcc => by rw [List.mem_singleton.mp hcc]; exact ⟨_, (hc'.mono e3).1.choose_spec⟩) upd_same (hp.trans hpm) hsrt


/-! ### _law_rest -/
/-! ### the tree laws' entries: keys and rests -/
theorem el_mapLN {K : PySem.W.Frag} {σ : L2.St} {H : Hp} {tl te : TE} {j : Nat} {vs : List Nat} {xs ys : List V} (h : EvL tl σ H xs) (hz : xs.length ≤ 40000) (hw : ∀ x, wipe ((wipe σ vs).set j (some x)) vs = wipe σ vs) (hl : ys.length = xs.length)
    (he : ∀ (i : Nat) (x y : V), xs[i]? = some x → ys[i]? = some y → ∀ H1, Ex H H1 → Ev te ((wipe σ vs).set j (some x)) H1 y) : EvL (tLc (iList K tl) (gName j) tYes te vs) σ H ys := by
  intro H0 e Q q
  refine h H0 e _ fun a H1 _ e1 ha => ⟨a, rfl, ⟨xs, sq_of ha⟩, fun Dl hD => ?_⟩
  refine lc_list (xs := xs) (fun i H' => H1 Dl = none ∧ Ex H1 H' ∧ H' Dl = some (.lst (ys.take i))) ⟨hD, Ex.new hD, upd_same⟩ (fun i H' _ p => sq_of (p.2.1 _ _ ha)) (fun i x H' hi p => ⟨hw x, ?_⟩) (fun H' p => ?_)
  · obtain ⟨p1, p2, p3⟩ := p
    have hi2 : i < ys.length := by
      have := (List.getElem?_eq_some_iff.mp hi).1
      omega
    have hy : ys[i]? = some ys[i] := List.getElem?_eq_getElem hi2
    show te ((wipe σ vs).set j (some x)) H' _
    refine he i x ys[i] hi hy H1 (e.trans e1) H' p2 _ fun H4 e4 => ⟨ys.take i, e4 Dl _ p3, sz_lt (by rw [List.length_take]; omega), p1, (p2.trans e4).mut p1, ?_⟩
    rw [upd_same, List.take_add_one, hy] <;> rfl
  · obtain ⟨p1, p2, p3⟩ := p
    rw [← hl, List.take_length] at p3
    exact q Dl H' (fresh_back e1 p1) (e1.trans p2) p3
def kIt : L2.Key → It
  | .inl i => .int i
  | .inr z => .str z
def kT (ks : List L2.Key) : It := .tup (ks.map kIt)
theorem vz_k : ∀ k : L2.Key, vz (kIt k) = kV k
  | .inl _ => rfl
  | .inr _ => rfl
theorem vz_ks (ks : List L2.Key) : (ks.map kIt).map vz = ks.map kV := by
  rw [List.map_map]
  exact List.map_congr_left fun k _ => vz_k k
structure KyOk (sh : List Bool) (ks : List L2.Key) : Prop where
  sh : ks.map Sum.isRight = sh
  sc : ∀ k ∈ ks, (kIt k).sc
theorem KyOk.dv {K : PySem.W.Frag} {H : Hp} {sh : List Bool} {ks : List L2.Key} {a : Addr} (h : KyOk sh ks) (ha : H a = some (.tup (ks.map kV))) : Dv K H (.ref a) (kT ks) := by
  refine .tup (xs := ks.map kV) (st_of ha) ?_
  rw [← vz_ks]
  exact DvL.sc fun d hd => by
    obtain ⟨k, hk, rfl⟩ := List.mem_map.mp hd
    exact h.sc k hk
theorem KyOk.fit {sh : List Bool} {ks : List L2.Key} (h : KyOk sh ks) (hl : sh.length ≤ 2) : (kT ks).fit 1 ∧ (encC (kT ks)).length ≤ 5000 := by
  have hlen : ks.length ≤ 2 := by
    have := congrArg List.length h.sh
    rw [List.length_map] at this
    omega
  refine ⟨⟨by rw [List.length_map]; omega, fun y hy => ?_⟩, ?_⟩
  · obtain ⟨k, hk, rfl⟩ := List.mem_map.mp hy
    exact It.sc_fit (h.sc k hk) 0
  · have := encL_len (ds := ks.map kIt) (m := 2200) fun d hd => by
      obtain ⟨k, hk, rfl⟩ := List.mem_map.mp hd
      exact It.sc_len (h.sc k hk)
    rw [List.length_map] at this
    unfold kT
    rw [enc_tup_len]
    omega
/-- an entry of the law's dict -/
structure EnOk (K : PySem.W.Frag) (H : Hp) (sh : List Bool) (ks : List L2.Key) (v : V) (rs : List It) : Prop where
  k : KyOk sh ks
  d : Dv K H v (.tup rs)
  s : ∀ x ∈ rs, x.sc
  l : rs.length ≤ 11
def eI (ks : List L2.Key) (rs : List It) : It := .tup [kT ks, .tup rs]
theorem EnOk.eok {K : PySem.W.Frag} {H : Hp} {sh : List Bool} {ks : List L2.Key} {v : V} {rs : List It} (h : EnOk K H sh ks v rs) (hl : sh.length ≤ 2) : EOk 0 (eI ks rs) := by
  obtain ⟨f1, f2⟩ := h.k.fit hl
  have hr := encL_len (ds := rs) (m := 2200) fun d hd => It.sc_len (h.s d hd)
  have h11 := h.l
  have hr2 : (encC (.tup rs)).length ≤ 24202 := by
    rw [enc_tup_len]
    have : rs.length * 2200 ≤ 11 * 2200 := Nat.mul_le_mul_right _ h11
    omega
  refine ⟨⟨_, _, rfl, fun z => absurd rfl z⟩, f1, f2, ⟨by show 2 ≤ 1000; decide, fun y hy => ?_⟩, ?_, by show (0 : Int) ≤ 1; decide⟩
  · simp only [List.mem_cons, List.not_mem_nil, or_false] at hy
    rcases hy with rfl | rfl
    · exact f1
    · exact ⟨by omega, fun y hy => It.sc_fit (h.s y hy) 0⟩
  · unfold eI
    rw [enc_tup_len]
    show (encC (kT ks) ++ (encC (.tup rs) ++ [])).length + 2 ≤ _
    rw [List.length_append, List.length_append, List.length_nil]
    omega
theorem EnOk.monoU {K : PySem.W.Frag} {H H' : Hp} {sh : List Bool} {ks : List L2.Key} {v : V} {rs : List It} (e : ExU H H') (h : EnOk K H sh ks v rs) : EnOk K H' sh ks v rs := { h with d := h.d.monoU e }
/-- the rows' kinds: int or text -/
def shB (shape : List Str) : List Bool := shape.map fun z => !decide (z = Str.ofString "int")
def valK (kind : Str) (n : Int) : L2.Key := if kind = Str.ofString "int" then .inl (integerZ (n / 4)) else .inr (textZ (n / 4))
theorem valZ_k {kind : Str} {n : Int} (h : kind = Str.ofString "int" ∨ kind = Str.ofString "text") : valZ kind n = kIt (valK kind n) ∧ (valK kind n).isRight = !decide (kind = Str.ofString "int") := by
  have e1 : Txt.endswith (Str.ofString "int") (Str.ofString "?") = false := by decide +kernel
  have e2 : Txt.endswith (Str.ofString "text") (Str.ofString "?") = false := by decide +kernel
  have e3 : cutS (Str.ofString "int") none (some 3) = Str.ofString "int" := by decide +kernel
  have e4 : ¬ cutS (Str.ofString "text") none (some 3) = Str.ofString "int" := by decide +kernel
  have e5 : ¬ Str.ofString "text" = Str.ofString "int" := by decide +kernel
  rcases h with rfl | rfl
  · unfold valZ valK
    rw [e1, Bool.false_and, if_neg Bool.false_ne_true, if_pos e3, if_pos rfl]
    refine ⟨rfl, ?_⟩
    rw [decide_eq_true rfl] <;> rfl
  · unfold valZ valK
    rw [e2, Bool.false_and, if_neg Bool.false_ne_true, if_neg e4, if_neg e5]
    refine ⟨rfl, ?_⟩
    rw [decide_eq_false e5] <;> rfl
def drawnK (shape : List Str) (parts : List Int) : List L2.Key := (List.range shape.length).map fun k => valK (shape.getD k Str.empty) (parts.getD k 0)
theorem drawn_k {shape : List Str} {parts : List Int} (h : ∀ z ∈ shape, z = Str.ofString "int" ∨ z = Str.ofString "text") : drawnZ shape parts = (drawnK shape parts).map kIt ∧ KyOk (shB shape) (drawnK shape parts) := by
  have hg : ∀ k, k < shape.length → shape.getD k Str.empty = Str.ofString "int" ∨ shape.getD k Str.empty = Str.ofString "text" := fun k hk => by
    rw [List.getD_eq_getElem?_getD, List.getElem?_eq_getElem hk]
    exact h _ (List.getElem_mem hk)
  have e : drawnZ shape parts = (drawnK shape parts).map kIt := by
    unfold drawnZ drawnK
    rw [List.map_map]
    refine List.map_congr_left fun k hk => ?_
    exact (valZ_k (hg k (List.mem_range.mp hk))).1
  refine ⟨e, ?_, fun k hk => ?_⟩
  · unfold drawnK shB
    rw [List.map_map]
    refine List.ext_getElem? fun i => ?_
    rw [List.getElem?_map, List.getElem?_map]
    by_cases hi : i < shape.length
    · rw [List.getElem?_range hi, List.getElem?_eq_getElem hi]
      show some _ = some _
      have := (valZ_k (n := parts.getD i 0) (hg i hi)).2
      rw [List.getD_eq_getElem?_getD, List.getElem?_eq_getElem hi] at this
      congr 1
      show Sum.isRight (valK (shape.getD i Str.empty) (parts.getD i 0)) = _
      rw [List.getD_eq_getElem?_getD, List.getElem?_eq_getElem hi]
      exact this
    · rw [List.getElem?_eq_none (by simpa using hi), List.getElem?_eq_none (by omega)] <;> rfl
  · exact drawnZ_sc shape parts _ (by rw [e]; exact List.mem_map.mpr ⟨k, hk, rfl⟩)
def denseK (shape : List Str) (number start : Int) (k : Nat) : L2.Key :=
  if shape.getD k Str.empty = Str.ofString "int" then .inl ((denseNs number shape.length).getD k 0 * 3 + start % 1000 - 500) else .inr (Str.ofString "ab" ++ (toString ((denseNs number shape.length).getD k 0 * 3 + start % 1000) : Str))
theorem dense_k {shape : List Str} {number start : Int} (hn : 0 ≤ number ∧ number ≤ 1000) : ∃ ks : List L2.Key, denseZ shape number start = ks.map kIt ∧ KyOk (shB shape) ks := by
  refine ⟨(List.range shape.length).map (denseK shape number start), ?_, ?_, fun k hk => ?_⟩
  · unfold denseZ
    rw [List.map_map]
    refine List.map_congr_left fun k _ => ?_
    unfold denseAt
    show _ = kIt (denseK shape number start k)
    unfold denseK
    split <;> rfl
  · unfold shB
    rw [List.map_map]
    refine List.ext_getElem? fun i => ?_
    rw [List.getElem?_map, List.getElem?_map]
    by_cases hi : i < shape.length
    · rw [List.getElem?_range hi, List.getElem?_eq_getElem hi]
      show some (Sum.isRight (denseK shape number start i)) = some _
      congr 1
      have eg : shape.getD i Str.empty = shape[i] := by rw [List.getD_eq_getElem?_getD, List.getElem?_eq_getElem hi] <;> rfl
      unfold denseK
      rw [eg]
      by_cases e : shape[i] = Str.ofString "int"
      · rw [if_pos e]
        show _ = !decide (shape[i] = Str.ofString "int")
        rw [decide_eq_true e] <;> rfl
      · rw [if_neg e]
        show _ = !decide (shape[i] = Str.ofString "int")
        rw [decide_eq_false e] <;> rfl
    · rw [List.getElem?_eq_none (by simpa using hi), List.getElem?_eq_none (by omega)] <;> rfl
  · obtain ⟨i, hi, rfl⟩ := List.mem_map.mp hk
    have := denseAt_sc (shape := shape) (start := start) hn i
    unfold denseAt at this
    unfold denseK
    split at this <;> (split <;> first | exact this | contradiction)
theorem shB_len (shape : List Str) : (shB shape).length = shape.length := by unfold shB; rw [List.length_map]
theorem putK_keys {A : Type} [DecidableEq A] {kvs : List (A × V)} {k : A} {v : V} (nd : (kvs.map (·.1)).Nodup) : ((putK kvs k v).map (·.1)).Nodup := by
  unfold putK
  split
  · rw [List.map_map]
    have : (kvs.map ((fun x : A × V => x.1) ∘ fun kv => if kv.1 = k then (kv.1, v) else kv)) = kvs.map (·.1) := by
      refine List.map_congr_left fun x _ => ?_
      show (if x.1 = k then (x.1, v) else x).1 = x.1
      split <;> rfl
    rw [this]
    exact nd
  · rename_i h
    rw [List.map_append]
    refine List.nodup_append.mpr ⟨nd, by simp, fun a ha b hb => ?_⟩
    have eb : b = k := by simpa using hb
    subst eb
    obtain ⟨x, hx, rfl⟩ := List.mem_map.mp ha
    intro e
    exact h (List.any_eq_true.mpr ⟨x, hx, decide_eq_true e⟩)
theorem q_dputW {td ty tv : TE} {tz : TS} {D : Ends} {σ : L2.St} {H : Hp} (h : tv σ H fun v H1 => td σ H1 fun x H2 => ty σ H2 fun y H3 => ∃ a H4, x = .ref a ∧ DPut H3 a y v H4 ∧ tz D σ H4) : tSeq (sDPut td ty tv) tz D σ H := h

def restZ (w : Nat) (ps : List Int) : List It := (ps.take w).map fun n => valZ (if n % 2 = 0 then Str.ofString "int?" else Str.ofString "text?") (n / 2)
theorem restZ_sc {w : Nat} {ps : List Int} : ∀ d ∈ restZ w ps, d.sc := fun d hd => by
  obtain ⟨n, _, rfl⟩ := List.mem_map.mp hd
  exact valZ_sc _ _
def spRest (K : PySem.W.Frag) : Sp := fun vs H Q _ => ∃ (w : Nat) (a : Addr) (ps : List Int), vs = [.int (w : Int), .ref a] ∧ SqL K H a (ps.map V.int) ∧ (∀ n ∈ ps, Wd n) ∧ ps.length ≤ 1000 ∧ ∀ p H', Ex H H' → H' p = some (.tup ((restZ w ps).map vz)) → Q (.ref p) H'
theorem ok_law_rest (T : Txt K mg P) : FnOk P w K mg base CX0 4 T.f_law_rest T.d_law_rest ["width", "parts"] (spRest K) := by
  refine T.F_law_rest.ok sc_law_rest (fun vs H Q E h => ?_) (fun cdv A outer s H vs Q E hr h => ?_)
  · obtain ⟨w, a, ps, rfl, _⟩ := h
    rfl
  · obtain ⟨w, a, ps, rfl, hS, hw, hl, q⟩ := h
    refine ⟨_, pss_one (ps_ret (pe_callTy (r := rTupOf K) call_tuple_of (by rfl) T.m_tuple (by decide +kernel) (pa_cons (pe_lc (own := [("part", 2)]) (g := gName 2) (tt := tYes) rfl sc_law_rest.nd (pi_list (pe_slice (r := rSlL K) sl_list (pv 1) (po_none) (po_some (pv 0)))) (blkOk_by (N := ["width", "parts", "part"]) (sc := defScope s_law_rest) (by decide +kernel)) (fun _ _ _ _ _ => pg_name (i := 2) sc_law_rest.nd rfl (Or.inl rfl)) (fun _ _ _ _ _ => pts_nil) (fun _ _ _ _ _ => pe_call (ok_law_value T) (hr.mono (by first | decide | omega)) (by rfl) T.g_law_value T.F_law_value.kp T.b_law_value .nil pass0 (pa_cons (pe_ix (r := rIxL K) ix_list (pe_lst (pa_cons (pe_str) (pa_cons (pe_str) (pa_nil)))) (pe_op op_mod (pe_callTy call_int1 (by rfl) T.m_int (by decide +kernel) (pa_cons (pv 2) (pa_nil))) (pe_int)) (fun _ _ => rfl)) (pa_cons (pe_op op_fdivW (pv 2) (pe_int)) (pa_nil))))) (pa_nil)))), ?_⟩
    have ecut : cutV (ps.map V.int) none (some (w : Int)) = (ps.take w).map V.int := by
      unfold cutV
      rw [HT.sIx_none, HT.sIx_nat, List.length_map, List.drop_zero, Nat.sub_zero, List.map_take]
      by_cases h : w ≤ ps.length
      · rw [Nat.min_eq_left h]
      · rw [Nat.min_eq_right (by omega), List.take_of_length_le (by rw [List.length_map]; exact Nat.le_refl _), List.take_of_length_le (by rw [List.length_map]; omega)]
    have hsl := el_sl (K := K) (σ := [some (.int (w : Int)), some (.ref a), none]) (ev_var (i := 1) rfl) eo_none (eo_some (ev_var (i := 0) rfl)) hS
    rw [ecut] at hsl
    refine s_retU (eu_ofN (K := K) (el_mapLN (K := K) (ys := (restZ w ps).map vz) hsl (by rw [List.length_map, List.length_take]; omega) (fun x => rfl) (by unfold restZ; rw [List.length_map, List.length_map, List.length_map]) fun i x y hx hy H1 e1 => ?_)) fun p H1 _ e1 hp => q p H1 e1 hp
    rw [List.getElem?_map] at hx
    cases e : (ps.take w)[i]? with
    | none => rw [e] at hx; cases hx
    | some n =>
      rw [e] at hx
      obtain rfl : V.int n = x := Option.some.inj hx
      unfold restZ at hy
      rw [List.getElem?_map, List.getElem?_map, e] at hy
      rw [← (Option.some.inj hy : _ = y)]
      have hn := hw n (List.mem_of_mem_take (List.mem_of_getElem? e))
      have m0 := Int.emod_nonneg n (by decide : (2 : Int) ≠ 0)
      have m1 : n % 2 = 0 ∨ n % 2 = 1 := by omega
      refine ev_call (ea_cons (ev_ixN (K := K) (xs := [.str (Str.ofString "int?"), .str (Str.ofString "text?")]) (i := n % 2) (v := .str (if n % 2 = 0 then Str.ofString "int?" else Str.ofString "text?")) (el_lst (ea_cons ev_c (ea_cons ev_c ea_nil)) (by show 2 ≤ 100000; decide)) (fun H2 e2 => ev_bin (ev_intI (ev_var rfl)) ev_c (by decide)) (atI_of m0 ?_)) (ea_cons (ev_bin (ev_var rfl) ev_c ⟨by decide, by decide⟩) ea_nil)) (cv_value (Wd.div hn) ?_)
      · rcases m1 with m1 | m1 <;> rw [m1] <;> rfl
      · split <;> decide +kernel


/-! ### _law_entries -/
/-- the law's dict of entries -/
def spLE (K : PySem.W.Frag) : Sp := fun vs H Q _ => ∃ (a hd : Addr) (first : Nat) (ns gs : List Int), vs = [.ref a, .ref hd, .int (first : Int)] ∧ SqL K H a (ns.map V.int) ∧ (∀ n ∈ ns, Wd n) ∧ SqL K H hd (gs.map V.int) ∧ gs.length = 5 ∧ (∀ g ∈ gs, 0 ≤ g ∧ Wd g) ∧ first ≤ 1000 ∧
  ∀ H' q sh (kvs : List (List L2.Key × V)), Ex H H' → H' q = some (.dT kvs) → sh ≠ [] → sh.length ≤ 2 → kvs.length ≤ 120 → (kvs.map (·.1)).Nodup → (∀ x ∈ kvs, ∃ rs, EnOk K H' sh x.1 x.2 rs) → Q (.ref q) H'
theorem exu_dT {H : Hp} {p : Addr} {kvs : List (List L2.Key × V)} {o : HO} (h : H p = some (.dT kvs)) : ExU H (upd H p o) := fun a u e n => by
  rw [upd_ne (fun z => by
    rw [z, h] at e
    obtain rfl := Option.some.inj e
    rcases n with ⟨_, z⟩ | ⟨_, _, z⟩ <;> cases z)]
  exact e
theorem putK_mem {A : Type} [DecidableEq A] {kvs : List (A × V)} {k : A} {v : V} {x : A × V} (h : x ∈ putK kvs k v) : x ∈ kvs ∨ (x.1 = k ∧ x.2 = v) := by
  unfold putK at h
  split at h
  · obtain ⟨y, hy, e⟩ := List.mem_map.mp h
    by_cases hk : y.1 = k
    · rw [if_pos hk] at e
      rw [← e]
      exact .inr ⟨hk, rfl⟩
    · rw [if_neg hk] at e
      rw [← e]
      exact .inl hy
  · rcases List.mem_append.mp h with h | h
    · exact .inl h
    · rw [List.mem_singleton.mp h]
      exact .inr ⟨rfl, rfl⟩
theorem putK_leT {A : Type} [DecidableEq A] (kvs : List (A × V)) (k : A) (v : V) : (putK kvs k v).length ≤ kvs.length + 1 := by
  unfold putK
  split
  · rw [List.length_map]; omega
  · rw [List.length_append]; exact Nat.le_refl _
set_option maxHeartbeats 4000000 in
theorem ok_law_entries (T : Txt K mg P) : FnOk P w K mg base CX0 5 T.f_law_entries T.d_law_entries ["script", "head", "first"] (spLE K) := by
  refine T.F_law_entries.ok sc_law_entries (fun vs H Q E h => ?_) (fun cdv A outer s H vs Q E hr h => ?_)
  · obtain ⟨a, hd, first, ns, gs, rfl, _⟩ := h
    rfl
  · obtain ⟨a, hd, first, ns, gs, rfl, hS, hw, hG, gl, gw, hfi, q⟩ := h
    have hu := hu_of hr
    refine ⟨_, pss_cons (ps_set (i := 3) sc_law_entries.nd rfl (by first | exact Or.inl rfl | exact Or.inr rfl) (pe_lst (pa_cons (pe_int) (pa_cons (pe_int) (pa_cons (pe_int) (pa_cons (pe_int) (pa_cons (pe_int) (pa_cons (pe_int) (pa_cons (pe_int) (pa_cons (pe_int) (pa_nil)))))))))))
      (pss_cons (ps_set (i := 4) sc_law_entries.nd rfl (by first | exact Or.inl rfl | exact Or.inr rfl) (pe_op op_mod (pe_callTy call_int1 (by rfl) T.m_int (by decide +kernel) (pa_cons (pe_ix (r := rIxL K) ix_list (pv 1) (pe_int) (fun _ _ => rfl)) (pa_nil))) (pe_ix (r := rIxL K) ix_list (pv 3) (pe_op op_mod (pe_callTy call_int1 (by rfl) T.m_int (by decide +kernel) (pa_cons (pe_ix (r := rIxL K) ix_list (pv 1) (pe_int) (fun _ _ => rfl)) (pa_nil))) (pe_int)) (fun _ _ => rfl))))
      (pss_cons (ps_set (i := 5) sc_law_entries.nd rfl (by first | exact Or.inl rfl | exact Or.inr rfl) (pe_call (ok_law_shape T) (hr.mono (by first | decide | omega)) (by rfl) T.g_law_shape T.F_law_shape.kp T.b_law_shape .nil pass0 (pa_cons (pe_ix (r := rIxL K) ix_list (pv 1) (pe_int) (fun _ _ => rfl)) (pa_nil))))
      (pss_cons (ps_set (i := 6) sc_law_entries.nd rfl (by first | exact Or.inl rfl | exact Or.inr rfl) (pe_ix (r := rIxL K) ix_list (pe_lst (pa_cons (pe_int) (pa_cons (pe_int) (pa_cons (pe_int) (pa_cons (pe_int) (pa_cons (pe_int) (pa_nil))))))) (pe_op op_mod (pe_callTy call_int1 (by rfl) T.m_int (by decide +kernel) (pa_cons (pe_ix (r := rIxL K) ix_list (pv 1) (pe_int) (fun _ _ => rfl)) (pa_nil))) (pe_int)) (fun _ _ => rfl)))
      (pss_cons (ps_set (i := 7) sc_law_entries.nd rfl (by first | exact Or.inl rfl | exact Or.inr rfl) (pe_dnewT))
      (pss_cons (ps_for PassesOwn.never rfl (pi_range1 (by rfl) T.m_range (pa_cons (pv 4) (pa_nil))) (pg_name (i := 8) sc_law_entries.nd rfl (by first | exact Or.inl rfl | exact Or.inr rfl))
      (pss_cons (ps_set (i := 9) sc_law_entries.nd rfl (by first | exact Or.inl rfl | exact Or.inr rfl) (pe_call (ok_law_draws T) (hr.mono (by first | decide | omega)) (by rfl) T.g_law_draws T.F_law_draws.kp T.b_law_draws .nil pass0 (pa_cons (pe_call (ok_law_thing T) (hr.mono (by first | decide | omega)) (by rfl) T.g_law_thing T.F_law_thing.kp T.b_law_thing .nil pass0 (pa_cons (pv 0) (pa_cons (pe_op op_add (pv 2) (pv 8)) (pa_nil)))) (pa_cons (pe_int) (pa_cons (pe_int) (pa_cons (pe_op op_pow (pe_int) (pe_int)) (pa_nil)))))))
      (pss_cons (ps_set (i := 10) sc_law_entries.nd rfl (by first | exact Or.inl rfl | exact Or.inr rfl) (pe_call (ok_law_drawn_place T) (hr.mono (by first | decide | omega)) (by rfl) T.g_law_drawn_place T.F_law_drawn_place.kp T.b_law_drawn_place .nil pass0 (pa_cons (pv 5) (pa_cons (pe_slice (r := rSlL K) sl_list (pv 9) (po_none) (po_some (pe_int))) (pa_nil)))))
      (pss_cut (ps_if (pt_cmpR op_eq (pe_op op_mod (pe_callTy call_int1 (by rfl) T.m_int (by decide +kernel) (pa_cons (pe_ix (r := rIxL K) ix_list (pv 1) (pe_int) (fun _ _ => rfl)) (pa_nil))) (pe_int)) (pe_int) (nomark _))
      (pss_one (ps_set (i := 10) sc_law_entries.nd rfl (by first | exact Or.inl rfl | exact Or.inr rfl) (pe_call (ok_law_dense_place T) (hr.mono (by first | decide | omega)) (by rfl) T.g_law_dense_place T.F_law_dense_place.kp T.b_law_dense_place .nil pass0 (pa_cons (pv 5) (pa_cons (pv 8) (pa_cons (pe_op op_fdivW (pe_ix (r := rIxL K) ix_list (pv 1) (pe_int) (fun _ _ => rfl)) (pe_int)) (pa_nil)))))))
      (pss_nil))
      (pss_one (ps_dput hu (pv 7) (pv 10) (pe_call (ok_law_rest T) (hr.mono (by first | decide | omega)) (by rfl) T.g_law_rest T.F_law_rest.kp T.b_law_rest .nil pass0 (pa_cons (pv 6) (pa_cons (pe_slice (r := rSlL K) sl_list (pv 9) (po_some (pe_int)) (po_none)) (pa_nil)))) rfl))))))
      (pss_one (ps_ret (pv 7)))))))), ?_⟩
    obtain ⟨g0, g1, g2, g3, g4, rfl⟩ : ∃ g0 g1 g2 g3 g4, gs = [g0, g1, g2, g3, g4] := by
      match gs, gl with
      | [x0, x1, x2, x3, x4], _ => exact ⟨x0, x1, x2, x3, x4, rfl⟩
    have hg3 := gw g3 (by simp)
    have it : ∀ {H' : Hp} {j : Nat} {x : Int} {σ : L2.St}, Ex H H' → σ[1]? = some (some (V.ref hd)) → [g0, g1, g2, g3, g4][j]? = some x → Ev (tOp (rIxL K) (tVar 1) (tC (.int (j : Int)))) σ H' (.int x) := fun e hσ hx => ev_ixL (K := K) (ev_var hσ) ev_c (ex_l e hG) (at_nat (by rw [List.getElem?_map, hx] <;> rfl))
    have bl : ∀ j : Fin 8, ([13, 13, 13, 13, 13, 31, 31, 121] : List Int)[j.val]? = some (([13, 13, 13, 13, 13, 31, 31, 121] : List Int).getD j.val 0) ∧ 13 ≤ ([13, 13, 13, 13, 13, 31, 31, 121] : List Int).getD j.val 0 ∧ ([13, 13, 13, 13, 13, 31, 31, 121] : List Int).getD j.val 0 ≤ 121 := by decide
    have wl : ∀ j : Fin 5, ([1, 2, 0, 3, 11] : List Int)[j.val]? = some (((([1, 2, 0, 3, 11] : List Nat).getD j.val 0 : Nat) : Int)) ∧ ([1, 2, 0, 3, 11] : List Nat).getD j.val 0 ≤ 11 := by decide
    have m0 := Int.emod_nonneg g0 (by decide : (8 : Int) ≠ 0)
    have m1 := Int.emod_lt_of_pos g0 (by decide : (0 : Int) < 8)
    have n0 := Int.emod_nonneg g4 (by decide : (5 : Int) ≠ 0)
    have n1 := Int.emod_lt_of_pos g4 (by decide : (0 : Int) < 5)
    obtain ⟨hbz, hb1, hb2⟩ := bl ⟨(g0 % 8).toNat, by omega⟩
    obtain ⟨hwz, hw11⟩ := wl ⟨(g4 % 5).toNat, by omega⟩
    generalize ([13, 13, 13, 13, 13, 31, 31, 121] : List Int).getD (g0 % 8).toNat 0 = bz at hbz hb1 hb2
    generalize ([1, 2, 0, 3, 11] : List Nat).getD (g4 % 5).toNat 0 = wz at hwz hw11
    refine q_asgL (xs := ([13, 13, 13, 13, 13, 31, 31, 121] : List Int).map V.int) (el_lst (ea_cons ev_c (ea_cons ev_c (ea_cons ev_c (ea_cons ev_c (ea_cons ev_c (ea_cons ev_c (ea_cons ev_c (ea_cons ev_c ea_nil)))))))) (by show 8 ≤ 100000; decide)) fun bp H1 _ e1 hb => ?_
    have c0 := Int.emod_nonneg g1 (by omega : bz ≠ 0)
    have c1 := Int.emod_lt_of_pos g1 (by omega : 0 < bz)
    refine q_asg (v := .int (g1 % bz)) (ev_bin (ev_intI (it (j := 1) e1 rfl rfl)) (ev_ixL (K := K) (i := g0 % 8) (ev_var rfl) (ev_bin (ev_intI (it (j := 0) e1 rfl rfl)) ev_c (by decide)) (sq_of hb) (atI_of m0 (by rw [List.getElem?_map, hbz] <;> rfl))) (by omega)) fun H2 e2 => ?_
    have E2 := e1.trans e2
    refine q_callU (xs := (shapeZ g2).map V.str) (ea_cons (it (j := 2) E2 rfl rfl) ea_nil) cu_shape fun sp H3 e3 hsp => ?_
    have E3 := E2.trans e3
    have hsh := shapes_ok (shapeZ g2) (shapeZ_in g2)
    generalize shapeZ g2 = shp at hsp hsh
    refine q_asg (v := .int (wz : Int)) (ev_ixN (K := K) (xs := ([1, 2, 0, 3, 11] : List Int).map V.int) (i := g4 % 5) (el_lst (ea_cons ev_c (ea_cons ev_c (ea_cons ev_c (ea_cons ev_c (ea_cons ev_c ea_nil))))) (by show 5 ≤ 100000; decide)) (fun H4 e4 => ev_bin (ev_intI (it (j := 4) (E3.trans e4) rfl rfl)) ev_c (by decide)) (atI_of n0 (by rw [List.getElem?_map, hwz] <;> rfl))) fun H4 e4 => ?_
    have E4 := E3.trans e4
    refine q_asgK ?_
    intro rd hrd
    have e5 := Ex.new (o := .dT []) hrd
    have hrd5 := upd_same (H := H4) (a := rd) (o := .dT [])
    have hrd0 := hrd
    have p64 : (10 : Int) ^ 64 = 10000000000000000000000000000000000000000000000000000000000000000 := by decide
    have hsh2 : (shB shp).length ≤ 2 := by rw [shB_len]; rcases hsh.1 with h | h <;> omega
    have hsh3 : shB shp ≠ [] := fun z => by
      have := congrArg List.length z
      rw [shB_len] at this
      rcases hsh.1 with h | h <;> rw [h] at this <;> cases this
    refine q_forR1 (n := g1 % bz) (ea_cons (ev_var rfl) ea_nil) (by omega) (fun i σ' H' => ∃ (kvs : List (List L2.Key × V)) (x8 x9 x10 : Option V), σ' = [some (.ref a), some (.ref hd), some (.int (first : Int)), some (.ref bp), some (.int (g1 % bz)), some (.ref sp), some (.int (wz : Int)), some (.ref rd), x8, x9, x10] ∧ Ex H4 H' ∧ H' rd = some (.dT kvs) ∧ kvs.length ≤ i ∧ (kvs.map (·.1)).Nodup ∧ ∀ x ∈ kvs, ∃ rs, EnOk K H' (shB shp) x.1 x.2 rs)
      (fun H6 e6 => ⟨[], none, none, none, rfl, e5.trans e6, e6 _ _ hrd5, Nat.le_refl _, List.nodup_nil, fun x hx => nomatch hx⟩) (fun i σ' H' hi hP => ?_) (fun σ' H' hP => ?_)
    · obtain ⟨kvs, x8, x9, x10, rfl, eH, hdr, hkl, hnd, hen⟩ := hP
      have EH := E4.trans eH
      have hi2 : i < 121 := by omega
      have ct : Wd (thingZ ns (first + i)) := Wd.thing hw (by omega)
      have ec : ((first : Int) + (i : Int)) = ((first + i : Nat) : Int) := by omega
      refine q_asgL (xs := (draws (thingZ ns (first + i)) 2 13 (10 ^ 64)).map V.int) (el_call (ea_cons (ev_call (ea_cons (ev_var rfl) (ea_cons (ev_is (ev_bin0 (ev_var rfl) (ev_var rfl)) (congrArg V.int ec)) ea_nil)) (cv_thing (ex_l EH hS) hw (by omega))) (ea_cons ev_c (ea_cons ev_c (ea_cons (ev_bin ev_c ev_c ⟨by decide, by decide, by decide⟩) ea_nil)))) (cl_draws (count := 13) ct (by decide) (by decide) (by show (0 : Int) < 10 ^ 64; rw [p64]; decide) (by decide))) fun dp H7 hdp e7 hd7 => ?_
      have dl := draws_len (thingZ ns (first + i)) 2 13 (10 ^ 64)
      have dw : ∀ x ∈ draws (thingZ ns (first + i)) 2 13 (10 ^ 64), 0 ≤ x ∧ Wd x := draws_ok ct (by rw [p64]; decide) (Wd.lit (by decide)) 13
      generalize draws (thingZ ns (first + i)) 2 13 (10 ^ 64) = ds at hd7 dl dw
      have cut2 : cutV (ds.map V.int) none (some 2) = (ds.take 2).map V.int := by
        unfold cutV
        rw [HT.sIx_none, show ((2 : Int)) = ((2 : Nat) : Int) from rfl, HT.sIx_nat, List.length_map, List.drop_zero, Nat.sub_zero, List.map_take, Nat.min_eq_left (by omega)]
      have cutr : cutV (ds.map V.int) (some 2) none = (ds.drop 2).map V.int := by
        unfold cutV
        rw [HT.sIx_none, show ((2 : Int)) = ((2 : Nat) : Int) from rfl, HT.sIx_nat, List.length_map, Nat.min_eq_left (by omega), List.map_drop, List.take_of_length_le (by rw [List.length_drop, List.length_map]; exact Nat.le_refl _)]
      have hsp7 : SqT K H7 sp (shp.map V.str) := st_of (e7 _ _ (eH _ _ (e4 _ _ hsp)))
      have hsl := el_sl (K := K) (H := H7) (σ := [some (.ref a), some (.ref hd), some (.int (first : Int)), some (.ref bp), some (.int (g1 % bz)), some (.ref sp), some (.int (wz : Int)), some (.ref rd), some (.int (i : Int)), some (.ref dp), x10]) (ev_var (i := 9) rfl) eo_none (eo_some (ev_c (v := .int 2))) (sq_of hd7)
      rw [cut2] at hsl
      refine q_drawn (K := K) hsl hsp7 (by rw [List.length_take, dl]; rcases hsh.1 with h | h <;> rw [h] <;> decide) (by rcases hsh.1 with h | h <;> omega) (fun n hn => (dw n (List.mem_of_mem_take hn)).2) (fun z hz => by rcases hsh.2 z hz with rfl | rfl <;> decide +kernel) fun kp H8 e8 hk8 => ?_
      obtain ⟨ek, hko⟩ := drawn_k (parts := ds.take 2) hsh.2
      rw [ek, vz_ks] at hk8
      have E8 := e7.trans e8
      refine q_cut (M := fun σ' H9 => ∃ (kq : Addr) (ks : List L2.Key), σ' = [some (.ref a), some (.ref hd), some (.int (first : Int)), some (.ref bp), some (.int (g1 % bz)), some (.ref sp), some (.int (wz : Int)), some (.ref rd), some (.int (i : Int)), some (.ref dp), some (.ref kq)] ∧ Ex H8 H9 ∧ H9 kq = some (.tup (ks.map kV)) ∧ KyOk (shB shp) ks) ?_ fun σ' H9 hM => ?_
      · have r0 := Int.emod_nonneg g3 (by decide : (2 : Int) ≠ 0)
        refine s_when (b := decide (g3 % 2 = 0)) (et_test (ev_eqI (ev_bin (ev_intI (it (j := 3) (EH.trans E8) rfl rfl)) ev_c (by decide)) ev_c)) (fun _ H9 e9 => ?_) (fun _ H9 e9 => ⟨kp, _, rfl, e9, e9 _ _ hk8, hko⟩)
        obtain ⟨ks, ed, hkd⟩ := dense_k (shape := shp) (number := (i : Int)) (start := g3 / 2) (by omega)
        refine s_callU (xs := (denseZ shp (i : Int) (g3 / 2)).map vz) (ea_cons (ev_var rfl) (ea_cons (ev_var rfl) (ea_cons (ev_bin (it (j := 3) ((EH.trans E8).trans e9) rfl rfl) ev_c ⟨by decide, by decide⟩) ea_nil))) (cu_dense (K := K) (ex_t (e8.trans e9) hsp7) hsh.1 (by omega)) fun kq H10 e10 hk10 => ⟨kq, ks, rfl, e9.trans e10, ?_, hkd⟩
        rw [ed, vz_ks] at hk10
        exact hk10
      · obtain ⟨kq, ks, rfl, e9, hk9, hko9⟩ := hM
        have E9 := E8.trans e9
        have hd9 := sq_of (K := K) (e9 _ _ (e8 _ _ hd7))
        have hslr := el_sl (K := K) (H := H9) (σ := [some (.ref a), some (.ref hd), some (.int (first : Int)), some (.ref bp), some (.int (g1 % bz)), some (.ref sp), some (.int (wz : Int)), some (.ref rd), some (.int (i : Int)), some (.ref dp), some (.ref kq)]) (ev_var (i := 9) rfl) (eo_some (ev_c (v := .int 2))) eo_none hd9
        rw [cutr] at hslr
        refine call_run (cons_run (var_run rfl (cons_run (el_run hslr fun rp H10 _ e10 hr10 => nil_run ?_))))
        refine ⟨wz, rp, ds.drop 2, rfl, sq_of hr10, fun n hn => (dw n (List.mem_of_mem_drop hn)).2, by rw [List.length_drop]; omega, fun vp H11 e11 hv11 => ?_⟩
        have E11 := E9.trans (e10.trans e11)
        have hdr11 := E11 _ _ hdr
        refine ⟨_, rfl, _, rfl, rd, _, rfl, DPut.t hdr11 ((e10.trans e11) _ _ hk9) (sz_lt (by omega)), ?_⟩
        have u12 := exu_dT (o := .dT (putK kvs ks (.ref vp))) hdr11
        refine ⟨putK kvs ks (.ref vp), _, _, _, rfl, (eH.trans E11).mut hrd0, upd_same, ?_, putK_keys hnd, fun x hx => ?_⟩
        · have := putK_leT kvs ks (.ref vp)
          omega
        · rcases putK_mem hx with hx | ⟨h1, h2⟩
          · obtain ⟨rs, hrs⟩ := hen x hx
            exact ⟨rs, (hrs.monoU (Ex.u E11)).monoU u12⟩
          · rw [h1, h2]
            refine ⟨restZ wz (ds.drop 2), EnOk.monoU u12 ⟨hko9, ?_, restZ_sc, ?_⟩⟩
            · exact .tup (st_of hv11) (DvL.sc restZ_sc)
            · unfold restZ
              rw [List.length_map, List.length_take]
              omega
    · obtain ⟨kvs, x8, x9, x10, rfl, eH, hdr, hkl, hnd, hen⟩ := hP
      exact ret_run (var_run rfl (q H' rd (shB shp) kvs (E4.trans eH) hdr hsh3 hsh2 (by omega) hnd hen))


/-! ### _law_listed -/
def unkV : V → L2.Key
  | .int i => .inl i
  | .str z => .inr z
  | _ => .inl 0
def keyAt (H : Hp) (t : Addr) : List L2.Key := match H t with
  | some (.tup vs) => vs.map unkV
  | _ => []
theorem unk_k : ∀ k : L2.Key, unkV (kV k) = k
  | .inl _ => rfl
  | .inr _ => rfl
theorem keyAt_of {H : Hp} {t : Addr} {ks : List L2.Key} (h : H t = some (.tup (ks.map kV))) : keyAt H t = ks := by
  unfold keyAt
  rw [h]
  show (ks.map kV).map unkV = ks
  rw [List.map_map]
  exact (List.map_congr_left fun k _ => unk_k k).trans (List.map_id _)
theorem isKeys_keys {H : Hp} : ∀ {kvs : List (List L2.Key × V)} {bs : List Addr}, IsKeys H kvs bs → bs.map (keyAt H) = kvs.map (·.1) ∧ ∀ b ∈ bs, ∃ x ∈ kvs, H b = some (.tup (x.1.map kV))
  | _, _, .nil => ⟨rfl, fun b h => nomatch h⟩
  | _, _, .cons (a := x) h r => by
    obtain ⟨h1, h2⟩ := isKeys_keys r
    refine ⟨by rw [List.map_cons, List.map_cons, h1, keyAt_of h], fun b hb => ?_⟩
    rcases List.mem_cons.mp hb with e | hb
    · rw [e]; exact ⟨x, List.mem_cons_self, h⟩
    · obtain ⟨y, hy, hy2⟩ := h2 b hb
      exact ⟨y, List.mem_cons_of_mem _ hy, hy2⟩
theorem valT_mem {kvs : List (List L2.Key × V)} {x : List L2.Key × V} (hx : x ∈ kvs) : ∃ y ∈ kvs, y.1 = x.1 ∧ valV kvs x.1 = some y.2 := by
  unfold valV
  cases e : kvs.find? fun kv => decide (kv.1 = x.1) with
  | none =>
    have := List.find?_eq_none.mp e x hx
    exact absurd (decide_eq_true (rfl : x.1 = x.1)) this
  | some y =>
    have h1 := List.mem_of_find?_eq_some e
    have h2 := List.find?_some e
    exact ⟨y, h1, of_decide_eq_true h2, rfl⟩
theorem ev_dgetT {σ : L2.St} {H : Hp} {te td : TE} {x b : Addr} {k : List L2.Key} {kvs : List (List L2.Key × V)} {v : V} (h2 : Ev td σ H (.ref x)) (h : Ev te σ H (.ref b)) (hx : H x = some (.dT kvs)) (hb : H b = some (.tup (k.map kV))) (hv : valV kvs k = some v) : Ev (tDGet td te) σ H v := fun H1 e Q q =>
  h2 H1 e _ fun H2 e2 => h H2 (e.trans e2) _ fun H3 e3 => ⟨x, v, rfl, by rw [← hv]; exact DGet.t (((e.trans e2).trans e3) _ _ hx) (((e.trans e2).trans e3) _ _ hb), q H3 (e2.trans e3)⟩
/-- entries in the order of their keys, no key twice -/
def SrtE (es : List It) : Prop := ∃ (kl : List (List L2.Key)) (sh : List Bool), es.map keyI = kl.map kT ∧ kl.Pairwise (fun a b => ltT b a = false) ∧ kl.Nodup ∧ sh ≠ [] ∧ ∀ k ∈ kl, KyOk sh k
def spLL (K : PySem.W.Frag) : Sp := fun vs H Q _ => ∃ (q : Addr) (sh : List Bool) (kvs : List (List L2.Key × V)), vs = [.ref q] ∧ H q = some (.dT kvs) ∧ sh ≠ [] ∧ sh.length ≤ 2 ∧ kvs.length ≤ 120 ∧ (kvs.map (·.1)).Nodup ∧ (∀ x ∈ kvs, ∃ rs, EnOk K H sh x.1 x.2 rs) ∧
  ∀ H' r us es, Ex H H' → H r = none → H' r = some (.lst us) → DvL K H' us es → es.length = kvs.length → (∀ e ∈ es, EOk 0 e) → SrtE es → Q (.ref r) H'
theorem ok_law_listed (T : Txt K mg P) : FnOk P w K mg base CX0 1 T.f_law_listed T.d_law_listed ["rests"] (spLL K) := by
  refine T.F_law_listed.ok sc_law_listed (fun vs H Q E h => ?_) (fun cdv A outer s H vs Q E hr h => ?_)
  · obtain ⟨q, sh, kvs, rfl, _⟩ := h
    rfl
  · obtain ⟨q, sh, kvs, rfl, hq, hsh, hsl, hkl, hnd, hen, k⟩ := h
    have hu := hu_of hr
    refine ⟨_, pss_one (ps_ret (pe_lc (own := [("key", 1)]) (g := gName 1) (tt := tYes) rfl sc_law_listed.nd (pi_list (pe_callB (r := rSortTL K) cr_sortTL (by rfl) T.m_sorted (by decide +kernel) (pa_cons (pe_callTy (call_list_dT rfl) (by rfl) T.m_list (by decide +kernel) (pa_cons (pv 0) (pa_nil))) (pa_nil)))) (blkOk_by (N := ["rests", "key"]) (sc := defScope s_law_listed) (by decide +kernel)) (fun _ _ _ _ _ => pg_name (i := 1) sc_law_listed.nd rfl (Or.inl rfl)) (fun _ _ _ _ _ => pts_nil) (fun _ _ _ _ _ => pe_tup (pa_cons (pv 1) (pa_cons (pe_dget (by exact hu) (pv 0) (pv 1) (fun _ _ => rfl)) (pa_nil)))))), ?_⟩
    refine ret_run (lcl_run (cb_run (cons_run (cb_run (cons_run (var_run rfl (nil_run ⟨q, kvs, rfl, .inl hq, fun lp bs hlp hbs => ?_⟩)))))))
    obtain ⟨hk1, hk2⟩ := isKeys_keys hbs
    have e1 := Ex.new (o := .lst (bs.map V.ref)) hlp
    have hb1 : ∀ b ∈ bs, ∃ x ∈ kvs, H b = some (.tup (x.1.map kV)) ∧ keyAt H b = x.1 := fun b hb => by
      obtain ⟨x, hx, h⟩ := hk2 b hb
      exact ⟨x, hx, h, keyAt_of h⟩
    refine nil_run ⟨lp, bs, keyAt H, sh, rfl, sq_of upd_same, hsh, fun b hb => ?_, fun ys yp hperm hsort hyp => ?_⟩
    · obtain ⟨x, hx, h, h2⟩ := hb1 b hb
      obtain ⟨rs, hrs⟩ := hen x hx
      rw [h2]
      exact ⟨e1 _ _ h, hrs.k.sh⟩
    · have e2 := Ex.new (o := .lst (ys.map V.ref)) hyp
      have E2 := e1.trans e2
      have hys := upd_same (H := upd H lp (.lst (bs.map V.ref))) (a := yp) (o := .lst (ys.map V.ref))
      generalize upd (upd H lp (.lst (bs.map V.ref))) yp (.lst (ys.map V.ref)) = H2 at E2 hys
      have hy1 : ∀ t ∈ ys, ∃ v rs, H t = some (.tup ((keyAt H t).map kV)) ∧ valV kvs (keyAt H t) = some v ∧ EnOk K H sh (keyAt H t) v rs := fun t ht => by
        obtain ⟨x, hx, h, h2⟩ := hb1 t (hperm.mem_iff.mp ht)
        obtain ⟨y, hy, hy1, hy2⟩ := valT_mem hx
        obtain ⟨rs, hrs⟩ := hen y hy
        rw [h2]
        rw [hy1] at hrs
        exact ⟨y.2, rs, h, hy2, hrs⟩
      have hsk : ∀ t : Addr, ∃ rs : List It, t ∈ ys → ∃ v, valV kvs (keyAt H t) = some v ∧ EnOk K H sh (keyAt H t) v rs := fun t => by
        by_cases ht : t ∈ ys
        · obtain ⟨v, rs, _, h1, h2⟩ := hy1 t ht
          exact ⟨rs, fun _ => ⟨v, h1, h2⟩⟩
        · exact ⟨[], fun h => absurd h ht⟩
      obtain ⟨rsOf, hrs⟩ := Classical.skolem.mp hsk
      have hbl : bs.length = kvs.length := by have := congrArg List.length hk1; rw [List.length_map, List.length_map] at this; exact this
      have hyl : ys.length = kvs.length := by rw [hperm.length_eq, hbl]
      refine edi_run (K := K) (ds := ys.map fun t => eI (keyAt H t) (rsOf t)) (edi_L (K := K) ev_c (sq_of hys) (by rw [List.length_map, List.length_map]) (by rw [List.length_map]; omega) (fun x => rfl) fun i x d H3 hx hd e3 => ?_) fun r us H3 hr3 e3 h3 d3 => ?_
      · rw [List.getElem?_map] at hx hd
        cases et : ys[i]? with
        | none => rw [et] at hx; cases hx
        | some t =>
          rw [et] at hx hd
          obtain rfl : V.ref t = x := Option.some.inj hx
          obtain rfl : eI (keyAt H t) (rsOf t) = d := Option.some.inj hd
          have ht := List.mem_of_getElem? et
          obtain ⟨v, hv, hE⟩ := hrs t ht
          obtain ⟨_, _, htp, _, _⟩ := hy1 t ht
          have E3 := E2.trans e3
          exact ei_tup (eai_cons (ei_ev (ev_var rfl) (hE.k.dv (E3 _ _ htp))) (eai_cons (ei_ev (ev_dgetT (ev_var rfl) (ev_var rfl) (E3 _ _ hq) (E3 _ _ htp) hv) (hE.d.mono E3)) eai_nil)) (by show 2 ≤ 100000; decide)
      · refine k H3 r us _ (E2.trans e3) (fresh_back E2 hr3) h3 d3 (by rw [List.length_map, hyl]) (fun e he => ?_) ⟨ys.map (keyAt H), sh, ?_, ?_, ?_, hsh, fun kk hkk => ?_⟩
        · obtain ⟨t, ht, rfl⟩ := List.mem_map.mp he
          obtain ⟨v, _, hE⟩ := hrs t ht
          exact hE.eok hsl
        · rw [List.map_map, List.map_map] <;> rfl
        · exact List.pairwise_map.mpr hsort
        · have : (ys.map (keyAt H)).Perm (bs.map (keyAt H)) := hperm.map _
          rw [hk1] at this
          exact this.symm.nodup hnd
        · obtain ⟨t, ht, rfl⟩ := List.mem_map.mp hkk
          obtain ⟨v, _, hE⟩ := hrs t ht
          exact hE.k


/-! ### _law_same_list -/
def spSL (K : PySem.W.Frag) : Sp := fun vs H Q _ => ∃ (a b : Addr) (us ws : List V) (es : List It), vs = [.ref a, .ref b] ∧ SqL K H a us ∧ DvL K H us es ∧ SqL K H b ws ∧ DvL K H ws es ∧ (∀ e ∈ es, e.fit 2) ∧ es.length ≤ 1000 ∧ ∀ H', Ex H H' → Q (.bl true) H'
theorem ok_law_same_list (T : Txt K mg P) : FnOk P w K mg base CX0 15 T.f_law_same_list T.d_law_same_list ["actual", "expected"] (spSL K) := by
  refine T.F_law_same_list.ok sc_law_same_list (fun vs H Q E h => ?_) (fun cdv A outer s H vs Q E hr h => ?_)
  · obtain ⟨a, b, us, ws, es, rfl, _⟩ := h
    rfl
  · obtain ⟨a, b, us, ws, es, rfl, hA, hu, hB, hw, hf, hl, q⟩ := h
    refine ⟨_, pss_one (ps_ret (pe_and (pe_callB (r := rIsi K) call_isi (by rfl) T.m_isinstance (by decide +kernel) (pa_cons (pv 0) (pa_cons (pe_bltn (v := .ty "list") (by rfl) T.m_list (by decide +kernel) rfl) (pa_nil)))) (pe_one (pe_call (ok_law_same T) (hr.mono (by first | decide | omega)) (by rfl) T.g_law_same T.F_law_same.kp T.b_law_same .nil pass0 (pa_cons (pe_callTy (r := rTupOf K) call_tuple_of (by rfl) T.m_tuple (by decide +kernel) (pa_cons (pv 0) (pa_nil))) (pa_cons (pe_callTy (r := rTupOf K) call_tuple_of (by rfl) T.m_tuple (by decide +kernel) (pa_cons (pv 1) (pa_nil))) (pa_nil))))))), ?_⟩
    have hft : It.fit 13 (.tup es) := ⟨by omega, fun y hy => It.fit_mono (hf y hy) (by decide)⟩
    refine s_ret (v := .bl true) (ev_is (ev_andV (a := true) (b := true) (ev_isi (K := K) (a := "list") (r := true) (ev_var rfl) (fun H2 e2 => tyx_lst (ex_l e2 hA)) (by decide +kernel)) fun _ H1 e1 Q' q' => ?_) rfl) q
    exact call_run (cons_run (ei_run (ei_tupL (ev_var rfl) (ex_l e1 hA) (hu.mono e1)) fun v H2 e2 hv => cons_run (ei_run (ei_tupL (ev_var rfl) (ex_l (e1.trans e2) hB) (hw.mono (e1.trans e2))) fun v2 H3 e3 hv2 => nil_run ⟨v, v2, .tup es, rfl, hv.mono e3, hv2, hft, fun H4 e4 => q' H4 ((e2.trans e3).trans e4)⟩)))
/-! ### what the tree laws' own suites want -/
theorem ifs_run {t : TT} {tu tz : TS} {σ : L2.St} {H : Hp} {D : Ends} (k : t σ H fun b H1 => if b = true then tu { D with nx := tz D } σ H1 else tz D σ H1) : tSeq (tIfS t tu tNext) tz D σ H := k
theorem or_run {t u : TT} {σ : L2.St} {H : Hp} {Q : Bool → Hp → Prop} (k : t σ H fun c H1 => if c = true then Q true H1 else u σ H1 Q) : tOr t u σ H Q := k
theorem not_run {t : TT} {σ : L2.St} {H : Hp} {Q : Bool → Hp → Prop} (k : t σ H fun c H1 => Q (!c) H1) : tNot t σ H Q := k
theorem b_run {te : TE} {σ : L2.St} {H : Hp} {Q : Bool → Hp → Prop} (k : te σ H fun x H1 => ∃ c, x = .bl c ∧ Q c H1) : tB te σ H Q := k
theorem forl_run {K : PySem.W.Frag} {te : TE} {g : TG} {tu tz : TS} {σ : L2.St} {H : Hp} {D : Ends} (k : te σ H fun x H1 => tSeq (tFor (iList K (tC x)) g tu) tz D σ H1) : tSeq (tFor (iList K te) g tu) tz D σ H := k
theorem mk_storeW {CC CB : Addr} {E E' : XK} {σ : L2.St} {H : Hp} {Q : VK} (k : ∀ p t b d H', Ex H H' → StW CC CB H' p b t d 0 ([], []) 0 → H p = none → H t = none → H b = none → H d = none → Q (.ref p) H') : tMake CC (spCkI CC) [] E (tCons (tMake CB (spBkI CB) [] E' tNil) tNil) σ H Q := by
  intro b dx0 x1 x2 x3
  refine ⟨b, dx0, rfl, upd_same, fun d H2 x4 x5 hb hd kb => ⟨rfl, fun p dx y1 y2 y3 => ⟨p, dx, b, rfl, upd_same, fun t H3 y4 y5 hc kp => ⟨rfl, ?_⟩⟩⟩⟩
  have e2 : Ex H H2 := fun c o e => kb c o (by rw [upd_ne (ne_of_none e x1), upd_ne (ne_of_none e x2)]; exact e) (ne_of_none e x1)
  have e3 : Ex H2 H3 := fun c o e => kp c o (by rw [upd_ne (ne_of_none e y1), upd_ne (ne_of_none e y2)]; exact e) fun z => ne_of_none e y1 (List.mem_singleton.mp z)
  have fr : ∀ {H : Hp} {a p dx : Addr} {u v : HO}, (upd (upd H dx u) p v) a = none → H a = none := fun {H a p dx u v} h => by
    have h1 : a ≠ p := fun z => by rw [z, upd_same] at h; cases h
    have h2 : a ≠ dx := fun z => by rw [upd_ne h1, z, upd_same] at h; cases h
    rw [upd_ne h1, upd_ne h2] at h
    exact h
  refine k p t b d H3 (e2.trans e3) ⟨hc, BkAt.mono ⟨⟨dx0, hb⟩, hd⟩ e3, fun z => ?_, ne_of_none hb y1, List.nodup_nil, by decide, by decide, con_nil _⟩ (fresh_back e2 y1) (fresh_back e2 (fr y4)) x1 (fr x4)
  rw [← z] at y4
  rw [fr y4] at hd
  cases hd
theorem mk_chunksW {CC : Addr} {E : XK} {te : TE} {σ : L2.St} {H : Hp} {Q : VK} {b : Addr} (h : Ev te σ H (.ref b)) (k : ∀ p t H', Ex H H' → CkAt CC H' p b t 0 [] → H p = none → H t = none → p ≠ t → Q (.ref p) H') : tMake CC (spCkI CC) [] E (tCons te tNil) σ H Q := by
  refine cons_run (ev_run h fun H2 e2 => nil_run fun p dx y1 y2 y3 => ⟨p, dx, b, rfl, upd_same, fun t H3 y4 y5 hc kp => ⟨rfl, ?_⟩⟩)
  have e3 : Ex H2 H3 := fun c o e => kp c o (by rw [upd_ne (ne_of_none e y1), upd_ne (ne_of_none e y2)]; exact e) fun z => ne_of_none e y1 (List.mem_singleton.mp z)
  have h1 : t ≠ p := y5
  have h2 : H2 t = none := by
    have h2 : t ≠ dx := fun z => by rw [upd_ne h1, z, upd_same] at y4; cases y4
    rw [upd_ne h1, upd_ne h2] at y4
    exact y4
  exact k p t H3 (e2.trans e3) hc (fresh_back e2 y1) (fresh_back e2 h2) h1.symm
theorem ev_ckb {K : PySem.W.Frag} {C p b t : Addr} {r : Int} {kvs : List (Key × V)} {σ : L2.St} {H : Hp} {te : TE} (h : Ev te σ H (.ref p)) (c : CkAt C H p b t r kvs) (hc : Cls K C) (hn : NoAttr K C "book") : Ev (tFld K te "book") σ H (.ref b) := fun H1 e Q q => by
  obtain ⟨⟨dx, hp⟩, _⟩ := c
  exact h H1 e _ fun H2 e2 => ⟨p, C, dx, _, _, rfl, (e.trans e2) _ _ hp, hc, hn, cF_book b r t, q H2 e2⟩
theorem clear_go {K : PySem.W.Frag} {σ : L2.St} {H : Hp} {j : Nat} {wa : Addr} {xs : List V} {Q : VK} (ha : σ[j]? = some (some (.ref wa))) (hp : H wa = some (.lst xs)) (k : Q .non (upd H wa (.lst []))) : tBM0 K "list" rClear (tVar j) σ H Q :=
  ⟨_, ha, .inl ⟨rfl, _, sq_of hp⟩, wa, xs, rfl, rfl, hp, k⟩
theorem con_keys {zs : List Str} : ∀ {kvs : List (Key × V)}, (∀ kv ∈ kvs, ∃ j : Nat, kv.1 = Sum.inl (1 + (j : Int))) → ∃ ks : List Int, kvs.map (·.1) = ks.map Sum.inl
  | [], _ => ⟨[], rfl⟩
  | a :: r, h => by
    obtain ⟨j, hj⟩ := h a List.mem_cons_self
    obtain ⟨ks, hk⟩ := con_keys (zs := zs) (kvs := r) fun kv hkv => h kv (List.mem_cons_of_mem _ hkv)
    exact ⟨(1 + (j : Int)) :: ks, by rw [List.map_cons, List.map_cons, hk, hj]⟩
theorem val_of_mem {kvs : List (Key × V)} {kv : Key × V} (h : kv ∈ kvs) : ∃ v, valV kvs kv.1 = some v := by
  cases e : valV kvs kv.1 with
  | some v => exact ⟨v, rfl⟩
  | none =>
    have := valV_any kv.1 kvs
    rw [e] at this
    have h2 : (kvs.any fun x => decide (x.1 = kv.1)) = true := List.any_eq_true.mpr ⟨kv, h, by simp⟩
    rw [h2] at this
    cases this
theorem Con.ints {zs : List Str} {kvs : List (Key × V)} (h : Con zs kvs) : ∃ ks : List Int, kvs.map (·.1) = ks.map Sum.inl := con_keys (zs := zs) fun kv hkv => by
  obtain ⟨v, hv⟩ := val_of_mem hkv
  obtain ⟨j, z, h1, _⟩ := h _ _ hv
  exact ⟨j, h1⟩
theorem val_keys {kvs : List (Key × V)} {k : Key} {v : V} (h : valV kvs k = some v) : k ∈ kvs.map (·.1) := by
  unfold valV at h
  cases e : kvs.find? fun kv => decide (kv.1 = k) with
  | none => rw [e] at h; cases h
  | some x =>
    have h2 := List.find?_some e
    exact List.mem_map.mpr ⟨x, List.mem_of_find?_eq_some e, of_decide_eq_true h2⟩
/-- a text that the book has: putting it leaves the book -/
theorem put_old {zs : List Str} {kvs : List (Key × V)} {j : Nat} {z : Str} (nd : zs.Nodup) (h : zs[j]? = some z) : putW (zs, kvs) z = (zs, putK kvs (Sum.inl (1 + (j : Int)) : Key) (.str z)) ∧ adr zs z = 1 + (j : Int) := by
  have hm := List.mem_of_getElem? h
  have e : addZ zs z = zs := by unfold addZ; rw [if_pos hm]
  have ea : adr zs z = 1 + (j : Int) := by unfold adr; rw [e, posZ_uniq nd h]
  unfold putW
  dsimp only
  rw [e, ea]
  exact ⟨rfl, rfl⟩
theorem cv_sl {K : PySem.W.Frag} {H : Hp} {a b : Addr} {us ws : List V} {es : List It} (h1 : SqL K H a us) (h2 : DvL K H us es) (h3 : SqL K H b ws) (h4 : DvL K H ws es) (h5 : ∀ e ∈ es, e.fit 2) (h6 : es.length ≤ 1000) : SpV (spSL K) [.ref a, .ref b] H (.bl true) := fun H1 e Q q E => ⟨a, b, us, ws, es, rfl, ex_l e h1, h2.mono e, ex_l e h3, h4.mono e, h5, h6, fun H2 e2 => q H2 e2⟩
theorem mk_bookW {CB : Addr} {E : XK} {σ : L2.St} {H : Hp} {Q : VK} (k : ∀ b d H', Ex H H' → BkAt CB H' b d [] → H b = none → H d = none → Q (.ref b) H') : tMake CB (spBkI CB) [] E tNil σ H Q := by
  intro b dx0 x1 x2 x3
  refine ⟨b, dx0, rfl, upd_same, fun d H2 x4 x5 hb hd kb => ⟨rfl, ?_⟩⟩
  have e2 : Ex H H2 := fun c o e => kb c o (by rw [upd_ne (ne_of_none e x1), upd_ne (ne_of_none e x2)]; exact e) (ne_of_none e x1)
  have h2 : d ≠ dx0 := fun z => by rw [upd_ne x5, z, upd_same] at x4; cases x4
  rw [upd_ne x5, upd_ne h2] at x4
  exact k b d H2 e2 ⟨⟨dx0, hb⟩, hd⟩ x1 x4
theorem dvl_intsW {K : PySem.W.Frag} {H : Hp} : ∀ {q : List Int}, DvL K H (q.map V.int) (q.map It.int)
  | [] => .nil
  | x :: r => .cons (.int x) dvl_intsW
theorem last_at {xs : List V} {v : V} : atI (xs ++ [v]) (-1) = some v := by
  unfold atI ixN
  have hl : (xs ++ [v]).length = xs.length + 1 := by rw [List.length_append, List.length_singleton]
  rw [if_neg (by decide), if_pos (by omega), hl]
  show (xs ++ [v])[((-1 : Int) + ((xs.length + 1 : Nat) : Int)).toNat]? = _
  rw [show ((-1 : Int) + ((xs.length + 1 : Nat) : Int)).toNat = xs.length from by omega, List.getElem?_append_right (Nat.le_refl _), Nat.sub_self] <;> rfl



/-! ### _law_groups -/
/-- lists of items -/
inductive GrL (K : PySem.W.Frag) (H : Hp) : List Addr → List (List It) → Prop
  | nil : GrL K H [] []
  | cons {a : Addr} {as : List Addr} {us : List V} {g : List It} {gs : List (List It)} (h : H a = some (.lst us)) (d : DvL K H us g) (r : GrL K H as gs) : GrL K H (a :: as) (g :: gs)
theorem GrL.len {K : PySem.W.Frag} {H : Hp} : ∀ {as : List Addr} {gs : List (List It)}, GrL K H as gs → as.length = gs.length
  | _, _, .nil => rfl
  | _, _, .cons _ _ r => congrArg (· + 1) r.len
theorem GrL.mono {K : PySem.W.Frag} {H H' : Hp} (e : Ex H H') : ∀ {as : List Addr} {gs : List (List It)}, GrL K H as gs → GrL K H' as gs
  | _, _, .nil => .nil
  | _, _, .cons h d r => .cons (e _ _ h) (d.mono e) (r.mono e)
/-- another list changes -/
theorem GrL.upd {K : PySem.W.Frag} {H : Hp} {p : Addr} {xs : List V} {o : HO} (hp : H p = some (.lst xs)) : ∀ {as : List Addr} {gs : List (List It)}, GrL K H as gs → (∀ a ∈ as, a ≠ p) → GrL K (upd H p o) as gs
  | _, _, .nil, _ => .nil
  | _, _, .cons h d r, n => .cons (by rw [upd_ne (n _ List.mem_cons_self)]; exact h) (d.monoU (exu_upd hp)) (r.upd hp fun a ha => n a (List.mem_cons_of_mem _ ha))
theorem GrL.app {K : PySem.W.Frag} {H : Hp} : ∀ {as bs : List Addr} {gs hs : List (List It)}, GrL K H as gs → GrL K H bs hs → GrL K H (as ++ bs) (gs ++ hs)
  | _, _, _, _, .nil, h => h
  | _, _, _, _, .cons h d r, g => .cons h d (r.app g)
theorem GrL.at {K : PySem.W.Frag} {H : Hp} : ∀ {as : List Addr} {gs : List (List It)}, GrL K H as gs → ∀ {i : Nat} {a : Addr}, as[i]? = some a → ∃ us g, gs[i]? = some g ∧ H a = some (.lst us) ∧ DvL K H us g
  | _, _, .cons h d _, 0, a, e => by
    rw [← (Option.some.inj e)]
    exact ⟨_, _, rfl, h, d⟩
  | _, _, .cons _ _ r, i + 1, a, e => by
    obtain ⟨us, g, h1, h2⟩ := r.at (i := i) (by simpa using e)
    exact ⟨us, g, by simpa using h1, h2⟩
theorem ev_minW {ta : TA} {σ : L2.St} {H : Hp} {i j : Int} (ha : EvA ta σ H [.int i, .int j]) : Ev (tCB (fun xs H Q => ∃ i j, xs = [V.int i, V.int j] ∧ Q (V.int (if j < i then j else i)) H) ta) σ H (.int (if j < i then j else i)) := fun H1 e Q q => ha H1 e _ fun H2 e2 => ⟨i, j, rfl, q H2 e2⟩
def spLG (K : PySem.W.Frag) : Sp := fun vs H Q _ => ∃ (lv : Nat) (a : Addr) (xs : List V) (es : List It), vs = [.int (lv : Int), .ref a] ∧ SqL K H a xs ∧ DvL K H xs es ∧ (∀ e ∈ es, EOk lv e) ∧ lv ≤ 900 ∧ es.length ≤ 900 ∧
  ∀ H' q gas, Ex H H' → H q = none → H' q = some (.lst (gas.map V.ref)) → GrL K H' gas (grpL lv es) → (∀ a ∈ gas, H a = none) → Q (.ref q) H'
theorem grp_step {lv : Nat} {part r : List It} {e : It} : grp lv part (e :: r) = if endsZ (lv : Int) (keyI e) ((part.length : Int) + 1) = true then (part ++ [e]) :: grp lv [] r else grp lv (part ++ [e]) r := rfl
set_option maxHeartbeats 4000000 in
theorem ok_law_groups (T : Txt K mg P) : FnOk P w K mg base CX0 8 T.f_law_groups T.d_law_groups ["level", "entries"] (spLG K) := by
  refine T.F_law_groups.ok sc_law_groups (fun vs H Q E h => ?_) (fun cdv A outer s H vs Q E hr h => ?_)
  · obtain ⟨lv, a, xs, es, rfl, _⟩ := h
    rfl
  · obtain ⟨lv, a, xs, es, rfl, hS, hD, he, hlv, hl, q⟩ := h
    refine ⟨_, pss_cons (ps_set (i := 2) sc_law_groups.nd rfl (by first | exact Or.inl rfl | exact Or.inr rfl) (pe_lst (pa_nil)))
      (pss_cons (ps_set (i := 3) sc_law_groups.nd rfl (by first | exact Or.inl rfl | exact Or.inr rfl) (pe_lst (pa_nil)))
      (pss_cons (ps_for PassesOwn.never rfl (pi_list (pv 1)) (pg_name (i := 4) sc_law_groups.nd rfl (by first | exact Or.inl rfl | exact Or.inr rfl))
      (pss_cons (ps_expr (pe_bm PySem.F.plainAttrs_list PySem.F.slot_list_append PySem.F.type_list_append mt_append (pv 3) (pa_cons (pv 4) (pa_nil))))
      (pss_cons (ps_set (i := 5) sc_law_groups.nd rfl (by first | exact Or.inl rfl | exact Or.inr rfl) (pe_cmpR op_eq (pe_callB (r := rLenQ K) call_len_seq (by rfl) T.m_len (by decide +kernel) (pa_cons (pv 3) (pa_nil))) (pe_int) (nomark _)))
      (pss_cut (ps_if (PW.pt (pw_and (pt_not (pt_val (pv 5))) (pw_and1 (pt_cmpR op_ge (pe_callB (r := rLenQ K) call_len_seq (by rfl) T.m_len (by decide +kernel) (pa_cons (pv 3) (pa_nil))) (pe_op op_add (pe_int) (pe_callB (call_min2 rfl) (by rfl) T.m_min (by decide +kernel) (pa_cons (pv 0) (pa_cons (pe_int) (pa_nil))))) (nomark _)))))
      (pss_one (ps_set (i := 5) sc_law_groups.nd rfl (by first | exact Or.inl rfl | exact Or.inr rfl) (pe_cmpR op_eq (pe_op op_mod (pe_callTy call_int1 (by rfl) T.m_int (by decide +kernel) (pa_cons (pe_call (ok_law_digest T) (hr.mono (by first | decide | omega)) (by rfl) T.g_law_digest T.F_law_digest.kp T.b_law_digest .nil pass0 (pa_cons (pe_call (ok_law_written T) (hr.mono (by first | decide | omega)) (by rfl) T.g_law_written T.F_law_written.kp T.b_law_written .nil pass0 (pa_cons (pe_tup (pa_cons (pv 0) (pa_cons (pe_ix (r := rIxT K) ix_tup (pv 4) (pe_int) (fun _ _ => rfl)) (pa_nil)))) (pa_nil))) (pa_nil))) (pa_nil))) (pe_int)) (pe_int) (nomark _))))
      (pss_nil))
      (pss_one (ps_if (pt_val (pv 5))
      (pss_cons (ps_expr (pe_bm PySem.F.plainAttrs_list PySem.F.slot_list_append PySem.F.type_list_append mt_append (pv 2) (pa_cons (pv 3) (pa_nil))))
      (pss_one (ps_set (i := 3) sc_law_groups.nd rfl (by first | exact Or.inl rfl | exact Or.inr rfl) (pe_lst (pa_nil)))))
      (pss_nil)))))))
      (pss_cons (ps_if (PW.pt (pw_or (pt_truth (pv 3) (by intro _; rfl)) (pw_or1 (pt_not (pt_truth (pv 2) (by intro _; rfl))))))
      (pss_one (ps_expr (pe_bm PySem.F.plainAttrs_list PySem.F.slot_list_append PySem.F.type_list_append mt_append (pv 2) (pa_cons (pv 3) (pa_nil)))))
      (pss_nil))
      (pss_one (ps_ret (pv 2)))))), ?_⟩
    have hlen := hD.len
    refine q_asgL (el_lst ea_nil (by decide)) fun qa H1 hqa e1 hq1 => ?_
    refine q_asgL (el_lst ea_nil (by decide)) fun pt H2 hpt e2 hp2 => ?_
    have E2 := e1.trans e2
    have npq : pt ≠ qa := (ne_of_none hq1 hpt).symm
    refine q_forL (K := K) (xs := xs) (ev_var rfl) (ex_l E2 hS) (fun i σ' H' => ∃ (gas : List Addr) (done : List (List It)) (part : List It) (pt : Addr) (pvs : List V) (x4 x5 : Option V), σ' = [some (.int (lv : Int)), some (.ref a), some (.ref qa), some (.ref pt), x4, x5] ∧ Ex H H' ∧ H' qa = some (.lst (gas.map V.ref)) ∧ GrL K H' gas done ∧ H' pt = some (.lst pvs) ∧ DvL K H' pvs part ∧ done ++ grp lv part (es.drop i) = grp lv [] es ∧ part.length ≤ 7 ∧ pt ≠ qa ∧ (∀ c ∈ gas, c ≠ pt ∧ c ≠ qa ∧ H c = none) ∧ H pt = none ∧ done.length + part.length ≤ i)
      (fun H3 e3 => ⟨[], [], [], pt, [], none, none, rfl, E2.trans e3, e3 _ _ (e2 _ _ hq1), .nil, e3 _ _ hp2, .nil, rfl, by decide, npq, (fun c hc => nomatch hc), fresh_back e1 hpt, Nat.le_refl _⟩) (fun i σ' H' _ hP => ?_) (fun i x σ' H' hx hP => ?_) (fun σ' H' hP => ?_)
    · obtain ⟨_, _, _, _, _, _, _, _, e, _⟩ := hP
      exact ex_l e hS
    · obtain ⟨gas, done, part, pt, pvs, x4, x5, rfl, eH, hq', hg', hp', hpd, hgr, hp7, npq, hna, hpn, hdl⟩ := hP
      have hil := (List.getElem?_eq_some_iff.mp hx).1
      obtain ⟨d, hd, hvd⟩ := dvl_get hD hx
      have hdrop : es.drop i = d :: es.drop (i + 1) := by
        rw [List.drop_eq_getElem_cons (by omega)]
        congr 1
        exact Option.some.inj ((List.getElem?_eq_getElem (by omega)).symm.trans hd)
      rw [hdrop] at hgr
      have ho := he d (List.mem_of_getElem? hd)
      obtain ⟨ke, re, ee, _⟩ := ho.sh
      subst ee
      obtain ⟨pe, ys, rfl, hy1, hy2⟩ := dv_tup hvd
      obtain ⟨kv, ys, rfl, hkv, _⟩ := dvl_cons hy2
      have hpl := hpd.len
      have hqa0 : H qa = none := hqa
      refine q_app (K := K) hp' (ev_var rfl) (ev_var rfl) (by omega) fun H3 e3 => ?_
      have E3 := eH.trans e3
      have hp3 := e3 _ _ hp'
      have u4 := exu_upd (o := .lst (pvs ++ [.ref pe])) hp3
      have EX4 : Ex H (upd H3 pt (.lst (pvs ++ [.ref pe]))) := E3.mut hpn
      have hp4 := upd_same (H := H3) (a := pt) (o := .lst (pvs ++ [.ref pe]))
      have hq4 : (upd H3 pt (.lst (pvs ++ [.ref pe]))) qa = some (.lst (gas.map V.ref)) := by rw [upd_ne npq.symm]; exact e3 _ _ hq'
      have hg4 : GrL K (upd H3 pt (.lst (pvs ++ [.ref pe]))) gas done := (hg'.mono e3).upd hp3 fun c hc => (hna c hc).1
      have hpd4 : DvL K (upd H3 pt (.lst (pvs ++ [.ref pe]))) (pvs ++ [.ref pe]) (part ++ [.tup (ke :: re)]) := ((hpd.mono e3).monoU u4).app (.cons ((hvd.mono E3).monoU u4) .nil)
      have hkv4 := (hkv.mono E3).monoU u4
      have hy4 := exu_t u4 (ex_t E3 hy1)
      generalize upd H3 pt (.lst (pvs ++ [.ref pe])) = H4 at EX4 hp4 hq4 hg4 hpd4 hkv4 hy4 ⊢
      have hl4 : (pvs ++ [V.ref pe]).length = part.length + 1 := by rw [List.length_append, List.length_singleton, hpl]
      refine q_asg (v := .bl (decide (((part.length + 1 : Nat) : Int) = 8))) (ev_is (ev_eqI (ev_lenQ (K := K) (ev_var rfl) (sq_of hp4)) ev_c) (by rw [hl4])) fun H5 e5 => ?_
      refine q_cut (M := fun σ6 H6 => σ6 = [some (.int (lv : Int)), some (.ref a), some (.ref qa), some (.ref pt), some (.ref pe), some (.bl (endsZ (lv : Int) ke ((part.length : Int) + 1)))] ∧ Ex H4 H6) ?_ fun σ6 H6 hM => ?_
      · have em : ∀ {σ : L2.St} {H6 : Hp}, σ[0]? = some (some (V.int (lv : Int))) → Ev (tOp (rI0 fun i j => .int (i + j)) (tC (.int 1)) (tCB (fun xs H Q => ∃ i j, xs = [V.int i, V.int j] ∧ Q (V.int (if j < i then j else i)) H) (tCons (tVar 0) (tCons (tC (.int 1)) tNil)))) σ H6 (.int (1 + (if (1 : Int) < (lv : Int) then 1 else (lv : Int)))) := fun h => ev_bin0 ev_c (ev_minW (ea_cons (ev_var h) (ea_cons ev_c ea_nil)))
        refine s_when (b := (!decide (((part.length + 1 : Nat) : Int) = 8)) && decide (((part.length + 1 : Nat) : Int) ≥ 1 + (if (1 : Int) < (lv : Int) then 1 else (lv : Int)))) (et_and (et_not (et_B (ev_var rfl))) fun _ => et_test (ev_is (ev_bin0 (ev_lenQ (K := K) (ev_var rfl) (sq_of (e5 _ _ hp4))) (em rfl)) (by rw [hl4]))) (fun hb H6 e6 => ?_) (fun hb H6 e6 => ⟨?_, e5.trans e6⟩)
        · rw [Bool.and_eq_true] at hb
          have h8 : ¬ ((part.length : Int) + 1 = 8) := by have := of_decide_eq_false (by simpa using hb.1 : decide (((part.length + 1 : Nat) : Int) = 8) = false); omega
          have h2 := of_decide_eq_true hb.2
          have h2 : ((part.length + 1 : Nat) : Int) ≥ 1 + (if (1 : Int) < (lv : Int) then 1 else (lv : Int)) := h2
          have e9 : endsZ (lv : Int) ke ((part.length : Int) + 1) = decide (digZ (encC (.tup [.int (lv : Int), ke])) % 4 = 0) := by
            unfold endsZ
            rw [if_neg h8, if_neg (by split at h2 <;> omega)]
          rw [e9]
          refine s_asg (ev_eqI (ev_bin (ev_intI (ev_digPair (K := K) (ev_var rfl) (ev_ixT (K := K) (ev_var rfl) ev_c (ex_t (e5.trans e6) hy4) (at_nat (j := 0) rfl)) (hkv4.mono (e5.trans e6)) ho.kf (Nat.le_trans ho.kl (by decide)) (log60b (by omega)))) ev_c (by decide)) ev_c) fun H7 e7 => ⟨rfl, (e5.trans e6).trans e7⟩
        · have e9 : endsZ (lv : Int) ke ((part.length : Int) + 1) = decide (((part.length + 1 : Nat) : Int) = 8) := by
            by_cases h8 : (part.length : Int) + 1 = 8
            · rw [h8, endsZ_8, decide_eq_true (by omega)]
            · rw [decide_eq_false (by omega)]
              rw [decide_eq_false (by omega), Bool.not_false, Bool.true_and] at hb
              have h2 := of_decide_eq_false hb
              unfold endsZ
              rw [if_neg h8, if_pos (by split at h2 <;> omega)]
          rw [e9] <;> rfl
      · obtain ⟨rfl, e6⟩ := hM
        have ge : grp lv part (.tup (ke :: re) :: es.drop (i + 1)) = if endsZ (lv : Int) ke ((part.length : Int) + 1) = true then (part ++ [.tup (ke :: re)]) :: grp lv [] (es.drop (i + 1)) else grp lv (part ++ [.tup (ke :: re)]) (es.drop (i + 1)) := grp_step
        have hp6 := e6 _ _ hp4
        have hq6 := e6 _ _ hq4
        have hgl := hg4.len
        refine s_when (et_B (ev_var rfl)) (fun hb H7 e7 => ?_) (fun hb H7 e7 => ?_)
        · rw [ge, if_pos hb] at hgr
          have E7 := e6.trans e7
          refine q_app (K := K) (e7 _ _ hq6) (ev_var rfl) (ev_var rfl) (by rw [List.length_map]; omega) fun H8 e8 => ?_
          have E8 := E7.trans e8
          have hq8 := E8 _ _ hq4
          have hqn : (upd H8 qa (.lst (gas.map V.ref ++ [.ref pt]))) qa = some (.lst ((gas ++ [pt]).map V.ref)) := by rw [upd_same, List.map_append] <;> rfl
          have hg9 : GrL K (upd H8 qa (.lst (gas.map V.ref ++ [.ref pt]))) (gas ++ [pt]) (done ++ [part ++ [.tup (ke :: re)]]) := ((hg4.mono E8).upd hq8 fun c hc => (hna c hc).2.1).app (.cons (by rw [upd_ne npq]; exact E8 _ _ hp4) ((hpd4.mono E8).monoU (exu_upd hq8)) .nil)
          have EX9 : Ex H (upd H8 qa (.lst (gas.map V.ref ++ [.ref pt]))) := (EX4.trans E8).mut hqa0
          generalize upd H8 qa (.lst (gas.map V.ref ++ [.ref pt])) = H9 at hqn hg9 EX9 ⊢
          refine s_asgL (el_lst ea_nil (by decide)) fun pt2 H10 hpt2 e10 hp10 => ⟨gas ++ [pt], done ++ [part ++ [.tup (ke :: re)]], [], pt2, [], _, _, rfl, EX9.trans e10, e10 _ _ hqn, hg9.mono e10, hp10, .nil, ?_, by decide, (ne_of_none hqn hpt2).symm, fun c hc => ?_, fresh_back EX9 hpt2, by rw [List.length_append, List.length_singleton]; show done.length + 1 + 0 ≤ i + 1; omega⟩
          · rw [← hgr, List.append_assoc] <;> rfl
          · have hc2 : c ≠ qa ∧ H c = none := by
              rcases List.mem_append.mp hc with h | h
              · exact (hna c h).2
              · rw [List.mem_singleton.mp h]; exact ⟨npq, hpn⟩
            obtain ⟨j, hj⟩ := List.getElem?_of_mem hc
            obtain ⟨us, g, _, h2, _⟩ := hg9.at hj
            exact ⟨ne_of_none h2 hpt2, hc2⟩
        · rw [ge, if_neg (by rw [hb]; exact Bool.false_ne_true)] at hgr
          have E7 := e6.trans e7
          refine ⟨gas, done, part ++ [.tup (ke :: re)], pt, _, _, _, rfl, EX4.trans E7, E7 _ _ hq4, hg4.mono E7, E7 _ _ hp4, hpd4.mono E7, hgr, ?_, npq, hna, hpn, by rw [List.length_append, List.length_singleton]; omega⟩
          rw [List.length_append, List.length_singleton]
          by_cases h7 : part.length = 7
          · rw [h7] at hb
            have h8 : endsZ (lv : Int) ke 8 = false := hb
            rw [endsZ_8] at h8
            cases h8
          · omega
    · obtain ⟨gas, done, part, pt, pvs, x4, x5, rfl, eH, hq', hg', hp', hpd, hgr, hp7, npq, hna, hpn, hdl⟩ := hP
      rw [List.drop_of_length_le (by omega)] at hgr
      have hgl := hg'.len
      have hpl := hpd.len
      have hqa0 : H qa = none := hqa
      refine q_when (b := (!pvs.isEmpty) || !(!(gas.map V.ref).isEmpty)) (et_or (et_tru (K := K) (ev_var rfl) (sq_of hp')) fun _ => et_not (et_tru (K := K) (ev_var rfl) (sq_of hq'))) (fun hb H3 e3 => ?_) (fun hb H3 e3 => ?_)
      · refine q_dropK (app_run (j := 2) (e3 _ _ hq') rfl (var_run rfl ?_))
        refine app_end (e3 _ _ hq') (sz_lt (by rw [List.length_map]; omega)) ?_
        have hq3 := e3 _ _ hq'
        refine ret_run (var_run rfl (q _ qa (gas ++ [pt]) ((eH.trans e3).mut hqa0) hqa0 (by rw [upd_same, List.map_append] <;> rfl) ?_ fun c hc => ?_))
        · have h2 : grpL lv es = done ++ [part] := by
            unfold grpL
            by_cases hn : part = []
            · subst hn
              obtain rfl := dvl_nil hpd
              have hg0 : gas = [] := by
                cases gas with
                | nil => rfl
                | cons _ _ => simp at hb
              subst hg0
              have hd0 : done = [] := List.eq_nil_of_length_eq_zero hgl.symm
              subst hd0
              have hgr : grp lv [] es = [] := hgr.symm
              have hes : es = [] := by
                by_cases he0 : es = []
                · exact he0
                · exact absurd hgr (grp_pos he0)
              rw [if_pos hes] <;> rfl
            · have hes : es ≠ [] := fun z => by
                rw [z] at hgr
                have h0 : grp lv [] [] = [] := by unfold grp; rw [if_pos rfl]
                rw [h0] at hgr
                unfold grp at hgr
                rw [if_neg hn] at hgr
                simp at hgr
              rw [if_neg hes, ← hgr]
              unfold grp
              rw [if_neg hn]
          rw [h2]
          exact ((hg'.mono e3).upd hq3 fun c hc => (hna c hc).2.1).app (.cons (by rw [upd_ne npq]; exact e3 _ _ hp') ((hpd.mono e3).monoU (exu_upd hq3)) .nil)
        · rcases List.mem_append.mp hc with h | h
          · exact (hna c h).2.2
          · rw [List.mem_singleton.mp h]; exact hpn
      · rw [Bool.or_eq_false_iff] at hb
        have hpe : pvs = [] := List.isEmpty_iff.mp (by simpa using hb.1)
        subst hpe
        have hpa : part = [] := List.eq_nil_of_length_eq_zero hpl.symm
        subst hpa
        have hge : gas ≠ [] := fun z => by
          rw [z] at hb
          simp at hb
        have hgr : done ++ [] = grp lv [] es := hgr
        rw [List.append_nil] at hgr
        have hes : es ≠ [] := fun z => by
          rw [z] at hgr
          have h0 : grp lv [] [] = [] := by unfold grp; rw [if_pos rfl]
          rw [h0] at hgr
          rw [hgr] at hgl
          exact hge (List.eq_nil_of_length_eq_zero hgl)
        refine ret_run (var_run rfl (q H3 qa gas (eH.trans e3) hqa0 (e3 _ _ hq') ?_ fun c hc => (hna c hc).2.2))
        unfold grpL
        rw [if_neg hes, ← hgr]
        exact hg'.mono e3


/-! ### _law_levels -/
/-- lists of texts -/
inductive TxL (H : Hp) : List Addr → List (List Str) → Prop
  | nil : TxL H [] []
  | cons {a : Addr} {as : List Addr} {z : List Str} {zs : List (List Str)} (h : H a = some (.lst (z.map V.str))) (r : TxL H as zs) : TxL H (a :: as) (z :: zs)
theorem TxL.mono {H H' : Hp} (e : Ex H H') : ∀ {as : List Addr} {gs : List (List Str)}, TxL H as gs → TxL H' as gs
  | _, _, .nil => .nil
  | _, _, .cons h r => .cons (e _ _ h) (r.mono e)
theorem TxL.upd {H : Hp} {p : Addr} {o : HO} : ∀ {as : List Addr} {gs : List (List Str)}, TxL H as gs → (∀ a ∈ as, a ≠ p) → TxL (upd H p o) as gs
  | _, _, .nil, _ => .nil
  | _, _, .cons h r, n => .cons (by rw [upd_ne (n _ List.mem_cons_self)]; exact h) (r.upd fun a ha => n a (List.mem_cons_of_mem _ ha))
theorem TxL.app {H : Hp} : ∀ {as bs : List Addr} {gs hs : List (List Str)}, TxL H as gs → TxL H bs hs → TxL H (as ++ bs) (gs ++ hs)
  | _, _, _, _, .nil, h => h
  | _, _, _, _, .cons h r, g => .cons h (r.app g)
theorem TxL.len {H : Hp} : ∀ {as : List Addr} {gs : List (List Str)}, TxL H as gs → as.length = gs.length
  | _, _, .nil => rfl
  | _, _, .cons _ r => congrArg (· + 1) r.len
theorem TxL.at {H : Hp} : ∀ {as : List Addr} {gs : List (List Str)}, TxL H as gs → ∀ {i : Nat} {a : Addr}, as[i]? = some a → ∃ g, gs[i]? = some g ∧ H a = some (.lst (g.map V.str))
  | _, _, .cons h _, 0, a, e => by
    rw [← (Option.some.inj e)]
    exact ⟨_, rfl, h⟩
  | _, _, .cons _ r, i + 1, a, e => by
    obtain ⟨g, h1, h2⟩ := r.at (i := i) (by simpa using e)
    exact ⟨g, by simpa using h1, h2⟩
theorem TxL.but {S : List Addr} {H H' : Hp} (f : But S H H') : ∀ {as : List Addr} {gs : List (List Str)}, TxL H as gs → (∀ a ∈ as, a ∉ S) → TxL H' as gs
  | _, _, .nil, _ => .nil
  | _, _, .cons h r, n => .cons (f _ _ h (n _ List.mem_cons_self)) (TxL.but f r fun a ha => n a (List.mem_cons_of_mem _ ha))
theorem getK_bk {F : List Str} {z : Str} (h : z ∈ F) : getK (bkL 1 F) z = .int (adF F z) := by
  unfold getK
  rw [bkL_val, if_pos h] <;> rfl
theorem rows_ok {lv : Nat} {g : List It} (h : ∀ e ∈ g, EOk lv e) (hl : g.length ≤ 8) : (rowsI g).fit 6 ∧ (encC (rowsI g)).length ≤ 1000000 := by
  have hg : (encL g).length ≤ g.length * 40000 := encL_len fun e he => (h e he).el
  have hg2 : (encC (.tup g)).length ≤ 320002 := by
    rw [enc_tup_len]
    have : g.length * 40000 ≤ 8 * 40000 := Nat.mul_le_mul_right _ hl
    omega
  have hr := enc_str_len (z := Str.ofString "rows") (by decide +kernel)
  have er : (Str.ofString "rows").length = 4 := by decide +kernel
  refine ⟨It.fit_mono (n := 4) ⟨by show 2 ≤ 1000; decide, fun y hy => ?_⟩ (by decide), ?_⟩
  · simp only [List.mem_cons, List.not_mem_nil, or_false] at hy
    rcases hy with rfl | rfl
    · show (Str.ofString "rows").length ≤ 999999; decide +kernel
    · exact ⟨by omega, fun y hy => (h y hy).ef⟩
  · show (encC (.tup [.str (Str.ofString "rows"), .tup g])).length ≤ _
    rw [enc_tup_len]
    show (encC (.str (Str.ofString "rows")) ++ (encC (.tup g) ++ [])).length + 2 ≤ _
    rw [List.length_append, List.length_append, List.length_nil]
    omega
theorem upF_ok {lv : Nat} {F : List Str} {g : List It} (hg : g ≠ []) (h : ∀ e ∈ g, EOk lv e) (hs : F.length ≤ 100000) (hm : txtI (nodeI lv g) ∈ F) (ht : totE lv g ≤ 100000) : EOk (lv + 1) (upF F lv g) := by
  have hm2 : g.getLastD .non ∈ g := by
    cases g with
    | nil => exact absurd rfl hg
    | cons a r =>
      rw [List.getLastD_cons]
      exact List.getLastD_mem_cons
  have he := h _ hm2
  have h0 := totE_nn h
  have ha := posZ_lt hm
  have f1 : It.fit 1 (.int (adF F (txtI (nodeI lv g)))) := small_fit (by unfold adF; omega)
  have f2 : It.fit 1 (.int (totE lv g)) := small_fit (by omega)
  have l1 := small_len (i := adF F (txtI (nodeI lv g))) (by unfold adF; omega)
  have l2 := small_len (i := totE lv g) (by omega)
  have hk := he.kl
  refine ⟨⟨_, _, rfl, fun _ => ⟨_, _, rfl⟩⟩, he.kf, he.kl, ⟨by show 3 ≤ 1000; decide, fun y hy => ?_⟩, ?_, h0⟩
  · simp only [List.mem_cons, List.not_mem_nil, or_false] at hy
    rcases hy with rfl | rfl | rfl
    · exact he.kf
    · exact f1
    · exact f2
  · unfold upF
    rw [enc_tup_len]
    show (encC (keyI (g.getLastD .non)) ++ (encC (.int (adF F (txtI (nodeI lv g)))) ++ (encC (.int (totE lv g)) ++ []))).length + 2 ≤ _
    rw [List.length_append, List.length_append, List.length_append, List.length_nil]
    omega
/-- a written tuple that is given as a value -/
theorem enc_evI {K : PySem.W.Frag} {n : Nat} {E : XK} {ta : TA} {σ : L2.St} {H : Hp} {ds : List It} (h : EAI K ta σ H ds) (hf : It.fit n (.tup ds)) (hl : ds.length ≤ 1000) (hz : (encC (.tup ds)).length ≤ 16000000) : Ev (tCall (spEnc K n) [] E (tCons (tTup ta) tNil)) σ H (.str (txtI (.tup ds))) := fun H1 e Q q =>
  enc_runI (fun H2 e2 R r => h H2 (e.trans e2) R r) hf hl hz q
def abv (F : List Str) (lv : Nat) (gs : List (List It)) : List It := (gs.filter fun g => !g.isEmpty).map (upF F lv)
theorem grpL_all {lv : Nat} {es : List It} : (grpL lv es).flatten = es ∧ (∀ g ∈ grpL lv es, g.length ≤ 8) ∧ (es ≠ [] → ∀ g ∈ grpL lv es, g ≠ []) ∧ (grpL lv es).length ≤ es.length + 1 := by
  unfold grpL
  split
  · rename_i h
    subst h
    exact ⟨rfl, fun g hg => by rw [List.mem_singleton.mp hg]; decide, fun z => absurd rfl z, by decide⟩
  · have h1 := grp_flat lv es []
    have h2 := grp_len lv es []
    simp only [List.length_nil] at h2
    exact ⟨by rw [h1] <;> rfl, grp_8 lv es [] (by simp), fun _ => grp_ne lv es [], by omega⟩
def spLV (K : PySem.W.Frag) (CB : Addr) : Sp := fun vs H Q _ => ∃ (b d a : Addr) (xs : List V) (es : List It) (F : List Str) (kv : List (Key × V)), vs = [.ref b, .ref a] ∧ BkAt CB H b d (bkL 1 F) ∧ SqL K H a xs ∧ DvL K H xs es ∧ (∀ e ∈ es, EOk 0 e) ∧ es.length ≤ 800 ∧ F.length ≤ 90000 ∧ LevOk F kv 40 0 es ∧
  ∀ H' q las, Ex H H' → H q = none → H' q = some (.lst (las.map V.ref)) → TxL H' las (levT F 40 0 es) → Q (.ref q) H'
set_option maxHeartbeats 4000000 in
theorem ok_law_levels (T : Txt K mg P) : FnOk P w K mg base CX0 9 T.f_law_levels T.d_law_levels ["book", "entries"] (spLV K T.C_Book) := by
  refine T.F_law_levels.ok sc_law_levels (fun vs H Q E h => ?_) (fun cdv A outer s H vs Q E hr h => ?_)
  · obtain ⟨b, d, a, xs, es, F, kv, rfl, _⟩ := h
    rfl
  · obtain ⟨b, d, a, xs, es, F, kv, rfl, hB, hS, hD, he, hl, hF, hL, q⟩ := h
    refine ⟨_, pss_cons (ps_set (i := 2) sc_law_levels.nd rfl (by first | exact Or.inl rfl | exact Or.inr rfl) (pe_lst (pa_nil)))
      (pss_cons (ps_set (i := 3) sc_law_levels.nd rfl (by first | exact Or.inl rfl | exact Or.inr rfl) (pe_callTy call_list_of (by rfl) T.m_list (by decide +kernel) (pa_cons (pv 1) (pa_nil))))
      (pss_cons (ps_for PassesOwn.never rfl (pi_range1 (by rfl) T.m_range (pa_cons (pe_int) (pa_nil))) (pg_name (i := 4) sc_law_levels.nd rfl (by first | exact Or.inl rfl | exact Or.inr rfl))
      (pss_cons (ps_set (i := 5) sc_law_levels.nd rfl (by first | exact Or.inl rfl | exact Or.inr rfl) (pe_lst (pa_nil)))
      (pss_cons (ps_set (i := 6) sc_law_levels.nd rfl (by first | exact Or.inl rfl | exact Or.inr rfl) (pe_lst (pa_nil)))
      (pss_cons (ps_for PassesOwn.never rfl (pi_list (pe_call (ok_law_groups T) (hr.mono (by first | decide | omega)) (by rfl) T.g_law_groups T.F_law_groups.kp T.b_law_groups .nil pass0 (pa_cons (pv 4) (pa_cons (pv 3) (pa_nil))))) (pg_name (i := 7) sc_law_levels.nd rfl (by first | exact Or.inl rfl | exact Or.inr rfl))
      (pss_cons (ps_set (i := 8) sc_law_levels.nd rfl (by first | exact Or.inl rfl | exact Or.inr rfl) (pe_call (ok_law_written T) (hr.mono (by first | decide | omega)) (by rfl) T.g_law_written T.F_law_written.kp T.b_law_written .nil pass0 (pa_cons (pe_tup (pa_cons (pe_str) (pa_cons (pe_callTy (r := rTupOf K) call_tuple_of (by rfl) T.m_tuple (by decide +kernel) (pa_cons (pv 7) (pa_nil))) (pa_nil)))) (pa_nil))))
      (pss_cons (ps_set (i := 9) sc_law_levels.nd rfl (by first | exact Or.inl rfl | exact Or.inr rfl) (pe_callB (r := rLenQ K) call_len_seq (by rfl) T.m_len (by decide +kernel) (pa_cons (pv 7) (pa_nil))))
      (pss_cut (ps_if (pt_cmpR op_gt (pv 4) (pe_int) (nomark _))
      (pss_cons (ps_set (i := 8) sc_law_levels.nd rfl (by first | exact Or.inl rfl | exact Or.inr rfl) (pe_call (ok_law_written T) (hr.mono (by first | decide | omega)) (by rfl) T.g_law_written T.F_law_written.kp T.b_law_written .nil pass0 (pa_cons (pe_tup (pa_cons (pe_str) (pa_cons (pv 4) (pa_cons (pe_callTy (r := rTupOf K) call_tuple_of (by rfl) T.m_tuple (by decide +kernel) (pa_cons (pv 7) (pa_nil))) (pa_nil))))) (pa_nil))))
      (pss_one (ps_set (i := 9) sc_law_levels.nd rfl (by first | exact Or.inl rfl | exact Or.inr rfl) (pe_callB (cr_sum rfl) (by rfl) T.m_sum (by decide +kernel) (pa_cons (pe_lc (own := [("entry", 10)]) (g := gName 10) (tt := tYes) rfl sc_law_levels.nd (pi_list (pv 7)) (blkOk_by (N := ["book", "entries", "levels", "items", "level", "texts", "above", "group", "text", "many", "entry"]) (sc := defScope s_law_levels) (by decide +kernel)) (fun _ _ _ _ _ => pg_name (i := 10) sc_law_levels.nd rfl (Or.inl rfl)) (fun _ _ _ _ _ => pts_nil) (fun _ _ _ _ _ => pe_ix (r := rIxT K) ix_tup (pv 10) (pe_int) (fun _ _ => rfl))) (pa_nil))))))
      (pss_nil))
      (pss_cons (ps_expr (pe_bm PySem.F.plainAttrs_list PySem.F.slot_list_append PySem.F.type_list_append mt_append (pv 5) (pa_cons (pv 8) (pa_nil))))
      (pss_one (ps_if (pt_truth (pv 7) (by intro _; rfl))
      (pss_one (ps_expr (pe_bm PySem.F.plainAttrs_list PySem.F.slot_list_append PySem.F.type_list_append mt_append (pv 6) (pa_cons (pe_tup (pa_cons (pe_ix (r := rIxT K) ix_tup (pe_ix (r := rIxL K) ix_list (pv 7) (pe_un un_neg (pe_int)) (fun _ _ => rfl)) (pe_int) (fun _ _ => rfl)) (pa_cons (pe_meth (pv 0) T.cl_Book T.me_Book_find (ok_Book_find T) (hr.mono (by first | decide | omega)) T.b_Book_find .nil pass0 (pa_cons (pv 8) (pa_nil))) (pa_cons (pv 9) (pa_nil))))) (pa_nil)))))
      (pss_nil))))))))
      (pss_cons (ps_expr (pe_bm PySem.F.plainAttrs_list PySem.F.slot_list_append PySem.F.type_list_append mt_append (pv 2) (pa_cons (pv 5) (pa_nil))))
      (pss_cons (ps_if (pt_cmpR op_eq (pe_callB (r := rLenQ K) call_len_seq (by rfl) T.m_len (by decide +kernel) (pa_cons (pv 5) (pa_nil))) (pe_int) (nomark _))
      (pss_one (ps_ret (pv 2)))
      (pss_nil))
      (pss_one (ps_set (i := 3) sc_law_levels.nd rfl (by first | exact Or.inl rfl | exact Or.inr rfl) (pv 6)))))))))
      (pss_one (ps_ret (pv 2))))), ?_⟩
    have hlen := hD.len
    refine q_asgL (el_lst ea_nil (by decide)) fun la H1 hla e1 hl1 => ?_
    refine q_asgK (cb_run (cons_run (var_run rfl (nil_run ⟨a, xs, rfl, .inl (ex_l e1 hS), fun ia hia => ?_⟩))))
    have e2 := Ex.new (o := .lst xs) hia
    have hi2 := upd_same (H := H1) (a := ia) (o := .lst xs)
    have nil2 : ia ≠ la := (ne_of_none hl1 hia).symm
    have hia0 : H ia = none := fresh_back e1 hia
    generalize upd H1 ia (.lst xs) = H2 at e2 hi2
    have E2 := e1.trans e2
    refine q_forR1 (n := 40) (ea_cons ev_c ea_nil) (by decide) (fun i σ' H' => ∃ (las : List Addr) (done : List (List Str)) (ia : Addr) (us : List V) (esi : List It) (x4 x5 x6 x7 x8 x9 x10 : Option V), σ' = [some (.ref b), some (.ref a), some (.ref la), some (.ref ia), x4, x5, x6, x7, x8, x9, x10] ∧ i ≤ 40 ∧ Ex H H' ∧ H' la = some (.lst (las.map V.ref)) ∧ TxL H' las done ∧ (∀ c ∈ las, c ≠ la) ∧ las.length ≤ i ∧ H' ia = some (.lst us) ∧ DvL K H' us esi ∧ ia ≠ la ∧ (∀ e ∈ esi, EOk i e) ∧ esi.length ≤ 801 ∧ totE i esi ≤ 1000 ∧ done ++ levT F (40 - i) i esi = levT F 40 0 es ∧ LevOk F kv (40 - i) i esi)
      (fun H3 e3 => ⟨[], [], ia, xs, es, none, none, none, none, none, none, none, rfl, by decide, E2.trans e3, e3 _ _ (e2 _ _ hl1), .nil, (fun c hc => nomatch hc), Nat.le_refl _, e3 _ _ hi2, hD.mono (E2.trans e3), nil2, he, by omega, by rw [totE_0]; omega, rfl, hL⟩) (fun i σ' H' hi hP => ?_) (fun σ' H' hP => ?_)
    · obtain ⟨las, done, ia, us, esi, x4, x5, x6, x7, x8, x9, x10, rfl, hi40, eH, hla', htx, hnl, hll, hia', hud, nil', hei, hli, hti, hlev, hok⟩ := hP
      have hi3 : i < 40 := by omega
      obtain ⟨fu, hfu⟩ : ∃ fu, 40 - i = fu + 1 := ⟨39 - i, by omega⟩
      rw [hfu] at hlev hok
      obtain ⟨hok1, hok2⟩ := hok
      obtain ⟨ga1, ga2, ga3, ga4⟩ := grpL_all (lv := i) (es := esi)
      have hul := hud.len
      refine q_asgL (el_lst ea_nil (by decide)) fun ta H3 hta e3 ht3 => ?_
      refine q_asgL (el_lst ea_nil (by decide)) fun aa H4 haa e4 ha4 => ?_
      have E4 := e3.trans e4
      have EH4 := eH.trans E4
      have nta : ta ≠ aa := ne_of_none ht3 haa
      have haa3 : H' aa = none := fresh_back e3 haa
      refine forl_run (call_run (cons_run (var_run rfl (cons_run (var_run rfl (nil_run ?_))))))
      refine ⟨i, ia, us, esi, rfl, sq_of (E4 _ _ hia'), hud.mono E4, hei, by omega, by omega, fun H5 ga gas e5 hga hgl hgr hgn => ?_⟩
      have E5 := E4.trans e5
      have hgll := hgr.len
      have ng : ∀ {c : Addr} {u : HO}, H4 c = some u → c ∉ gas := fun {c u} hc hm => by
        have := hgn c hm
        rw [hc] at this
        cases this
      have hta5 := e5 _ _ (e4 _ _ ht3)
      have haa5 := e5 _ _ ha4
      have nga : ga ≠ ta ∧ ga ≠ aa := ⟨(ne_of_none (e4 _ _ ht3) hga).symm, (ne_of_none ha4 hga).symm⟩
      have ht00 : H ta = none := fresh_back eH hta
      have ha00 : H aa = none := fresh_back eH haa3
      refine q_forL (K := K) (xs := gas.map V.ref) ev_c (sq_of hgl) (fun j σ6 H6 => ∃ (avs : List V) (x7 x8 x9 x10 : Option V), σ6 = [some (.ref b), some (.ref a), some (.ref la), some (.ref ia), some (.int (i : Int)), some (.ref ta), some (.ref aa), x7, x8, x9, x10] ∧ But [ta, aa] H5 H6 ∧ H6 ta = some (.lst ((((grpL i esi).take j).map fun g => txtI (nodeI i g)).map V.str)) ∧ H6 aa = some (.lst avs) ∧ DvL K H6 avs (abv F i ((grpL i esi).take j)))
        (fun H6 e6 => ⟨[], _, _, _, _, rfl, But.of e6, e6 _ _ hta5, e6 _ _ haa5, .nil⟩) (fun j σ6 H6 _ hQ => ?_) (fun j x σ6 H6 hx hQ => ?_) (fun σ6 H6 hQ => ?_)
      · obtain ⟨_, _, _, _, _, _, f6, _⟩ := hQ
        exact sq_of (f6 _ _ hgl (by simp [nga.1, nga.2]))
      · obtain ⟨avs, x7, x8, x9, x10, rfl, f6, ht6, ha6, hav6⟩ := hQ
        rw [List.getElem?_map] at hx
        cases eg : gas[j]? with
        | none => rw [eg] at hx; cases hx
        | some gad =>
          rw [eg] at hx
          obtain rfl : V.ref gad = x := Option.some.inj hx
          obtain ⟨gus, g, hgj, hg5, hgd⟩ := hgr.at eg
          have hgm := List.mem_of_getElem? hgj
          have hgmem := List.mem_of_getElem? eg
          have ngt : gad ≠ ta ∧ gad ≠ aa := ⟨fun z => ng (e4 _ _ ht3) (by rw [← z]; exact hgmem), fun z => ng ha4 (by rw [← z]; exact hgmem)⟩
          have u6 : ExU H5 H6 := f6.u fun c hc u hu hn => by
            simp only [List.mem_cons, List.not_mem_nil, or_false] at hc
            rcases hc with rfl | rfl
            · rw [hta5] at hu; obtain rfl := Option.some.inj hu
              rcases hn with ⟨_, z⟩ | ⟨_, _, z⟩ <;> cases z
            · rw [haa5] at hu; obtain rfl := Option.some.inj hu
              rcases hn with ⟨_, z⟩ | ⟨_, _, z⟩ <;> cases z
          have hg6 := f6 _ _ hg5 (by simp [ngt.1, ngt.2])
          have hgd6 := hgd.monoU u6
          have hge : ∀ e ∈ g, EOk i e := fun e hx => hei e (by rw [← ga1]; exact List.mem_flatten.mpr ⟨g, hgm, hx⟩)
          have hg8 := ga2 g hgm
          have hgo : GOk i g := ⟨hge, hg8, by omega⟩
          obtain ⟨r1, r2⟩ := rows_ok hge hg8
          have hjl := (List.getElem?_eq_some_iff.mp hgj).1
          have hgul := hgd.len
          obtain ⟨⟨bx, hb1⟩, hb2⟩ := id hB
          have hb6 : H6 b = some (.ins T.C_Book bx (aF d)) := f6 _ _ (e5 _ _ (EH4 _ _ hb1)) (by simp; exact ⟨ne_of_none hb1 ht00, ne_of_none hb1 ha00⟩)
          have hd6 : H6 d = some (.dK (bkL 1 F)) := f6 _ _ (e5 _ _ (EH4 _ _ hb2)) (by simp; exact ⟨ne_of_none hb2 ht00, ne_of_none hb2 ha00⟩)
          have etk : (grpL i esi).take (j + 1) = (grpL i esi).take j ++ [g] := by rw [List.take_add_one, hgj] <;> rfl
          refine q_asg (v := .str (txtI (rowsI g))) (enc_evI (K := K) (ds := [.str (Str.ofString "rows"), .tup g]) (eai_cons (ei_ev ev_c (.str _)) (eai_cons (ei_tupL (ev_var rfl) (sq_of hg6) hgd6) eai_nil)) r1 (by show 2 ≤ 1000; decide) (Nat.le_trans r2 (by decide))) fun H7 e7 => ?_
          refine q_asg (ev_lenQ (K := K) (ev_var rfl) (sq_of (e7 _ _ hg6))) fun H8 e8 => ?_
          have E8 := e7.trans e8
          refine q_cut (M := fun σ9 H9 => σ9 = [some (.ref b), some (.ref a), some (.ref la), some (.ref ia), some (.int (i : Int)), some (.ref ta), some (.ref aa), some (.ref gad), some (.str (txtI (nodeI i g))), some (.int (totE i g)), x10] ∧ Ex H8 H9) ?_ fun σ9 H9 hM => ?_
          · cases i with
            | zero =>
              refine s_when (b := decide (((0 : Nat) : Int) > 0)) (et_gt 4 rfl) (fun hb => absurd hb (by decide)) fun _ H9 e9 => ⟨?_, e9⟩
              rw [totE_0, ← hgul] <;> rfl
            | succ n =>
              refine s_when (b := decide (((n + 1 : Nat) : Int) > 0)) (et_gt 4 rfl) (fun _ H9 e9 => ?_) (fun hb => absurd (decide_eq_true (show ((n + 1 : Nat) : Int) > 0 by omega)) (by rw [hb]; exact Bool.false_ne_true))
              have E9 := E8.trans e9
              refine q_asg (v := .str (txtI (nodeI (n + 1) g))) (enc_evI (K := K) (ds := [.str (Str.ofString "node"), .int ((n + 1 : Nat) : Int), .tup g]) (eai_cons (ei_ev ev_c (.str _)) (eai_cons (ei_ev (ev_var rfl) (.int _)) (eai_cons (ei_tupL (ev_var rfl) (sq_of (E9 _ _ hg6)) (hgd6.mono E9)) eai_nil))) (hgo.fit (by decide)) (by show 3 ≤ 1000; decide) (Nat.le_trans hgo.size (by decide))) fun H10 e10 => ?_
              have E10 := E9.trans e10
              have hgd10 := hgd6.mono E10
              refine s_asg (ev_sumN (ns := g.map (cntE (n + 1))) (el_mapL (K := K) (ev_var rfl) (sq_of (E10 _ _ hg6)) (by omega) (fun x => rfl) (by rw [List.length_map, List.length_map, hgul]) fun k x y hx hy H11 e11 => ?_) rfl) fun H11 e11 => ⟨rfl, (e9.trans e10).trans e11⟩
              obtain ⟨dd, hdd, hvv⟩ := dvl_get hgd10 hx
              rw [List.getElem?_map, List.getElem?_map, hdd] at hy
              have ho := hge dd (List.mem_of_getElem? hdd)
              obtain ⟨k0, r0, ee0, h0⟩ := ho.sh
              obtain ⟨a0, c0, rfl⟩ := h0 (by omega)
              subst ee0
              obtain ⟨pz, zs, rfl, hz1, hz2⟩ := dv_tup hvv
              obtain ⟨z0, zs, rfl, _, hz2⟩ := dvl_cons hz2
              obtain ⟨z1, zs, rfl, _, hz2⟩ := dvl_cons hz2
              obtain ⟨z2, zs, rfl, hz3, hz2⟩ := dvl_cons hz2
              obtain rfl := dv_int hz3
              rw [← (Option.some.inj hy : _ = y)]
              exact ev_ixT (K := K) (ev_var rfl) ev_c (ex_t e11 hz1) (at_nat (j := 2) rfl)
          · obtain ⟨rfl, e9⟩ := hM
            have E9 := E8.trans e9
            have htl : ((((grpL i esi).take j).map fun g => txtI (nodeI i g)).map V.str).length < 100000 := by rw [List.length_map, List.length_map, List.length_take]; omega
            refine q_app (K := K) (E9 _ _ ht6) (ev_var rfl) (ev_var rfl) htl fun H10 e10 => ?_
            have E10 := E9.trans e10
            have ht10 := E10 _ _ ht6
            have u11 := exu_upd (o := .lst ((((grpL i esi).take j).map fun g => txtI (nodeI i g)).map V.str ++ [.str (txtI (nodeI i g))])) ht10
            have b11 : But [ta, aa] H10 (upd H10 ta (.lst ((((grpL i esi).take j).map fun g => txtI (nodeI i g)).map V.str ++ [.str (txtI (nodeI i g))]))) := But.put List.mem_cons_self
            have htn : (upd H10 ta (.lst ((((grpL i esi).take j).map fun g => txtI (nodeI i g)).map V.str ++ [.str (txtI (nodeI i g))]))) ta = some (.lst ((((grpL i esi).take (j + 1)).map fun g => txtI (nodeI i g)).map V.str)) := by rw [upd_same, etk, List.map_append, List.map_append] <;> rfl
            have han : (upd H10 ta (.lst ((((grpL i esi).take j).map fun g => txtI (nodeI i g)).map V.str ++ [.str (txtI (nodeI i g))]))) aa = some (.lst avs) := by rw [upd_ne nta.symm]; exact E10 _ _ ha6
            have hg11 : (upd H10 ta (.lst ((((grpL i esi).take j).map fun g => txtI (nodeI i g)).map V.str ++ [.str (txtI (nodeI i g))]))) gad = some (.lst gus) := by rw [upd_ne ngt.1]; exact E10 _ _ hg6
            have hb11 : (upd H10 ta (.lst ((((grpL i esi).take j).map fun g => txtI (nodeI i g)).map V.str ++ [.str (txtI (nodeI i g))]))) b = some (.ins T.C_Book bx (aF d)) := by rw [upd_ne (ne_of (E10 _ _ hb6) ht10 (by intro z; cases z))]; exact E10 _ _ hb6
            have hd11 : (upd H10 ta (.lst ((((grpL i esi).take j).map fun g => txtI (nodeI i g)).map V.str ++ [.str (txtI (nodeI i g))]))) d = some (.dK (bkL 1 F)) := by rw [upd_ne (ne_of (E10 _ _ hd6) ht10 (by intro z; cases z))]; exact E10 _ _ hd6
            have hav11 := (hav6.mono E10).monoU u11
            have hgd11 := (hgd6.mono E10).monoU u11
            have f11 := (f6.trans (But.of E10)).trans b11
            generalize upd H10 ta (.lst ((((grpL i esi).take j).map fun g => txtI (nodeI i g)).map V.str ++ [.str (txtI (nodeI i g))])) = H11 at htn han hg11 hb11 hd11 hav11 hgd11 f11 ⊢
            refine s_when (b := !gus.isEmpty) (et_tru (K := K) (ev_var rfl) (sq_of hg11)) (fun hb H12 e12 => ?_) (fun hb H12 e12 => ?_)
            · have hgne : g ≠ [] := fun z => by
                subst z
                obtain rfl := dvl_nil hgd
                cases hb
              obtain ⟨g0, z, rfl⟩ : ∃ g0 z, g = g0 ++ [z] := ⟨g.dropLast, g.getLast hgne, (List.dropLast_concat_getLast hgne).symm⟩
              have ez : (g0 ++ [z]).getLastD .non = z := by simp
              have hl2 : gus.length = g0.length + 1 := by rw [hgul, List.length_append, List.length_singleton]
              obtain ⟨v, hv, hvz⟩ : ∃ v, gus[g0.length]? = some v ∧ Dv K H11 v z := by
                have hl3 : g0.length < gus.length := by omega
                refine ⟨gus[g0.length], List.getElem?_eq_getElem hl3, ?_⟩
                exact hgd11.at (List.getElem?_eq_getElem hl3) (by rw [List.getElem?_append_right (Nat.le_refl _), Nat.sub_self] <;> rfl)
              obtain ⟨k0, rr, ek, _⟩ := (hge z (by simp)).sh
              subst ek
              obtain ⟨pz, zs, rfl, hz1, hz2⟩ := dv_tup hvz
              obtain ⟨kv0, zs, rfl, hk0, _⟩ := dvl_cons hz2
              have hat : atI gus (-1) = some (.ref pz) := by
                unfold atI ixN
                rw [if_neg (by decide), if_pos (by omega), hl2]
                show gus[((-1 : Int) + ((g0.length + 1 : Nat) : Int)).toNat]? = _
                rw [show ((-1 : Int) + ((g0.length + 1 : Nat) : Int)).toNat = g0.length from by omega]
                exact hv
              have hinF := (hok1 _ hgm).1
              have hfind : Ev (tMeth T.C_Book (Str.ofString "find") (spBkF T.C_Book) [] E0 (tVar 0) (tCons (tVar 8) tNil)) [some (.ref b), some (.ref a), some (.ref la), some (.ref ia), some (.int (i : Int)), some (.ref ta), some (.ref aa), some (.ref gad), some (.str (txtI (nodeI i (g0 ++ [.tup (k0 :: rr)])))), some (.int (totE i (g0 ++ [.tup (k0 :: rr)]))), x10] H12 (.int (adF F (txtI (nodeI i (g0 ++ [.tup (k0 :: rr)]))))) := fun H13 e13 Q q => ⟨_, rfl, b, bx, _, rfl, e13 _ _ (e12 _ _ hb11), aF_no d (by decide +kernel), cons_run (var_run rfl (nil_run ⟨b, d, bkL 1 F, _, rfl, ⟨⟨bx, e13 _ _ (e12 _ _ hb11)⟩, e13 _ _ (e12 _ _ hd11)⟩, by rw [getK_bk hinF]; exact q H13 (Ex.refl _)⟩))⟩
              have habl : avs.length < 100000 := by rw [hav6.len]; unfold abv; rw [List.length_map]; have := List.length_filter_le (fun g : List It => !g.isEmpty) ((grpL i esi).take j); rw [List.length_take] at this; omega
              refine app_run (j := 6) (e12 _ _ han) rfl (ei_run (K := K) (d := upF F i (g0 ++ [.tup (k0 :: rr)])) (ei_tup (eai_cons (ei_ev (ev_ixT (K := K) (ev_ixL (K := K) (ev_var rfl) (ev_un ev_c ru_neg) (sq_of (e12 _ _ hg11)) hat) ev_c (ex_t e12 hz1) (at_nat (j := 0) rfl)) (by rw [ez]; exact hk0.mono e12)) (eai_cons (ei_ev hfind (.int _)) (eai_cons (ei_ev (ev_var rfl) (.int _)) eai_nil))) (by show 3 ≤ 100000; decide)) fun v H13 e13 hv13 => app_end (e13 _ _ (e12 _ _ han)) (sz_lt habl) ?_)
              have E13 := e12.trans e13
              have ha13 := E13 _ _ han
              refine ⟨avs ++ [v], _, _, _, _, rfl, (f11.trans (But.of E13)).trans (But.put (List.mem_cons_of_mem _ List.mem_cons_self)), by rw [upd_ne nta]; exact E13 _ _ htn, upd_same, ?_⟩
              have eab : abv F i ((grpL i esi).take (j + 1)) = abv F i ((grpL i esi).take j) ++ [upF F i (g0 ++ [.tup (k0 :: rr)])] := by
                unfold abv
                rw [etk, List.filter_append, List.map_append]
                congr 1
                rw [List.filter_cons_of_pos (by simp)] <;> rfl
              rw [eab]
              exact ((hav11.mono E13).app (.cons hv13 .nil)).monoU (exu_upd ha13)
            · have hge0 : g = [] := by
                have : gus = [] := List.isEmpty_iff.mp (by simpa using hb)
                exact List.eq_nil_of_length_eq_zero (by rw [← hgul, this] <;> rfl)
              subst hge0
              refine ⟨avs, _, _, _, _, rfl, f11.trans (But.of e12), e12 _ _ htn, e12 _ _ han, ?_⟩
              have eab : abv F i ((grpL i esi).take (j + 1)) = abv F i ((grpL i esi).take j) := by
                unfold abv
                rw [etk, List.filter_append, List.map_append]
                simp
              rw [eab]
              exact hav11.mono e12
      · obtain ⟨avs, x7, x8, x9, x10, rfl, f6, ht6, ha6, hav6⟩ := hQ
        rw [List.length_map, hgll, List.take_length] at ht6 hav6
        have hla6 : H6 la = some (.lst (las.map V.ref)) := f6 _ _ (e5 _ _ (E4 _ _ hla')) (by simp; exact ⟨ne_of_none hla' hta, ne_of_none hla' haa3⟩)
        have htx6 : TxL H6 las done := (htx.mono E5).but f6 fun c hc => by
          obtain ⟨k, hk⟩ := List.getElem?_of_mem hc
          obtain ⟨z, _, h2⟩ := htx.at hk
          simp only [List.mem_cons, List.not_mem_nil, or_false, not_or]
          exact ⟨ne_of_none h2 hta, ne_of_none h2 haa3⟩
        have hlt := htx.len
        have ntl : ta ≠ la := (ne_of_none hla' hta).symm
        have nal : aa ≠ la := (ne_of_none hla' haa3).symm
        have EH6 : Ex H H6 := fun c u hc => f6 c u (e5 _ _ (EH4 _ _ hc)) (by simp; exact ⟨ne_of_none hc ht00, ne_of_none hc ha00⟩)
        have hla0 : H la = none := hla
        have htx6t : (((grpL i esi).map fun g => txtI (nodeI i g)).map V.str) = (txL i esi).map V.str := rfl
        rw [htx6t] at ht6
        refine q_app (K := K) hla6 (ev_var rfl) (ev_var rfl) (by rw [List.length_map]; omega) fun H7 e7 => ?_
        have hla7 := e7 _ _ hla6
        have EH8 : Ex H (upd H7 la (.lst (las.map V.ref ++ [.ref ta]))) := (EH6.trans e7).mut hla0
        have hl8 : (upd H7 la (.lst (las.map V.ref ++ [.ref ta]))) la = some (.lst ((las ++ [ta]).map V.ref)) := by rw [upd_same, List.map_append] <;> rfl
        have ht8 : (upd H7 la (.lst (las.map V.ref ++ [.ref ta]))) ta = some (.lst ((txL i esi).map V.str)) := by rw [upd_ne ntl]; exact e7 _ _ ht6
        have ha8 : (upd H7 la (.lst (las.map V.ref ++ [.ref ta]))) aa = some (.lst avs) := by rw [upd_ne nal]; exact e7 _ _ ha6
        have htx8 : TxL (upd H7 la (.lst (las.map V.ref ++ [.ref ta]))) (las ++ [ta]) (done ++ [txL i esi]) := ((htx6.mono e7).upd hnl).app (.cons ht8 .nil)
        have hav8 := (hav6.mono e7).monoU (exu_upd (o := .lst (las.map V.ref ++ [.ref ta])) hla7)
        generalize upd H7 la (.lst (las.map V.ref ++ [.ref ta])) = H8 at EH8 hl8 ht8 ha8 htx8 hav8 ⊢
        have htl8 : ((txL i esi).map V.str).length = (grpL i esi).length := by unfold txL; rw [List.length_map, List.length_map]
        have elv : levT F (fu + 1) i esi = if (grpL i esi).length = 1 then [txL i esi] else txL i esi :: levT F fu (i + 1) ((grpL i esi).map (upF F i)) := rfl
        rw [elv] at hlev
        have fuE : 40 - (i + 1) = fu := by omega
        refine q_when (b := decide ((grpL i esi).length = 1)) (et_is (et_test (ev_eqI (ev_lenQ (K := K) (ev_var rfl) (sq_of ht8)) ev_c)) (by rw [htl8]; exact decide_eq_decide.mpr ⟨fun h => by omega, fun h => by omega⟩)) (fun hb H9 e9 => ?_) (fun hb H9 e9 => ?_)
        · rw [if_pos (of_decide_eq_true hb)] at hlev
          rw [← hlev] at q
          exact ret_run (var_run rfl (q H9 la (las ++ [ta]) (EH8.trans e9) hla0 (e9 _ _ hl8) (htx8.mono e9)))
        · have hn1 := of_decide_eq_false hb
          rw [if_neg hn1] at hlev
          obtain ⟨hes, hok3⟩ := hok2.resolve_left hn1
          have hne := ga3 hes
          have eab : abv F i (grpL i esi) = (grpL i esi).map (upF F i) := by
            unfold abv
            rw [List.filter_eq_self.mpr fun g hg => by
              have := hne g hg
              simpa using this]
          rw [eab] at hav8
          have htot : totE (i + 1) ((grpL i esi).map (upF F i)) = totE i esi := by
            have e1 : ∀ gs : List (List It), totE (i + 1) (gs.map (upF F i)) = totE i gs.flatten := fun gs => by
              induction gs with
              | nil => rfl
              | cons g gs ih =>
                rw [List.flatten_cons, totE_app, List.map_cons]
                show totE i g + totE (i + 1) (gs.map (upF F i)) = _
                rw [ih]
            rw [e1, ga1]
          refine s_asg (ev_var rfl) fun H10 e10 => ⟨las ++ [ta], done ++ [txL i esi], aa, avs, (grpL i esi).map (upF F i), _, _, _, _, _, _, _, rfl, by omega, EH8.trans (e9.trans e10), (e9.trans e10) _ _ hl8, htx8.mono (e9.trans e10), fun c hc => ?_, by rw [List.length_append, List.length_singleton]; omega, (e9.trans e10) _ _ ha8, hav8.mono (e9.trans e10), nal, fun e hx => ?_, ?_, by rw [htot]; exact hti, ?_, by rw [fuE]; exact hok3⟩
          · rcases List.mem_append.mp hc with h | h
            · exact hnl c h
            · rw [List.mem_singleton.mp h]; exact ntl
          · obtain ⟨g, hg, rfl⟩ := List.mem_map.mp hx
            have hge : ∀ e ∈ g, EOk i e := fun e hx => hei e (by rw [← ga1]; exact List.mem_flatten.mpr ⟨g, hg, hx⟩)
            have htg := totE_mem (lv := i) (gs := grpL i esi) (by rw [ga1]; exact hei) g hg
            rw [ga1] at htg
            exact upF_ok (hne g hg) hge (by omega) (hok1 g hg).1 (by omega)
          · rw [List.length_map]
            have hll2 : (grpL i esi).length ≤ esi.length := by
              unfold grpL
              rw [if_neg hes]
              have := grp_len i esi []
              simpa using this
            omega
          · rw [fuE, ← hlev, List.append_assoc] <;> rfl
    · obtain ⟨las, done, ia, us, esi, x4, x5, x6, x7, x8, x9, x10, rfl, _, eH, hla', htx, hnl, hll, hia', hud, nil', hei, hli, hti, hlev, hok⟩ := hP
      exact hok.elim


/-! ### law -/
theorem levT_up {F : List Str} : ∀ {f lv : Nat} {es : List It}, 0 < lv → (levT F f lv es).flatten.length ≤ 4 * es.length + 1
  | 0, _, _, _ => Nat.zero_le _
  | f + 1, lv, es, h => by
    have hg : (grpL lv es).length = 1 ∨ 2 * (grpL lv es).length ≤ es.length + 1 := by
      unfold grpL
      split
      · exact .inl rfl
      · have := grp_half h es []
        simp only [List.length_nil] at this
        omega
    have ht : (txL lv es).length = (grpL lv es).length := by unfold txL; rw [List.length_map]
    unfold levT
    split
    · show ((txL lv es) ++ []).length ≤ _
      rw [List.append_nil]
      omega
    · have ih := levT_up (F := F) (f := f) (lv := lv + 1) (es := (grpL lv es).map (upF F lv)) (Nat.succ_pos _)
      rw [List.length_map] at ih
      rw [List.flatten_cons, List.length_append]
      omega
theorem levT_len {F : List Str} : ∀ {f : Nat} {es : List It}, (levT F f 0 es).flatten.length ≤ 5 * es.length + 1
  | 0, _ => Nat.zero_le _
  | f + 1, es => by
    have hg : (grpL 0 es).length = 1 ∨ (grpL 0 es).length ≤ es.length := by
      unfold grpL
      split
      · exact .inl rfl
      · have := grp_len 0 es []
        simp only [List.length_nil] at this
        omega
    have ht : (txL 0 es).length = (grpL 0 es).length := by unfold txL; rw [List.length_map]
    unfold levT
    split
    · show ((txL 0 es) ++ []).length ≤ _
      rw [List.append_nil]
      omega
    · have ih := levT_up (F := F) (f := f) (lv := 0 + 1) (es := (grpL 0 es).map (upF F 0)) (Nat.succ_pos _)
      rw [List.length_map] at ih
      rw [List.flatten_cons, List.length_append]
      omega
theorem levT_mem {F : List Str} {kv : List (Key × V)} : ∀ {f lv : Nat} {es : List It}, LevOk F kv f lv es → ∀ zs ∈ levT F f lv es, ∀ z ∈ zs, z ∈ F ∧ valV kv (Sum.inl (adF F z) : Key) = some (.str z)
  | 0, _, _, h, _, _, _, _ => h.elim
  | f + 1, lv, es, h, zs, hz, z, hm => by
    obtain ⟨h1, h2⟩ := h
    have htx : ∀ z ∈ txL lv es, z ∈ F ∧ valV kv (Sum.inl (adF F z) : Key) = some (.str z) := fun z hz => by
      unfold txL at hz
      obtain ⟨g, hg, rfl⟩ := List.mem_map.mp hz
      exact h1 g hg
    unfold levT at hz
    split at hz
    · rw [List.mem_singleton.mp hz] at hm
      exact htx z hm
    · rename_i hn
      rcases List.mem_cons.mp hz with e | hz
      · rw [e] at hm
        exact htx z hm
      · exact levT_mem (h2.resolve_left hn).2 zs hz z hm
def spLaw (K : PySem.W.Frag) : Sp := fun vs H Q _ => ∃ (a : Addr) (ns : List Int), vs = [.ref a] ∧ SqL K H a (ns.map V.int) ∧ ns.length ≤ 63 ∧ (∀ z ∈ ns, Builtin.Int.intBits z ≤ 1048576) ∧ ∀ H', Q (.bl true) H'
set_option maxHeartbeats 4000000 in
theorem ok_law (T : Txt K mg P) : FnOk P w K mg base CX0 37 T.f_law T.d_law ["script"] (spLaw K) := by
  refine T.F_law.ok sc_law (fun vs H Q E h => ?_) (fun cdv A outer s H vs Q E hr h => ?_)
  · obtain ⟨a, ns, rfl, _⟩ := h
    rfl
  · obtain ⟨a, ns, rfl, hS, hlen, hbits, q⟩ := h
    have hw : ∀ n ∈ ns, Wd n := fun n hn => Wd.bits (hbits n hn)
    have hu := hu_of hr
    refine ⟨_, pss_cons (ps_set (i := 1) sc_law.nd rfl (by first | exact Or.inl rfl | exact Or.inr rfl) (pe_call (ok_law_draws T) (hr.mono (by first | decide | omega)) (by rfl) T.g_law_draws T.F_law_draws.kp T.b_law_draws .nil pass0 (pa_cons (pe_call (ok_law_cell T) (hr.mono (by first | decide | omega)) (by rfl) T.g_law_cell T.F_law_cell.kp T.b_law_cell .nil pass0 (pa_cons (pv 0) (pa_cons (pe_int) (pa_nil)))) (pa_cons (pe_int) (pa_cons (pe_int) (pa_cons (pe_int) (pa_nil)))))))
      (pss_cons (ps_set (i := 2) sc_law.nd rfl (by first | exact Or.inl rfl | exact Or.inr rfl) (pe_call (ok_law_listed T) (hr.mono (by first | decide | omega)) (by rfl) T.g_law_listed T.F_law_listed.kp T.b_law_listed .nil pass0 (pa_cons (pe_call (ok_law_entries T) (hr.mono (by first | decide | omega)) (by rfl) T.g_law_entries T.F_law_entries.kp T.b_law_entries .nil pass0 (pa_cons (pv 0) (pa_cons (pv 1) (pa_cons (pe_int) (pa_nil))))) (pa_nil))))
      (pss_cons (ps_set (i := 3) sc_law.nd rfl (by first | exact Or.inl rfl | exact Or.inr rfl) (pe_make0 T.mk_Book (ok_Book___init T) (hr.mono (by first | decide | omega)) (by rfl) T.g_Book T.b_Book___init .nil pass0))
      (pss_cons (ps_set (i := 4) sc_law.nd rfl (by first | exact Or.inl rfl | exact Or.inr rfl) (pe_make T.mk_Chunks (ok_Chunks___init T) (hr.mono (by first | decide | omega)) (by rfl) T.g_Chunks T.b_Chunks___init .nil pass0 (pa_cons (pv 3) (pa_nil))))
      (pss_cons (ps_set (i := 5) sc_law.nd rfl (by first | exact Or.inl rfl | exact Or.inr rfl) (pe_call (ok_build T) (hr.mono (by first | decide | omega)) (by rfl) T.g_build T.F_build.kp T.b_build .nil pass0 (pa_cons (pv 4) (pa_cons (pe_callTy call_list_of (by rfl) T.m_list (by decide +kernel) (pa_cons (pv 2) (pa_nil))) (pa_nil)))))
      (pss_cons (ps_set (i := 6) sc_law.nd rfl (by first | exact Or.inl rfl | exact Or.inr rfl) (pe_call (ok_law_levels T) (hr.mono (by first | decide | omega)) (by rfl) T.g_law_levels T.F_law_levels.kp T.b_law_levels .nil pass0 (pa_cons (pv 3) (pa_cons (pv 2) (pa_nil)))))
      (pss_cons (ps_set (i := 7) sc_law.nd rfl (by first | exact Or.inl rfl | exact Or.inr rfl) (pe_lst (pa_nil)))
      (pss_cons (ps_for PassesOwn.never rfl (pi_list (pv 6)) (pg_name (i := 8) sc_law.nd rfl (by first | exact Or.inl rfl | exact Or.inr rfl))
      (pss_one (ps_for PassesOwn.never rfl (pi_list (pv 8)) (pg_name (i := 9) sc_law.nd rfl (by first | exact Or.inl rfl | exact Or.inr rfl))
      (pss_cons (ps_set (i := 10) sc_law.nd rfl (by first | exact Or.inl rfl | exact Or.inr rfl) (pe_meth (pv 3) T.cl_Book T.me_Book_find (ok_Book_find T) (hr.mono (by first | decide | omega)) T.b_Book_find .nil pass0 (pa_cons (pv 9) (pa_nil))))
      (pss_cons (ps_if (PW.pt (pw_or (pt_not (pt_val (pe_meth (pv 4) T.cl_Chunks T.me_Chunks_has (ok_Chunks_has T) (hr.mono (by first | decide | omega)) T.b_Chunks_has .nil pass0 (pa_cons (pv 10) (pa_nil))))) (pw_or1 (pt_cmpR op_ne (pe_meth (pv 4) T.cl_Chunks T.me_Chunks_get (ok_Chunks_get T) (hr.mono (by first | decide | omega)) T.b_Chunks_get .nil pass0 (pa_cons (pv 10) (pa_nil))) (pv 9) (nomark _)))))
      (pss_one (ps_ret (pe_bl)))
      (pss_nil))
      (pss_one (ps_expr (pe_bm PySem.F.plainAttrs_list PySem.F.slot_list_append PySem.F.type_list_append mt_append (pv 7) (pa_cons (pv 10) (pa_nil))))))))))
      (pss_cons (ps_if (PW.pt (pw_or (pt_not (pt_val (pe_call (ok_law_same T) (hr.mono (by first | decide | omega)) (by rfl) T.g_law_same T.F_law_same.kp T.b_law_same .nil pass0 (pa_cons (pv 5) (pa_cons (pe_ix (r := rIxL K) ix_list (pv 7) (pe_un un_neg (pe_int)) (fun _ _ => rfl)) (pa_nil)))))) (pw_or1 (pt_not (pt_val (pe_call (ok_law_same T) (hr.mono (by first | decide | omega)) (by rfl) T.g_law_same T.F_law_same.kp T.b_law_same .nil pass0 (pa_cons (pe_call (ok_height T) (hr.mono (by first | decide | omega)) (by rfl) T.g_height T.F_height.kp T.b_height .nil pass0 (pa_cons (pv 4) (pa_cons (pv 5) (pa_nil)))) (pa_cons (pe_callB (r := rLenQ K) call_len_seq (by rfl) T.m_len (by decide +kernel) (pa_cons (pv 6) (pa_nil))) (pa_nil)))))))))
      (pss_one (ps_ret (pe_bl)))
      (pss_nil))
      (pss_one (ps_ret (pe_call (ok_law_same_list T) (hr.mono (by first | decide | omega)) (by rfl) T.g_law_same_list T.F_law_same_list.kp T.b_law_same_list .nil pass0 (pa_cons (pe_call (ok_reachable T) (hr.mono (by first | decide | omega)) (by rfl) T.g_reachable T.F_reachable.kp T.b_reachable .nil pass0 (pa_cons (pv 4) (pa_cons (pv 5) (pa_nil)))) (pa_cons (pe_callB (r := rSortedI K) cr_sortedI (by rfl) T.m_sorted (by decide +kernel) (pa_cons (pv 7) (pa_nil))) (pa_nil)))))))))))))), ?_⟩
    have c0 : Wd (cellZ ns 0) := Wd.cell hw 0
    refine q_asgL (xs := (draws (cellZ ns 0) 0 5 1000).map V.int) (el_call (ea_cons (ev_call (ea_cons (ev_var rfl) (ea_cons ev_c ea_nil)) (cv_cell (k := 0) hS)) (ea_cons ev_c (ea_cons ev_c (ea_cons ev_c ea_nil)))) (cl_draws (count := 5) c0 (by decide) (by decide) (by decide) (by decide))) fun hd H1 hh0 e1 hh => ?_
    have gl := draws_len (cellZ ns 0) 0 5 1000
    have gw := draws_ok (salt := 0) c0 (show (0 : Int) < 1000 by decide) (Wd.lit (by decide)) 5
    generalize draws (cellZ ns 0) 0 5 1000 = gs at hh gl gw
    refine q_asgK (call_run (cons_run (call_run (cons_run (var_run rfl (cons_run (var_run rfl (cons_run (c_run (nil_run ?_))))))))))
    refine ⟨a, hd, 1, ns, gs, rfl, ex_l e1 hS, hw, sq_of hh, gl, gw, by decide, fun H2 q2 sh kvs e2 hq2 hsh hsl hkl hnd hen => nil_run ?_⟩
    refine ⟨q2, sh, kvs, rfl, hq2, hsh, hsl, hkl, hnd, hen, fun H3 r us es e3 hr3 hus hud hel heo _ => ?_⟩
    refine q_asgK (mk_bookW fun b d H4 e4 hb4 nb nd => ?_)
    refine q_asgK (mk_chunksW (ev_var rfl) fun p t H5 e5 hc5 np nt npt => ?_)
    have dt : d ≠ t := ne_of_none hb4.2 nt
    have bp : b ≠ p := ne_of_none hb4.1.choose_spec np
    have st5 : StW T.C_Chunks T.C_Book H5 p b t d 0 ([], []) 0 := ⟨hc5, hb4.mono e5, dt, bp, List.nodup_nil, by decide, by decide, con_nil _⟩
    have hus5 := (e4.trans e5) _ _ hus
    refine q_asgK (call_run (cons_run (var_run rfl (cons_run (cb_run (cons_run (var_run rfl (nil_run ⟨r, us, rfl, .inl (sq_of hus5), fun ha hha => nil_run ?_⟩))))))))
    have e6 := Ex.new (o := .lst us) hha
    have hh6 := upd_same (H := H5) (a := ha) (o := .lst us)
    generalize upd H5 ha (.lst us) = H6 at e6 hh6
    have E36 := (e4.trans e5).trans e6
    have hud6 : DvL K H6 us es := hud.mono E36
    have hus6 := E36 _ _ hus
    refine ⟨p, b, t, d, 0, ([], []), 0, ha, us, es, rfl, st5.mono e6, by omega, by omega, sq_of hh6, hud6, heo, fun H7 st7 f7 => ?_⟩
    obtain ⟨h, g, l, kv1, kg, ks, kp, kh, klo, pre, kpre, kla⟩ := buildZ_lev (s := ([], [])) (es := es) List.nodup_nil (con_nil _) heo (by omega) (by decide)
    generalize buildZ ([], []) es = bz at st7 kv1 ks kp kh klo kpre kla
    obtain ⟨⟨F, kv⟩, rt⟩ := bz
    have kv1 : valV kv (Sum.inl rt : Key) = some (.str (txtI (nodeI h g))) := kv1
    have ks : SubL (SubA kv h) g l := ks
    have kp : (rt :: l).Perm ((levT F 40 0 es).flatten.map (adF F)) := kp
    have kh : h + 1 = (levT F 40 0 es).length := kh
    have klo : LevOk F kv 40 0 es := klo
    have kpre : (levT F 40 0 es).flatten = pre ++ [txtI (nodeI h g)] := kpre
    have kla : rt = adF F (txtI (nodeI h g)) := kla
    have st6 := st5.mono e6
    have u7 := st6.u (fun c hc => by simp only [List.mem_cons, List.not_mem_nil, or_false] at hc; exact .inr hc) f7
    have hus7 := f7 _ _ hus6 (st6.nl hus6).1
    have hud7 := hud6.monoU u7
    have hFl := st7.lz
    have hFl : F.length ≤ 0 + 5 * es.length + 1 := hFl
    refine q_asgK (call_run (cons_run (var_run rfl (cons_run (var_run rfl (nil_run ?_))))))
    refine ⟨b, d, r, us, es, F, kv, rfl, st7.bk, sq_of hus7, hud7, heo, by omega, by omega, klo, fun H8 ql las e8 hql hl8 htx => ?_⟩
    have hmem := levT_mem klo
    have hTl := levT_len (F := F) (f := 40) (es := es)
    generalize levT F 40 0 es = LV at htx kp kh kpre hmem hTl
    refine q_asgL (el_lst ea_nil (by decide)) fun ad H9 had e9 ha9 => ?_
    have st9 := (st7.mono e8).mono e9
    have hl9 := e9 _ _ hl8
    have htx9 := htx.mono e9
    have hLl := htx.len
    obtain ⟨⟨px0, hp9⟩, ht9⟩ := id st9.ck
    obtain ⟨⟨bx0, hb9⟩, hd9⟩ := id st9.bk
    have nad : ∀ {c : Addr} {u : HO}, H8 c = some u → c ≠ ad := fun hc => ne_of_none hc had
    have n8 : p ≠ ad ∧ b ≠ ad ∧ t ≠ ad ∧ d ≠ ad := by
      obtain ⟨⟨px1, a1⟩, a2⟩ := id (st7.mono e8).ck
      obtain ⟨⟨bx1, a3⟩, a4⟩ := id (st7.mono e8).bk
      exact ⟨nad a1, nad a3, nad a2, nad a4⟩
    have hbk : ∀ {H' : Hp}, But [p, ad] H9 H' → BkAt T.C_Book H' b d (bkL 1 F) := fun f => ⟨⟨bx0, f _ _ hb9 (by simp; exact ⟨bp, n8.2.1⟩)⟩, f _ _ hd9 (by simp; exact ⟨st9.ne.2.1.symm, n8.2.2.2⟩)⟩
    have hlst : ∀ {H' : Hp} {c : Addr} {xs : List V}, But [p, ad] H9 H' → H9 c = some (.lst xs) → c ≠ ad → H' c = some (.lst xs) := fun f hc hn => f _ _ hc (by simp; exact ⟨ne_of hc hp9 (by intro z; cases z), hn⟩)
    refine q_forL (K := K) (xs := las.map V.ref) (ev_var rfl) (sq_of hl9) (fun i σ' H' => ∃ (r1 : Int) (x8 x9 x10 : Option V), σ' = [some (.ref a), some (.ref hd), some (.ref r), some (.ref b), some (.ref p), some (.int rt), some (.ref ql), some (.ref ad), x8, x9, x10] ∧ CkAt T.C_Chunks H' p b t r1 kv ∧ But [p, ad] H9 H' ∧ H' ad = some (.lst (((LV.take i).flatten.map (adF F)).map V.int)))
      (fun H10 e10 => ⟨0, none, none, none, rfl, st9.ck.mono e10, But.of e10, e10 _ _ ha9⟩) (fun i σ' H' _ hP => ?_) (fun i x σ' H' hx hP => ?_) (fun σ' H' hP => ?_)
    · obtain ⟨_, _, _, _, _, _, f, _⟩ := hP
      exact sq_of (hlst f hl9 (nad hl8))
    · obtain ⟨r1, x8, x9, x10, rfl, hc1, f1, ha1⟩ := hP
      rw [List.getElem?_map] at hx
      cases el : las[i]? with
      | none => rw [el] at hx; cases hx
      | some la =>
        rw [el] at hx
        obtain rfl : V.ref la = x := Option.some.inj hx
        obtain ⟨zs, hzs, hla⟩ := htx.at el
        have hzm := List.mem_of_getElem? hzs
        have nla := nad hla
        have hla9 := e9 _ _ hla
        have etk : LV.take (i + 1) = LV.take i ++ [zs] := by rw [List.take_add_one, hzs] <;> rfl
        have hlen1 : ((LV.take i).flatten).length + zs.length ≤ 4840 := by
          have h1 : (LV.take (i + 1)).flatten.length ≤ LV.flatten.length := by
            have : LV.flatten = (LV.take (i + 1)).flatten ++ (LV.drop (i + 1)).flatten := by rw [← List.flatten_append, List.take_append_drop]
            rw [this, List.length_append]
            omega
          rw [etk, List.flatten_append, List.length_append] at h1
          have e0 : ([zs] : List (List Str)).flatten = zs := by simp
          rw [e0] at h1
          omega
        refine s_forL (K := K) (xs := zs.map V.str) (ev_var rfl) (sq_of (hlst f1 hla9 nla)) (fun j σ6 H6 => ∃ (r2 : Int) (x9 x10 : Option V), σ6 = [some (.ref a), some (.ref hd), some (.ref r), some (.ref b), some (.ref p), some (.int rt), some (.ref ql), some (.ref ad), some (.ref la), x9, x10] ∧ CkAt T.C_Chunks H6 p b t r2 kv ∧ But [p, ad] H9 H6 ∧ H6 ad = some (.lst ((((LV.take i).flatten ++ zs.take j).map (adF F)).map V.int)))
          (fun H6 e6 => ⟨r1, _, _, rfl, hc1.mono e6, f1.trans (But.of e6), by rw [List.take_zero, List.append_nil]; exact e6 _ _ ha1⟩) (fun j σ6 H6 _ hQ => ?_) (fun j x σ6 H6 hx hQ => ?_) (fun σ6 H6 hQ => ?_)
        · obtain ⟨_, _, _, _, _, f, _⟩ := hQ
          exact sq_of (hlst f hla9 nla)
        · obtain ⟨r2, x9, x10, rfl, hc2, f2, ha2⟩ := hQ
          rw [List.getElem?_map] at hx
          cases ez : zs[j]? with
          | none => rw [ez] at hx; cases hx
          | some z =>
            rw [ez] at hx
            obtain rfl : V.str z = x := Option.some.inj hx
            obtain ⟨hzF, hzv⟩ := hmem zs hzm z (List.mem_of_getElem? ez)
            have hbk2 := hbk f2
            have hfind : Ev (tMeth T.C_Book (Str.ofString "find") (spBkF T.C_Book) [] E0 (tVar 3) (tCons (tVar 9) tNil)) [some (.ref a), some (.ref hd), some (.ref r), some (.ref b), some (.ref p), some (.int rt), some (.ref ql), some (.ref ad), some (.ref la), some (.str z), x10] H6 (.int (adF F z)) := fun H13 e13 Q q => by
              obtain ⟨⟨bx, hb⟩, hdd⟩ := hbk2.mono e13
              exact ⟨_, rfl, b, bx, _, rfl, hb, aF_no d (by decide +kernel), cons_run (var_run rfl (nil_run ⟨b, d, bkL 1 F, _, rfl, ⟨⟨bx, hb⟩, hdd⟩, by rw [getK_bk hzF]; exact q H13 (Ex.refl _)⟩))⟩
            refine q_asg hfind fun H10 e10 => ?_
            have hc10 := hc2.mono e10
            obtain ⟨⟨px, hp10⟩, ht10⟩ := id hc10
            refine ifs_run (or_run (not_run (b_run ⟨_, rfl, p, px, _, rfl, hp10, cF_no b r2 t (by decide +kernel) (by decide +kernel) (by decide +kernel), cons_run (var_run rfl (nil_run ?_))⟩)))
            refine ⟨p, b, t, r2, adF F z, kv, rfl, hc10, ?_⟩
            rw [hzv]
            refine ⟨true, rfl, iteF ?_⟩
            refine op_run ⟨_, rfl, p, px, _, rfl, hp10, cF_no b r2 t (by decide +kernel) (by decide +kernel) (by decide +kernel), cons_run (var_run rfl (nil_run ?_))⟩
            refine ⟨p, b, t, r2, adF F z, kv, .str z, rfl, hc10, hzv, fun H11 hc11 f11 => var_run rfl ⟨rfl, false, by simp, iteF ?_⟩⟩
            have ha11 : H11 ad = some (.lst ((((LV.take i).flatten ++ zs.take j).map (adF F)).map V.int)) := f11 _ _ (e10 _ _ ha2) (by simp; exact n8.1.symm)
            have f11' : But [p, ad] H9 H11 := (f2.trans (But.of e10)).trans (f11.sub (by simp))
            have hjl := (List.getElem?_eq_some_iff.mp ez).1
            refine s_app (K := K) ha11 (ev_var rfl) (ev_var rfl) (by rw [List.length_map, List.length_map, List.length_append, List.length_take]; omega) fun H12 e12 => ?_
            have ha12 := e12 _ _ ha11
            refine ⟨r2 + 1, _, _, rfl, (hc11.mono e12).lst (S := [ad]) (But.put List.mem_cons_self) fun c hcc => by rw [List.mem_singleton.mp hcc]; exact .inr ⟨_, ha12⟩, (f11'.trans (But.of e12)).trans (But.put (List.mem_cons_of_mem _ List.mem_cons_self)), ?_⟩
            have e2 : zs.take (j + 1) = zs.take j ++ [z] := by rw [List.take_add_one, ez] <;> rfl
            rw [upd_same, e2]
            simp only [List.map_append, List.append_assoc, List.map_cons, List.map_nil]
        · obtain ⟨r2, x9, x10, rfl, hc2, f2, ha2⟩ := hQ
          rw [List.length_map, List.take_length] at ha2
          refine ⟨r2, _, _, _, rfl, hc2, f2, ?_⟩
          rw [etk, List.flatten_append]
          have e0 : ([zs] : List (List Str)).flatten = zs := by simp
          rw [e0]
          exact ha2
    · obtain ⟨r1, x8, x9, x10, rfl, hc1, f1, ha1⟩ := hP
      rw [List.length_map, hLl, List.take_length] at ha1
      have hl1 := hlst f1 hl9 (nad hl8)
      have hlast : ((LV.flatten.map (adF F)).map V.int) = ((pre.map (adF F)).map V.int) ++ [V.int rt] := by rw [kpre, List.map_append, List.map_append, kla] <;> rfl
      have hfr : It.fit 13 (.int rt) := by
        have : rt = adF F (txtI (nodeI h g)) := kla
        refine small_fit ?_
        have hmm : txtI (nodeI h g) ∈ LV.flatten := by rw [kpre]; exact List.mem_append_right _ (List.mem_singleton.mpr rfl)
        obtain ⟨zs, h1, h2⟩ := List.mem_flatten.mp hmm
        have hz := posZ_lt (hmem zs h1 _ h2).1
        unfold adF at this
        omega
      refine ifs_run (or_run (not_run (b_run (ev_run (ev_call (ea_cons (ev_var rfl) (ea_cons (ev_ixL (K := K) (ev_var rfl) (ev_un ev_c ru_neg) (sq_of ha1) (by rw [hlast]; exact last_at)) ea_nil)) (cv_same (K := K) (.int rt) (.int rt) hfr)) fun H10 e10 => ⟨true, rfl, iteF (not_run (b_run (call_run (cons_run (call_run (cons_run (var_run rfl (cons_run (var_run rfl (nil_run ?_))))))))))⟩))))
      refine ⟨p, b, t, r1, rt, kv, h, g, rfl, hc1.mono e10, kv1, kg, fun H11 r2 hc11 f11 => cons_run (ev_run (ev_lenQ (K := K) (ev_var rfl) (sq_of (f11 _ _ (e10 _ _ hl1) (by simp; exact ne_of (e10 _ _ hl1) (hc1.mono e10).1.choose_spec (by intro z; cases z))))) fun H12 e12 => nil_run ?_)⟩
      have hlv := kg.lv
      refine ⟨_, _, .int ((h + 1 : Nat) : Int), rfl, .int _, ?_, small_fit (by omega), fun H13 e13 => ⟨true, rfl, iteF ?_⟩⟩
      · rw [List.length_map, hLl, ← kh]
        exact .int _
      have ha13 : H13 ad = some (.lst ((LV.flatten.map (adF F)).map V.int)) := e13 _ _ (e12 _ _ (f11 _ _ (e10 _ _ ha1) (by simp; exact n8.1.symm)))
      have hpl := kp.length_eq
      rw [List.length_cons, List.length_map] at hpl
      refine ret_run (call_run (cons_run (call_run (cons_run (var_run rfl (cons_run (var_run rfl (nil_run ?_))))))))
      refine ⟨p, b, t, r2, rt, kv, h, g, l, rfl, (hc11.mono e12).mono e13, kv1, kg, ks, by omega, fun H14 r3 q3 ys hc14 f14 hq3 hy14 hyp hys => cons_run (cb_run (cons_run (var_run rfl (nil_run ⟨ad, LV.flatten.map (adF F), rfl, sq_of (f14 _ _ ha13 (by simp; exact n8.1.symm)), fun ys2 q4 hp2 hs2 hq4 => nil_run ?_⟩))))⟩
      have eqy : ys2 = ys := (hp2.trans (kp.symm.trans hyp.symm)).eq_of_pairwise (fun a b _ _ h1 h2 => Int.le_antisymm h1 h2) hs2 hys
      subst eqy
      have hyl := hp2.length_eq
      rw [List.length_map] at hyl
      exact ⟨q3, q4, _, _, ys2.map It.int, rfl, sq_of ((Ex.new hq4) _ _ hy14), dvl_intsW, sq_of upd_same, dvl_intsW, fun e he => by
        obtain ⟨y, hy, rfl⟩ := List.mem_map.mp he
        have hm := hp2.mem_iff.mp hy
        obtain ⟨z, hz, rfl⟩ := List.mem_map.mp hm
        obtain ⟨zs, h1, h2⟩ := List.mem_flatten.mp hz
        have h3 := posZ_lt (hmem zs h1 z h2).1
        exact small_fit (by unfold adF; omega), by rw [List.length_map]; omega, fun H15 _ => q H15⟩


end

theorem all_mk {l : PySem.W.OpenLaw} {w : World} {K : PySem.W.Frag} {h : Heap} {mg : Str → Option Value} {fa C_Book C_Chunks C_MissingChunk C_VersionError f_Book___init f_Chunks_get f_Book_find f_Chunks___init f_Chunks_has f_law_cell f_law_draws f_law_dense_place f_law_integer f_law_char f_law_text f_law_value f_law_drawn_place f_law_shape f_law_thing f_law_digest f_law_written f_law_same f_Book_address f_Chunks_put f_encode f_digest f_ends_chunk f_sign_at f_end_of_digits f_read_integer f_read_text f_read_tuple f_read_item f_decode_prefix f_decode f_chunk_address f_count_entries f_read_chunk f_read_pieces f_open_piece f_put_chunk f_pack_level f_join f_build f_height f_reachable f_law_rest f_law_entries f_law_listed f_law_same_list f_law_groups f_law_levels f_law : Addr} (X : K.In h) (G : h.Ns mainGlobals mg) (hfa : mg "law" = some (.ref fa))
    {f_MissingChunk___init cc_MissingChunk___init ca_MissingChunk___init : Addr} {od_MissingChunk___init an_MissingChunk___init : Option Addr} {sl_MissingChunk___init : Array (Option Value)} {oc_MissingChunk___init kV_MissingChunk___init dc_MissingChunk___init pm_MissingChunk___init ct_MissingChunk___init : Value}
    {od_Book___init an_Book___init : Option Addr} {sl_Book___init : Array (Option Value)} {oc_Book___init kV_Book___init dc_Book___init pm_Book___init cd_Book___init ct_Book___init : Value}
    {od_Chunks_get an_Chunks_get : Option Addr} {sl_Chunks_get : Array (Option Value)} {oc_Chunks_get kV_Chunks_get dc_Chunks_get pm_Chunks_get cd_Chunks_get ct_Chunks_get : Value}
    {od_Book_find an_Book_find : Option Addr} {sl_Book_find : Array (Option Value)} {oc_Book_find kV_Book_find dc_Book_find pm_Book_find cd_Book_find ct_Book_find : Value}
    {od_Chunks___init an_Chunks___init : Option Addr} {sl_Chunks___init : Array (Option Value)} {oc_Chunks___init kV_Chunks___init dc_Chunks___init pm_Chunks___init cd_Chunks___init ct_Chunks___init : Value}
    {od_Chunks_has an_Chunks_has : Option Addr} {sl_Chunks_has : Array (Option Value)} {oc_Chunks_has kV_Chunks_has dc_Chunks_has pm_Chunks_has cd_Chunks_has ct_Chunks_has : Value}
    {od_law_cell an_law_cell : Option Addr} {sl_law_cell : Array (Option Value)} {oc_law_cell kV_law_cell dc_law_cell pm_law_cell cd_law_cell ct_law_cell : Value}
    {od_law_draws an_law_draws : Option Addr} {sl_law_draws : Array (Option Value)} {oc_law_draws kV_law_draws dc_law_draws pm_law_draws cd_law_draws ct_law_draws : Value}
    {od_law_dense_place an_law_dense_place : Option Addr} {sl_law_dense_place : Array (Option Value)} {oc_law_dense_place kV_law_dense_place dc_law_dense_place pm_law_dense_place cd_law_dense_place ct_law_dense_place : Value}
    {od_law_integer an_law_integer : Option Addr} {sl_law_integer : Array (Option Value)} {oc_law_integer kV_law_integer dc_law_integer pm_law_integer cd_law_integer ct_law_integer : Value}
    {od_law_char an_law_char : Option Addr} {sl_law_char : Array (Option Value)} {oc_law_char kV_law_char dc_law_char pm_law_char cd_law_char ct_law_char : Value}
    {od_law_text an_law_text : Option Addr} {sl_law_text : Array (Option Value)} {oc_law_text kV_law_text dc_law_text pm_law_text cd_law_text ct_law_text : Value}
    {od_law_value an_law_value : Option Addr} {sl_law_value : Array (Option Value)} {oc_law_value kV_law_value dc_law_value pm_law_value cd_law_value ct_law_value : Value}
    {od_law_drawn_place an_law_drawn_place : Option Addr} {sl_law_drawn_place : Array (Option Value)} {oc_law_drawn_place kV_law_drawn_place dc_law_drawn_place pm_law_drawn_place cd_law_drawn_place ct_law_drawn_place : Value}
    {od_law_shape an_law_shape : Option Addr} {sl_law_shape : Array (Option Value)} {oc_law_shape kV_law_shape dc_law_shape pm_law_shape cd_law_shape ct_law_shape : Value}
    {od_law_thing an_law_thing : Option Addr} {sl_law_thing : Array (Option Value)} {oc_law_thing kV_law_thing dc_law_thing pm_law_thing cd_law_thing ct_law_thing : Value}
    {od_law_digest an_law_digest : Option Addr} {sl_law_digest : Array (Option Value)} {oc_law_digest kV_law_digest dc_law_digest pm_law_digest cd_law_digest ct_law_digest : Value}
    {od_law_written an_law_written : Option Addr} {sl_law_written : Array (Option Value)} {oc_law_written kV_law_written dc_law_written pm_law_written cd_law_written ct_law_written : Value}
    {od_law_same an_law_same : Option Addr} {sl_law_same : Array (Option Value)} {oc_law_same kV_law_same dc_law_same pm_law_same cd_law_same ct_law_same : Value}
    {od_Book_address an_Book_address : Option Addr} {sl_Book_address : Array (Option Value)} {oc_Book_address kV_Book_address dc_Book_address pm_Book_address cd_Book_address ct_Book_address : Value}
    {od_Chunks_put an_Chunks_put : Option Addr} {sl_Chunks_put : Array (Option Value)} {oc_Chunks_put kV_Chunks_put dc_Chunks_put pm_Chunks_put cd_Chunks_put ct_Chunks_put : Value}
    {od_encode an_encode : Option Addr} {sl_encode : Array (Option Value)} {oc_encode kV_encode dc_encode pm_encode cd_encode ct_encode : Value}
    {od_digest an_digest : Option Addr} {sl_digest : Array (Option Value)} {oc_digest kV_digest dc_digest pm_digest cd_digest ct_digest : Value}
    {od_ends_chunk an_ends_chunk : Option Addr} {sl_ends_chunk : Array (Option Value)} {oc_ends_chunk kV_ends_chunk dc_ends_chunk pm_ends_chunk cd_ends_chunk ct_ends_chunk : Value}
    {od_sign_at an_sign_at : Option Addr} {sl_sign_at : Array (Option Value)} {oc_sign_at kV_sign_at dc_sign_at pm_sign_at cd_sign_at ct_sign_at : Value}
    {od_end_of_digits an_end_of_digits : Option Addr} {sl_end_of_digits : Array (Option Value)} {oc_end_of_digits kV_end_of_digits dc_end_of_digits pm_end_of_digits cd_end_of_digits ct_end_of_digits : Value}
    {od_read_integer an_read_integer : Option Addr} {sl_read_integer : Array (Option Value)} {oc_read_integer kV_read_integer dc_read_integer pm_read_integer cd_read_integer ct_read_integer : Value}
    {od_read_text an_read_text : Option Addr} {sl_read_text : Array (Option Value)} {oc_read_text kV_read_text dc_read_text pm_read_text cd_read_text ct_read_text : Value}
    {od_read_tuple an_read_tuple : Option Addr} {sl_read_tuple : Array (Option Value)} {oc_read_tuple kV_read_tuple dc_read_tuple pm_read_tuple cd_read_tuple ct_read_tuple : Value}
    {od_read_item an_read_item : Option Addr} {sl_read_item : Array (Option Value)} {oc_read_item kV_read_item dc_read_item pm_read_item cd_read_item ct_read_item : Value}
    {od_decode_prefix an_decode_prefix : Option Addr} {sl_decode_prefix : Array (Option Value)} {oc_decode_prefix kV_decode_prefix dc_decode_prefix pm_decode_prefix cd_decode_prefix ct_decode_prefix : Value}
    {od_decode an_decode : Option Addr} {sl_decode : Array (Option Value)} {oc_decode kV_decode dc_decode pm_decode cd_decode ct_decode : Value}
    {od_chunk_address an_chunk_address : Option Addr} {sl_chunk_address : Array (Option Value)} {oc_chunk_address kV_chunk_address dc_chunk_address pm_chunk_address cd_chunk_address ct_chunk_address : Value}
    {od_count_entries an_count_entries : Option Addr} {sl_count_entries : Array (Option Value)} {oc_count_entries kV_count_entries dc_count_entries pm_count_entries cd_count_entries ct_count_entries : Value}
    {od_read_chunk an_read_chunk : Option Addr} {sl_read_chunk : Array (Option Value)} {oc_read_chunk kV_read_chunk dc_read_chunk pm_read_chunk cd_read_chunk ct_read_chunk : Value}
    {od_read_pieces an_read_pieces : Option Addr} {sl_read_pieces : Array (Option Value)} {oc_read_pieces kV_read_pieces dc_read_pieces pm_read_pieces cd_read_pieces ct_read_pieces : Value}
    {od_open_piece an_open_piece : Option Addr} {sl_open_piece : Array (Option Value)} {oc_open_piece kV_open_piece dc_open_piece pm_open_piece cd_open_piece ct_open_piece : Value}
    {od_put_chunk an_put_chunk : Option Addr} {sl_put_chunk : Array (Option Value)} {oc_put_chunk kV_put_chunk dc_put_chunk pm_put_chunk cd_put_chunk ct_put_chunk : Value}
    {od_pack_level an_pack_level : Option Addr} {sl_pack_level : Array (Option Value)} {oc_pack_level kV_pack_level dc_pack_level pm_pack_level cd_pack_level ct_pack_level : Value}
    {od_join an_join : Option Addr} {sl_join : Array (Option Value)} {oc_join kV_join dc_join pm_join cd_join ct_join : Value}
    {od_build an_build : Option Addr} {sl_build : Array (Option Value)} {oc_build kV_build dc_build pm_build cd_build ct_build : Value}
    {od_height an_height : Option Addr} {sl_height : Array (Option Value)} {oc_height kV_height dc_height pm_height cd_height ct_height : Value}
    {od_reachable an_reachable : Option Addr} {sl_reachable : Array (Option Value)} {oc_reachable kV_reachable dc_reachable pm_reachable cd_reachable ct_reachable : Value}
    {od_law_rest an_law_rest : Option Addr} {sl_law_rest : Array (Option Value)} {oc_law_rest kV_law_rest dc_law_rest pm_law_rest cd_law_rest ct_law_rest : Value}
    {od_law_entries an_law_entries : Option Addr} {sl_law_entries : Array (Option Value)} {oc_law_entries kV_law_entries dc_law_entries pm_law_entries cd_law_entries ct_law_entries : Value}
    {od_law_listed an_law_listed : Option Addr} {sl_law_listed : Array (Option Value)} {oc_law_listed kV_law_listed dc_law_listed pm_law_listed cd_law_listed ct_law_listed : Value}
    {od_law_same_list an_law_same_list : Option Addr} {sl_law_same_list : Array (Option Value)} {oc_law_same_list kV_law_same_list dc_law_same_list pm_law_same_list cd_law_same_list ct_law_same_list : Value}
    {od_law_groups an_law_groups : Option Addr} {sl_law_groups : Array (Option Value)} {oc_law_groups kV_law_groups dc_law_groups pm_law_groups cd_law_groups ct_law_groups : Value}
    {od_law_levels an_law_levels : Option Addr} {sl_law_levels : Array (Option Value)} {oc_law_levels kV_law_levels dc_law_levels pm_law_levels cd_law_levels ct_law_levels : Value}
    {od_law an_law : Option Addr} {sl_law : Array (Option Value)} {oc_law kV_law dc_law pm_law cd_law ct_law : Value}
    {t_MOST_LEVELS : Tok}
    {t_MOST_DIGITS : Tok}
    {t_MOST_LENGTH_DIGITS : Tok}
    {t_MOST_ENTRIES : Tok}
    (aC_Book : PySem.W.nsIn K mainGlobals "Book" = some (some (.ref C_Book))) (pg_Book : PySem.W.plainGet K C_Book Str.empty = true) (hd_Book : PySem.W.hasDictIn K C_Book = true) (po_Book : PySem.W.plainOver K C_Book = true) (sa_Book : PySem.W.findIn K (.ref C_Book) "__setattr__" = some (some (.builtin "object.__setattr__"))) (mk_Book : PySem.W.makesIn K C_Book = true) (kc_Book : PySem.W.keepIn K (.ref C_Book) = true)
    (na_Book__addresses : PySem.W.findIn K (.ref C_Book) "_addresses" = some none)
    (aC_Chunks : PySem.W.nsIn K mainGlobals "Chunks" = some (some (.ref C_Chunks))) (pg_Chunks : PySem.W.plainGet K C_Chunks Str.empty = true) (hd_Chunks : PySem.W.hasDictIn K C_Chunks = true) (po_Chunks : PySem.W.plainOver K C_Chunks = true) (sa_Chunks : PySem.W.findIn K (.ref C_Chunks) "__setattr__" = some (some (.builtin "object.__setattr__"))) (mk_Chunks : PySem.W.makesIn K C_Chunks = true) (kc_Chunks : PySem.W.keepIn K (.ref C_Chunks) = true)
    (na_Chunks_book : PySem.W.findIn K (.ref C_Chunks) "book" = some none)
    (na_Chunks_reads : PySem.W.findIn K (.ref C_Chunks) "reads" = some none)
    (na_Chunks__texts : PySem.W.findIn K (.ref C_Chunks) "_texts" = some none)
    (ax_MissingChunk : PySem.W.nsIn K mainGlobals "MissingChunk" = some (some (.ref C_MissingChunk)))
    (xo_MissingChunk : oexB K C_MissingChunk = true)
    (xz_MissingChunk : PySem.W.findIn K (.ref C_MissingChunk) "__setattr__" = some (some (.builtin "object.__setattr__")))
    (xk_MissingChunk : PySem.W.keepIn K (.ref C_MissingChunk) = true)
    (xb_MissingChunk : PySem.W.subIn K (.ref C_MissingChunk) (.type "BaseException") = some true)
    (xt_MissingChunk : PySem.W.typeIn K (.ref C_MissingChunk) = some (.type "type"))
    (xs_MissingChunk : PySem.W.subIn K (.ref C_MissingChunk) (.ref C_MissingChunk) = some true)
    (xg_MissingChunk : PySem.W.findIn K (.ref C_MissingChunk) "__getattribute__" = some (some (.builtin "BaseException.__getattribute__")))
    (xq_MissingChunk : PySem.W.findIn K (.ref C_MissingChunk) "__getattr__" = some none)
    (xd_MissingChunk : PySem.W.hasDictIn K C_MissingChunk = true)
    (xa_MissingChunk : PySem.W.findIn K (.ref C_MissingChunk) "__class__" = some (some (.builtin "object.__class__")))
    (xn_MissingChunk : PySem.W.specialIn K (.builtin "object.__class__") "__get__" = some (some (.builtin "getset_descriptor.__get__")))
    (xi_MissingChunk : PySem.W.takesIn K (.builtin "object.__class__") = some true)
    (xm_MissingChunk : PySem.W.mroIn K C_MissingChunk (.type "object") = some true)
    (xv_MissingChunk : PySem.W.kitOne K (.ref C_MissingChunk) (.type "ValueError") = some true)
    (ni_MissingChunk : PySem.W.findIn K (.ref C_MissingChunk) "__init__" = some (some (.ref f_MissingChunk___init)))
    (na_MissingChunk : PySem.W.findIn K (.ref C_MissingChunk) "address" = some none)
    (nl_MissingChunk : K.lookup f_MissingChunk___init = some ⟨oc_MissingChunk___init, od_MissingChunk___init, .func (PySem.W.fnX "__init__" "MissingChunk.__init__" (defArgs s_MissingChunk___init) (defBody s_MissingChunk___init) (defScope s_MissingChunk___init) [(Str.ofString "__class__", cc_MissingChunk___init)] .none kV_MissingChunk___init dc_MissingChunk___init pm_MissingChunk___init an_MissingChunk___init (.ref ca_MissingChunk___init) ct_MissingChunk___init), sl_MissingChunk___init⟩)
    (nc_MissingChunk : PySem.W.codeIn K (.ref ca_MissingChunk___init) "MissingChunk.__init__" = true)
    (nt_MissingChunk : PySem.W.typeIn K (.ref f_MissingChunk___init) = some (.type "function"))
    (nb_MissingChunk : supB K l.prog C_MissingChunk cc_MissingChunk___init ca_MissingChunk___init = true)
    (ns_MissingChunk : PySem.W.ks_superIn K C_MissingChunk C_MissingChunk "__init__" = some (some (.builtin "ValueError.__init__")))
    (np_MissingChunk : PySem.W.nsIn K cStatics "thirdparty.any" = some none)
    (nm_MissingChunk : PySem.W.mroIn K C_MissingChunk (.ref C_MissingChunk) = some true)
    (nv_MissingChunk : PySem.W.subIn K (.ref C_MissingChunk) (.type "ValueError") = some true)
    (ay_VersionError : PySem.W.nsIn K mainGlobals "VersionError" = some (some (.ref C_VersionError)))
    (kp_MissingChunk_VersionError : PySem.W.kitOne K (.ref C_MissingChunk) (.ref C_VersionError) = some true)
    (a_Book___init : PySem.W.findIn K (.ref C_Book) "__init__" = some (some (.ref f_Book___init))) (i_Book___init : PySem.W.isFn K (.ref f_Book___init) = true) (l_Book___init : K.lookup f_Book___init = some ⟨oc_Book___init, od_Book___init, .func (PySem.W.fnOf "__init__" "Book.__init__" (defArgs s_Book___init) (defBody s_Book___init) (defScope s_Book___init) .none kV_Book___init dc_Book___init pm_Book___init an_Book___init cd_Book___init ct_Book___init), sl_Book___init⟩) (c_Book___init : PySem.W.codeIn K cd_Book___init "Book.__init__" = true) (k_Book___init : PySem.W.keepIn K (.ref f_Book___init) = true)
    (a_Chunks_get : PySem.W.findIn K (.ref C_Chunks) "get" = some (some (.ref f_Chunks_get))) (i_Chunks_get : PySem.W.isFn K (.ref f_Chunks_get) = true) (l_Chunks_get : K.lookup f_Chunks_get = some ⟨oc_Chunks_get, od_Chunks_get, .func (PySem.W.fnOf "get" "Chunks.get" (defArgs s_Chunks_get) (defBody s_Chunks_get) (defScope s_Chunks_get) .none kV_Chunks_get dc_Chunks_get pm_Chunks_get an_Chunks_get cd_Chunks_get ct_Chunks_get), sl_Chunks_get⟩) (c_Chunks_get : PySem.W.codeIn K cd_Chunks_get "Chunks.get" = true) (k_Chunks_get : PySem.W.keepIn K (.ref f_Chunks_get) = true)
    (a_Book_find : PySem.W.findIn K (.ref C_Book) "find" = some (some (.ref f_Book_find))) (i_Book_find : PySem.W.isFn K (.ref f_Book_find) = true) (l_Book_find : K.lookup f_Book_find = some ⟨oc_Book_find, od_Book_find, .func (PySem.W.fnOf "find" "Book.find" (defArgs s_Book_find) (defBody s_Book_find) (defScope s_Book_find) .none kV_Book_find dc_Book_find pm_Book_find an_Book_find cd_Book_find ct_Book_find), sl_Book_find⟩) (c_Book_find : PySem.W.codeIn K cd_Book_find "Book.find" = true) (k_Book_find : PySem.W.keepIn K (.ref f_Book_find) = true)
    (a_Chunks___init : PySem.W.findIn K (.ref C_Chunks) "__init__" = some (some (.ref f_Chunks___init))) (i_Chunks___init : PySem.W.isFn K (.ref f_Chunks___init) = true) (l_Chunks___init : K.lookup f_Chunks___init = some ⟨oc_Chunks___init, od_Chunks___init, .func (PySem.W.fnOf "__init__" "Chunks.__init__" (defArgs s_Chunks___init) (defBody s_Chunks___init) (defScope s_Chunks___init) .none kV_Chunks___init dc_Chunks___init pm_Chunks___init an_Chunks___init cd_Chunks___init ct_Chunks___init), sl_Chunks___init⟩) (c_Chunks___init : PySem.W.codeIn K cd_Chunks___init "Chunks.__init__" = true) (k_Chunks___init : PySem.W.keepIn K (.ref f_Chunks___init) = true)
    (a_Chunks_has : PySem.W.findIn K (.ref C_Chunks) "has" = some (some (.ref f_Chunks_has))) (i_Chunks_has : PySem.W.isFn K (.ref f_Chunks_has) = true) (l_Chunks_has : K.lookup f_Chunks_has = some ⟨oc_Chunks_has, od_Chunks_has, .func (PySem.W.fnOf "has" "Chunks.has" (defArgs s_Chunks_has) (defBody s_Chunks_has) (defScope s_Chunks_has) .none kV_Chunks_has dc_Chunks_has pm_Chunks_has an_Chunks_has cd_Chunks_has ct_Chunks_has), sl_Chunks_has⟩) (c_Chunks_has : PySem.W.codeIn K cd_Chunks_has "Chunks.has" = true) (k_Chunks_has : PySem.W.keepIn K (.ref f_Chunks_has) = true)
    (a_law_cell : PySem.W.nsIn K mainGlobals "_law_cell" = some (some (.ref f_law_cell))) (l_law_cell : K.lookup f_law_cell = some ⟨oc_law_cell, od_law_cell, .func (PySem.W.fnOf "_law_cell" "_law_cell" (defArgs s_law_cell) (defBody s_law_cell) (defScope s_law_cell) .none kV_law_cell dc_law_cell pm_law_cell an_law_cell cd_law_cell ct_law_cell), sl_law_cell⟩) (c_law_cell : PySem.W.codeIn K cd_law_cell "_law_cell" = true) (k_law_cell : PySem.W.keepIn K (.ref f_law_cell) = true)
    (a_law_draws : PySem.W.nsIn K mainGlobals "_law_draws" = some (some (.ref f_law_draws))) (l_law_draws : K.lookup f_law_draws = some ⟨oc_law_draws, od_law_draws, .func (PySem.W.fnOf "_law_draws" "_law_draws" (defArgs s_law_draws) (defBody s_law_draws) (defScope s_law_draws) .none kV_law_draws dc_law_draws pm_law_draws an_law_draws cd_law_draws ct_law_draws), sl_law_draws⟩) (c_law_draws : PySem.W.codeIn K cd_law_draws "_law_draws" = true) (k_law_draws : PySem.W.keepIn K (.ref f_law_draws) = true)
    (a_law_dense_place : PySem.W.nsIn K mainGlobals "_law_dense_place" = some (some (.ref f_law_dense_place))) (l_law_dense_place : K.lookup f_law_dense_place = some ⟨oc_law_dense_place, od_law_dense_place, .func (PySem.W.fnOf "_law_dense_place" "_law_dense_place" (defArgs s_law_dense_place) (defBody s_law_dense_place) (defScope s_law_dense_place) .none kV_law_dense_place dc_law_dense_place pm_law_dense_place an_law_dense_place cd_law_dense_place ct_law_dense_place), sl_law_dense_place⟩) (c_law_dense_place : PySem.W.codeIn K cd_law_dense_place "_law_dense_place" = true) (k_law_dense_place : PySem.W.keepIn K (.ref f_law_dense_place) = true)
    (a_law_integer : PySem.W.nsIn K mainGlobals "_law_integer" = some (some (.ref f_law_integer))) (l_law_integer : K.lookup f_law_integer = some ⟨oc_law_integer, od_law_integer, .func (PySem.W.fnOf "_law_integer" "_law_integer" (defArgs s_law_integer) (defBody s_law_integer) (defScope s_law_integer) .none kV_law_integer dc_law_integer pm_law_integer an_law_integer cd_law_integer ct_law_integer), sl_law_integer⟩) (c_law_integer : PySem.W.codeIn K cd_law_integer "_law_integer" = true) (k_law_integer : PySem.W.keepIn K (.ref f_law_integer) = true)
    (a_law_char : PySem.W.nsIn K mainGlobals "_law_char" = some (some (.ref f_law_char))) (l_law_char : K.lookup f_law_char = some ⟨oc_law_char, od_law_char, .func (PySem.W.fnOf "_law_char" "_law_char" (defArgs s_law_char) (defBody s_law_char) (defScope s_law_char) .none kV_law_char dc_law_char pm_law_char an_law_char cd_law_char ct_law_char), sl_law_char⟩) (c_law_char : PySem.W.codeIn K cd_law_char "_law_char" = true) (k_law_char : PySem.W.keepIn K (.ref f_law_char) = true)
    (a_law_text : PySem.W.nsIn K mainGlobals "_law_text" = some (some (.ref f_law_text))) (l_law_text : K.lookup f_law_text = some ⟨oc_law_text, od_law_text, .func (PySem.W.fnOf "_law_text" "_law_text" (defArgs s_law_text) (defBody s_law_text) (defScope s_law_text) .none kV_law_text dc_law_text pm_law_text an_law_text cd_law_text ct_law_text), sl_law_text⟩) (c_law_text : PySem.W.codeIn K cd_law_text "_law_text" = true) (k_law_text : PySem.W.keepIn K (.ref f_law_text) = true)
    (a_law_value : PySem.W.nsIn K mainGlobals "_law_value" = some (some (.ref f_law_value))) (l_law_value : K.lookup f_law_value = some ⟨oc_law_value, od_law_value, .func (PySem.W.fnOf "_law_value" "_law_value" (defArgs s_law_value) (defBody s_law_value) (defScope s_law_value) .none kV_law_value dc_law_value pm_law_value an_law_value cd_law_value ct_law_value), sl_law_value⟩) (c_law_value : PySem.W.codeIn K cd_law_value "_law_value" = true) (k_law_value : PySem.W.keepIn K (.ref f_law_value) = true)
    (a_law_drawn_place : PySem.W.nsIn K mainGlobals "_law_drawn_place" = some (some (.ref f_law_drawn_place))) (l_law_drawn_place : K.lookup f_law_drawn_place = some ⟨oc_law_drawn_place, od_law_drawn_place, .func (PySem.W.fnOf "_law_drawn_place" "_law_drawn_place" (defArgs s_law_drawn_place) (defBody s_law_drawn_place) (defScope s_law_drawn_place) .none kV_law_drawn_place dc_law_drawn_place pm_law_drawn_place an_law_drawn_place cd_law_drawn_place ct_law_drawn_place), sl_law_drawn_place⟩) (c_law_drawn_place : PySem.W.codeIn K cd_law_drawn_place "_law_drawn_place" = true) (k_law_drawn_place : PySem.W.keepIn K (.ref f_law_drawn_place) = true)
    (a_law_shape : PySem.W.nsIn K mainGlobals "_law_shape" = some (some (.ref f_law_shape))) (l_law_shape : K.lookup f_law_shape = some ⟨oc_law_shape, od_law_shape, .func (PySem.W.fnOf "_law_shape" "_law_shape" (defArgs s_law_shape) (defBody s_law_shape) (defScope s_law_shape) .none kV_law_shape dc_law_shape pm_law_shape an_law_shape cd_law_shape ct_law_shape), sl_law_shape⟩) (c_law_shape : PySem.W.codeIn K cd_law_shape "_law_shape" = true) (k_law_shape : PySem.W.keepIn K (.ref f_law_shape) = true)
    (a_law_thing : PySem.W.nsIn K mainGlobals "_law_thing" = some (some (.ref f_law_thing))) (l_law_thing : K.lookup f_law_thing = some ⟨oc_law_thing, od_law_thing, .func (PySem.W.fnOf "_law_thing" "_law_thing" (defArgs s_law_thing) (defBody s_law_thing) (defScope s_law_thing) .none kV_law_thing dc_law_thing pm_law_thing an_law_thing cd_law_thing ct_law_thing), sl_law_thing⟩) (c_law_thing : PySem.W.codeIn K cd_law_thing "_law_thing" = true) (k_law_thing : PySem.W.keepIn K (.ref f_law_thing) = true)
    (a_law_digest : PySem.W.nsIn K mainGlobals "_law_digest" = some (some (.ref f_law_digest))) (l_law_digest : K.lookup f_law_digest = some ⟨oc_law_digest, od_law_digest, .func (PySem.W.fnOf "_law_digest" "_law_digest" (defArgs s_law_digest) (defBody s_law_digest) (defScope s_law_digest) .none kV_law_digest dc_law_digest pm_law_digest an_law_digest cd_law_digest ct_law_digest), sl_law_digest⟩) (c_law_digest : PySem.W.codeIn K cd_law_digest "_law_digest" = true) (k_law_digest : PySem.W.keepIn K (.ref f_law_digest) = true)
    (a_law_written : PySem.W.nsIn K mainGlobals "_law_written" = some (some (.ref f_law_written))) (l_law_written : K.lookup f_law_written = some ⟨oc_law_written, od_law_written, .func (PySem.W.fnOf "_law_written" "_law_written" (defArgs s_law_written) (defBody s_law_written) (defScope s_law_written) .none kV_law_written dc_law_written pm_law_written an_law_written cd_law_written ct_law_written), sl_law_written⟩) (c_law_written : PySem.W.codeIn K cd_law_written "_law_written" = true) (k_law_written : PySem.W.keepIn K (.ref f_law_written) = true)
    (a_law_same : PySem.W.nsIn K mainGlobals "_law_same" = some (some (.ref f_law_same))) (l_law_same : K.lookup f_law_same = some ⟨oc_law_same, od_law_same, .func (PySem.W.fnOf "_law_same" "_law_same" (defArgs s_law_same) (defBody s_law_same) (defScope s_law_same) .none kV_law_same dc_law_same pm_law_same an_law_same cd_law_same ct_law_same), sl_law_same⟩) (c_law_same : PySem.W.codeIn K cd_law_same "_law_same" = true) (k_law_same : PySem.W.keepIn K (.ref f_law_same) = true)
    (a_Book_address : PySem.W.findIn K (.ref C_Book) "address" = some (some (.ref f_Book_address))) (i_Book_address : PySem.W.isFn K (.ref f_Book_address) = true) (l_Book_address : K.lookup f_Book_address = some ⟨oc_Book_address, od_Book_address, .func (PySem.W.fnOf "address" "Book.address" (defArgs s_Book_address) (defBody s_Book_address) (defScope s_Book_address) .none kV_Book_address dc_Book_address pm_Book_address an_Book_address cd_Book_address ct_Book_address), sl_Book_address⟩) (c_Book_address : PySem.W.codeIn K cd_Book_address "Book.address" = true) (k_Book_address : PySem.W.keepIn K (.ref f_Book_address) = true)
    (a_Chunks_put : PySem.W.findIn K (.ref C_Chunks) "put" = some (some (.ref f_Chunks_put))) (i_Chunks_put : PySem.W.isFn K (.ref f_Chunks_put) = true) (l_Chunks_put : K.lookup f_Chunks_put = some ⟨oc_Chunks_put, od_Chunks_put, .func (PySem.W.fnOf "put" "Chunks.put" (defArgs s_Chunks_put) (defBody s_Chunks_put) (defScope s_Chunks_put) .none kV_Chunks_put dc_Chunks_put pm_Chunks_put an_Chunks_put cd_Chunks_put ct_Chunks_put), sl_Chunks_put⟩) (c_Chunks_put : PySem.W.codeIn K cd_Chunks_put "Chunks.put" = true) (k_Chunks_put : PySem.W.keepIn K (.ref f_Chunks_put) = true)
    (a_encode : PySem.W.nsIn K mainGlobals "encode" = some (some (.ref f_encode))) (l_encode : K.lookup f_encode = some ⟨oc_encode, od_encode, .func (PySem.W.fnOf "encode" "encode" (defArgs s_encode) (defBody s_encode) (defScope s_encode) .none kV_encode dc_encode pm_encode an_encode cd_encode ct_encode), sl_encode⟩) (c_encode : PySem.W.codeIn K cd_encode "encode" = true) (k_encode : PySem.W.keepIn K (.ref f_encode) = true)
    (a_digest : PySem.W.nsIn K mainGlobals "digest" = some (some (.ref f_digest))) (l_digest : K.lookup f_digest = some ⟨oc_digest, od_digest, .func (PySem.W.fnOf "digest" "digest" (defArgs s_digest) (defBody s_digest) (defScope s_digest) .none kV_digest dc_digest pm_digest an_digest cd_digest ct_digest), sl_digest⟩) (c_digest : PySem.W.codeIn K cd_digest "digest" = true) (k_digest : PySem.W.keepIn K (.ref f_digest) = true)
    (a_ends_chunk : PySem.W.nsIn K mainGlobals "ends_chunk" = some (some (.ref f_ends_chunk))) (l_ends_chunk : K.lookup f_ends_chunk = some ⟨oc_ends_chunk, od_ends_chunk, .func (PySem.W.fnOf "ends_chunk" "ends_chunk" (defArgs s_ends_chunk) (defBody s_ends_chunk) (defScope s_ends_chunk) .none kV_ends_chunk dc_ends_chunk pm_ends_chunk an_ends_chunk cd_ends_chunk ct_ends_chunk), sl_ends_chunk⟩) (c_ends_chunk : PySem.W.codeIn K cd_ends_chunk "ends_chunk" = true) (k_ends_chunk : PySem.W.keepIn K (.ref f_ends_chunk) = true)
    (a_sign_at : PySem.W.nsIn K mainGlobals "_sign_at" = some (some (.ref f_sign_at))) (l_sign_at : K.lookup f_sign_at = some ⟨oc_sign_at, od_sign_at, .func (PySem.W.fnOf "_sign_at" "_sign_at" (defArgs s_sign_at) (defBody s_sign_at) (defScope s_sign_at) .none kV_sign_at dc_sign_at pm_sign_at an_sign_at cd_sign_at ct_sign_at), sl_sign_at⟩) (c_sign_at : PySem.W.codeIn K cd_sign_at "_sign_at" = true) (k_sign_at : PySem.W.keepIn K (.ref f_sign_at) = true)
    (a_end_of_digits : PySem.W.nsIn K mainGlobals "_end_of_digits" = some (some (.ref f_end_of_digits))) (l_end_of_digits : K.lookup f_end_of_digits = some ⟨oc_end_of_digits, od_end_of_digits, .func (PySem.W.fnOf "_end_of_digits" "_end_of_digits" (defArgs s_end_of_digits) (defBody s_end_of_digits) (defScope s_end_of_digits) .none kV_end_of_digits dc_end_of_digits pm_end_of_digits an_end_of_digits cd_end_of_digits ct_end_of_digits), sl_end_of_digits⟩) (c_end_of_digits : PySem.W.codeIn K cd_end_of_digits "_end_of_digits" = true) (k_end_of_digits : PySem.W.keepIn K (.ref f_end_of_digits) = true)
    (a_read_integer : PySem.W.nsIn K mainGlobals "_read_integer" = some (some (.ref f_read_integer))) (l_read_integer : K.lookup f_read_integer = some ⟨oc_read_integer, od_read_integer, .func (PySem.W.fnOf "_read_integer" "_read_integer" (defArgs s_read_integer) (defBody s_read_integer) (defScope s_read_integer) .none kV_read_integer dc_read_integer pm_read_integer an_read_integer cd_read_integer ct_read_integer), sl_read_integer⟩) (c_read_integer : PySem.W.codeIn K cd_read_integer "_read_integer" = true) (k_read_integer : PySem.W.keepIn K (.ref f_read_integer) = true)
    (a_read_text : PySem.W.nsIn K mainGlobals "_read_text" = some (some (.ref f_read_text))) (l_read_text : K.lookup f_read_text = some ⟨oc_read_text, od_read_text, .func (PySem.W.fnOf "_read_text" "_read_text" (defArgs s_read_text) (defBody s_read_text) (defScope s_read_text) .none kV_read_text dc_read_text pm_read_text an_read_text cd_read_text ct_read_text), sl_read_text⟩) (c_read_text : PySem.W.codeIn K cd_read_text "_read_text" = true) (k_read_text : PySem.W.keepIn K (.ref f_read_text) = true)
    (a_read_tuple : PySem.W.nsIn K mainGlobals "_read_tuple" = some (some (.ref f_read_tuple))) (l_read_tuple : K.lookup f_read_tuple = some ⟨oc_read_tuple, od_read_tuple, .func (PySem.W.fnOf "_read_tuple" "_read_tuple" (defArgs s_read_tuple) (defBody s_read_tuple) (defScope s_read_tuple) .none kV_read_tuple dc_read_tuple pm_read_tuple an_read_tuple cd_read_tuple ct_read_tuple), sl_read_tuple⟩) (c_read_tuple : PySem.W.codeIn K cd_read_tuple "_read_tuple" = true) (k_read_tuple : PySem.W.keepIn K (.ref f_read_tuple) = true)
    (a_read_item : PySem.W.nsIn K mainGlobals "_read_item" = some (some (.ref f_read_item))) (l_read_item : K.lookup f_read_item = some ⟨oc_read_item, od_read_item, .func (PySem.W.fnOf "_read_item" "_read_item" (defArgs s_read_item) (defBody s_read_item) (defScope s_read_item) .none kV_read_item dc_read_item pm_read_item an_read_item cd_read_item ct_read_item), sl_read_item⟩) (c_read_item : PySem.W.codeIn K cd_read_item "_read_item" = true) (k_read_item : PySem.W.keepIn K (.ref f_read_item) = true)
    (a_decode_prefix : PySem.W.nsIn K mainGlobals "decode_prefix" = some (some (.ref f_decode_prefix))) (l_decode_prefix : K.lookup f_decode_prefix = some ⟨oc_decode_prefix, od_decode_prefix, .func (PySem.W.fnOf "decode_prefix" "decode_prefix" (defArgs s_decode_prefix) (defBody s_decode_prefix) (defScope s_decode_prefix) .none kV_decode_prefix dc_decode_prefix pm_decode_prefix an_decode_prefix cd_decode_prefix ct_decode_prefix), sl_decode_prefix⟩) (c_decode_prefix : PySem.W.codeIn K cd_decode_prefix "decode_prefix" = true) (k_decode_prefix : PySem.W.keepIn K (.ref f_decode_prefix) = true)
    (a_decode : PySem.W.nsIn K mainGlobals "decode" = some (some (.ref f_decode))) (l_decode : K.lookup f_decode = some ⟨oc_decode, od_decode, .func (PySem.W.fnOf "decode" "decode" (defArgs s_decode) (defBody s_decode) (defScope s_decode) .none kV_decode dc_decode pm_decode an_decode cd_decode ct_decode), sl_decode⟩) (c_decode : PySem.W.codeIn K cd_decode "decode" = true) (k_decode : PySem.W.keepIn K (.ref f_decode) = true)
    (a_chunk_address : PySem.W.nsIn K mainGlobals "_chunk_address" = some (some (.ref f_chunk_address))) (l_chunk_address : K.lookup f_chunk_address = some ⟨oc_chunk_address, od_chunk_address, .func (PySem.W.fnOf "_chunk_address" "_chunk_address" (defArgs s_chunk_address) (defBody s_chunk_address) (defScope s_chunk_address) .none kV_chunk_address dc_chunk_address pm_chunk_address an_chunk_address cd_chunk_address ct_chunk_address), sl_chunk_address⟩) (c_chunk_address : PySem.W.codeIn K cd_chunk_address "_chunk_address" = true) (k_chunk_address : PySem.W.keepIn K (.ref f_chunk_address) = true)
    (a_count_entries : PySem.W.nsIn K mainGlobals "_count_entries" = some (some (.ref f_count_entries))) (l_count_entries : K.lookup f_count_entries = some ⟨oc_count_entries, od_count_entries, .func (PySem.W.fnOf "_count_entries" "_count_entries" (defArgs s_count_entries) (defBody s_count_entries) (defScope s_count_entries) .none kV_count_entries dc_count_entries pm_count_entries an_count_entries cd_count_entries ct_count_entries), sl_count_entries⟩) (c_count_entries : PySem.W.codeIn K cd_count_entries "_count_entries" = true) (k_count_entries : PySem.W.keepIn K (.ref f_count_entries) = true)
    (a_read_chunk : PySem.W.nsIn K mainGlobals "_read_chunk" = some (some (.ref f_read_chunk))) (l_read_chunk : K.lookup f_read_chunk = some ⟨oc_read_chunk, od_read_chunk, .func (PySem.W.fnOf "_read_chunk" "_read_chunk" (defArgs s_read_chunk) (defBody s_read_chunk) (defScope s_read_chunk) .none kV_read_chunk dc_read_chunk pm_read_chunk an_read_chunk cd_read_chunk ct_read_chunk), sl_read_chunk⟩) (c_read_chunk : PySem.W.codeIn K cd_read_chunk "_read_chunk" = true) (k_read_chunk : PySem.W.keepIn K (.ref f_read_chunk) = true)
    (a_read_pieces : PySem.W.nsIn K mainGlobals "read_pieces" = some (some (.ref f_read_pieces))) (l_read_pieces : K.lookup f_read_pieces = some ⟨oc_read_pieces, od_read_pieces, .func (PySem.W.fnOf "read_pieces" "read_pieces" (defArgs s_read_pieces) (defBody s_read_pieces) (defScope s_read_pieces) .none kV_read_pieces dc_read_pieces pm_read_pieces an_read_pieces cd_read_pieces ct_read_pieces), sl_read_pieces⟩) (c_read_pieces : PySem.W.codeIn K cd_read_pieces "read_pieces" = true) (k_read_pieces : PySem.W.keepIn K (.ref f_read_pieces) = true)
    (a_open_piece : PySem.W.nsIn K mainGlobals "open_piece" = some (some (.ref f_open_piece))) (l_open_piece : K.lookup f_open_piece = some ⟨oc_open_piece, od_open_piece, .func (PySem.W.fnOf "open_piece" "open_piece" (defArgs s_open_piece) (defBody s_open_piece) (defScope s_open_piece) .none kV_open_piece dc_open_piece pm_open_piece an_open_piece cd_open_piece ct_open_piece), sl_open_piece⟩) (c_open_piece : PySem.W.codeIn K cd_open_piece "open_piece" = true) (k_open_piece : PySem.W.keepIn K (.ref f_open_piece) = true)
    (a_put_chunk : PySem.W.nsIn K mainGlobals "_put_chunk" = some (some (.ref f_put_chunk))) (l_put_chunk : K.lookup f_put_chunk = some ⟨oc_put_chunk, od_put_chunk, .func (PySem.W.fnOf "_put_chunk" "_put_chunk" (defArgs s_put_chunk) (defBody s_put_chunk) (defScope s_put_chunk) .none kV_put_chunk dc_put_chunk pm_put_chunk an_put_chunk cd_put_chunk ct_put_chunk), sl_put_chunk⟩) (c_put_chunk : PySem.W.codeIn K cd_put_chunk "_put_chunk" = true) (k_put_chunk : PySem.W.keepIn K (.ref f_put_chunk) = true)
    (a_pack_level : PySem.W.nsIn K mainGlobals "_pack_level" = some (some (.ref f_pack_level))) (l_pack_level : K.lookup f_pack_level = some ⟨oc_pack_level, od_pack_level, .func (PySem.W.fnOf "_pack_level" "_pack_level" (defArgs s_pack_level) (defBody s_pack_level) (defScope s_pack_level) .none kV_pack_level dc_pack_level pm_pack_level an_pack_level cd_pack_level ct_pack_level), sl_pack_level⟩) (c_pack_level : PySem.W.codeIn K cd_pack_level "_pack_level" = true) (k_pack_level : PySem.W.keepIn K (.ref f_pack_level) = true)
    (a_join : PySem.W.nsIn K mainGlobals "_join" = some (some (.ref f_join))) (l_join : K.lookup f_join = some ⟨oc_join, od_join, .func (PySem.W.fnOf "_join" "_join" (defArgs s_join) (defBody s_join) (defScope s_join) .none kV_join dc_join pm_join an_join cd_join ct_join), sl_join⟩) (c_join : PySem.W.codeIn K cd_join "_join" = true) (k_join : PySem.W.keepIn K (.ref f_join) = true)
    (a_build : PySem.W.nsIn K mainGlobals "build" = some (some (.ref f_build))) (l_build : K.lookup f_build = some ⟨oc_build, od_build, .func (PySem.W.fnOf "build" "build" (defArgs s_build) (defBody s_build) (defScope s_build) .none kV_build dc_build pm_build an_build cd_build ct_build), sl_build⟩) (c_build : PySem.W.codeIn K cd_build "build" = true) (k_build : PySem.W.keepIn K (.ref f_build) = true)
    (a_height : PySem.W.nsIn K mainGlobals "height" = some (some (.ref f_height))) (l_height : K.lookup f_height = some ⟨oc_height, od_height, .func (PySem.W.fnOf "height" "height" (defArgs s_height) (defBody s_height) (defScope s_height) .none kV_height dc_height pm_height an_height cd_height ct_height), sl_height⟩) (c_height : PySem.W.codeIn K cd_height "height" = true) (k_height : PySem.W.keepIn K (.ref f_height) = true)
    (a_reachable : PySem.W.nsIn K mainGlobals "reachable" = some (some (.ref f_reachable))) (l_reachable : K.lookup f_reachable = some ⟨oc_reachable, od_reachable, .func (PySem.W.fnOf "reachable" "reachable" (defArgs s_reachable) (defBody s_reachable) (defScope s_reachable) .none kV_reachable dc_reachable pm_reachable an_reachable cd_reachable ct_reachable), sl_reachable⟩) (c_reachable : PySem.W.codeIn K cd_reachable "reachable" = true) (k_reachable : PySem.W.keepIn K (.ref f_reachable) = true)
    (a_law_rest : PySem.W.nsIn K mainGlobals "_law_rest" = some (some (.ref f_law_rest))) (l_law_rest : K.lookup f_law_rest = some ⟨oc_law_rest, od_law_rest, .func (PySem.W.fnOf "_law_rest" "_law_rest" (defArgs s_law_rest) (defBody s_law_rest) (defScope s_law_rest) .none kV_law_rest dc_law_rest pm_law_rest an_law_rest cd_law_rest ct_law_rest), sl_law_rest⟩) (c_law_rest : PySem.W.codeIn K cd_law_rest "_law_rest" = true) (k_law_rest : PySem.W.keepIn K (.ref f_law_rest) = true)
    (a_law_entries : PySem.W.nsIn K mainGlobals "_law_entries" = some (some (.ref f_law_entries))) (l_law_entries : K.lookup f_law_entries = some ⟨oc_law_entries, od_law_entries, .func (PySem.W.fnOf "_law_entries" "_law_entries" (defArgs s_law_entries) (defBody s_law_entries) (defScope s_law_entries) .none kV_law_entries dc_law_entries pm_law_entries an_law_entries cd_law_entries ct_law_entries), sl_law_entries⟩) (c_law_entries : PySem.W.codeIn K cd_law_entries "_law_entries" = true) (k_law_entries : PySem.W.keepIn K (.ref f_law_entries) = true)
    (a_law_listed : PySem.W.nsIn K mainGlobals "_law_listed" = some (some (.ref f_law_listed))) (l_law_listed : K.lookup f_law_listed = some ⟨oc_law_listed, od_law_listed, .func (PySem.W.fnOf "_law_listed" "_law_listed" (defArgs s_law_listed) (defBody s_law_listed) (defScope s_law_listed) .none kV_law_listed dc_law_listed pm_law_listed an_law_listed cd_law_listed ct_law_listed), sl_law_listed⟩) (c_law_listed : PySem.W.codeIn K cd_law_listed "_law_listed" = true) (k_law_listed : PySem.W.keepIn K (.ref f_law_listed) = true)
    (a_law_same_list : PySem.W.nsIn K mainGlobals "_law_same_list" = some (some (.ref f_law_same_list))) (l_law_same_list : K.lookup f_law_same_list = some ⟨oc_law_same_list, od_law_same_list, .func (PySem.W.fnOf "_law_same_list" "_law_same_list" (defArgs s_law_same_list) (defBody s_law_same_list) (defScope s_law_same_list) .none kV_law_same_list dc_law_same_list pm_law_same_list an_law_same_list cd_law_same_list ct_law_same_list), sl_law_same_list⟩) (c_law_same_list : PySem.W.codeIn K cd_law_same_list "_law_same_list" = true) (k_law_same_list : PySem.W.keepIn K (.ref f_law_same_list) = true)
    (a_law_groups : PySem.W.nsIn K mainGlobals "_law_groups" = some (some (.ref f_law_groups))) (l_law_groups : K.lookup f_law_groups = some ⟨oc_law_groups, od_law_groups, .func (PySem.W.fnOf "_law_groups" "_law_groups" (defArgs s_law_groups) (defBody s_law_groups) (defScope s_law_groups) .none kV_law_groups dc_law_groups pm_law_groups an_law_groups cd_law_groups ct_law_groups), sl_law_groups⟩) (c_law_groups : PySem.W.codeIn K cd_law_groups "_law_groups" = true) (k_law_groups : PySem.W.keepIn K (.ref f_law_groups) = true)
    (a_law_levels : PySem.W.nsIn K mainGlobals "_law_levels" = some (some (.ref f_law_levels))) (l_law_levels : K.lookup f_law_levels = some ⟨oc_law_levels, od_law_levels, .func (PySem.W.fnOf "_law_levels" "_law_levels" (defArgs s_law_levels) (defBody s_law_levels) (defScope s_law_levels) .none kV_law_levels dc_law_levels pm_law_levels an_law_levels cd_law_levels ct_law_levels), sl_law_levels⟩) (c_law_levels : PySem.W.codeIn K cd_law_levels "_law_levels" = true) (k_law_levels : PySem.W.keepIn K (.ref f_law_levels) = true)
    (a_law : PySem.W.nsIn K mainGlobals "law" = some (some (.ref f_law))) (l_law : K.lookup f_law = some ⟨oc_law, od_law, .func (PySem.W.fnOf "law" "law" (defArgs s_law) (defBody s_law) (defScope s_law) .none kV_law dc_law pm_law an_law cd_law ct_law), sl_law⟩) (c_law : PySem.W.codeIn K cd_law "law" = true) (k_law : PySem.W.keepIn K (.ref f_law) = true)
    (z_ValueError : PySem.W.nsIn K mainGlobals "ValueError" = some none)
    (z_bool : PySem.W.nsIn K mainGlobals "bool" = some none)
    (z_int : PySem.W.nsIn K mainGlobals "int" = some none)
    (z_isinstance : PySem.W.nsIn K mainGlobals "isinstance" = some none)
    (z_len : PySem.W.nsIn K mainGlobals "len" = some none)
    (z_list : PySem.W.nsIn K mainGlobals "list" = some none)
    (z_max : PySem.W.nsIn K mainGlobals "max" = some none)
    (z_min : PySem.W.nsIn K mainGlobals "min" = some none)
    (z_ord : PySem.W.nsIn K mainGlobals "ord" = some none)
    (z_range : PySem.W.nsIn K mainGlobals "range" = some none)
    (z_sorted : PySem.W.nsIn K mainGlobals "sorted" = some none)
    (z_str : PySem.W.nsIn K mainGlobals "str" = some none)
    (z_sum : PySem.W.nsIn K mainGlobals "sum" = some none)
    (z_super : PySem.W.nsIn K mainGlobals "super" = some none)
    (z_tuple : PySem.W.nsIn K mainGlobals "tuple" = some none)
    (z_MOST_LEVELS : PySem.W.nsIn K mainGlobals "MOST_LEVELS" = some (some (.int 12 t_MOST_LEVELS)))
    (z_MOST_DIGITS : PySem.W.nsIn K mainGlobals "MOST_DIGITS" = some (some (.int 60 t_MOST_DIGITS)))
    (z_MOST_LENGTH_DIGITS : PySem.W.nsIn K mainGlobals "MOST_LENGTH_DIGITS" = some (some (.int 6 t_MOST_LENGTH_DIGITS)))
    (z_MOST_ENTRIES : PySem.W.nsIn K mainGlobals "MOST_ENTRIES" = some (some (.int 8 t_MOST_ENTRIES))) :
    ∃ fd : FuncData, (∀ (s : Shared) (v : Value), BindsTo s fd ⟨[v], []⟩ [("script", v)]) ∧ ∀ base : Heap, K.In base → base.Ns mainGlobals mg → FnOk l.prog w K mg base CX0 37 fa fd ["script"] (spLaw K) := by
  have e := hfa.symm.trans (PySem.W.mg_of X G a_law)
  cases e
  have F_Book___init := fun_mk (st := s_Book___init) l_Book___init c_Book___init k_Book___init
  have F_Chunks_get := fun_mk (st := s_Chunks_get) l_Chunks_get c_Chunks_get k_Chunks_get
  have F_Book_find := fun_mk (st := s_Book_find) l_Book_find c_Book_find k_Book_find
  have F_Chunks___init := fun_mk (st := s_Chunks___init) l_Chunks___init c_Chunks___init k_Chunks___init
  have F_Chunks_has := fun_mk (st := s_Chunks_has) l_Chunks_has c_Chunks_has k_Chunks_has
  have F_law_cell := fun_mk (st := s_law_cell) l_law_cell c_law_cell k_law_cell
  have F_law_draws := fun_mk (st := s_law_draws) l_law_draws c_law_draws k_law_draws
  have F_law_dense_place := fun_mk (st := s_law_dense_place) l_law_dense_place c_law_dense_place k_law_dense_place
  have F_law_integer := fun_mk (st := s_law_integer) l_law_integer c_law_integer k_law_integer
  have F_law_char := fun_mk (st := s_law_char) l_law_char c_law_char k_law_char
  have F_law_text := fun_mk (st := s_law_text) l_law_text c_law_text k_law_text
  have F_law_value := fun_mk (st := s_law_value) l_law_value c_law_value k_law_value
  have F_law_drawn_place := fun_mk (st := s_law_drawn_place) l_law_drawn_place c_law_drawn_place k_law_drawn_place
  have F_law_shape := fun_mk (st := s_law_shape) l_law_shape c_law_shape k_law_shape
  have F_law_thing := fun_mk (st := s_law_thing) l_law_thing c_law_thing k_law_thing
  have F_law_digest := fun_mk (st := s_law_digest) l_law_digest c_law_digest k_law_digest
  have F_law_written := fun_mk (st := s_law_written) l_law_written c_law_written k_law_written
  have F_law_same := fun_mk (st := s_law_same) l_law_same c_law_same k_law_same
  have F_Book_address := fun_mk (st := s_Book_address) l_Book_address c_Book_address k_Book_address
  have F_Chunks_put := fun_mk (st := s_Chunks_put) l_Chunks_put c_Chunks_put k_Chunks_put
  have F_encode := fun_mk (st := s_encode) l_encode c_encode k_encode
  have F_digest := fun_mk (st := s_digest) l_digest c_digest k_digest
  have F_ends_chunk := fun_mk (st := s_ends_chunk) l_ends_chunk c_ends_chunk k_ends_chunk
  have F_sign_at := fun_mk (st := s_sign_at) l_sign_at c_sign_at k_sign_at
  have F_end_of_digits := fun_mk (st := s_end_of_digits) l_end_of_digits c_end_of_digits k_end_of_digits
  have F_read_integer := fun_mk (st := s_read_integer) l_read_integer c_read_integer k_read_integer
  have F_read_text := fun_mk (st := s_read_text) l_read_text c_read_text k_read_text
  have F_read_tuple := fun_mk (st := s_read_tuple) l_read_tuple c_read_tuple k_read_tuple
  have F_read_item := fun_mk (st := s_read_item) l_read_item c_read_item k_read_item
  have F_decode_prefix := fun_mk (st := s_decode_prefix) l_decode_prefix c_decode_prefix k_decode_prefix
  have F_decode := fun_mk (st := s_decode) l_decode c_decode k_decode
  have F_chunk_address := fun_mk (st := s_chunk_address) l_chunk_address c_chunk_address k_chunk_address
  have F_count_entries := fun_mk (st := s_count_entries) l_count_entries c_count_entries k_count_entries
  have F_read_chunk := fun_mk (st := s_read_chunk) l_read_chunk c_read_chunk k_read_chunk
  have F_read_pieces := fun_mk (st := s_read_pieces) l_read_pieces c_read_pieces k_read_pieces
  have F_open_piece := fun_mk (st := s_open_piece) l_open_piece c_open_piece k_open_piece
  have F_put_chunk := fun_mk (st := s_put_chunk) l_put_chunk c_put_chunk k_put_chunk
  have F_pack_level := fun_mk (st := s_pack_level) l_pack_level c_pack_level k_pack_level
  have F_join := fun_mk (st := s_join) l_join c_join k_join
  have F_build := fun_mk (st := s_build) l_build c_build k_build
  have F_height := fun_mk (st := s_height) l_height c_height k_height
  have F_reachable := fun_mk (st := s_reachable) l_reachable c_reachable k_reachable
  have F_law_rest := fun_mk (st := s_law_rest) l_law_rest c_law_rest k_law_rest
  have F_law_entries := fun_mk (st := s_law_entries) l_law_entries c_law_entries k_law_entries
  have F_law_listed := fun_mk (st := s_law_listed) l_law_listed c_law_listed k_law_listed
  have F_law_same_list := fun_mk (st := s_law_same_list) l_law_same_list c_law_same_list k_law_same_list
  have F_law_groups := fun_mk (st := s_law_groups) l_law_groups c_law_groups k_law_groups
  have F_law_levels := fun_mk (st := s_law_levels) l_law_levels c_law_levels k_law_levels
  have F_law := fun_mk (st := s_law) l_law c_law k_law
  let T : Txt K mg l.prog := {
    C_Book := C_Book, g_Book := PySem.W.mg_of X G aC_Book, cl_Book := ⟨pg_Book, hd_Book, po_Book, sa_Book⟩,
    na_Book__addresses := na_Book__addresses,
    C_Chunks := C_Chunks, g_Chunks := PySem.W.mg_of X G aC_Chunks, cl_Chunks := ⟨pg_Chunks, hd_Chunks, po_Chunks, sa_Chunks⟩,
    na_Chunks_book := na_Chunks_book,
    na_Chunks_reads := na_Chunks_reads,
    na_Chunks__texts := na_Chunks__texts,
    C_MissingChunk := C_MissingChunk, e_MissingChunk := ⟨PySem.W.mg_of X G ax_MissingChunk, ⟨oexB_ok xo_MissingChunk, xz_MissingChunk, xb_MissingChunk, xt_MissingChunk, xk_MissingChunk⟩, xs_MissingChunk, ⟨xg_MissingChunk, xq_MissingChunk, xb_MissingChunk, xd_MissingChunk, xa_MissingChunk, xn_MissingChunk, xi_MissingChunk, xm_MissingChunk⟩⟩, kv_MissingChunk := xv_MissingChunk, f_MissingChunk___init := f_MissingChunk___init, d_MissingChunk___init := _, F_MissingChunk___init := funX_mk nl_MissingChunk nc_MissingChunk ni_MissingChunk nt_MissingChunk nb_MissingChunk ns_MissingChunk np_MissingChunk nm_MissingChunk nv_MissingChunk rfl rfl, b_MissingChunk___init := Binds.all (ps := ["self", "address"]) (fun us hl => match us, hl with | [_, _], _ => rfl), na_MissingChunk_address := na_MissingChunk,
    C_VersionError := C_VersionError, g_VersionError := PySem.W.mg_of X G ay_VersionError,
    ku_MissingChunk_VersionError := kp_MissingChunk_VersionError,
    f_Book___init := f_Book___init, d_Book___init := _, F_Book___init := F_Book___init, b_Book___init := (F_Book___init.binds (ps := ["self"]) fun _ _ _ _ _ _ us hl => match us, hl with | [_], _ => rfl),
    mk_Book := ⟨mk_Book, a_Book___init, i_Book___init, kc_Book⟩,
    f_Chunks_get := f_Chunks_get, d_Chunks_get := _, F_Chunks_get := F_Chunks_get, b_Chunks_get := (F_Chunks_get.binds (ps := ["self", "address"]) fun _ _ _ _ _ _ us hl => match us, hl with | [_, _], _ => rfl),
    me_Chunks_get := ⟨a_Chunks_get, i_Chunks_get, k_Chunks_get⟩,
    f_Book_find := f_Book_find, d_Book_find := _, F_Book_find := F_Book_find, b_Book_find := (F_Book_find.binds (ps := ["self", "text"]) fun _ _ _ _ _ _ us hl => match us, hl with | [_, _], _ => rfl),
    me_Book_find := ⟨a_Book_find, i_Book_find, k_Book_find⟩,
    f_Chunks___init := f_Chunks___init, d_Chunks___init := _, F_Chunks___init := F_Chunks___init, b_Chunks___init := (F_Chunks___init.binds (ps := ["self", "book"]) fun _ _ _ _ _ _ us hl => match us, hl with | [_, _], _ => rfl),
    mk_Chunks := ⟨mk_Chunks, a_Chunks___init, i_Chunks___init, kc_Chunks⟩,
    f_Chunks_has := f_Chunks_has, d_Chunks_has := _, F_Chunks_has := F_Chunks_has, b_Chunks_has := (F_Chunks_has.binds (ps := ["self", "address"]) fun _ _ _ _ _ _ us hl => match us, hl with | [_, _], _ => rfl),
    me_Chunks_has := ⟨a_Chunks_has, i_Chunks_has, k_Chunks_has⟩,
    f_law_cell := f_law_cell, d_law_cell := _, F_law_cell := F_law_cell, b_law_cell := (F_law_cell.binds (ps := ["script", "k"]) fun _ _ _ _ _ _ us hl => match us, hl with | [_, _], _ => rfl),
    g_law_cell := PySem.W.mg_of X G a_law_cell,
    f_law_draws := f_law_draws, d_law_draws := _, F_law_draws := F_law_draws, b_law_draws := (F_law_draws.binds (ps := ["cell", "salt", "count", "base"]) fun _ _ _ _ _ _ us hl => match us, hl with | [_, _, _, _], _ => rfl),
    g_law_draws := PySem.W.mg_of X G a_law_draws,
    f_law_dense_place := f_law_dense_place, d_law_dense_place := _, F_law_dense_place := F_law_dense_place, b_law_dense_place := (F_law_dense_place.binds (ps := ["shape", "number", "start"]) fun _ _ _ _ _ _ us hl => match us, hl with | [_, _, _], _ => rfl),
    g_law_dense_place := PySem.W.mg_of X G a_law_dense_place,
    f_law_integer := f_law_integer, d_law_integer := _, F_law_integer := F_law_integer, b_law_integer := (F_law_integer.binds (ps := ["cell"]) fun _ _ _ _ _ _ us hl => match us, hl with | [_], _ => rfl),
    g_law_integer := PySem.W.mg_of X G a_law_integer,
    f_law_char := f_law_char, d_law_char := _, F_law_char := F_law_char, b_law_char := (F_law_char.binds (ps := ["number"]) fun _ _ _ _ _ _ us hl => match us, hl with | [_], _ => rfl),
    g_law_char := PySem.W.mg_of X G a_law_char,
    f_law_text := f_law_text, d_law_text := _, F_law_text := F_law_text, b_law_text := (F_law_text.binds (ps := ["cell"]) fun _ _ _ _ _ _ us hl => match us, hl with | [_], _ => rfl),
    g_law_text := PySem.W.mg_of X G a_law_text,
    f_law_value := f_law_value, d_law_value := _, F_law_value := F_law_value, b_law_value := (F_law_value.binds (ps := ["kind", "cell"]) fun _ _ _ _ _ _ us hl => match us, hl with | [_, _], _ => rfl),
    g_law_value := PySem.W.mg_of X G a_law_value,
    f_law_drawn_place := f_law_drawn_place, d_law_drawn_place := _, F_law_drawn_place := F_law_drawn_place, b_law_drawn_place := (F_law_drawn_place.binds (ps := ["shape", "parts"]) fun _ _ _ _ _ _ us hl => match us, hl with | [_, _], _ => rfl),
    g_law_drawn_place := PySem.W.mg_of X G a_law_drawn_place,
    f_law_shape := f_law_shape, d_law_shape := _, F_law_shape := F_law_shape, b_law_shape := (F_law_shape.binds (ps := ["number"]) fun _ _ _ _ _ _ us hl => match us, hl with | [_], _ => rfl),
    g_law_shape := PySem.W.mg_of X G a_law_shape,
    f_law_thing := f_law_thing, d_law_thing := _, F_law_thing := F_law_thing, b_law_thing := (F_law_thing.binds (ps := ["script", "k"]) fun _ _ _ _ _ _ us hl => match us, hl with | [_, _], _ => rfl),
    g_law_thing := PySem.W.mg_of X G a_law_thing,
    f_law_digest := f_law_digest, d_law_digest := _, F_law_digest := F_law_digest, b_law_digest := (F_law_digest.binds (ps := ["text"]) fun _ _ _ _ _ _ us hl => match us, hl with | [_], _ => rfl),
    g_law_digest := PySem.W.mg_of X G a_law_digest,
    f_law_written := f_law_written, d_law_written := _, F_law_written := F_law_written, b_law_written := (F_law_written.binds (ps := ["item"]) fun _ _ _ _ _ _ us hl => match us, hl with | [_], _ => rfl),
    g_law_written := PySem.W.mg_of X G a_law_written,
    f_law_same := f_law_same, d_law_same := _, F_law_same := F_law_same, b_law_same := (F_law_same.binds (ps := ["actual", "expected"]) fun _ _ _ _ _ _ us hl => match us, hl with | [_, _], _ => rfl),
    g_law_same := PySem.W.mg_of X G a_law_same,
    f_Book_address := f_Book_address, d_Book_address := _, F_Book_address := F_Book_address, b_Book_address := (F_Book_address.binds (ps := ["self", "text"]) fun _ _ _ _ _ _ us hl => match us, hl with | [_, _], _ => rfl),
    me_Book_address := ⟨a_Book_address, i_Book_address, k_Book_address⟩,
    f_Chunks_put := f_Chunks_put, d_Chunks_put := _, F_Chunks_put := F_Chunks_put, b_Chunks_put := (F_Chunks_put.binds (ps := ["self", "text"]) fun _ _ _ _ _ _ us hl => match us, hl with | [_, _], _ => rfl),
    me_Chunks_put := ⟨a_Chunks_put, i_Chunks_put, k_Chunks_put⟩,
    f_encode := f_encode, d_encode := _, F_encode := F_encode, b_encode := (F_encode.binds (ps := ["item"]) fun _ _ _ _ _ _ us hl => match us, hl with | [_], _ => rfl),
    g_encode := PySem.W.mg_of X G a_encode,
    f_digest := f_digest, d_digest := _, F_digest := F_digest, b_digest := (F_digest.binds (ps := ["text"]) fun _ _ _ _ _ _ us hl => match us, hl with | [_], _ => rfl),
    g_digest := PySem.W.mg_of X G a_digest,
    f_ends_chunk := f_ends_chunk, d_ends_chunk := _, F_ends_chunk := F_ends_chunk, b_ends_chunk := (F_ends_chunk.binds (ps := ["level", "key", "count"]) fun _ _ _ _ _ _ us hl => match us, hl with | [_, _, _], _ => rfl),
    g_ends_chunk := PySem.W.mg_of X G a_ends_chunk,
    f_sign_at := f_sign_at, d_sign_at := _, F_sign_at := F_sign_at, b_sign_at := (F_sign_at.binds (ps := ["text", "index"]) fun _ _ _ _ _ _ us hl => match us, hl with | [_, _], _ => rfl),
    g_sign_at := PySem.W.mg_of X G a_sign_at,
    f_end_of_digits := f_end_of_digits, d_end_of_digits := _, F_end_of_digits := F_end_of_digits, b_end_of_digits := (F_end_of_digits.binds (ps := ["text", "first", "most", "closing"]) fun _ _ _ _ _ _ us hl => match us, hl with | [_, _, _, _], _ => rfl),
    g_end_of_digits := PySem.W.mg_of X G a_end_of_digits,
    f_read_integer := f_read_integer, d_read_integer := _, F_read_integer := F_read_integer, b_read_integer := (F_read_integer.binds (ps := ["text", "index"]) fun _ _ _ _ _ _ us hl => match us, hl with | [_, _], _ => rfl),
    g_read_integer := PySem.W.mg_of X G a_read_integer,
    f_read_text := f_read_text, d_read_text := _, F_read_text := F_read_text, b_read_text := (F_read_text.binds (ps := ["text", "index"]) fun _ _ _ _ _ _ us hl => match us, hl with | [_, _], _ => rfl),
    g_read_text := PySem.W.mg_of X G a_read_text,
    f_read_tuple := f_read_tuple, d_read_tuple := _, F_read_tuple := F_read_tuple, b_read_tuple := (F_read_tuple.binds (ps := ["text", "index", "level"]) fun _ _ _ _ _ _ us hl => match us, hl with | [_, _, _], _ => rfl),
    g_read_tuple := PySem.W.mg_of X G a_read_tuple,
    f_read_item := f_read_item, d_read_item := _, F_read_item := F_read_item, b_read_item := (F_read_item.binds (ps := ["text", "index", "level"]) fun _ _ _ _ _ _ us hl => match us, hl with | [_, _, _], _ => rfl),
    g_read_item := PySem.W.mg_of X G a_read_item,
    f_decode_prefix := f_decode_prefix, d_decode_prefix := _, F_decode_prefix := F_decode_prefix, b_decode_prefix := (F_decode_prefix.binds (ps := ["text", "index"]) fun _ _ _ _ _ _ us hl => match us, hl with | [_, _], _ => rfl),
    g_decode_prefix := PySem.W.mg_of X G a_decode_prefix,
    f_decode := f_decode, d_decode := _, F_decode := F_decode, b_decode := (F_decode.binds (ps := ["text"]) fun _ _ _ _ _ _ us hl => match us, hl with | [_], _ => rfl),
    g_decode := PySem.W.mg_of X G a_decode,
    f_chunk_address := f_chunk_address, d_chunk_address := _, F_chunk_address := F_chunk_address, b_chunk_address := (F_chunk_address.binds (ps := ["piece"]) fun _ _ _ _ _ _ us hl => match us, hl with | [_], _ => rfl),
    g_chunk_address := PySem.W.mg_of X G a_chunk_address,
    f_count_entries := f_count_entries, d_count_entries := _, F_count_entries := F_count_entries, b_count_entries := (F_count_entries.binds (ps := ["level", "entries"]) fun _ _ _ _ _ _ us hl => match us, hl with | [_, _], _ => rfl),
    g_count_entries := PySem.W.mg_of X G a_count_entries,
    f_read_chunk := f_read_chunk, d_read_chunk := _, F_read_chunk := F_read_chunk, b_read_chunk := (F_read_chunk.binds (ps := ["chunks", "address"]) fun _ _ _ _ _ _ us hl => match us, hl with | [_, _], _ => rfl),
    g_read_chunk := PySem.W.mg_of X G a_read_chunk,
    f_read_pieces := f_read_pieces, d_read_pieces := _, F_read_pieces := F_read_pieces, b_read_pieces := (F_read_pieces.binds (ps := ["chunks", "address"]) fun _ _ _ _ _ _ us hl => match us, hl with | [_, _], _ => rfl),
    g_read_pieces := PySem.W.mg_of X G a_read_pieces,
    f_open_piece := f_open_piece, d_open_piece := _, F_open_piece := F_open_piece, b_open_piece := (F_open_piece.binds (ps := ["chunks", "piece"]) fun _ _ _ _ _ _ us hl => match us, hl with | [_, _], _ => rfl),
    g_open_piece := PySem.W.mg_of X G a_open_piece,
    f_put_chunk := f_put_chunk, d_put_chunk := _, F_put_chunk := F_put_chunk, b_put_chunk := (F_put_chunk.binds (ps := ["chunks", "level", "entries"]) fun _ _ _ _ _ _ us hl => match us, hl with | [_, _, _], _ => rfl),
    g_put_chunk := PySem.W.mg_of X G a_put_chunk,
    f_pack_level := f_pack_level, d_pack_level := _, F_pack_level := F_pack_level, b_pack_level := (F_pack_level.binds (ps := ["chunks", "level", "pieces"]) fun _ _ _ _ _ _ us hl => match us, hl with | [_, _, _], _ => rfl),
    g_pack_level := PySem.W.mg_of X G a_pack_level,
    f_join := f_join, d_join := _, F_join := F_join, b_join := (F_join.binds (ps := ["chunks", "pieces"]) fun _ _ _ _ _ _ us hl => match us, hl with | [_, _], _ => rfl),
    g_join := PySem.W.mg_of X G a_join,
    f_build := f_build, d_build := _, F_build := F_build, b_build := (F_build.binds (ps := ["chunks", "entries"]) fun _ _ _ _ _ _ us hl => match us, hl with | [_, _], _ => rfl),
    g_build := PySem.W.mg_of X G a_build,
    f_height := f_height, d_height := _, F_height := F_height, b_height := (F_height.binds (ps := ["chunks", "root"]) fun _ _ _ _ _ _ us hl => match us, hl with | [_, _], _ => rfl),
    g_height := PySem.W.mg_of X G a_height,
    f_reachable := f_reachable, d_reachable := _, F_reachable := F_reachable, b_reachable := (F_reachable.binds (ps := ["chunks", "root"]) fun _ _ _ _ _ _ us hl => match us, hl with | [_, _], _ => rfl),
    g_reachable := PySem.W.mg_of X G a_reachable,
    f_law_rest := f_law_rest, d_law_rest := _, F_law_rest := F_law_rest, b_law_rest := (F_law_rest.binds (ps := ["width", "parts"]) fun _ _ _ _ _ _ us hl => match us, hl with | [_, _], _ => rfl),
    g_law_rest := PySem.W.mg_of X G a_law_rest,
    f_law_entries := f_law_entries, d_law_entries := _, F_law_entries := F_law_entries, b_law_entries := (F_law_entries.binds (ps := ["script", "head", "first"]) fun _ _ _ _ _ _ us hl => match us, hl with | [_, _, _], _ => rfl),
    g_law_entries := PySem.W.mg_of X G a_law_entries,
    f_law_listed := f_law_listed, d_law_listed := _, F_law_listed := F_law_listed, b_law_listed := (F_law_listed.binds (ps := ["rests"]) fun _ _ _ _ _ _ us hl => match us, hl with | [_], _ => rfl),
    g_law_listed := PySem.W.mg_of X G a_law_listed,
    f_law_same_list := f_law_same_list, d_law_same_list := _, F_law_same_list := F_law_same_list, b_law_same_list := (F_law_same_list.binds (ps := ["actual", "expected"]) fun _ _ _ _ _ _ us hl => match us, hl with | [_, _], _ => rfl),
    g_law_same_list := PySem.W.mg_of X G a_law_same_list,
    f_law_groups := f_law_groups, d_law_groups := _, F_law_groups := F_law_groups, b_law_groups := (F_law_groups.binds (ps := ["level", "entries"]) fun _ _ _ _ _ _ us hl => match us, hl with | [_, _], _ => rfl),
    g_law_groups := PySem.W.mg_of X G a_law_groups,
    f_law_levels := f_law_levels, d_law_levels := _, F_law_levels := F_law_levels, b_law_levels := (F_law_levels.binds (ps := ["book", "entries"]) fun _ _ _ _ _ _ us hl => match us, hl with | [_, _], _ => rfl),
    g_law_levels := PySem.W.mg_of X G a_law_levels,
    f_law := fa, d_law := _, F_law := F_law, b_law := (F_law.binds (ps := ["script"]) fun _ _ _ _ _ _ us hl => match us, hl with | [_], _ => rfl),
    g_law := PySem.W.mg_of X G a_law,
    m_ValueError := PySem.W.mg_none_of X G z_ValueError,
    m_bool := PySem.W.mg_none_of X G z_bool,
    m_int := PySem.W.mg_none_of X G z_int,
    m_isinstance := PySem.W.mg_none_of X G z_isinstance,
    m_len := PySem.W.mg_none_of X G z_len,
    m_list := PySem.W.mg_none_of X G z_list,
    m_max := PySem.W.mg_none_of X G z_max,
    m_min := PySem.W.mg_none_of X G z_min,
    m_ord := PySem.W.mg_none_of X G z_ord,
    m_range := PySem.W.mg_none_of X G z_range,
    m_sorted := PySem.W.mg_none_of X G z_sorted,
    m_str := PySem.W.mg_none_of X G z_str,
    m_sum := PySem.W.mg_none_of X G z_sum,
    m_super := PySem.W.mg_none_of X G z_super,
    m_tuple := PySem.W.mg_none_of X G z_tuple,
    t_MOST_LEVELS := t_MOST_LEVELS, k_MOST_LEVELS := PySem.W.mg_of X G z_MOST_LEVELS,
    t_MOST_DIGITS := t_MOST_DIGITS, k_MOST_DIGITS := PySem.W.mg_of X G z_MOST_DIGITS,
    t_MOST_LENGTH_DIGITS := t_MOST_LENGTH_DIGITS, k_MOST_LENGTH_DIGITS := PySem.W.mg_of X G z_MOST_LENGTH_DIGITS,
    t_MOST_ENTRIES := t_MOST_ENTRIES, k_MOST_ENTRIES := PySem.W.mg_of X G z_MOST_ENTRIES }
  exact ⟨PySem.W.fnOf "law" "law" (defArgs s_law) (defBody s_law) (defScope s_law) .none kV_law dc_law pm_law an_law cd_law ct_law, fun s v => .of_eq rfl, fun base _ _ => ok_law T⟩

end Vt

open PySem PySem.W PyProof.Rows
set_option maxHeartbeats 0 in
theorem PySem.Challenge.cw_versiontables_k13_tree_texts_holds : PySem.Challenge.rw_versiontables_k13_tree_texts.Holds := by
  w_on; o_law; k_head; (case hw => w_witness2)
  k_fill
  refine L2.walk_ofB (l := PySem.Challenge.rw_versiontables_k13_tree_texts) (n := 63) (k := 37) (x := "script") (CX := fun _ => L2.CX0) (sp := fun w => Vt.spLaw _) rfl (by decide) rfl ⟨rfl, by decide, by decide⟩ (fun w h Y => PySem.W.kIn_of Y) ?F (fun _ _ a ns hl hb _ hS => ⟨a, ns, rfl, hS, hl, hb, fun _ => rfl⟩) (fun _ _ _ _ _ h => h)
  case F =>
    intro w mg fa h KX G hmg
    refine' Vt.all_mk KX G hmg ?aC_Book ?pg_Book ?hd_Book ?po_Book ?sa_Book ?mk_Book ?kc_Book ?na_Book__addresses ?aC_Chunks ?pg_Chunks ?hd_Chunks ?po_Chunks ?sa_Chunks ?mk_Chunks ?kc_Chunks ?na_Chunks_book ?na_Chunks_reads ?na_Chunks__texts ?ax_MissingChunk ?xo_MissingChunk ?xz_MissingChunk ?xk_MissingChunk ?xb_MissingChunk ?xt_MissingChunk ?xs_MissingChunk ?xg_MissingChunk ?xq_MissingChunk ?xd_MissingChunk ?xa_MissingChunk ?xn_MissingChunk ?xi_MissingChunk ?xm_MissingChunk ?xv_MissingChunk ?ni_MissingChunk ?na_MissingChunk ?nl_MissingChunk ?nc_MissingChunk ?nt_MissingChunk ?nb_MissingChunk ?ns_MissingChunk ?np_MissingChunk ?nm_MissingChunk ?nv_MissingChunk ?ay_VersionError ?kp_MissingChunk_VersionError ?a_Book___init ?i_Book___init ?l_Book___init ?c_Book___init ?k_Book___init ?a_Chunks_get ?i_Chunks_get ?l_Chunks_get ?c_Chunks_get ?k_Chunks_get ?a_Book_find ?i_Book_find ?l_Book_find ?c_Book_find ?k_Book_find ?a_Chunks___init ?i_Chunks___init ?l_Chunks___init ?c_Chunks___init ?k_Chunks___init ?a_Chunks_has ?i_Chunks_has ?l_Chunks_has ?c_Chunks_has ?k_Chunks_has ?a_law_cell ?l_law_cell ?c_law_cell ?k_law_cell ?a_law_draws ?l_law_draws ?c_law_draws ?k_law_draws ?a_law_dense_place ?l_law_dense_place ?c_law_dense_place ?k_law_dense_place ?a_law_integer ?l_law_integer ?c_law_integer ?k_law_integer ?a_law_char ?l_law_char ?c_law_char ?k_law_char ?a_law_text ?l_law_text ?c_law_text ?k_law_text ?a_law_value ?l_law_value ?c_law_value ?k_law_value ?a_law_drawn_place ?l_law_drawn_place ?c_law_drawn_place ?k_law_drawn_place ?a_law_shape ?l_law_shape ?c_law_shape ?k_law_shape ?a_law_thing ?l_law_thing ?c_law_thing ?k_law_thing ?a_law_digest ?l_law_digest ?c_law_digest ?k_law_digest ?a_law_written ?l_law_written ?c_law_written ?k_law_written ?a_law_same ?l_law_same ?c_law_same ?k_law_same ?a_Book_address ?i_Book_address ?l_Book_address ?c_Book_address ?k_Book_address ?a_Chunks_put ?i_Chunks_put ?l_Chunks_put ?c_Chunks_put ?k_Chunks_put ?a_encode ?l_encode ?c_encode ?k_encode ?a_digest ?l_digest ?c_digest ?k_digest ?a_ends_chunk ?l_ends_chunk ?c_ends_chunk ?k_ends_chunk ?a_sign_at ?l_sign_at ?c_sign_at ?k_sign_at ?a_end_of_digits ?l_end_of_digits ?c_end_of_digits ?k_end_of_digits ?a_read_integer ?l_read_integer ?c_read_integer ?k_read_integer ?a_read_text ?l_read_text ?c_read_text ?k_read_text ?a_read_tuple ?l_read_tuple ?c_read_tuple ?k_read_tuple ?a_read_item ?l_read_item ?c_read_item ?k_read_item ?a_decode_prefix ?l_decode_prefix ?c_decode_prefix ?k_decode_prefix ?a_decode ?l_decode ?c_decode ?k_decode ?a_chunk_address ?l_chunk_address ?c_chunk_address ?k_chunk_address ?a_count_entries ?l_count_entries ?c_count_entries ?k_count_entries ?a_read_chunk ?l_read_chunk ?c_read_chunk ?k_read_chunk ?a_read_pieces ?l_read_pieces ?c_read_pieces ?k_read_pieces ?a_open_piece ?l_open_piece ?c_open_piece ?k_open_piece ?a_put_chunk ?l_put_chunk ?c_put_chunk ?k_put_chunk ?a_pack_level ?l_pack_level ?c_pack_level ?k_pack_level ?a_join ?l_join ?c_join ?k_join ?a_build ?l_build ?c_build ?k_build ?a_height ?l_height ?c_height ?k_height ?a_reachable ?l_reachable ?c_reachable ?k_reachable ?a_law_rest ?l_law_rest ?c_law_rest ?k_law_rest ?a_law_entries ?l_law_entries ?c_law_entries ?k_law_entries ?a_law_listed ?l_law_listed ?c_law_listed ?k_law_listed ?a_law_same_list ?l_law_same_list ?c_law_same_list ?k_law_same_list ?a_law_groups ?l_law_groups ?c_law_groups ?k_law_groups ?a_law_levels ?l_law_levels ?c_law_levels ?k_law_levels ?a_law ?l_law ?c_law ?k_law ?z_ValueError ?z_bool ?z_int ?z_isinstance ?z_len ?z_list ?z_max ?z_min ?z_ord ?z_range ?z_sorted ?z_str ?z_sum ?z_super ?z_tuple ?z_MOST_LEVELS ?z_MOST_DIGITS ?z_MOST_LENGTH_DIGITS ?z_MOST_ENTRIES
    (case aC_Book => k_is)
    (case pg_Book => k_is)
    (case hd_Book => k_is)
    (case po_Book => k_is)
    (case sa_Book => k_is)
    (case mk_Book => k_is)
    (case kc_Book => k_is)
    (case na_Book__addresses => k_is)
    (case aC_Chunks => k_is)
    (case pg_Chunks => k_is)
    (case hd_Chunks => k_is)
    (case po_Chunks => k_is)
    (case sa_Chunks => k_is)
    (case mk_Chunks => k_is)
    (case kc_Chunks => k_is)
    (case na_Chunks_book => k_is)
    (case na_Chunks_reads => k_is)
    (case na_Chunks__texts => k_is)
    (case ax_MissingChunk => k_is)
    (case xo_MissingChunk => kernel_rfl)
    (case xz_MissingChunk => k_is)
    (case xk_MissingChunk => k_is)
    (case xb_MissingChunk => k_is)
    (case xt_MissingChunk => k_is)
    (case xs_MissingChunk => first | rfl | k_is)
    (case xg_MissingChunk => k_is)
    (case xq_MissingChunk => k_is)
    (case xd_MissingChunk => k_is)
    (case xa_MissingChunk => k_is)
    (case xn_MissingChunk => first | rfl | k_is)
    (case xi_MissingChunk => first | rfl | k_is)
    (case xm_MissingChunk => k_is)
    (case xv_MissingChunk => first | rfl | k_is)
    (case ni_MissingChunk => k_is)
    (case na_MissingChunk => k_is)
    (case nl_MissingChunk => k_is)
    (case nc_MissingChunk => k_is)
    (case nt_MissingChunk => k_is)
    (case nb_MissingChunk => kernel_rfl)
    (case ns_MissingChunk => kernel_rfl)
    (case np_MissingChunk => k_is)
    (case nm_MissingChunk => first | rfl | k_is)
    (case nv_MissingChunk => first | rfl | k_is)
    (case ay_VersionError => k_is)
    (case kp_MissingChunk_VersionError => first | rfl | k_is)
    (case a_Book___init => k_is)
    (case i_Book___init => k_is)
    (case l_Book___init => k_is)
    (case c_Book___init => k_is)
    (case k_Book___init => k_is)
    (case a_Chunks_get => k_is)
    (case i_Chunks_get => k_is)
    (case l_Chunks_get => k_is)
    (case c_Chunks_get => k_is)
    (case k_Chunks_get => k_is)
    (case a_Book_find => k_is)
    (case i_Book_find => k_is)
    (case l_Book_find => k_is)
    (case c_Book_find => k_is)
    (case k_Book_find => k_is)
    (case a_Chunks___init => k_is)
    (case i_Chunks___init => k_is)
    (case l_Chunks___init => k_is)
    (case c_Chunks___init => k_is)
    (case k_Chunks___init => k_is)
    (case a_Chunks_has => k_is)
    (case i_Chunks_has => k_is)
    (case l_Chunks_has => k_is)
    (case c_Chunks_has => k_is)
    (case k_Chunks_has => k_is)
    (case a_law_cell => k_is)
    (case l_law_cell => k_is)
    (case c_law_cell => k_is)
    (case k_law_cell => k_is)
    (case a_law_draws => k_is)
    (case l_law_draws => k_is)
    (case c_law_draws => k_is)
    (case k_law_draws => k_is)
    (case a_law_dense_place => k_is)
    (case l_law_dense_place => k_is)
    (case c_law_dense_place => k_is)
    (case k_law_dense_place => k_is)
    (case a_law_integer => k_is)
    (case l_law_integer => k_is)
    (case c_law_integer => k_is)
    (case k_law_integer => k_is)
    (case a_law_char => k_is)
    (case l_law_char => k_is)
    (case c_law_char => k_is)
    (case k_law_char => k_is)
    (case a_law_text => k_is)
    (case l_law_text => k_is)
    (case c_law_text => k_is)
    (case k_law_text => k_is)
    (case a_law_value => k_is)
    (case l_law_value => k_is)
    (case c_law_value => k_is)
    (case k_law_value => k_is)
    (case a_law_drawn_place => k_is)
    (case l_law_drawn_place => k_is)
    (case c_law_drawn_place => k_is)
    (case k_law_drawn_place => k_is)
    (case a_law_shape => k_is)
    (case l_law_shape => k_is)
    (case c_law_shape => k_is)
    (case k_law_shape => k_is)
    (case a_law_thing => k_is)
    (case l_law_thing => k_is)
    (case c_law_thing => k_is)
    (case k_law_thing => k_is)
    (case a_law_digest => k_is)
    (case l_law_digest => k_is)
    (case c_law_digest => k_is)
    (case k_law_digest => k_is)
    (case a_law_written => k_is)
    (case l_law_written => k_is)
    (case c_law_written => k_is)
    (case k_law_written => k_is)
    (case a_law_same => k_is)
    (case l_law_same => k_is)
    (case c_law_same => k_is)
    (case k_law_same => k_is)
    (case a_Book_address => k_is)
    (case i_Book_address => k_is)
    (case l_Book_address => k_is)
    (case c_Book_address => k_is)
    (case k_Book_address => k_is)
    (case a_Chunks_put => k_is)
    (case i_Chunks_put => k_is)
    (case l_Chunks_put => k_is)
    (case c_Chunks_put => k_is)
    (case k_Chunks_put => k_is)
    (case a_encode => k_is)
    (case l_encode => k_is)
    (case c_encode => k_is)
    (case k_encode => k_is)
    (case a_digest => k_is)
    (case l_digest => k_is)
    (case c_digest => k_is)
    (case k_digest => k_is)
    (case a_ends_chunk => k_is)
    (case l_ends_chunk => k_is)
    (case c_ends_chunk => k_is)
    (case k_ends_chunk => k_is)
    (case a_sign_at => k_is)
    (case l_sign_at => k_is)
    (case c_sign_at => k_is)
    (case k_sign_at => k_is)
    (case a_end_of_digits => k_is)
    (case l_end_of_digits => k_is)
    (case c_end_of_digits => k_is)
    (case k_end_of_digits => k_is)
    (case a_read_integer => k_is)
    (case l_read_integer => k_is)
    (case c_read_integer => k_is)
    (case k_read_integer => k_is)
    (case a_read_text => k_is)
    (case l_read_text => k_is)
    (case c_read_text => k_is)
    (case k_read_text => k_is)
    (case a_read_tuple => k_is)
    (case l_read_tuple => k_is)
    (case c_read_tuple => k_is)
    (case k_read_tuple => k_is)
    (case a_read_item => k_is)
    (case l_read_item => k_is)
    (case c_read_item => k_is)
    (case k_read_item => k_is)
    (case a_decode_prefix => k_is)
    (case l_decode_prefix => k_is)
    (case c_decode_prefix => k_is)
    (case k_decode_prefix => k_is)
    (case a_decode => k_is)
    (case l_decode => k_is)
    (case c_decode => k_is)
    (case k_decode => k_is)
    (case a_chunk_address => k_is)
    (case l_chunk_address => k_is)
    (case c_chunk_address => k_is)
    (case k_chunk_address => k_is)
    (case a_count_entries => k_is)
    (case l_count_entries => k_is)
    (case c_count_entries => k_is)
    (case k_count_entries => k_is)
    (case a_read_chunk => k_is)
    (case l_read_chunk => k_is)
    (case c_read_chunk => k_is)
    (case k_read_chunk => k_is)
    (case a_read_pieces => k_is)
    (case l_read_pieces => k_is)
    (case c_read_pieces => k_is)
    (case k_read_pieces => k_is)
    (case a_open_piece => k_is)
    (case l_open_piece => k_is)
    (case c_open_piece => k_is)
    (case k_open_piece => k_is)
    (case a_put_chunk => k_is)
    (case l_put_chunk => k_is)
    (case c_put_chunk => k_is)
    (case k_put_chunk => k_is)
    (case a_pack_level => k_is)
    (case l_pack_level => k_is)
    (case c_pack_level => k_is)
    (case k_pack_level => k_is)
    (case a_join => k_is)
    (case l_join => k_is)
    (case c_join => k_is)
    (case k_join => k_is)
    (case a_build => k_is)
    (case l_build => k_is)
    (case c_build => k_is)
    (case k_build => k_is)
    (case a_height => k_is)
    (case l_height => k_is)
    (case c_height => k_is)
    (case k_height => k_is)
    (case a_reachable => k_is)
    (case l_reachable => k_is)
    (case c_reachable => k_is)
    (case k_reachable => k_is)
    (case a_law_rest => k_is)
    (case l_law_rest => k_is)
    (case c_law_rest => k_is)
    (case k_law_rest => k_is)
    (case a_law_entries => k_is)
    (case l_law_entries => k_is)
    (case c_law_entries => k_is)
    (case k_law_entries => k_is)
    (case a_law_listed => k_is)
    (case l_law_listed => k_is)
    (case c_law_listed => k_is)
    (case k_law_listed => k_is)
    (case a_law_same_list => k_is)
    (case l_law_same_list => k_is)
    (case c_law_same_list => k_is)
    (case k_law_same_list => k_is)
    (case a_law_groups => k_is)
    (case l_law_groups => k_is)
    (case c_law_groups => k_is)
    (case k_law_groups => k_is)
    (case a_law_levels => k_is)
    (case l_law_levels => k_is)
    (case c_law_levels => k_is)
    (case k_law_levels => k_is)
    (case a_law => k_is)
    (case l_law => k_is)
    (case c_law => k_is)
    (case k_law => k_is)
    (case z_ValueError => k_is)
    (case z_bool => k_is)
    (case z_int => k_is)
    (case z_isinstance => k_is)
    (case z_len => k_is)
    (case z_list => k_is)
    (case z_max => k_is)
    (case z_min => k_is)
    (case z_ord => k_is)
    (case z_range => k_is)
    (case z_sorted => k_is)
    (case z_str => k_is)
    (case z_sum => k_is)
    (case z_super => k_is)
    (case z_tuple => k_is)
    (case z_MOST_LEVELS => k_is)
    (case z_MOST_DIGITS => k_is)
    (case z_MOST_LENGTH_DIGITS => k_is)
    (case z_MOST_ENTRIES => k_is)
