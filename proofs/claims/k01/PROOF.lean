import PyProof.Rows.All
import Wide.All
import OpenK.AllK
import Wide.FinOn
import HandS.ForMost
import KE.KExcSuper
import KE.KExcIs
import HandS.ExcField
import PyProof.FString
import PyProof.FString2
import HandS.SortInts
import HandS.TupAny
import HandS.IsInst
import HandS.Wide
import HandS.Conv
import HandS.Gcd
import HandS.Property
import HandS.Codes
import HandS.Walk
import KE.GoesMore
import KE.KMathGC
import HandS.Exc
import HandS.ExcOwn
import HandS.TryOnly
import HandS.ExcIs
import HandS.WordsExc
import HandS.WideBits
import HandS.SetFor
import HandS.Strs
import HandS.SetBool
import PyProof.LongRange
import HandS.DictComp
import HandS.TupMul
import PySem.Challenge.RW_restlots_k01_bars_refused
set_option Elab.async false
set_option linter.all false
set_option maxRecDepth 100000
set_option maxHeartbeats 4000000
set_option exponentiation.threshold 6000
namespace R
open PySem PySem.Spec PyProof.Rows L2
/-! the text by places -/
def top (i : Nat) : Stmt := (PySem.Challenge.pw_restlots_k01_bars_refused.main.body).getD i (.Pass ⟨0, 0, 0, 0⟩)
abbrev s_p_is_integer : Stmt := top 9
abbrev s_p_integer_within : Stmt := top 10
abbrev s_p_is_ascending : Stmt := top 11
abbrev s_p_is_lot : Stmt := top 12
abbrev s_p_is_pair : Stmt := top 13
abbrev s_p_is_bar : Stmt := top 14
abbrev s_p_inverse : Stmt := top 16
abbrev s_p_joined : Stmt := top 17
abbrev s_p_classes_of : Stmt := top 18
abbrev s_p_check_bars : Stmt := top 23
abbrev s_p_whole_of : Stmt := top 24
abbrev s_p_check_choices : Stmt := top 25
abbrev s_l_draws : Stmt := top 28
abbrev s_l_pick : Stmt := top 29
abbrev s_l_bars : Stmt := top 30
abbrev s_l_told_there : Stmt := top 31
abbrev s_l_is_whole : Stmt := top 32
abbrev s_l_bad : Stmt := top 33
abbrev s_l_due : Stmt := top 34
abbrev s_law : Stmt := top 35
abbrev s_m_Sieve_init : Stmt := inClass (top 26) 0
abbrev s_m_Sieve_eq : Stmt := inClass (top 26) 1
abbrev s_m_Sieve_bars : Stmt := inClass (top 26) 2
abbrev s_m_Sieve_whole : Stmt := inClass (top 26) 3
abbrev s_m_Sieve_classes : Stmt := inClass (top 26) 4
theorem sc_p_is_integer : FnScope ["value"] ["value"] (defScope s_p_is_integer) := ⟨rfl, rfl, rfl, by decide +kernel, rfl, by decide +kernel, by decide +kernel⟩
theorem sc_p_integer_within : FnScope ["value", "least", "greatest"] ["value", "least", "greatest"] (defScope s_p_integer_within) := ⟨rfl, rfl, rfl, by decide +kernel, rfl, by decide +kernel, by decide +kernel⟩
theorem sc_p_is_ascending : FnScope ["value", "limit", "least", "one"] ["value", "limit"] (defScope s_p_is_ascending) := ⟨rfl, rfl, rfl, by decide +kernel, rfl, by decide +kernel, by decide +kernel⟩
theorem sc_p_is_lot : FnScope ["value", "modulus"] ["value", "modulus"] (defScope s_p_is_lot) := ⟨rfl, rfl, rfl, by decide +kernel, rfl, by decide +kernel, by decide +kernel⟩
theorem sc_p_is_pair : FnScope ["value"] ["value"] (defScope s_p_is_pair) := ⟨rfl, rfl, rfl, by decide +kernel, rfl, by decide +kernel, by decide +kernel⟩
theorem sc_p_is_bar : FnScope ["value", "modulus", "lot"] ["value"] (defScope s_p_is_bar) := ⟨rfl, rfl, rfl, by decide +kernel, rfl, by decide +kernel, by decide +kernel⟩
theorem sc_p_inverse : FnScope ["number", "modulus", "rest", "after", "factor", "factor_after", "many"] ["number", "modulus"] (defScope s_p_inverse) := ⟨rfl, rfl, rfl, by decide +kernel, rfl, by decide +kernel, by decide +kernel⟩
theorem sc_p_joined : FnScope ["classes", "whole", "modulus", "lot", "common", "turns", "back", "found", "known", "rest", "apart"] ["classes", "whole", "modulus", "lot"] (defScope s_p_joined) := ⟨rfl, rfl, rfl, by decide +kernel, rfl, by decide +kernel, by decide +kernel⟩
theorem sc_p_classes_of : FnScope ["bars", "whole", "classes", "modulus", "lot"] ["bars"] (defScope s_p_classes_of) := ⟨rfl, rfl, rfl, by decide +kernel, rfl, by decide +kernel, by decide +kernel⟩
theorem sc_p_check_bars : FnScope ["bars", "index", "bar"] ["bars"] (defScope s_p_check_bars) := ⟨rfl, rfl, rfl, by decide +kernel, rfl, by decide +kernel, by decide +kernel⟩
theorem sc_p_whole_of : FnScope ["bars", "whole", "modulus", "_"] ["bars"] (defScope s_p_whole_of) := ⟨rfl, rfl, rfl, by decide +kernel, rfl, by decide +kernel, by decide +kernel⟩
theorem sc_p_check_choices : FnScope ["bars", "choices", "_", "lot"] ["bars"] (defScope s_p_check_choices) := ⟨rfl, rfl, rfl, by decide +kernel, rfl, by decide +kernel, by decide +kernel⟩
theorem sc_l_draws : FnScope ["_law_script"] ["_law_script"] (defScope s_l_draws) := ⟨rfl, rfl, rfl, by decide +kernel, rfl, by decide +kernel, by decide +kernel⟩
theorem sc_l_pick : FnScope ["_law_row", "_law_many", "_law_cell", "_law_found"] ["_law_row", "_law_many"] (defScope s_l_pick) := ⟨rfl, rfl, rfl, by decide +kernel, rfl, by decide +kernel, by decide +kernel⟩
theorem sc_l_bars : FnScope ["_law_row", "_law_most", "_law_top", "_law_found", "_law_many", "_law_k", "_law_modulus", "_law_thick", "_law_lot", "_law_rest"] ["_law_row", "_law_most", "_law_top"] (defScope s_l_bars) := ⟨rfl, rfl, rfl, by decide +kernel, rfl, by decide +kernel, by decide +kernel⟩
theorem sc_l_told_there : FnScope ["_law_bars_here", "_law_told_there_here", "e"] ["_law_bars_here"] (defScope s_l_told_there) := ⟨rfl, rfl, rfl, by decide +kernel, rfl, by decide +kernel, by decide +kernel⟩
theorem sc_l_is_whole : FnScope ["_law_value", "_law_low", "_law_high"] ["_law_value", "_law_low", "_law_high"] (defScope s_l_is_whole) := ⟨rfl, rfl, rfl, by decide +kernel, rfl, by decide +kernel, by decide +kernel⟩
theorem sc_l_bad : FnScope ["_law_one", "_law_rest", "_law_k"] ["_law_one"] (defScope s_l_bad) := ⟨rfl, rfl, rfl, by decide +kernel, rfl, by decide +kernel, by decide +kernel⟩
theorem sc_l_due : FnScope ["_law_bars_here", "_law_faults", "_law_k"] ["_law_bars_here"] (defScope s_l_due) := ⟨rfl, rfl, rfl, by decide +kernel, rfl, by decide +kernel, by decide +kernel⟩
theorem sc_law : FnScope ["_law_script", "_law_row", "_law_before", "_law_turn", "_law_bars_here", "_law_odd", "_law_at", "_law_due_here", "_law_told_there_here", "_law_one", "_law_some"] ["_law_script"] (defScope s_law) := ⟨rfl, rfl, rfl, by decide +kernel, rfl, by decide +kernel, by decide +kernel⟩
theorem sc_m_Sieve_init : FnScope ["self", "bars"] ["self", "bars"] (defScope s_m_Sieve_init) := ⟨rfl, rfl, rfl, by decide +kernel, rfl, by decide +kernel, by decide +kernel⟩
theorem sc_m_Sieve_eq : FnScope ["self", "other"] ["self", "other"] (defScope s_m_Sieve_eq) := ⟨rfl, rfl, rfl, by decide +kernel, rfl, by decide +kernel, by decide +kernel⟩
theorem sc_m_Sieve_bars : FnScope ["self"] ["self"] (defScope s_m_Sieve_bars) := ⟨rfl, rfl, rfl, by decide +kernel, rfl, by decide +kernel, by decide +kernel⟩
theorem sc_m_Sieve_whole : FnScope ["self"] ["self"] (defScope s_m_Sieve_whole) := ⟨rfl, rfl, rfl, by decide +kernel, rfl, by decide +kernel, by decide +kernel⟩
theorem sc_m_Sieve_classes : FnScope ["self"] ["self"] (defScope s_m_Sieve_classes) := ⟨rfl, rfl, rfl, by decide +kernel, rfl, by decide +kernel, by decide +kernel⟩
end R
/-! ## an own exception whose __init__ hands a text on and keeps its one argument -/
namespace XI
open PySem PySem.W PySem.Calls PyProof.Rows PySem.HandSPX
/-- __init__ of one field -/
def oneArgs (p1 p2 : Pos) : Arguments :=
  { posonlyargs := [], args := [⟨"self", none, p1⟩, ⟨"index", none, p2⟩], vararg := none,
    kwonlyargs := [], kw_defaults := [], kwarg := none, defaults := [] }
def oneCall (m1 m2 : Str) (q1 q2 q3 q4 r1 r2 r3 r4 r5 : Pos) : Expr :=
  .Call (.Attribute (.Call (.Name "super" q1) [] [] q2) "__init__" q3) [.JoinedStr [.Constant (.str m1) 0 r1, .FormattedValue (.Name "index" r2) (-1) none r3, .Constant (.str m2) 0 r4] r5] [] q4
def oneSet (q6 q7 q8 q9 : Pos) : Stmt := .Assign [.Attribute (.Name "self" q6) "index" q7] (.Name "index" q8) q9
def oneScope : Scope :=
  { kind := .function, names := [(Str.ofString "self", .local), (Str.ofString "index", .local), (Str.ofString "__class__", .free), (Str.ofString "super", .globalImplicit)],
    isGenerator := false, isCoroutine := false, more := [] }
/-- a value that the text tells: None, or a small int -/
def Told (v : Value) : Prop := v = .none ∨ ∃ (i : Nat) (t : Tok), v = .int (i : Int) t ∧ i ≤ 100
theorem short_small : ∀ i : Nat, i ≤ 100 → (Str.ofString (toString (i : Int))).length ≤ 10 := by decide +kernel
theorem log_small : ∀ i : Nat, i ≤ 100 → (i : Int).natAbs.log2 < 1920 := by decide +kernel
/-- what the written part tells of the class at C -/
structure OwnC (K : Frag) (C fI : Addr) (f : Str) : Prop where
  cls : ∃ nm q N bs bm sn sub ab col dd k0 k1 k2 k3 k5, K.lookup C = some (excClassObj nm q C N bs bm true sn sub ab col dd k0 k1 k2 k3 k5 "ValueError.__new__") ∧ refsVE bm = true
  sup : ks_superIn K C C "__init__" = some (some (.builtin "ValueError.__init__"))
  isV : subIn K (.ref C) (.type "ValueError") = some true
  self : mroIn K C (.ref C) = some true
  any_ : nsIn K cStatics "thirdparty.any" = some none
  sa : findIn K (.ref C) "__setattr__" = some (some (.builtin "object.__setattr__"))
  no : findIn K (.ref C) f = some none
  init : findIn K (.ref C) "__init__" = some (some (.ref fI))
  fn : typeIn K (.ref fI) = some (.type "function")
  keep : keepIn K (.ref C) = true
  exc : subIn K (.ref C) (.type "BaseException") = some true
  ty : typeIn K (.ref C) = some (.type "type")
/-- what it tells of its __init__ -/
structure OwnF (K : Frag) (C fI : Addr) (file : Str) : Prop where
  ex : ∃ (oc : Value) (od : Option Addr) (osl : Array (Option Value)) (q m1 m2 : Str) (doc pm ct : Value) (an : Option Addr) (cda cc : Addr) (p1 p2 q1 q2 q3 q4 q5 r1 r2 r3 r4 r5 q6 q7 q8 q9 : Pos),
    K.lookup fI = some ⟨oc, od, .func (ksFn "__init__" q (oneArgs p1 p2) [.Expr (oneCall m1 m2 q1 q2 q3 q4 r1 r2 r3 r4 r5) q5, oneSet q6 q7 q8 q9] oneScope .none .none doc pm an (.ref cda) ct cc), osl⟩ ∧
    codeIn K (.ref cda) q = true ∧ (q3.endLine == q4.line) = true ∧ m1.length ≤ 1000 ∧ m2.length ≤ 1000 ∧ (∃ ccl cdd vs ccs tf, K.lookup cda = some ⟨ccl, cdd, .fields vs, ccs⟩ ∧ vs[2]? = some (.str file tf)) ∧
    ∃ cl cld csl, K.lookup cc = some ⟨cl, cld, .cell (some (.ref C)), csl⟩
structure Left (h h' : Heap) (x C dx : Addr) (f : Str) (v : Value) : Prop where
  keep : ∀ b o, b ≠ x → h.get? b = some o → h'.get? b = some o
  obj : ∃ t1, h'.get? x = some { cls := .ref C, dict := some dx, data := .fields #[.ref t1, .none, .none, .none, .bool false, .none] }
  big : h.objs.size ≤ dx
  ne : dx ≠ x
  ns : h'.Ns1 dx (fun y => if y = f then some v else none)
section
variable {prog : Program} {w : World} {A : Around} {E : Value → Shared → Prop} {R : Result → Shared → Prop} {s : Shared} {K : Frag} {C fI : Addr} {f file : Str} {mg mb : Str → Option Value}
theorem args_one {M : Model} {pos : Pos} {env : Env} {e : Expr} {Q : List Value → Shared → Prop} (h : wpAny M A (eval e env) (fun v s' => Q [v] s') E s) (he : starEach [e] env = [(false, eval e env)] := by rfl) :
    wpAny M A (spliced (backTo pos (starEach [e] env))) Q E s := by
  rw [he]
  exact Calls.spliced_cons (wpAny_mono h (fun v s1 h1 => Calls.spliced_nil h1) fun _ _ z => z)
theorem call_mw {u e t0 : Addr} {h : Heap} {g : Array GenState} {d : Drawn} {t : Nat} {os : OsState} {rest : List Value} {Q : Value → Shared → Prop} {nm q : Str} {N : Addr} {bs bm : List Value} {hdct : Bool} {sn : List Str} {sub : List Value} {ab : Bool} {col : Option Bool} {dd : Option Addr} {k0 k1 k2 k3 k5 : Option Value}
    (hC : h.get? C = some (excClassObj nm q C N bs bm hdct sn sub ab col dd k0 k1 k2 k3 k5 "ValueError.__new__")) (he : h.get? e = some (excO C t0)) (hu : h.get? u = some (kxs_mw "ValueError.__init__" e)) (hrest : rest.length ≤ sizeLine)
    (hq : ∀ h' t1, (∀ b o, b ≠ e → h.get? b = some o → h'.get? b = some o) → h'.get? e = some (excO C t1) → Q .none ⟨h', g, d, t, os⟩) :
    wpAny (model prog w) A (call (.ref u) rest) Q E ⟨h, g, d, t, os⟩ := by
  refine wpAny_call (codeAny_of_tree ?_)
  show wpAny _ A.in1 (callAny (.ref u) ⟨rest, []⟩) _ _ _
  simp only [callAny]
  refine wpAny_bind (wpAny_load hu ?_)
  simp only [kxs_mw, show (Value.type "method-wrapper" == Value.type "method" || Value.type "method-wrapper" == Value.type "builtin_function_or_method" || Value.type "method-wrapper" == Value.type "method-wrapper") = true by decide, if_true]
  refine W.KFB.if_so (by decide) ?_
  refine wpAny_bind (check_bound_init F.excBase_ValueError.toExcCallFacts hC he rfl ?_)
  refine wpAny_bind (wpAny_pure (wpAny_pure ?_))
  refine ⟨Code.quiet_builtin _ (by decide +kernel), codeAny_builtin F.excBase_ValueError.initEntry ?_⟩
  rw [Around.under_plainId F.excBase_ValueError.init.plain _]
  wp_walk
  refine hq _ h.objs.size (fun b o hb ho => ?_) ?_
  · rw [Heap.get?_update_other _ _ (Ne.symm hb)]
    exact Heap.get?_push_of_some _ ho
  · rw [Heap.get?_update_self _ (Heap.get?_push_of_some _ he) rfl]
    rfl
theorem told_text {v : Value} (hv : Told v) : ∃ y : Str, y.length ≤ 10 ∧ ∀ {A : Around} {E : Value → Shared → Prop} {s : Shared} {Q : Value → Shared → Prop}, (∀ t t' : Nat, Q (.str y t) { s with toks := t' }) → wpAny (model prog w) A (formatField v Str.empty) Q E s := by
  rcases hv with rfl | ⟨i, ti, rfl, hi⟩
  · exact ⟨"None", by decide, fun q => wpAny_formatField_none (q _ _)⟩
  · exact ⟨toString (i : Int), short_small i hi, fun q => wpAny_formatField_int (log_small i hi) (q _ _)⟩
theorem lenA1 {m1 : Str} (z1 : m1.length ≤ 1000) : (Str.empty ++ m1).length ≤ sizeLine := by
  rw [strLen_append, sizeLine_eq]
  have : Str.empty.length = 0 := rfl
  omega
theorem lenA2 {m1 y : Str} (z1 : m1.length ≤ 1000) (hy : y.length ≤ 10) : (Str.empty ++ m1 ++ y).length ≤ sizeLine := by
  rw [strLen_append, strLen_append, sizeLine_eq]
  have : Str.empty.length = 0 := rfl
  omega
theorem lenA3 {m1 y m2 : Str} (z1 : m1.length ≤ 1000) (hy : y.length ≤ 10) (z2 : m2.length ≤ 1000) : (Str.empty ++ m1 ++ y ++ m2).length ≤ sizeLine := by
  rw [strLen_append, strLen_append, strLen_append, sizeLine_eq]
  have : Str.empty.length = 0 := rfl
  omega
theorem call_line {o e : Expr} {n : Str} {ap pos : Pos} {env : Env} (hl : (ap.endLine == pos.line) = true) (hs : starEach [e] env = [(false, eval e env)] := by rfl) :
    eval (.Call (.Attribute o n ap) [e] [] pos) env = (do
      let ov ← attributeBase o n env (eval o env)
      standAt ap.atName
      let (f, first) ← holding [ov] (getMethod ov n (do return (← importBound o env).getD true))
      callWith pos f first (backTo pos (starEach [e] env)) []) := by
  rw [arm_eval_Call]
  unfold methodCall
  have e1 : methodCallForm ([e].length + ([] : List Keyword).length) (backTo pos (starEach [e] env)) (backToKw pos (keywordEach [] env)) = true := by
    rw [hs]
    rfl
  have e2 : methodCallPos true o env ap pos = pure pos := by
    unfold methodCallPos
    rw [hl]
    rfl
  rw [e1, e2]
  rfl
theorem own_init (T : OwnC K C fI "index") (TF : OwnF K C fI file) {x t0 : Addr} {v : Value} (X : K.In s.heap) (hlim : s.heap.NoLimit) (hG : s.heap.Ns mainGlobals mg) (hg : mg "super" = none) (hB : s.heap.Ns builtinsNs mb) (hb : mb "super" = some (.type "super"))
    (hfile : ((prog.main.file : Str) == file) = true) (htop : (prog.main.scope.names.lookup ("super" : Str)).isSome = false)
    (hx : s.heap.get? x = some (excO C t0)) (hnx : K.lookup x = none) (hv : Told v) (hroom : A.depth < recursionLimit)
    (hq : ∀ h' tk dx, Left s.heap h' x C dx "index" v → R (.ok (.ret .none)) { s with heap := h', toks := tk }) :
    codeAny (model prog w) A (.call (.ref fI) ⟨[.ref x, v], []⟩) R s := by
  obtain ⟨oc, od, osl, q, m1, m2, doc, pm, ct, an, cda, cc, p1, p2, q1, q2, q3, q4, q5, r1, r2, r3, r4, r5, q6, q7, q8, q9, ho, hcd, hln, z1, z2, ⟨ccl, cdd, vs, ccs, tf, hcode, hvs⟩, cl, cld, csl, hcell⟩ := TF.ex
  obtain ⟨nm, qn, N, bs, bm, sn, sub, ab, col, dd, k0, k1, k2, k3, k5, hC, hbm⟩ := T.cls
  have hcl : clsIn K C = some { name := nm, bases := bs, mro := .ref C :: bm, ns := N, qualname := qn, hasDict := true, slotNames := sn, subclasses := sub, abstract := ab, collection := col, hasDel := false } := by unfold clsIn; rw [hC] <;> rfl
  refine ks_codeAny_call_defAt (fd := ksFn "__init__" q (oneArgs p1 p2) _ oneScope .none .none doc pm an (.ref cda) ct cc) (binds := [("self", .ref x), ("index", v)]) hroom (X _ _ ho) rfl hlim (codeRec_of X hcd) rfl (BindsTo.of_eq (by first | rfl | with_unfolding_all rfl)) (show ∀ x ∈ oneScope.names, x.2 ≠ .cell by decide) (fun y hy => ?_) (fun h₁ hns k₁ => ?_)
  · rcases List.mem_cons.mp hy with rfl | hy
    · rfl
    · rw [List.mem_singleton.mp hy]
      rfl
  obtain ⟨hp, g, d, t, os⟩ := s
  have X₁ : K.In h₁ := X.keeps k₁
  have hx₁ := k₁ _ _ hx
  have hxL : hp.objs.size ≠ x := Nat.ne_of_gt (Heap.lt_size hx)
  have nsk : ∀ {h2 : Heap}, (∀ b o, b ≠ x → h₁.get? b = some o → h2.get? b = some o) → h2.Ns hp.objs.size _ := fun k => hns.at fun o e => k _ o hxL e
  refine ks_wpAt_execs_cons (ks_wpAt_Expr_any (ks_wpAt_MethodCall ?_ (call_line hln)))
  refine ks_wpAt_super_base (env := ksEnv q oneScope hp.objs.size fI (.ref cda) cc) (by rfl) (by rfl) (by rfl) rfl (X₁ _ _ ho) rfl rfl rfl (X₁ _ _ hcode) rfl hvs hfile htop ?_
  refine ks_loadName_global (by rfl) (by rfl) (loadGlobal_builtin (env := ksEnv q oneScope hp.objs.size fI (.ref cda) cc) (hG.keeps k₁) hg (hB.keeps k₁) hb ⟨rfl, ?_⟩)
  refine wpAny_loadName_free (by rfl) (by rfl) rfl ⟨_, X₁ _ _ hcell, rfl⟩ ?_
  refine wpAny_loadName_local (by rfl) (by rfl) hns (by first | rfl | with_unfolding_all rfl | kernel_rfl) ?_
  refine ks_wpAny_isType_cls (X₁ _ _ hC) rfl ⟨rfl, ?_⟩
  refine ks_wpAny_call_super (X₁ _ _ hC) rfl hx₁ rfl (fun c e => by cases e) (looks_mroIn X₁ T.self) (fun h₂ e₂ k₂ => ?_)
  have X₂ : K.In h₂ := X₁.keeps k₂
  have hx₂ := k₂ _ _ hx₁
  have hI : Looks (model prog w) h₂ (isInstance (.ref x) (.type "ValueError")) true := (InstAt.type (od := none) ⟨hx₂, rfl, rfl, trivial⟩).andThen (looks_subIn X₂ T.isV)
  have sup := T.sup
  unfold ks_superIn at sup
  rw [hcl] at sup
  refine kxs_getMethod kxs_ValueError e₂ (looks_opaque X₂ T.any_) (l₀ := .ref C :: bm) (fun A Q E s k q => wpAny_bind ((looks_clsIn X₂ hcl) A _ E s k (wpAny_pure q))) rfl X₂ sup hI (fun z => by
    have y := X₂ _ _ hC
    rw [← z, hx₂] at y
    cases y) (by decide) ?_
  have hu : (h₂.push (kxs_mw "ValueError.__init__" x)).get? h₂.objs.size = some (kxs_mw "ValueError.__init__" x) := Heap.get?_push_at rfl rfl
  have k₃ : ∀ b o, h₂.get? b = some o → (h₂.push (kxs_mw "ValueError.__init__" x)).get? b = some o := fun b o e => Heap.get?_push_of_some _ e
  generalize h₂.push (kxs_mw "ValueError.__init__" x) = h₃ at hu k₃ ⊢
  have hx₃ := k₃ _ _ hx₂
  have X₃ : K.In h₃ := X₂.keeps k₃
  have kk : ∀ b o, h₁.get? b = some o → h₃.get? b = some o := fun b o e => k₃ _ _ (k₂ _ _ e)
  have hns₃ := hns.keeps kk
  show wpAny _ _ (callWith _ (.ref _) [] _ []) _ _ _
  refine kxs_callWith (i := "ValueError.__init__") (x := x) (by rfl) (evalArgs_plain (Calls.spliced_cons ?_))
  obtain ⟨y, hy, fmt⟩ := told_text (prog := prog) (w := w) hv
  refine wpAny_JoinedStr (pos := r5) ?_
  refine wpAny_Constant_str ⟨m1, _, rfl, lenA1 z1, ?_⟩
  refine wpAny_FormattedValue_plain (wpAny_Name (wpAny_loadName_local (by rfl) (by rfl) hns₃ (by first | rfl | with_unfolding_all rfl | kernel_rfl) ?_))
  refine fmt fun t1 t2 => ⟨y, _, rfl, lenA2 z1 hy, ?_⟩
  refine wpAny_Constant_str ⟨m2, _, rfl, lenA3 z1 hy z2, lenA3 z1 hy z2, ?_⟩
  refine Calls.spliced_nil ⟨hu, ?_⟩
  refine call_mw (X₃ _ _ hC) hx₃ hu (by rw [sizeLine_eq]; exact (by decide : 1 ≤ 16777216)) (fun h₄ t4 k₄ hx₄ => ?_)
  have k14 : ∀ b o, b ≠ x → h₁.get? b = some o → h₄.get? b = some o := fun b o n e => k₄ b o n (kk _ _ e)
  have hns₄ := nsk k14
  have X₄ : K.In h₄ := fun b o e => k14 b o (fun z => by
    rw [z, hnx] at e
    cases e) (X₁ _ _ e)
  refine wpAt_of_wpAny (wpAny_execs_cons (plainObj_wpAny_Assign_Attribute (wpAny_Name (wpAny_loadName_local (by rfl) (by rfl) hns₄ (by first | rfl | with_unfolding_all rfl | kernel_rfl) ?_))))
  refine wpAny_Name (wpAny_loadName_local (by rfl) (by rfl) hns₄ (by first | rfl | with_unfolding_all rfl | kernel_rfl) ?_)
  refine set_plain X₄ (ox := excO C t4) (od := none) ⟨hx₄, rfl, rfl, trivial⟩ T.sa ?_
  refine exc_osa X₄ hx₄ hcl (show refsVE (.ref C :: bm) = true from hbm) rfl T.no (fun h₅ tk₅ dx k₅ dn dne hx₅ hn₅ => ?_)
  show wpAny _ _ (execs _ _) _ _ _
  have z : hp.objs.size < h₄.objs.size := hns₄.lt
  exact wpAny_execs_nil (hq h₅ tk₅ dx ⟨fun b o hb e => k₅ b o hb (k14 b o hb (k₁ b o e)), ⟨_, hx₅⟩, Nat.le_of_lt (Nat.lt_of_lt_of_le z dn), dne, hn₅⟩)
/-- a made exception -/
structure Born (h h' : Heap) (e C d : Addr) (v : Value) : Prop where
  keep : ∀ b o, h.get? b = some o → h'.get? b = some o
  new : h.objs.size ≤ e
  obj : ∃ oe vs, h'.get? e = some oe ∧ oe.cls = .ref C ∧ oe.dict = some d ∧ oe.data = .fields vs ∧ vs[1]? = some .none
  big : h.objs.size ≤ d
  ne : d ≠ e
  ns : h'.Ns1 d (fun y => if y = "index" then some v else none)
theorem own_born (T : OwnC K C fI "index") (TF : OwnF K C fI file) {v : Value} (X : K.In s.heap) (hlim : s.heap.NoLimit) (hG : s.heap.Ns mainGlobals mg) (hg : mg "super" = none) (hB : s.heap.Ns builtinsNs mb) (hb : mb "super" = some (.type "super"))
    (hfile : ((prog.main.file : Str) == file) = true) (htop : (prog.main.scope.names.lookup ("super" : Str)).isSome = false) (hv : Told v) (hroom : A.depth + 1 < recursionLimit)
    (hq : ∀ h' tk e d, Born s.heap h' e C d v → R (.ok (.ret (.ref e))) { s with heap := h', toks := tk }) :
    codeAny (model prog w) A (.call (.ref C) ⟨[v], []⟩) R s := by
  obtain ⟨nm, q, N, bs, bm, sn, sub, ab, col, dd, k0, k1, k2, k3, k5, hC, hbm⟩ := T.cls
  obtain ⟨hp, g, dr, tk, os⟩ := s
  have k : ∀ b o, hp.get? b = some o → ((hp.push (kdv_tup [v])).push (excO C hp.objs.size)).get? b = some o := fun b o e => Heap.get?_push_of_some _ (Heap.get?_push_of_some _ e)
  have hget : ((hp.push (kdv_tup [v])).push (excO C hp.objs.size)).get? (hp.objs.size + 1) = some (excO C hp.objs.size) := by heap_get
  have hnx : K.lookup (hp.objs.size + 1) = none := by
    cases e : K.lookup (hp.objs.size + 1) with
    | none => rfl
    | some o => exact absurd (Nat.lt_of_succ_lt (Heap.lt_size (show hp.get? (hp.objs.size + 1) = some o from X _ _ e))) (Nat.lt_irrefl _)
  refine call_own F.excBase_ValueError (fun Y => refsVE_contains Y bm hbm) (X _ _ hC) (looks_findIn X T.init) (fun u => bind_fn X u T.fn) (by rw [sizeLine_eq]; exact (by decide : 1 ≤ 16777216)) ?_
  refine own_init (s := ⟨(hp.push (kdv_tup [v])).push (excO C hp.objs.size), g, dr, tk, os⟩) T TF (X.keeps k) (hlim.keeps k) (hG.keeps k) hg (hB.keeps k) hb hfile htop hget hnx hv (show A.depth + 1 < recursionLimit from hroom) fun h' tk' dx L => ?_
  have old : ∀ b o, hp.get? b = some o → h'.get? b = some o := fun b o e => L.keep b o (Nat.ne_of_lt (Nat.lt_succ_of_lt (Heap.lt_size e))) (k b o e)
  have z : hp.objs.size + 1 + 1 ≤ dx := by
    have y := L.big
    first
      | (simpa only [Heap.size_push] using y)
      | exact y
  obtain ⟨t1, hx⟩ := L.obj
  exact ⟨rfl, hq h' tk' (hp.objs.size + 1) dx ⟨old, Nat.le_succ _, ⟨_, _, hx, rfl, rfl, rfl, rfl⟩, Nat.le_trans (Nat.le_trans (Nat.le_succ _) (Nat.le_succ _)) z, L.ne, L.ns⟩⟩
end
end XI
namespace L2
open PySem PySem.Spec PyProof.Rows
theorem relO_index {v : V} {v' : Value} (r : RelV v v') (f : Str) : RelO (List.lookup f [(("index" : Str), v)]) (if f = "index" then some v' else none) := by
  by_cases hw : f = "index"
  · subst hw
    have q : List.lookup ("index" : Str) [(("index" : Str), v)] = some v := by simp [List.lookup]
    rw [if_pos rfl, q]
    exact r
  · have qw : (f == ("index" : Str)) = false := by simpa using hw
    have q2 : List.lookup f [(("index" : Str), v)] = none := by simp [List.lookup, qw]
    rw [if_neg hw, q2]
    trivial
/-- None, or a small int -/
def ToldV (v : V) : Prop := v = .non ∨ ∃ i : Nat, v = .int (i : Int) ∧ i ≤ 100
/-- what the program's file must be -/
class POk (P : Program) (file : Str) : Prop where
  file : ((P.main.file : Str) == file) = true
  top : (P.main.scope.names.lookup ("super" : Str)).isSome = false
section
variable {X : Cx} {C fI : Addr} {file : Str}
/-- C(e), C of one field -/
def tMk1 (C : Addr) (ta : TA) : St → Hp → XK → Prop := fun σ H Q => ta σ H fun vs H1 => ∃ v, vs = [v] ∧ ToldV v ∧ ∀ d, H1 d = none → Q (.ref C) (some d) (upd H1 d (.xd [(("index" : Str), v)]))
theorem pmk_1 {a : Expr} {ta : TA} {x : Str} {p pos : Pos} {k : Nat} (po : POk X.prog file) (T : XI.OwnC X.K C fI "index") (TF : XI.OwnF X.K C fI file) (hr : Room k X.A) (hs : X.mg "super" = none) (ha : PA X [a] ta) (hg : Gl X x) (gC : X.mg x = some (.ref C)) (hdb : (x == ("__debug__" : Str)) = false := by decide)
    (he : starEach (a :: []) X.env = (false, eval a X.env) :: starEach [] X.env := by rfl) (hpl : (backTo pos (starEach [] X.env)).any (·.1) = false := by rfl) :
    PMk X (.Call (.Name x p) [a] [] pos) (tMk1 C ta) := by
  intro pins s σ H Q I h
  refine wpAny_Call_Name_kw (ld_glob I hg gC ?_ hdb)
  refine PySem.W.callWith_K (h₀ := X.base) I.ok.mod.kin T.keep (thn (ha.run pos pins s σ H _ I h) fun us s1 hh => ?_) he hpl
  obtain ⟨vs, H1, I1, r1, v, ev, tv, q1⟩ := hh
  subst ev
  refine ⟨I1.kIn, ?_⟩
  cases r1 with
  | cons rv rn =>
    rename_i v' us'
    cases rn
    show wpAny _ _ (call (.ref C) [v']) _ _ _
    have hlim := I1.nolimit
    obtain ⟨mb, b1, b2⟩ := I1.mod.blt
    have hb : mb "super" = some (.type "super") := (b2 "super" (by decide)).trans PyProof.Rows.Boot.«super»
    have tv' : XI.Told v' := by
      rcases tv with rfl | ⟨i, rfl, hi⟩
      · exact .inl rv
      · obtain ⟨t, rfl⟩ := rv
        exact .inr ⟨i, t, rfl, hi⟩
    have G1 := I1.mod.glob.keeps I1.bk
    have G2 := b1.keeps I1.bk
    obtain ⟨hp, g, dr, tk, os⟩ := s1
    refine wpAny_call (XI.own_born T TF I1.kIn hlim G1 hs G2 hb po.file po.top tv' (by have := hr.dp; omega) fun h' tk' e d M => ?_)
    show MkP X pins σ Q (.ref e) ⟨h', g, dr, tk', os⟩
    obtain ⟨oe, fv, hoe, hc, hd, hdat, h1⟩ := M.obj
    have hns := M.ns
    obtain ⟨G', g1, g2⟩ := restrict h' fun b => decide (b ≠ e)
    have gk : ∀ b, b ≠ e → G'.get? b = h'.get? b := fun b hb => g1 b (decide_eq_true hb)
    have ge : G'.get? e = none := g2 e (by simp)
    have old : ∀ b o, hp.get? b = some o → G'.get? b = some o := fun b o q => (gk b (Nat.ne_of_lt (Nat.lt_of_lt_of_le (Heap.lt_size q) M.new))).trans (M.keep b o q)
    have ob : ObjOk X.prog X.w (upd H1 d (.xd [(("index" : Str), v)])) G' d (.xd [(("index" : Str), v)]) :=
      ⟨_, hns.at (fun o q => (gk d M.ne).trans q), fun f => relO_index rv f⟩
    have J : Inv X pins σ (upd H1 d (.xd [(("index" : Str), v)])) ⟨G', g, dr, tk', os⟩ := I1.laid (t' := tk') old M.big ob
    refine ⟨e, oe, fv, ⟨G', g, dr, tk', os⟩, _, .ref C, some d, rfl, J, fun b o q => ?_, ge, hoe, ⟨hc, hd⟩, hdat, h1, ?_, rfl, I1.bare, raises_own T.exc T.ty, q1 d (I1.hok.fresh M.big)⟩
    · by_cases hb : b = e
      · have q' : G'.get? b = some o := q
        rw [hb, ge] at q'
        cases q'
      · exact (gk b hb).symm.trans q
    · rw [upd_ne (Ne.symm M.ne)]
      exact I1.hok.fresh M.new
/-- isinstance(e, c), e an exception with its dict that the suite holds -/
def rIsD (K : PySem.W.Frag) (D a : Addr) (cls : Value) (d : Option Addr) : List V → Hp → VK → Prop := fun xs H Q => cls = .ref D ∧ ∃ (dd : Addr) (fs : List (Str × V)), d = some dd ∧ H dd = some (.xd fs) ∧ rIsE K D a xs H Q
theorem call_isD {a D : Addr} {oe : Obj} {pn : List (Addr × Obj)} {cls : Value} {d : Option Addr} (C : ExcC X.K D) (hz : Zc cls d oe) (hf : ∃ vs, oe.data = .fields vs) :
    CallR (X.suite a ((a, oe) :: pn)) (.builtin "isinstance") (rIsD X.K D a cls d) := by
  intro pins s σ H xs us Q I r h
  obtain ⟨h1, dd, fs, h2, hxd, c, cv, b, rfl, hcv, e, q⟩ := h
  subst h1 h2
  cases r with
  | cons rx rr =>
    cases rr with
    | cons rt rr =>
      cases rr
      cases rx
      have ec := hcv _ rt
      subst ec
      obtain ⟨hget, _⟩ := I.pin (a, oe) (List.mem_append.mpr (.inl List.mem_cons_self))
      obtain ⟨vs, hv⟩ := hf
      obtain ⟨mA, hns, _⟩ : ObjOk X.prog X.w H s.heap dd (.xd fs) := I.hok dd _ hxd
      obtain ⟨od, ho, _⟩ := lookIn_ns hns
      have J : PySem.W.InstAt s.heap a oe D (some od) := ⟨hget, hz.1, by unfold PySem.W.notCls; rw [hv] <;> rfl, by rw [hz.2]; exact ho⟩
      have hcl : (PySem.W.clsIn X.K D).isSome = true := by
        obtain ⟨cd, hc, _⟩ := PySem.W.any_some C.hd
        rw [hc]
        rfl
      exact PySem.W.kia_one (PySem.W.kitx_exc hcl C.hg C.hk C.hs C.ha C.hn C.ht C.hm) I.kIn J e (fun z => nomatch z) fun tk => ⟨.bl b, H, I.kept (t' := tk) fun _ _ z => z, rfl, q⟩
end
end L2
namespace R
open PySem PySem.Spec PyProof.Rows L2

def FILE : Str := "/claim/cut.py"
/-! what stands behind the top -/
structure Txt (K : PySem.W.Frag) (mg : Str → Option Value) where
  f_p_is_integer : Addr
  fd_p_is_integer : FuncData
  F_p_is_integer : Fun K "is_integer" "is_integer" s_p_is_integer f_p_is_integer fd_p_is_integer
  b_p_is_integer : Binds K fd_p_is_integer ["value"] []
  g_p_is_integer : mg "is_integer" = some (.ref f_p_is_integer)
  f_p_integer_within : Addr
  fd_p_integer_within : FuncData
  F_p_integer_within : Fun K "integer_within" "integer_within" s_p_integer_within f_p_integer_within fd_p_integer_within
  b_p_integer_within : Binds K fd_p_integer_within ["value", "least", "greatest"] []
  g_p_integer_within : mg "integer_within" = some (.ref f_p_integer_within)
  f_p_is_ascending : Addr
  fd_p_is_ascending : FuncData
  F_p_is_ascending : Fun K "is_ascending" "is_ascending" s_p_is_ascending f_p_is_ascending fd_p_is_ascending
  b_p_is_ascending : Binds K fd_p_is_ascending ["value", "limit"] []
  g_p_is_ascending : mg "is_ascending" = some (.ref f_p_is_ascending)
  f_p_is_lot : Addr
  fd_p_is_lot : FuncData
  F_p_is_lot : Fun K "is_lot" "is_lot" s_p_is_lot f_p_is_lot fd_p_is_lot
  b_p_is_lot : Binds K fd_p_is_lot ["value", "modulus"] []
  g_p_is_lot : mg "is_lot" = some (.ref f_p_is_lot)
  f_p_is_pair : Addr
  fd_p_is_pair : FuncData
  F_p_is_pair : Fun K "is_pair" "is_pair" s_p_is_pair f_p_is_pair fd_p_is_pair
  b_p_is_pair : Binds K fd_p_is_pair ["value"] []
  g_p_is_pair : mg "is_pair" = some (.ref f_p_is_pair)
  f_p_is_bar : Addr
  fd_p_is_bar : FuncData
  F_p_is_bar : Fun K "is_bar" "is_bar" s_p_is_bar f_p_is_bar fd_p_is_bar
  b_p_is_bar : Binds K fd_p_is_bar ["value"] []
  g_p_is_bar : mg "is_bar" = some (.ref f_p_is_bar)
  f_p_inverse : Addr
  fd_p_inverse : FuncData
  F_p_inverse : Fun K "inverse" "inverse" s_p_inverse f_p_inverse fd_p_inverse
  b_p_inverse : Binds K fd_p_inverse ["number", "modulus"] []
  g_p_inverse : mg "inverse" = some (.ref f_p_inverse)
  f_p_joined : Addr
  fd_p_joined : FuncData
  F_p_joined : Fun K "joined" "joined" s_p_joined f_p_joined fd_p_joined
  b_p_joined : Binds K fd_p_joined ["classes", "whole", "modulus", "lot"] []
  g_p_joined : mg "joined" = some (.ref f_p_joined)
  f_p_classes_of : Addr
  fd_p_classes_of : FuncData
  F_p_classes_of : Fun K "classes_of" "classes_of" s_p_classes_of f_p_classes_of fd_p_classes_of
  b_p_classes_of : Binds K fd_p_classes_of ["bars"] []
  g_p_classes_of : mg "classes_of" = some (.ref f_p_classes_of)
  f_p_check_bars : Addr
  fd_p_check_bars : FuncData
  F_p_check_bars : Fun K "check_bars" "check_bars" s_p_check_bars f_p_check_bars fd_p_check_bars
  b_p_check_bars : Binds K fd_p_check_bars ["bars"] []
  g_p_check_bars : mg "check_bars" = some (.ref f_p_check_bars)
  f_p_whole_of : Addr
  fd_p_whole_of : FuncData
  F_p_whole_of : Fun K "whole_of" "whole_of" s_p_whole_of f_p_whole_of fd_p_whole_of
  b_p_whole_of : Binds K fd_p_whole_of ["bars"] []
  g_p_whole_of : mg "whole_of" = some (.ref f_p_whole_of)
  f_p_check_choices : Addr
  fd_p_check_choices : FuncData
  F_p_check_choices : Fun K "check_choices" "check_choices" s_p_check_choices f_p_check_choices fd_p_check_choices
  b_p_check_choices : Binds K fd_p_check_choices ["bars"] []
  g_p_check_choices : mg "check_choices" = some (.ref f_p_check_choices)
  f_l_draws : Addr
  fd_l_draws : FuncData
  F_l_draws : Fun K "_law_draws" "_law_draws" s_l_draws f_l_draws fd_l_draws
  b_l_draws : Binds K fd_l_draws ["_law_script"] []
  g_l_draws : mg "_law_draws" = some (.ref f_l_draws)
  f_l_pick : Addr
  fd_l_pick : FuncData
  F_l_pick : Fun K "_law_pick" "_law_pick" s_l_pick f_l_pick fd_l_pick
  b_l_pick : Binds K fd_l_pick ["_law_row", "_law_many"] []
  g_l_pick : mg "_law_pick" = some (.ref f_l_pick)
  f_l_bars : Addr
  fd_l_bars : FuncData
  F_l_bars : Fun K "_law_bars" "_law_bars" s_l_bars f_l_bars fd_l_bars
  b_l_bars : Binds K fd_l_bars ["_law_row", "_law_most", "_law_top"] []
  g_l_bars : mg "_law_bars" = some (.ref f_l_bars)
  f_l_told_there : Addr
  fd_l_told_there : FuncData
  F_l_told_there : Fun K "_law_told_there" "_law_told_there" s_l_told_there f_l_told_there fd_l_told_there
  b_l_told_there : Binds K fd_l_told_there ["_law_bars_here"] []
  g_l_told_there : mg "_law_told_there" = some (.ref f_l_told_there)
  f_l_is_whole : Addr
  fd_l_is_whole : FuncData
  F_l_is_whole : Fun K "_law_is_whole" "_law_is_whole" s_l_is_whole f_l_is_whole fd_l_is_whole
  b_l_is_whole : Binds K fd_l_is_whole ["_law_value", "_law_low", "_law_high"] []
  g_l_is_whole : mg "_law_is_whole" = some (.ref f_l_is_whole)
  f_l_bad : Addr
  fd_l_bad : FuncData
  F_l_bad : Fun K "_law_bad" "_law_bad" s_l_bad f_l_bad fd_l_bad
  b_l_bad : Binds K fd_l_bad ["_law_one"] []
  g_l_bad : mg "_law_bad" = some (.ref f_l_bad)
  f_l_due : Addr
  fd_l_due : FuncData
  F_l_due : Fun K "_law_due" "_law_due" s_l_due f_l_due fd_l_due
  b_l_due : Binds K fd_l_due ["_law_bars_here"] []
  g_l_due : mg "_law_due" = some (.ref f_l_due)
  f_law : Addr
  fd_law : FuncData
  F_law : Fun K "law" "law" s_law f_law fd_law
  b_law : Binds K fd_law ["_law_script"] []
  g_law : mg "law" = some (.ref f_law)
  f_m_Sieve_init : Addr
  fd_m_Sieve_init : FuncData
  F_m_Sieve_init : Fun K "__init__" "Sieve.__init__" s_m_Sieve_init f_m_Sieve_init fd_m_Sieve_init
  b_m_Sieve_init : Binds K fd_m_Sieve_init ["self", "bars"] []
  f_m_Sieve_eq : Addr
  fd_m_Sieve_eq : FuncData
  F_m_Sieve_eq : Fun K "__eq__" "Sieve.__eq__" s_m_Sieve_eq f_m_Sieve_eq fd_m_Sieve_eq
  b_m_Sieve_eq : Binds K fd_m_Sieve_eq ["self", "other"] []
  f_m_Sieve_bars : Addr
  fd_m_Sieve_bars : FuncData
  F_m_Sieve_bars : Fun K "bars" "Sieve.bars" s_m_Sieve_bars f_m_Sieve_bars fd_m_Sieve_bars
  b_m_Sieve_bars : Binds K fd_m_Sieve_bars ["self"] []
  f_m_Sieve_whole : Addr
  fd_m_Sieve_whole : FuncData
  F_m_Sieve_whole : Fun K "whole" "Sieve.whole" s_m_Sieve_whole f_m_Sieve_whole fd_m_Sieve_whole
  b_m_Sieve_whole : Binds K fd_m_Sieve_whole ["self"] []
  f_m_Sieve_classes : Addr
  fd_m_Sieve_classes : FuncData
  F_m_Sieve_classes : Fun K "classes" "Sieve.classes" s_m_Sieve_classes f_m_Sieve_classes fd_m_Sieve_classes
  b_m_Sieve_classes : Binds K fd_m_Sieve_classes ["self"] []
  z_len : mg "len" = none
  z_max : mg "max" = none
  z_range : mg "range" = none
  z_int : mg "int" = none
  z_list : mg "list" = none
  z_tuple : mg "tuple" = none
  z_sorted : mg "sorted" = none
  z_isinstance : mg "isinstance" = none
  z_enumerate : mg "enumerate" = none
  z_bool : mg "bool" = none
  g_gcd : mg "gcd" = some (.builtin "math.gcd")
  g_lcm : mg "lcm" = some (.builtin "math.lcm")
  c_GREATEST_MODULUS : ∃ t, mg "GREATEST_MODULUS" = some (.int 1000000 t)
  c_MOST_RESTS : ∃ t, mg "MOST_RESTS" = some (.int 60 t)
  c_MOST_BARS : ∃ t, mg "MOST_BARS" = some (.int 6 t)
  c_GREATEST_WHOLE : ∃ t, mg "GREATEST_WHOLE" = some (.int 1000000000000000000000000000000 t)
  c_MOST_CHOICES : ∃ t, mg "MOST_CHOICES" = some (.int 2000 t)
  C : Addr
  g_Sieve : mg "Sieve" = some (.ref C)
  cl : Cls K C
  mkC : Mk K C f_m_Sieve_init
  n_bars : NoAttr K C "_bars"
  n_whole : NoAttr K C "_whole"
  n_classes : NoAttr K C "_classes"
  p_bars : Addr
  pp_bars : PropOf K C "bars" p_bars f_m_Sieve_bars
  p_whole : Addr
  pp_whole : PropOf K C "whole" p_whole f_m_Sieve_whole
  p_classes : Addr
  pp_classes : PropOf K C "classes" p_classes f_m_Sieve_classes
  C_RestError : Addr
  g_RestError : mg "RestError" = some (.ref C_RestError)
  C_TooGreat : Addr
  g_TooGreat : mg "TooGreat" = some (.ref C_TooGreat)
  x_TooGreat : PySem.W.excIn K C_TooGreat [.type "ValueError", .type "Exception", .type "BaseException", .type "object"] "ValueError.__new__" = true
  k_TooGreat : PySem.W.keepIn K (.ref C_TooGreat) = true
  b_TooGreat : PySem.W.subIn K (.ref C_TooGreat) (.type "BaseException") = some true
  t_TooGreat : PySem.W.typeIn K (.ref C_TooGreat) = some (.type "type")
  e_TooGreat : PySem.W.exmOne K (.ref C_TooGreat) (.ref C_TooGreat) = some true
  E_TooGreat : ExcC K C_TooGreat
  r_TooGreat : PySem.W.kitOne K (.ref C_TooGreat) (.ref C_RestError) = some true
  C_TooMany : Addr
  g_TooMany : mg "TooMany" = some (.ref C_TooMany)
  x_TooMany : PySem.W.excIn K C_TooMany [.type "ValueError", .type "Exception", .type "BaseException", .type "object"] "ValueError.__new__" = true
  k_TooMany : PySem.W.keepIn K (.ref C_TooMany) = true
  b_TooMany : PySem.W.subIn K (.ref C_TooMany) (.type "BaseException") = some true
  t_TooMany : PySem.W.typeIn K (.ref C_TooMany) = some (.type "type")
  e_TooMany : PySem.W.exmOne K (.ref C_TooMany) (.ref C_TooMany) = some true
  E_TooMany : ExcC K C_TooMany
  r_TooMany : PySem.W.kitOne K (.ref C_TooMany) (.ref C_RestError) = some true
  z_super : mg "super" = none
  C_BadBars : Addr
  i_BadBars : Addr
  g_BadBars : mg "BadBars" = some (.ref C_BadBars)
  oc_BadBars : XI.OwnC K C_BadBars i_BadBars "index"
  of_BadBars : XI.OwnF K C_BadBars i_BadBars FILE
  xf_BadBars : XfC K C_BadBars
  e_BadBars : PySem.W.exmOne K (.ref C_BadBars) (.ref C_BadBars) = some true
  E_BadBars : ExcC K C_BadBars
  r_BadBars : PySem.W.kitOne K (.ref C_BadBars) (.ref C_RestError) = some true
  e_TooGreat_TooMany : PySem.W.exmOne K (.ref C_TooGreat) (.ref C_TooMany) = some false
  e_TooGreat_BadBars : PySem.W.exmOne K (.ref C_TooGreat) (.ref C_BadBars) = some false
  e_TooMany_TooGreat : PySem.W.exmOne K (.ref C_TooMany) (.ref C_TooGreat) = some false
  e_TooMany_BadBars : PySem.W.exmOne K (.ref C_TooMany) (.ref C_BadBars) = some false
  e_BadBars_TooGreat : PySem.W.exmOne K (.ref C_BadBars) (.ref C_TooGreat) = some false
  e_BadBars_TooMany : PySem.W.exmOne K (.ref C_BadBars) (.ref C_TooMany) = some false
  eqS : PySem.W.findIn K (.ref C) "__eq__" = some (some (.ref f_m_Sieve_eq))
  eqF : PySem.W.isFn K (.ref f_m_Sieve_eq) = true
  neS : PySem.W.findIn K (.ref C) "__ne__" = some (some (.builtin "object.__ne__"))
  moC : PySem.W.mroIn K C (.type "object") = some true
  kt1 : PySem.W.findIn K (.ref C) "__class__" = some (some (.builtin "object.__class__"))
  kt2 : PySem.W.specialIn K (.builtin "object.__class__") "__get__" = some (some (.builtin "getset_descriptor.__get__"))
  kt3 : PySem.W.takesIn K (.builtin "object.__class__") = some true
  suS : PySem.W.subIn K (.type "str") (.ref C) = some false
  suT : PySem.W.subIn K (.type "tuple") (.ref C) = some false
  isC : PySem.W.kitOne K (.ref C) (.ref C) = some true
  noC : ∀ t : String, PySem.W.subIn K (.type t) (.ref C) = some false → PySem.W.kitOne K (.type t) (.ref C) = some false
end R
namespace R
open PySem PySem.Spec PyProof.Rows L2
/-! ## heaps: what stays -/
/-- every object but the one at r is as it was -/
def Kp (r : Addr) (H H' : Hp) : Prop := ∀ b o, b ≠ r → H b = some o → H' b = some o
theorem Kp.refl (r : Addr) (H : Hp) : Kp r H H := fun _ _ _ h => h
theorem Kp.trans {r : Addr} {H H1 H2 : Hp} (a : Kp r H H1) (b : Kp r H1 H2) : Kp r H H2 := fun c o n h => b c o n (a c o n h)
theorem Kp.of {r : Addr} {H H' : Hp} (s : Same H H') : Kp r H H' := fun b o _ h => s b o h
theorem Kp.at_ {r : Addr} {H : Hp} {o : HO} : Kp r H (upd H r o) := fun b u n h => by rw [upd_ne n]; exact h
theorem Kp.new {r p : Addr} {H : Hp} {o : HO} (h : H p = none) : Kp r H (upd H p o) := fun b u _ e => by rw [upd_ne (ne_of_none e h)]; exact e
theorem Kp.add {r p : Addr} {H H' : Hp} {o : HO} (s : Kp r H H') (h : H p = none) : Kp r H (upd H' p o) := fun b u n e => by rw [upd_ne (ne_of_none e h)]; exact s b u n e
/-- an address that is free stays no matter of the frame: what the frame keeps is not there -/
theorem Kp.none {r p : Addr} {H H' : Hp} (s : Kp r H H') (hp : p ≠ r) (h : H' p = Option.none) : H p = Option.none := by
  cases q : H p with
  | none => rfl
  | some o => rw [s p o hp q] at h; cases h
theorem Kp.rd {r a : Addr} {H H' : Hp} {u : HO} (s : Kp r H H') (n : a ≠ r) (h : Rd H a u) : Rd H' a u := by
  rcases h with h | ⟨o, h⟩
  · exact .inl (s _ _ n h)
  · exact .inr ⟨o, s _ _ n h⟩
theorem Kp.seqT {K : PySem.W.Frag} {r a : Addr} {H H' : Hp} {xs zs : List V} (s : Kp r H H') (hr : H r = some (.lst zs)) (h : SqT K H a xs) : SqT K H' a xs := by
  rcases h with h | h
  · refine .inl (s.rd ?_ h)
    rintro rfl
    rcases h with h | ⟨o, h⟩
    · rw [hr] at h; cases h
    · rw [hr] at h; cases h
  · exact .inr h
theorem Kp.seqL {K : PySem.W.Frag} {r a : Addr} {H H' : Hp} {xs : List V} (s : Kp r H H') (n : a ≠ r) (h : SqL K H a xs) : SqL K H' a xs := by
  rcases h with h | h
  · exact .inl (s.rd n h)
  · exact .inr h
theorem same_upd {H : Hp} {p : Addr} {o : HO} (h : H p = none) : Same H (upd H p o) := fun b x e => by
  rw [upd_ne (ne_of_none e h)]; exact e
theorem Same.seqTT {K : PySem.W.Frag} {H H' : Hp} {a : Addr} {xs : List V} (e : Same H H') (h : SqT K H a xs) : SqT K H' a xs := by
  rcases h with (h | ⟨o, h⟩) | h
  · exact .inl (.inl (e _ _ h))
  · exact .inl (.inr ⟨o, e _ _ h⟩)
  · exact .inr h
theorem tupOf {K : PySem.W.Frag} {H : Hp} {a : Addr} {xs : List V} (h : H a = some (.tup xs)) : SqT K H a xs := .inl (.inl h)
theorem lstOf {K : PySem.W.Frag} {H : Hp} {a : Addr} {xs : List V} (h : H a = some (.lst xs)) : SqL K H a xs := .inl (.inl h)
theorem getMapInt {ns : List Int} {i : Nat} (h : i < ns.length) : (ns.map V.int)[i]? = some (.int ns[i]) := by
  rw [List.getElem?_map, List.getElem?_eq_getElem h]; rfl
theorem getMapInt' {ns : List Int} {i : Nat} {x : V} (h : (ns.map V.int)[i]? = some x) : ∃ n, ns[i]? = some n ∧ x = .int n := by
  rw [List.getElem?_map] at h
  cases e : ns[i]? with
  | none => rw [e] at h; cases h
  | some n => rw [e] at h; exact ⟨n, rfl, (Option.some.inj h).symm⟩
theorem flatInts (ns : List Int) : (ns.map V.int).all flatV = true := by
  rw [List.all_eq_true]
  intro x hx
  obtain ⟨n, _, rfl⟩ := List.mem_map.mp hx
  rfl
theorem sizeOk {n : Nat} (h : n ≤ 100000) : n ≤ sizeLine := Nat.le_trans h (by decide)
theorem sizeLt {n : Nat} (h : n ≤ 100000) : n < sizeLine := Nat.lt_of_le_of_lt h (by decide)

/-- len by its wish, told over the written part alone -/
def rLenK (K : PySem.W.Frag) : List V → Hp → VK → Prop := fun xs H Q => ∃ p ys, xs = [.ref p] ∧ (SqL K H p ys ∨ SqT K H p ys) ∧ Q (.int ys.length) H
/-! ## bars -/
abbrev Bar := Int × List Int
/-- a lot: ascending rests by m -/
structure LotOk (m : Int) (l : List Int) : Prop where
  up : l.Pairwise (· < ·)
  ge : ∀ r ∈ l, 0 ≤ r
  lt : ∀ r ∈ l, r < m
  few : l.length ≤ 60
structure BarOk (b : Bar) : Prop where
  pos : 1 ≤ b.1
  most : b.1 ≤ 1000000
  lot : LotOk b.1 b.2
/-- the least common multiple of the moduli -/
def wh (bs : List Bar) : Nat := bs.foldl (fun w b => Nat.lcm w b.1.natAbs) 1
def choices (bs : List Bar) : Nat := bs.foldl (fun c b => c * max 1 b.2.length) 1
structure SvOk (bs : List Bar) : Prop where
  six : bs.length ≤ 6
  bar : ∀ b ∈ bs, BarOk b
  great : wh bs ≤ 10 ^ 30
  many : choices bs ≤ 2000
def fitsB (bs : List Bar) (x : Int) : Bool := bs.all fun b => decide (x % b.1 ∈ b.2)
/-- the numbers from 0 to whole - 1 that fit -/
def cls (bs : List Bar) : List Int := ((List.range (wh bs)).map fun i : Nat => (i : Int)).filter (fitsB bs)

/-! ## bars on the heap -/
structure LotAt (K : PySem.W.Frag) (H : Hp) (v : V) (l : List Int) : Prop where
  ex : ∃ a, v = .ref a ∧ SqT K H a (l.map V.int)
structure BarAt (K : PySem.W.Frag) (H : Hp) (v : V) (b : Bar) : Prop where
  ex : ∃ a x, v = .ref a ∧ SqT K H a [.int b.1, x] ∧ LotAt K H x b.2
structure BarsAt (K : PySem.W.Frag) (H : Hp) (v : V) (bs : List Bar) : Prop where
  ex : ∃ a xs, v = .ref a ∧ SqT K H a xs ∧ xs.length = bs.length ∧ ∀ (i : Nat) x b, xs[i]? = some x → bs[i]? = some b → BarAt K H x b
section
variable {K : PySem.W.Frag} {H H' : Hp} {v : V} {l : List Int} {b : Bar} {bs : List Bar}
/-- all tuples that may be read are as they were -/
def TupsStay (K : PySem.W.Frag) (H H' : Hp) : Prop := ∀ a xs, SqT K H a xs → SqT K H' a xs
theorem TupsStay.same (s : Same H H') : TupsStay K H H' := fun _ _ h => Same.seqTT s h
theorem TupsStay.sx {r : Addr} {zs : List V} (s : Kp r H H') (hr : H r = some (.lst zs)) : TupsStay K H H' := fun _ _ h => s.seqT hr h
theorem LotAt.stay (t : TupsStay K H H') (h : LotAt K H v l) : LotAt K H' v l := let ⟨a, e, q⟩ := h.ex; ⟨a, e, t _ _ q⟩
theorem BarAt.stay (t : TupsStay K H H') (h : BarAt K H v b) : BarAt K H' v b := let ⟨a, x, e, q, z⟩ := h.ex; ⟨a, x, e, t _ _ q, z.stay t⟩
theorem BarsAt.stay (t : TupsStay K H H') (h : BarsAt K H v bs) : BarsAt K H' v bs := let ⟨a, xs, e, q, n, z⟩ := h.ex; ⟨a, xs, e, t _ _ q, n, fun i x b h1 h2 => (z i x b h1 h2).stay t⟩
end

end R
namespace R
open PySem PySem.Spec PyProof.Rows L2
/-! ## rules of my own: enumerate over a tuple, lcm of great numbers -/
abbrev itTup (t : Addr) : Obj := { cls := .type "tuple_iterator", data := .fields #[.ref t, .int 0 0] }
abbrev enObj (i : Addr) : Obj := { cls := .type "enumerate", data := .fields #[.none, .bool false, .ref i, rawInt 0, .none, .none] }
abbrev enHeap (h : Heap) (t : Addr) : Heap := (h.push (itTup t)).push (enObj h.objs.size)
theorem meets_enT (t : Addr) (items : Array Value) : Meets (Builtin.«enumerate.__new__» ⟨[.type "enumerate", .ref t], []⟩)
    (fun _ R s => s.heap.IsTuple t items ∧ R (.ok (.ret (.ref (s.heap.push (itTup t)).objs.size))) { s with heap := enHeap s.heap t }) := by
  refine .of_wp fun prog w A R s ⟨ht, h⟩ => ?_
  obtain ⟨hp, g, d, tk, os⟩ := s
  have sub_ := PySem.sub_enumerate
  have it_ : ∀ {A' : Around} {E : Value → Shared → Prop} {Q : Value → Shared → Prop}, Q (.ref hp.objs.size) ⟨hp.push (itTup t), g, d, tk, os⟩ → wpAny (model prog w) A' (pyIter (.ref t)) Q E ⟨hp, g, d, tk, os⟩ :=
    fun q => wpAny_pyIter_tuple ht q
  wp_walk using it_
  refine wpAny_stack_any fun st => wpAny_pure ?_
  split
  · rename_i c _ _ _ _ _
    cases (c == Value.type "enumerate") <;> (wp_walk using it_; exact ⟨_, rfl, h⟩)
  · (wp_walk using it_; exact ⟨_, rfl, h⟩)
theorem call_enT {prog : Program} {w : World} {A : Around} {E : Value → Shared → Prop} {s : Shared} {t : Addr} {items : Array Value} {Q : Value → Shared → Prop} (ht : s.heap.IsTuple t items)
    (h : ∀ h', IsEnum h' (s.heap.objs.size + 1) s.heap.objs.size 0 .none → h'.IsTupleIter s.heap.objs.size t 0 → (∀ b o, s.heap.get? b = some o → h'.get? b = some o) → Q (.ref (s.heap.objs.size + 1)) { s with heap := h' }) :
    wpAny (model prog w) A (call (.type "enumerate") [.ref t]) Q E s := by
  have sz : (s.heap.push (itTup t)).objs.size = s.heap.objs.size + 1 := Heap.size_push ..
  have he : IsEnum (enHeap s.heap t) (s.heap.objs.size + 1) s.heap.objs.size 0 .none := by
    have q := Heap.get?_push_size (s.heap.push (itTup t)) (o := enObj s.heap.objs.size) rfl
    rw [sz] at q
    exact q
  have kp : ∀ b o, s.heap.get? b = some o → (enHeap s.heap t).get? b = some o := fun b o x => Heap.get?_push_of_some _ (Heap.get?_push_of_some _ x)
  refine callType_new F.called_enumerate (by decide) (F.typeCall_enumerate_1 _) (F.newCall_enumerate_1 _) (fun obj => F.args_object_init_2 obj _) F.entry_enumerate_new (meets_enT t items) ⟨ht, ?_⟩
  show _ ∧ _
  rw [sz]
  exact ⟨⟨_, he, rfl⟩, h _ he ⟨_, Heap.get?_push_of_some _ (Heap.get?_push_size _ rfl), rfl, rfl⟩ kp⟩
/-- the tuple at a, each item in a new pair with its place -/
def IteT (K : PySem.W.Frag) (a : Addr) : It :=
  ⟨fun i H => ∃ (xs : List V) (x : V), SqT K H a xs ∧ xs[i]? = some x,
   fun i H v H' => ∃ T x, v = .ref T ∧ H T = none ∧ H' = upd H T (.tup [.int (i : Nat), x]) ∧ ∀ xs, SqT K H a xs → xs[i]? = some x,
   fun i H => ∃ xs : List V, SqT K H a xs ∧ xs.length ≤ i⟩
theorem turn_enT {P : Program} {w : World} {K : PySem.W.Frag} {elts : List Expr} {kk : Nat} {tpos : Pos} (a e it : Addr) :
    Turn P w K (.Tuple elts kk tpos) (IteT K a) [e, it] e (fun i h => (∃ old, IsEnum h e it ((i : Nat) : Int) old) ∧ h.IsTupleIter it a i ∧ e ≠ it) where
  mem := List.mem_cons_self ..
  obj := fun i h ⟨⟨old, he⟩, ⟨o, ho, _, hd⟩, _⟩ b hb => by
    rcases List.mem_cons.mp hb with rfl | hb
    · exact ⟨_, he, fun v q => nomatch q⟩
    · rw [List.mem_singleton.mp hb]
      exact ⟨o, ho, fun v q => by rw [hd] at q; cases q⟩
  keep := fun i h h' ⟨⟨old, he⟩, hi, hne⟩ k => ⟨⟨old, k e (by simp) _ he⟩, hi.at fun o q => k it (by simp) o q, hne⟩
  item := by
    intro X hP hw hK hc i pins s σ H E I hf ⟨⟨old, he⟩, hit, hne⟩ ⟨xs, x, hq, hx⟩
    subst hP hw hK
    obtain ⟨its, rv, p, hz⟩ := I.tuple hq
    have hT : s.heap.IsTuple a its.toArray := p
    have nta : a ≠ it := fun z => by
      subst z
      obtain ⟨o, e1, c1, _⟩ := hT
      obtain ⟨o2, e2, c2, _⟩ := hit
      rw [e1] at e2
      cases e2
      rw [c1] at c2
      exact absurd c2 (by decide)
    have nea : e ≠ a := fun z => by
      subst z
      obtain ⟨o, e1, c1, _⟩ := hT
      rw [he] at e1
      cases e1
      exact absurd (show Value.type "enumerate" = Value.type "tuple" from c1) (by decide)
    have el : e < s.heap.objs.size := Heap.lt_size he
    have il : it < s.heap.objs.size := by obtain ⟨_, q, _⟩ := hit; exact Heap.lt_size q
    have hlt : i < its.toArray.size := by
      have := (List.getElem?_eq_some_iff.mp hx).1
      rw [rv.length] at this
      rw [List.size_toArray]
      exact this
    refine wpAny_pyNext_enum_itemD (Draws.tuple (A := X.A.in1) (I.ok.hd hc) it a nta its.toArray) he ⟨hit, hT⟩ hlt hne (by simp [hne, nea]) fun u h' tk hP ho st' ht' hsz hk => ?_
    obtain ⟨u', hu', ru⟩ := rv.get hx
    have eu : u = u' := by
      rw [List.getElem?_toArray] at hP
      exact Option.some.inj (hP.symm.trans hu')
    subst eu
    refine ⟨_, rfl, wpAny_letOwnedTupleGo_enum (s := { s with heap := h', toks := tk + 1 }) ho fun h2 he2 sb => ?_⟩
    have t2 := (sb.2 _ (Nat.ne_of_gt el)).trans ht'
    have new : ObjOk X.prog X.w (upd H s.heap.objs.size (.tup [.int (i : Nat), x])) h2 s.heap.objs.size (.tup [.int (i : Nat), x]) :=
      ⟨sizeOk (by show (2 : Nat) ≤ 100000; decide), [.int i tk, u], .cons ⟨_, rfl⟩ (.cons ru .nil), _, t2, rfl, _, rfl⟩
    have I1 : Inv X pins σ (upd H s.heap.objs.size (.tup [.int (i : Nat), x])) { s with heap := h2, toks := tk + 1 } := by
      refine I.turnedNew (ch := [e, it]) (fun b ob hb q => ?_) hf (Nat.le_refl _) new
      have hbe : b ≠ e := fun z => hb (by simp [z])
      exact (sb.2 b hbe).trans (hk b ob hbe (fun z => hb (by simp [z])) q)
    refine ⟨.ref s.heap.objs.size, _, I1, rfl, ⟨_, x, rfl, I.hok.fresh (Nat.le_refl _), rfl, fun ys hy => by rw [I.tuple_inj hy hq]; exact hx⟩, ⟨⟨u, ?_⟩, st'.1.at fun o q => (sb.2 it (Ne.symm hne)).trans q, hne⟩, fun b hb => ?_⟩
    · rw [show ((i + 1 : Nat) : Int) = (i : Int) + 1 from rfl]
      exact he2
    · have lt : b < s.heap.objs.size := by
        rcases List.mem_cons.mp hb with rfl | hb
        · exact el
        · rw [List.mem_singleton.mp hb]; exact il
      rw [upd_ne (Nat.ne_of_lt lt)]
      exact (hf b hb).1
  done := by
    intro X hP hw hK hc i pins s σ H E I hf ⟨⟨old, he⟩, hit, hne⟩ ⟨xs, hq, hx⟩
    subst hP hw hK
    obtain ⟨its, rv, p, hz⟩ := I.tuple hq
    have hT : s.heap.IsTuple a its.toArray := p
    obtain ⟨f0, f1, f2, f3, f4, f5⟩ := hf it (by simp)
    have hT' : s.TypeIs (.ref e) "enumerate" := ⟨_, he, rfl⟩
    unfold pyNext
    refine wpAny_bind (wpAny_attempt (wpAny_callSpecial?_slot (name := Str.ofString "__next__") hT' F.slot_enumerate_next (wpAny_call_entry F.slot_enumerate_next hT' F.entry_enumerate_next ?_ (F.args_enumerate_next_1 _))))
    show wpAny _ _ (field (.ref e) 2 >>= _) _ _ _
    refine wpAny_bind (wpAny_field he rfl (x := .ref it) rfl ?_)
    refine wpAny_bind (PySem.wpAny_nextOf_tuple_end (I.ok.hd hc) hit hT (Array.getElem?_eq_none (by rw [List.size_toArray, ← rv.length]; exact hx)) fun h' y eb hy => ?_)
    obtain ⟨o, ho, hcl⟩ := hy
    refine wpAny_bind (wpAny_isInstance (T := "StopIteration") (b := true) ⟨o, ho, hcl⟩ isSubtype_stop ?_)
    exact wpAny_pure ⟨rfl, I.turned (t' := s.toks) (fun b o hb q => eb b o hb q) f0 f1 f3 f4 f5⟩
  self := fun A i s Q E ⟨⟨_, he⟩, _⟩ h => wpAny_pyIter_enum he h
def iEnT (K : PySem.W.Frag) (ta : TA) : TI := fun σ H R => ta σ H fun vs H1 => ∃ a xs, vs = [.ref a] ∧ SqT K H1 a xs ∧ R (IteT K a) H1
theorem pi_enT {X : Cx} {e : Expr} {ta : TA} {p pos tpos : Pos} {elts : List Expr} {kk : Nat} (hg : Gl X "enumerate") (hm : X.mg "enumerate" = none) (ha : PA X [e] ta)
    (hs : starEach [e] X.env = [(false, eval e X.env)] := by rfl) : PI X (.Tuple elts kk tpos) (.Call (.Name "enumerate" p) [e] [] pos) (iEnT X.K ta) := by
  refine ⟨fun pins s σ H R I h => Call_ (ld_blt I hg hm boot_enumerate (PyProof.Rows.callWith_type1 (thn (ha.run pos pins s σ H _ I h) fun us s1 ⟨vs, H1, I1, r1, a, xs, ex, hq, q⟩ => ?_) hs rfl))⟩
  subst ex
  obtain ⟨u, us', rfl⟩ : ∃ u us', us = u :: us' := by
    cases r1 with
    | cons r rr => exact ⟨_, _, rfl⟩
  cases r1 with
  | cons r rr =>
    cases rr
    cases r
    obtain ⟨its, rv, p', hz⟩ := I1.tuple hq
    refine call_enT (show s1.heap.IsTuple a its.toArray from p') fun h' he hit hk => wpAny_pyIter_enum he ?_
    have I2 : Inv X pins σ H1 { s1 with heap := h' } := I1.kept (t' := s1.toks) hk
    refine ⟨s1.heap.objs.size + 1, [s1.heap.objs.size + 1, s1.heap.objs.size], _, _, H1, rfl, I2, turn_enT a _ _, ⟨⟨.none, he⟩, hit, Nat.succ_ne_self _⟩, fun b hb => ?_, q⟩
    have hle : s1.heap.objs.size ≤ b := by
      rcases List.mem_cons.mp hb with rfl | hb
      · exact Nat.le_succ _
      · rw [List.mem_singleton.mp hb]; exact Nat.le_refl _
    exact I1.fpOk hle (I1.hok.fresh hle)
theorem walk_enT {K : PySem.W.Frag} {a : Addr} {xs : List V} : Walk (IteT K a) xs.length (fun H => SqT K H a xs) (YPair (fun i => some (.int (i : Nat))) (fun i => xs[i]?)) := by
  refine ⟨fun i H hi hG => ⟨xs, xs[i], hG, by simp [hi]⟩, fun H hG => ⟨xs, hG, Nat.le_refl _⟩, fun i H x H' hi hG ⟨T, y, h1, h2, h3, h4⟩ => ?_⟩
  exact ⟨T, .int (i : Nat), y, h1, h2, h3, rfl, h4 xs hG⟩
/-- lcm of two numbers below 2 ^ 5000 -/
def rLcmW : List V → Hp → VK → Prop := fun vs H Q => ∃ a b : Nat, vs = [.int a, .int b] ∧ a < 2 ^ 5000 ∧ b < 2 ^ 5000 ∧ Q (.int (Nat.lcm a b : Nat)) H
theorem logLe {n k : Nat} (h : n < 2 ^ (k + 1)) : n.log2 ≤ k := PySem.W.mg_log h
theorem cr_lcmW {X : Cx} : CallR X (.builtin "math.lcm") rLcmW := by
  intro pins s σ H vs us Q I r ⟨a, b, e, ha, hb, q⟩
  subst e
  obtain ⟨t, u, rfl⟩ := Vals.int2 r
  have h1 : (max 1 (a : Int).natAbs).log2 ≤ 4999 := logLe (by rw [Int.natAbs_natCast]; show max 1 a < 2 ^ 5000; have : 1 < 2 ^ 5000 := by decide
                                                              omega)
  have h2 : (max (a : Int).natAbs (b : Int).natAbs).log2 ≤ 4999 := logLe (by rw [Int.natAbs_natCast, Int.natAbs_natCast]; show max a b < 2 ^ 5000; omega)
  have ee : (((Nat.lcm 1 (a : Int).natAbs).lcm (b : Int).natAbs : Nat) : Int) = ((Nat.lcm a b : Nat) : Int) := by
    rw [Int.natAbs_natCast, Int.natAbs_natCast, PySem.W.mc_lcm_one]
  have hm : Nat.lcm a b < 2 ^ 10000 := by
    have h3 : Nat.lcm a b ≤ a * b := Nat.div_le_self _ _
    have h4 : a * b < 2 ^ 5000 * 2 ^ 5000 := Nat.mul_lt_mul'' ha hb
    rw [← Nat.pow_add] at h4
    exact Nat.lt_of_le_of_lt h3 h4
  have hz : ((((Nat.lcm 1 (a : Int).natAbs).lcm (b : Int).natAbs : Nat) : Int)).natAbs.log2 < bitsLine := by
    rw [ee, Int.natAbs_natCast]
    have h5 : (Nat.lcm a b).log2 ≤ 9999 := logLe hm
    rw [PySem.bitsLine_eq]
    omega
  have g := PySem.W.mg_run_lcm a t b u (by omega) (by omega) hz
  rw [ee] at g
  exact PySem.call_function_meets PySem.W.MGF.kind_lcm PySem.W.MGF.plain_lcm PySem.W.MGF.entry_lcm (PySem.W.MGF.args_lcm _ _) g.meets ⟨.int _, H, I.tok _, ⟨_, rfl⟩, q⟩
theorem tyTup {K : PySem.W.Frag} {H : Hp} {a : Addr} {xs : List V} (h : SqT K H a xs) : TyX K H (.ref a) (.type "tuple") := by
  rcases h with (h | ⟨o, h⟩) | ⟨o, its, n, e, c, _⟩
  · exact .base (.tup h)
  · exact .fTuple h
  · exact .kTuple e c

end R
namespace R
open PySem PySem.Spec PyProof.Rows L2
/-! ## an exception that a suite holds -/
def rIsE' (K : PySem.W.Frag) (D a : Addr) (cls : Value) (d : Option Addr) : List V → Hp → VK → Prop := fun xs H Q => cls = .ref D ∧ d = none ∧ rIsE K D a xs H Q
theorem call_isE' {X : Cx} {a D : Addr} {oe : Obj} {pn : List (Addr × Obj)} {cls : Value} {d : Option Addr} (C : ExcC X.K D) (hz : Zc cls d oe) (hf : ∃ vs, oe.data = .fields vs) :
    CallR (X.suite a ((a, oe) :: pn)) (.builtin "isinstance") (rIsE' X.K D a cls d) := by
  intro pins s σ H xs us Q I r h
  obtain ⟨h1, h2, h3⟩ := h
  subst h1 h2
  exact call_isE C hz hf pins s σ H xs us Q I r h3
/-! ## try with several clauses that name the exception -/
abbrev Suites := List (Value × (Addr → Value → Option Addr → TS))
/-- what the clauses wish, one behind the other; the name's slot is i -/
def wAsM (K : PySem.W.Frag) (i : Nat) (Wout : WX) (D : Ends) : Suites → WX
  | [] => Wout
  | p :: r => fun cls d σ H => ∃ b, PySem.W.exmOne K cls p.1 = some b ∧
      (b = true → ∀ a, H a = none → p.2 a cls d ⟨fun τ G => D.nx (τ.set i none) G, D.rt, fun τ G => D.bk (τ.set i none) G, fun τ G => D.ct (τ.set i none) G⟩ (σ.set i (some (.ref a))) H) ∧ (b = false → wAsM K i Wout D r cls d σ H)
/-- the clauses, each «except x as n», with their suites' readings -/
inductive HdsAs (X : Cx) (n : Str) : List ExceptHandler → Suites → Prop
  | nil : HdsAs X n [] []
  | cons {x : Str} {c : Value} {ts : Addr → Value → Option Addr → TS} {b0 : Stmt} {su : List Stmt} {p1 p2 : Pos} {hds : List ExceptHandler} {l : Suites} (hc : Names X x c)
      (hsu : ∀ (a : Addr) (oe : Obj) (cls : Value) (d : Option Addr) (pn : List (Addr × Obj)), Zc cls d oe → (∃ vs, oe.data = .fields vs) → PSs (X.suite a ((a, oe) :: pn)) (b0 :: su) (ts a cls d)) (r : HdsAs X n hds l) :
      HdsAs X n (.ExceptHandler (some (.Name x p1)) (some n) (b0 :: su) p2 :: hds) ((c, ts) :: l)
/-- what is done where the body let an exception out -/
theorem hds_run {X : Cx} {n : Str} {i : Nat} {pins : List (Addr × Obj)} {τ : L2.St} {G : Hp} {D : Ends} {Wout : WX} {e0 : Addr} {B h3 : Heap} {sJ s2 : Shared} {cls : Value} {d : Option Addr} (ok : X.Ok)
    (hst : X.stack = X.env :: X.outer) (hfr : X.env.frame = some X.env.locals) (nod : X.N.Nodup) (hi : X.N[i]? = some n) (hloc : X.env.kindOf n = some .local) (tk : Takes X Wout) (J : Inv X pins τ G sJ)
    (nb : ∀ b o, sJ.heap.get? b = some o → b ∉ frs X.stack → B.get? b = some o) (up : sJ.heap.UpToSlots s2.heap) (up3 : s2.heap.UpToSlots h3) (na : G e0 = none) (os : s2.os = sJ.os) (ag : AllBare s2.gens)
    (fl : HandSPX.FlyingZ B (X.env :: X.outer) e0 (Zc cls d) h3) : ∀ {hds : List ExceptHandler} {l : Suites}, HdsAs X n hds l → wAsM X.K i Wout D l cls d τ G →
      wpAny (model X.prog X.w) X.A (handleBy (.ref e0) X.env hds) (SP X pins D) X.xe { s2 with heap := h3 } := by
  have J3 : Inv X pins τ G { s2 with heap := h3 } := J.landed nb fl.1 (up.trans up3) os ag
  obtain ⟨ob, vb, he3, hz3, hd3⟩ := fl.there
  have out : e0 ∉ frs (X.env :: X.outer) := fun hm => by
    obtain ⟨_, o2, q1, q2⟩ := fl.2.2.1.mem hm
    rw [he3] at q1
    cases q1
    exact q2 _ hd3
  have nL : e0 ≠ X.env.locals := fun z => out (List.mem_filterMap.mpr ⟨_, List.mem_cons_self, z ▸ hfr⟩)
  have nF : e0 ∉ X.fs := fun hm => let ⟨q1, q2, q3⟩ := List.mem_filterMap.mp hm; out (List.mem_filterMap.mpr ⟨q1, List.mem_cons_of_mem _ q2, q3⟩)
  have S3 := J3.suite he3 hd3 na nL nF
  intro hds l hk
  induction hk with
  | nil =>
    intro w
    refine wpAny_handleBy_nil ?_
    obtain ⟨_, _, _, o1, v1, tb, _, _, g1, _, g3, g4, _⟩ := id fl
    unfold PySem.passOn
    refine wpAny_bind (wpAny_field g1 g3 g4 ?_)
    rw [if_neg (by simp : ¬ ((Value.ref tb == Value.none) = true))]
    have last : wpAny (model X.prog X.w) X.A (setFlight (.ref e0) X.env.frame) (fun _ s4 => wpAny (model X.prog X.w) X.A (throw (.ref e0) : Sem Flow) (SP X pins D) X.xe s4) X.xe { s2 with heap := h3 } := by
      rw [hfr]
      refine HandSPX.setFlight_upZ fl fun h4 hh4 up4 => wpAny_throw (tk _ _ ⟨e0, B, sJ, pins, τ, G, cls, d, rfl, J, nb, (up.trans up3).trans up4, .inr (.inr ?_), na, os, ag, w⟩)
      rw [hst]
      exact hh4
    first | exact wpAny_bind (wpAny_pure (wpAny_bind last)) | exact wpAny_bind last
  | @cons x c ts b0 su p1 p2 hds2 l2 hc hsu r ih =>
    rintro ⟨b, hb1, yes, no⟩
    refine wpAny_handleBy_cons (codeAny_handlers_test ?_) (by intro q; cases q)
    have LM := PySem.W.exm_one (M := model X.prog X.w) J3.kIn (fun A Q E s k q => wpAny_typeOf_ref (k _ _ he3) (by rw [hz3.1]; exact q)) hb1
    have named : ∀ {Q E : Value → Shared → Prop}, Q c { s2 with heap := h3 } → wpAny (model X.prog X.w) (X.A.mark (some (.ref e0))) (eval (.Name x p1) X.env) Q E { s2 with heap := h3 } := by
      intro Q E q
      obtain ⟨k1, k2, k3 | ⟨k3, k4, k5⟩⟩ := hc
      · exact ld_glob (X := X.suite e0 ((e0, ob) :: (X.pn ++ pins))) S3 k1 k3 q k2
      · exact ld_blt (X := X.suite e0 ((e0, ob) :: (X.pn ++ pins))) S3 k1 k3 k4 q k5 k2
    refine named (LM.here ?_)
    cases b with
    | false => exact ih (no rfl)
    | true =>
      refine codeAny_handlers_suite_as (HandSPX.lands_againZ fl fun h4 fl4 up4 => ?_)
      have J4 : Inv X pins τ G { s2 with heap := h4 } := J.landed nb fl4.1 ((up.trans up3).trans up4) os ag
      obtain ⟨o4, v4, he4, hz4, hd4⟩ := fl4.there
      refine store_ok (X := X.suite e0 ((e0, o4) :: (X.pn ++ pins))) (v := .ref e0) (J4.suite he4 hd4 na nL nF) nod hi (.inl hloc) rfl (fun s5 S5 => ?_) (.inr hloc)
      refine wpAny_mono ((hsu e0 o4 cls d (X.pn ++ pins) hz4 ⟨_, hd4⟩).run [] s5 _ G _ S5 (yes rfl e0 na)) (fun f s6 sp => ?_) (fun _ _ z => z.elim)
      have close : ∀ {τ6 : L2.St} {G6 : Hp} {Q : Shared → Prop}, Inv (X.suite e0 ((e0, o4) :: (X.pn ++ pins))) [] τ6 G6 s6 → (∀ s7, Inv X pins (τ6.set i none) G6 s7 → Q s7) →
          wpAny (model X.prog X.w) X.A (do bindName X.env n .none; unbindBehindTheSuite X.env n p2) (fun _ s7 => Q s7) X.xe s6 := fun S6 k => gone_ok (S6.unsuite ok) nod hi hloc k
      cases f with
      | ret u => obtain ⟨_, _, _, S6, r6, q6⟩ := sp; exact close S6 fun s7 J7 => ⟨_, _, _, J7, r6, q6⟩
      | next => obtain ⟨_, _, S6, q6⟩ := sp; exact close S6 fun s7 J7 => ⟨_, _, J7, q6⟩
      | brk => obtain ⟨_, _, S6, q6⟩ := sp; exact close S6 fun s7 J7 => ⟨_, _, J7, q6⟩
      | cont => obtain ⟨_, _, S6, q6⟩ := sp; exact close S6 fun s7 J7 => ⟨_, _, J7, q6⟩
theorem ps_try_asM {X : Cx} {n : Str} {i : Nat} {body : List Stmt} {hd : ExceptHandler} {hds : List ExceptHandler} {l : Suites} {pos : Pos} {tb : WX → TS} {Wout : WX} (hst : X.stack = X.env :: X.outer)
    (hfr : X.env.frame = some X.env.locals) (nod : X.N.Nodup) (hi : X.N[i]? = some n) (hloc : X.env.kindOf n = some .local) (tk : Takes X Wout)
    (hb : ∀ (W : WX) (pn : List (Addr × Obj)) (xe : Value → Shared → Prop), Takes (X.tr pn xe) W → PassesOwn (model X.prog X.w) X.A X.env xe → PSs (X.tr pn xe) body (tb W))
    (hh : HdsAs X n (hd :: hds) l) : PS X (.Try body (hd :: hds) [] [] pos) (fun D σ H => tb (wAsM X.K i Wout D l) D σ H) := by
  refine ⟨fun pins s σ H D I h => wpAny_Try_except ?_⟩
  have ok := I.ok
  have fr : X.A.frames = some (X.env :: X.outer) := ok.frames.trans (congrArg some hst)
  let caught : Value → Shared → Prop := fun e s1 => wpAny (model X.prog X.w) X.A (noteFrame e X.env) (fun _ s2 => wpAny (model X.prog X.w) X.A (setFlight e none)
    (fun _ s3 => wpAny (model X.prog X.w) X.A (handleBy e X.env (hd :: hds)) (SP X pins D) X.xe s3) X.xe s2) X.xe s1
  have takes : Takes (X.tr (X.pn ++ pins) caught) (wAsM X.K i Wout D l) := by
    rintro _ s' ⟨a, B, sI, pins', σ', H', cls, d, rfl, J', nb, up, sky, na, os, ag, w⟩
    have sky' : Sky B (X.env :: X.outer) a (Zc cls d) X.env.locals s'.heap := hst ▸ sky
    show wpAny (model X.prog X.w) X.A (noteFrame (.ref a) X.env) _ _ _
    exact Sky.land Zc.steady fr hfr sky' fun h3 fl3 up3 => hds_run ok hst hfr nod hi hloc tk (J'.ofTry ok) nb up up3 na os ag fl3 hh w
  refine wpAny_mono ((hb _ (X.pn ++ pins) caught takes PassesOwn.looking).run [] s σ H D (I.toTry _) h) (fun f s1 sp => ?_) (fun e s1 he => he)
  cases f with
  | ret u => obtain ⟨v, τ, G, J', r, q⟩ := sp; exact ⟨v, τ, G, J'.ofTry ok, r, q⟩
  | next => obtain ⟨τ, G, J', q⟩ := sp; exact wpAny_execs_nil ⟨τ, G, J'.ofTry ok, q⟩
  | brk => obtain ⟨τ, G, J', q⟩ := sp; exact ⟨τ, G, J'.ofTry ok, q⟩
  | cont => obtain ⟨τ, G, J', q⟩ := sp; exact ⟨τ, G, J'.ofTry ok, q⟩

end R
namespace R
open PySem PySem.Spec PyProof.Rows L2
/-! ## the law's draws -/
/-- the row of a law's draws: the script's copy (at L), how far it is read, two numbers -/
structure RowAt (H : Hp) (r L : Addr) : Prop where
  ex : ∃ (ns : List Int) (i : Nat) (b s : Int), H r = some (.lst [.ref L, .int i, .int b, .int s]) ∧ H L = some (.lst (ns.map V.int)) ∧ 0 ≤ b
  ne : L ≠ r
section
variable {H H' : Hp} {r L p : Addr} {o : HO}
theorem RowAt.lst (h : RowAt H r L) : ∃ zs, H r = some (.lst zs) := let ⟨_, _, _, _, e, _⟩ := h.ex; ⟨_, e⟩
theorem RowAt.stay (h : RowAt H r L) (s : Same H H') : RowAt H' r L := by
  obtain ⟨ns, i, b, z, e, q, n⟩ := h.ex
  exact ⟨⟨ns, i, b, z, s _ _ e, s _ _ q, n⟩, h.ne⟩
theorem RowAt.tups {K : PySem.W.Frag} (h : RowAt H r L) (s : Kp r H H') : TupsStay K H H' := let ⟨_, e⟩ := h.lst; .sx s e
theorem RowAt.new (h : RowAt H r L) (hp : H p = none) : p ≠ r ∧ p ≠ L := by
  obtain ⟨ns, i, b, z, e, q, n⟩ := h.ex
  exact ⟨(ne_of_none e hp).symm, (ne_of_none q hp).symm⟩
theorem RowAt.upd (h : RowAt H r L) (n : p ≠ r ∧ p ≠ L) : RowAt (upd H p o) r L := by
  obtain ⟨ns, i, b, z, e, q, h0⟩ := h.ex
  exact ⟨⟨ns, i, b, z, by rw [upd_ne n.1.symm]; exact e, by rw [upd_ne n.2.symm]; exact q, h0⟩, h.ne⟩
end
def sp_l_draws (K : PySem.W.Frag) : Sp := fun vs H Q _ => ∃ (a : Addr) (ns : List Int), vs = [.ref a] ∧ SqL K H a (ns.map V.int) ∧ ∀ r L H', Same H H' → RowAt H' r L → Q (.ref r) H'
def sp_l_pick : Sp := fun vs H Q _ => ∃ (r L : Addr) (m : Int), vs = [.ref r, .int m] ∧ RowAt H r L ∧ 0 < m ∧ m.natAbs < 2 ^ 200 ∧
  ∀ v H', 0 ≤ v → v < m → Kp r H H' → RowAt H' r L → Q (.int v) H'
section
variable {P : Program} [POk P FILE] {w : World} {K : PySem.W.Frag} {mg : Str → Option Value} {base : Heap}
theorem ok_l_draws (T : Txt K mg) : FnOk P w K mg base CX0 2 T.f_l_draws T.fd_l_draws ["_law_script"] (sp_l_draws K) := by
  refine T.F_l_draws.ok sc_l_draws (fun vs H Q E h => ?_) (fun cdv A outer s H vs Q E hr h => ?_)
  · obtain ⟨a, ns, rfl, _⟩ := h
    rfl
  · obtain ⟨a, ns, rfl, hS, q⟩ := h
    refine ⟨_, (pss_one (ps_ret (pe_lst (pa_cons (pe_callTy call_list_of (by rfl) T.z_list (by decide +kernel) (pa_cons (pv 0) pa_nil)) (pa_cons pe_int (pa_cons pe_int (pa_cons pe_int pa_nil))))))), ?_⟩
    refine ⟨_, rfl, a, _, rfl, .inl hS, fun L nL => ⟨sizeOk (by show (4 : Nat) ≤ 100000; decide), fun r nr => ?_⟩⟩
    have n1 : L ≠ r := fun e => by
      subst e
      rw [upd_same] at nr
      cases nr
    refine q r L _ (Same.trans (same_upd nL) (same_upd nr)) ⟨⟨ns, 0, 0, 7, upd_same, ?_, Int.le_refl 0⟩, n1⟩
    rw [upd_ne n1, upd_same]
theorem ok_l_pick (T : Txt K mg) : FnOk P w K mg base CX0 2 T.f_l_pick T.fd_l_pick ["_law_row", "_law_many"] sp_l_pick := by
  refine T.F_l_pick.ok sc_l_pick (fun vs H Q E h => ?_) (fun cdv A outer s H vs Q E hr h => ?_)
  · obtain ⟨r, L, m, rfl, _⟩ := h
    rfl
  · obtain ⟨r, L, m, rfl, ⟨⟨ns, i, b, z, hr0, hL0, hb⟩, hLr⟩, hm, hm2, q⟩ := h
    have hL : SqL K H L (ns.map V.int) := lstOf hL0
    have S : SqL K H r [.ref L, .int i, .int b, .int z] := lstOf hr0
    refine ⟨_, (C8.pss_cut (ps_if (pt_cmpR op_eq (pe_ix ix_list (pv 0) pe_int (fun _ _ => rfl)) pe_int (nomark _)) (pss_one (ps_if (pt_cmpR op_lt (pe_ix ix_list (pv 0) pe_int (fun _ _ => rfl)) (pe_callB call_len_seq (by rfl) T.z_len (by decide +kernel) (pa_cons (pe_ix ix_list (pv 0) pe_int (fun _ _ => rfl)) pa_nil)) (nomark _)) (pss_cons (ps_set (i := 2) sc_l_pick.nd rfl (by first | exact .inl rfl | exact .inr rfl) (pe_ix ix_list (pe_ix ix_list (pv 0) pe_int (fun _ _ => rfl)) (pe_ix ix_list (pv 0) pe_int (fun _ _ => rfl)) (fun _ _ => rfl)))
      (pss_cons (ps_asg (pe_op op_add (pe_ix ix_list (pv 0) pe_int (fun _ _ => rfl)) pe_int) (pg_sub (pv 0) pe_int set_list))
      (pss_one (ps_if (pt_cmpR op_ge (pv 2) (pe_op op_pow pe_int pe_int) (nomark _)) (pss_one (ps_asg (pv 2) (pg_sub (pv 0) pe_int set_list))) (pss_one (ps_asg (pe_op op_mod (pe_callTy call_int1 (by rfl) T.z_int (by decide +kernel) (pa_cons (pe_op op_add (pe_op op_add (pe_op op_mul (pe_ix ix_list (pv 0) pe_int (fun _ _ => rfl)) pe_int) (pe_op op_mul (pv 2) pe_int)) pe_int) pa_nil)) pe_int) (pg_sub (pv 0) pe_int set_list))))))) (pss_one (ps_asg (pe_op op_mod (pe_callTy call_int1 (by rfl) T.z_int (by decide +kernel) (pa_cons (pe_op op_add (pe_op op_mul (pe_ix ix_list (pv 0) pe_int (fun _ _ => rfl)) pe_int) pe_int) pa_nil)) pe_int) (pg_sub (pv 0) pe_int set_list))))) pss_nil)
      (pss_cons (ps_if (pt_cmpR op_gt (pe_ix ix_list (pv 0) pe_int (fun _ _ => rfl)) pe_int (nomark _)) (pss_cons (ps_set (i := 3) sc_l_pick.nd rfl (by first | exact .inl rfl | exact .inr rfl) (pe_op op_mod (pe_callTy call_int1 (by rfl) T.z_int (by decide +kernel) (pa_cons (pe_ix ix_list (pv 0) pe_int (fun _ _ => rfl)) pa_nil)) (pv 1)))
      (pss_cons (ps_asg (pe_op op_fdivW (pe_ix ix_list (pv 0) pe_int (fun _ _ => rfl)) (pv 1)) (pg_sub (pv 0) pe_int set_list))
      (pss_one (ps_ret (pv 3))))) pss_nil)
      (pss_one (ps_ret (pe_op op_mod (pe_op op_mod (pe_callTy call_int1 (by rfl) T.z_int (by decide +kernel) (pa_cons (pe_op op_mul (pe_ix ix_list (pv 0) pe_int (fun _ _ => rfl)) pe_int) pa_nil)) pe_int) (pv 1)))))), ?_⟩
    refine ⟨fun σ H' => ∃ (c : Option V) (i' : Nat) (b' z' : Int), σ = [some (.ref r), some (.int m), c, none] ∧ Kp r H H' ∧ H' r = some (.lst [.ref L, .int i', .int b', .int z']) ∧ 0 ≤ b', ?_, ?_⟩
    · refine ⟨_, rfl, r, _, 2, _, rfl, rfl, S, atI_nat (j := 2) rfl, rfl, _, rfl, ite2 (fun _ => ?_) (fun _ => ?_)⟩
      · refine ⟨_, rfl, r, _, 1, _, rfl, rfl, S, atI_nat (j := 1) rfl, _, rfl, r, _, 0, _, rfl, rfl, S, atI_nat (j := 0) rfl, L, _, rfl, .inl hL, _, _, rfl, rfl, _, rfl, ite2 (fun e => ?_) (fun e => ?_)⟩
        · have hi : i < ns.length := by
            have e' := of_decide_eq_true e
            rw [List.length_map] at e'
            omega
          refine ⟨_, rfl, r, _, 0, _, rfl, rfl, S, atI_nat (j := 0) rfl, _, rfl, r, _, 1, _, rfl, rfl, S, atI_nat (j := 1) rfl, L, _, i, .int ns[i], rfl, rfl, hL, atI_nat (j := i) (getMapInt hi), ?_⟩
          refine ⟨_, rfl, r, _, 1, _, rfl, rfl, S, atI_nat (j := 1) rfl, _, _, rfl, rfl, _, rfl, r, _, 1, 1, rfl, rfl, hr0, rfl, ?_⟩
          have hr1 : (upd H r (.lst [.ref L, .int ((i : Int) + 1), .int b, .int z])) r = some (.lst [.ref L, .int ((i + 1 : Nat) : Int), .int b, .int z]) := upd_same
          have S1 : SqL K (upd H r (.lst [.ref L, .int ((i : Int) + 1), .int b, .int z])) r _ := lstOf hr1
          have x1 : Kp r H (upd H r (.lst [.ref L, .int ((i : Int) + 1), .int b, .int z])) := Kp.at_
          refine ⟨_, rfl, _, _, rfl, rfl, ⟨by decide, by decide, by decide⟩, _, _, rfl, rfl, _, rfl, ite2 (fun e2 => ?_) (fun e2 => ?_)⟩
          · refine ⟨_, rfl, _, rfl, r, _, 2, 2, rfl, rfl, hr1, rfl, ?_⟩
            refine ⟨_, i + 1, ns[i], z, rfl, fun b o n h => ?_, upd_same, ?_⟩
            · rw [upd_ne n]; exact x1 b o n h
            · have := of_decide_eq_true e2
              have : (0 : Int) ≤ 10 ^ (18 : Int).toNat := by decide
              omega
          · refine ⟨_, rfl, r, _, 3, _, rfl, rfl, S1, atI_nat (j := 3) rfl, _, _, rfl, rfl, .inr (by decide), _, rfl, _, _, rfl, rfl, .inr (by decide), _, _, rfl, rfl, _, _, rfl, rfl, .inl ⟨_, rfl, _, _, rfl, rfl, (show (0 : Int) < 2147483647 by decide), ?_⟩⟩
            refine ⟨_, rfl, r, _, 3, 3, rfl, rfl, hr1, rfl, ?_⟩
            refine ⟨_, i + 1, b, _, rfl, fun b o n h => ?_, upd_same, hb⟩
            rw [upd_ne n]; exact x1 b o n h
        · refine ⟨_, rfl, r, _, 3, _, rfl, rfl, S, atI_nat (j := 3) rfl, _, _, rfl, rfl, .inr (by decide), _, _, rfl, rfl, .inl ⟨_, rfl, _, _, rfl, rfl, (show (0 : Int) < 2147483647 by decide), ?_⟩⟩
          refine ⟨_, rfl, r, _, 3, 3, rfl, rfl, hr0, rfl, ?_⟩
          exact ⟨_, i, b, _, rfl, Kp.at_, upd_same, hb⟩
      · exact ⟨_, i, b, z, rfl, Kp.refl r H, hr0, hb⟩
    · rintro σ H' ⟨c, i', b', z', rfl, sx, hr', hb'⟩
      have S' : SqL K H' r [.ref L, .int i', .int b', .int z'] := lstOf hr'
      have hL' : H' L = some (.lst (ns.map V.int)) := sx _ _ hLr hL0
      refine ⟨_, rfl, r, _, 2, _, rfl, rfl, S', atI_nat (j := 2) rfl, _, _, rfl, rfl, _, rfl, ite2 (fun e => ?_) (fun e => ?_)⟩
      · have e' := of_decide_eq_true e
        refine ⟨_, rfl, r, _, 2, _, rfl, rfl, S', atI_nat (j := 2) rfl, .inl ⟨_, rfl, _, rfl, _, _, rfl, rfl, hm, ?_⟩⟩
        refine ⟨_, rfl, r, _, 2, _, rfl, rfl, S', atI_nat (j := 2) rfl, _, rfl, _, _, rfl, rfl, wide_div hm hm2 (by decide) (by decide), _, rfl, r, _, 2, 2, rfl, rfl, hr', rfl, ?_⟩
        refine ⟨_, rfl, q _ _ (Int.emod_nonneg _ (by omega)) (Int.emod_lt_of_pos _ hm) (fun c o n h => ?_) ⟨⟨ns, i', b' / m, z', upd_same, ?_, Int.ediv_nonneg hb' (by omega)⟩, hLr⟩⟩
        · rw [upd_ne n]; exact sx c o n h
        · rw [upd_ne hLr]; exact hL'
      · refine ⟨_, rfl, r, _, 3, _, rfl, rfl, S', atI_nat (j := 3) rfl, _, _, rfl, rfl, .inr (by decide), .inl ⟨_, rfl, _, _, rfl, rfl, (show (0 : Int) < 2147483629 by decide), _, rfl, _, _, rfl, rfl, hm, ?_⟩⟩
        exact q _ _ (Int.emod_nonneg _ (by omega)) (Int.emod_lt_of_pos _ hm) sx ⟨⟨ns, i', b', z', hr', hL', hb'⟩, hLr⟩
end

end R
namespace R
open PySem PySem.Spec PyProof.Rows L2
/-! ## the law's bars -/
theorem choices_add (bs : List Bar) (b : Bar) : choices (bs ++ [b]) = choices bs * max 1 b.2.length := by
  unfold choices
  rw [List.foldl_append]
  rfl
theorem wh_add (bs : List Bar) (b : Bar) : wh (bs ++ [b]) = Nat.lcm (wh bs) b.1.natAbs := by
  unfold wh
  rw [List.foldl_append]
  rfl
theorem LotAt.mk' {K : PySem.W.Frag} {H : Hp} {a : Addr} {l : List Int} (h : SqT K H a (l.map V.int)) : LotAt K H (.ref a) l := ⟨a, rfl, h⟩
theorem BarsAt.add {K : PySem.W.Frag} {H : Hp} {p : Addr} {xs : List V} {x : V} {bs : List Bar} {b : Bar} (hp : SqT K H p (xs ++ [x])) (n : xs.length = bs.length)
    (h : ∀ (i : Nat) x b, xs[i]? = some x → bs[i]? = some b → BarAt K H x b) (hx : BarAt K H x b) : BarsAt K H (.ref p) (bs ++ [b]) := by
  refine ⟨p, xs ++ [x], rfl, hp, by rw [List.length_append, List.length_append, n]; rfl, fun i y c h1 h2 => ?_⟩
  by_cases hi : i < xs.length
  · rw [List.getElem?_append_left hi] at h1
    rw [List.getElem?_append_left (by omega)] at h2
    exact h i y c h1 h2
  · have hl := (List.getElem?_eq_some_iff.mp h1).1
    rw [List.length_append] at hl
    have e : i = xs.length := by
      have : [x].length = 1 := rfl
      omega
    subst e
    rw [List.getElem?_append_right (Nat.le_refl _), Nat.sub_self] at h1
    rw [n, List.getElem?_append_right (Nat.le_refl _), Nat.sub_self] at h2
    cases Option.some.inj h1
    cases Option.some.inj h2
    exact hx
structure Drawn (most top : Nat) (bs : List Bar) : Prop where
  len : bs.length ≤ most
  bar : ∀ b ∈ bs, 1 ≤ b.1 ∧ b.1 ≤ top ∧ LotOk b.1 b.2
  many : choices bs ≤ 2000
def sp_l_bars (K : PySem.W.Frag) : Sp := fun vs H Q _ => ∃ (r L : Addr) (most top : Nat), vs = [.ref r, .int most, .int top] ∧ RowAt H r L ∧ most ≤ 6 ∧ 1 ≤ top ∧ top ≤ 60 ∧
  ∀ v bs H', Drawn most top bs → BarsAt K H' v bs → Kp r H H' → RowAt H' r L → Q v H'
/-- a lot that grows -/
structure Grown (i : Nat) (l : List Int) : Prop where
  up : l.Pairwise (· < ·)
  ge : ∀ x ∈ l, 0 ≤ x
  lt : ∀ x ∈ l, x < (i : Int)
  len : l.length ≤ i
theorem Grown.skip {i : Nat} {l : List Int} (g : Grown i l) : Grown (i + 1) l := ⟨g.up, g.ge, fun x h => by have := g.lt x h; omega, Nat.le_succ_of_le g.len⟩
theorem Grown.add {i : Nat} {l : List Int} (g : Grown i l) : Grown (i + 1) (l ++ [(i : Int)]) := by
  refine ⟨List.pairwise_append.mpr ⟨g.up, List.pairwise_singleton _ _, fun x h y hy => ?_⟩, fun x h => ?_, fun x h => ?_, ?_⟩
  · rw [List.mem_singleton.mp hy]
    exact g.lt x h
  · rcases List.mem_append.mp h with h | h
    · exact g.ge x h
    · rw [List.mem_singleton.mp h]; omega
  · rcases List.mem_append.mp h with h | h
    · have := g.lt x h; omega
    · rw [List.mem_singleton.mp h]; omega
  · rw [List.length_append]
    have := g.len
    show l.length + 1 ≤ i + 1
    omega
theorem cutOne (l : List Int) : cutV (l.map V.int) none (some 1) = (l.take 1).map V.int := by
  unfold cutV
  rw [HT.sIx_none, show HT.sIx (l.map V.int).length (l.map V.int).length (some 1) = min 1 (l.map V.int).length from HT.sIx_nat _ _ 1]
  cases l with
  | nil => rfl
  | cons x r =>
    rw [show min 1 ((x :: r).map V.int).length = 1 by rw [List.length_map, List.length_cons]; omega]
    rfl
theorem maxIte (n : Nat) : (if (n : Int) > 1 then (n : Int) else 1) = ((max 1 n : Nat) : Int) := by
  split <;> omega

end R
namespace R
open PySem PySem.Spec PyProof.Rows L2
/-! ## the law's own reckoning -/
theorem fade_step {a b i M : Nat} (hb : 0 < b) (hab : b < a) (h : a * b * 2 ^ i < M) : b * (a % b) * 2 ^ (i + 1) < M := by
  have h1 : a % b < b := Nat.mod_lt _ hb
  have h2 := Nat.mod_add_div a b
  have h3 : 1 ≤ a / b := Nat.div_pos (Nat.le_of_lt hab) hb
  have h4 : b * 1 ≤ b * (a / b) := Nat.mul_le_mul_left b h3
  have h5 : (a % b) * 2 ≤ a := by omega
  have h6 : b * ((a % b) * 2) ≤ b * a := Nat.mul_le_mul_left b h5
  have h7 : b * ((a % b) * 2) * 2 ^ i ≤ b * a * 2 ^ i := Nat.mul_le_mul_right _ h6
  have e : b * (a % b) * 2 ^ (i + 1) = b * ((a % b) * 2) * 2 ^ i := by
    rw [Nat.pow_succ, Nat.mul_comm (2 ^ i) 2, ← Nat.mul_assoc, ← Nat.mul_assoc]
  rw [e]
  rw [Nat.mul_comm b a] at h7
  omega
/-- how the two numbers of Euclid's walk fade -/
def Fade (M i a b : Nat) : Prop := (i = 0 ∧ a * b < M ∧ ∀ c, c < b → b * c < M) ∨ (∃ j, i = j + 1 ∧ b < a ∧ a * b * 2 ^ j < M)
theorem Fade.step {M i a b : Nat} (hb : b ≠ 0) (h : Fade M i a b) : Fade M (i + 1) b (a % b) := by
  have hb' : 0 < b := Nat.pos_of_ne_zero hb
  refine .inr ⟨i, rfl, Nat.mod_lt _ hb', ?_⟩
  rcases h with ⟨rfl, h1, h2⟩ | ⟨j, rfl, h1, h2⟩
  · rw [Nat.pow_zero, Nat.mul_one]
    exact h2 _ (Nat.mod_lt _ hb')
  · exact fade_step hb' h1 h2
theorem Fade.end_ {a b : Nat} (h : Fade (2 ^ 280) 300 a b) : b = 0 := by
  rcases h with ⟨h, _⟩ | ⟨j, hj, h1, h2⟩
  · omega
  · obtain rfl : j = 299 := by omega
    by_cases hb : b = 0
    · exact hb
    · have h3 : 1 * 1 ≤ a * b := Nat.mul_le_mul (by omega) (by omega)
      have h4 : 1 * 2 ^ 299 ≤ a * b * 2 ^ 299 := Nat.mul_le_mul_right _ h3
      exact absurd (Nat.lt_of_le_of_lt h4 h2) (by decide)
theorem Fade.start {a b : Nat} (ha : a < 2 ^ 140) (hb : b < 2 ^ 140) : Fade (2 ^ 280) 0 a b := by
  have e : (2 : Nat) ^ 140 * 2 ^ 140 = 2 ^ 280 := by rw [← Nat.pow_add]
  refine .inl ⟨rfl, ?_, fun c hc => ?_⟩
  · rw [← e]
    exact Nat.mul_lt_mul'' ha hb
  · rw [← e]
    exact Nat.mul_lt_mul'' hb (Nat.lt_trans hc hb)
def sp_l_gcd : Sp := fun vs H Q _ => ∃ a b : Nat, vs = [.int a, .int b] ∧ a < 2 ^ 140 ∧ b < 2 ^ 140 ∧ Q (.int (Nat.gcd a b : Nat)) H
theorem modNat (a b : Nat) : (a : Int) % (b : Int) = ((a % b : Nat) : Int) := (Int.natCast_emod a b).symm
theorem divNat (a b : Nat) : (a : Int) / (b : Int) = ((a / b : Nat) : Int) := (Int.natCast_ediv a b).symm
/-! the whole -/
theorem lcm_le_mul (m n : Nat) : Nat.lcm m n ≤ m * n := Nat.div_le_self _ _
theorem lcm_div (w m : Nat) : w / Nat.gcd w m * m = Nat.lcm w m := by
  unfold Nat.lcm
  exact Nat.div_mul_right_comm (Nat.gcd_dvd_left w m) m
theorem snocInd {α : Type} {p : List α → Prop} (h0 : p []) (hs : ∀ l x, p l → p (l ++ [x])) : ∀ l, p l := by
  intro l
  rw [← List.reverse_reverse l]
  induction l.reverse with
  | nil => exact h0
  | cons x r ih =>
    rw [List.reverse_cons]
    exact hs _ _ ih
theorem wh_pos : ∀ (bs : List Bar), (∀ b ∈ bs, 1 ≤ b.1) → 0 < wh bs := by
  refine snocInd (fun _ => by decide) fun bs b ih h => ?_
  · skip
    rw [wh_add]
    have h1 := ih fun c hc => h c (List.mem_append_left _ hc)
    have h2 := h b (List.mem_append_right _ (List.mem_singleton.mpr rfl))
    exact Nat.lcm_pos h1 (by omega)
theorem wh_le : ∀ (bs : List Bar), (∀ b ∈ bs, b.1.natAbs ≤ 1000000) → wh bs ≤ 1000000 ^ bs.length := by
  refine snocInd (fun _ => by decide) fun bs b ih h => ?_
  · skip
    rw [wh_add, List.length_append]
    have h1 := ih fun c hc => h c (List.mem_append_left _ hc)
    have h2 := h b (List.mem_append_right _ (List.mem_singleton.mpr rfl))
    exact Nat.le_trans (lcm_le_mul _ _) (Nat.mul_le_mul h1 h2)
structure ModsOk (bs : List Bar) : Prop where
  six : bs.length ≤ 6
  mod : ∀ b ∈ bs, 1 ≤ b.1 ∧ b.1 ≤ 1000000
theorem ModsOk.lt {bs : List Bar} (h : ModsOk bs) : wh bs < 2 ^ 130 := by
  have h1 := wh_le bs fun b hb => by have := h.mod b hb; omega
  have h2 : (1000000 : Nat) ^ bs.length ≤ 1000000 ^ 6 := Nat.pow_le_pow_right (by decide) h.six
  exact Nat.lt_of_le_of_lt (Nat.le_trans h1 h2) (by decide)
theorem ModsOk.take {bs : List Bar} (h : ModsOk bs) (n : Nat) : ModsOk (bs.take n) := ⟨by rw [List.length_take]; have := h.six; omega, fun b hb => h.mod b (List.mem_of_mem_take hb)⟩
theorem ModsOk.pos {bs : List Bar} (h : ModsOk bs) : 0 < wh bs := wh_pos bs fun b hb => (h.mod b hb).1
def sp_l_whole (K : PySem.W.Frag) : Sp := fun vs H Q _ => ∃ (v : V) (bs : List Bar), vs = [v] ∧ BarsAt K H v bs ∧ ModsOk bs ∧ Q (.int (wh bs : Nat)) H
theorem takeSucc {α : Type} {l : List α} {i : Nat} {x : α} (h : l[i]? = some x) : l.take (i + 1) = l.take i ++ [x] := by
  rw [List.take_add_one, h]
  rfl

/-! what fits -/
theorem inVInt (x : Int) (l : List Int) : inV (.int x) (l.map V.int) = decide (x ∈ l) := by
  unfold inV
  rw [List.any_map]
  by_cases h : x ∈ l
  · rw [decide_eq_true h]
    exact List.any_eq_true.mpr ⟨x, h, by show (x == x) = true; exact beq_self_eq_true x⟩
  · rw [decide_eq_false h]
    refine List.any_eq_false.mpr fun y hy e => h ?_
    have e' : (y == x) = true := e
    rw [← beq_iff_eq.mp e']
    exact hy
theorem fitsB_add (bs : List Bar) (b : Bar) (x : Int) : fitsB (bs ++ [b]) x = (fitsB bs x && decide (x % b.1 ∈ b.2)) := by
  unfold fitsB
  rw [List.all_append]
  simp
theorem fitsB_take {bs : List Bar} {x : Int} {i : Nat} {b : Bar} (hb : bs[i]? = some b) (h : x % b.1 ∉ b.2) : fitsB bs x = false := by
  unfold fitsB
  refine List.all_eq_false.mpr ⟨b, List.mem_of_getElem? hb, ?_⟩
  rw [decide_eq_false h]
  exact Bool.false_ne_true
def sp_l_fits (K : PySem.W.Frag) : Sp := fun vs H Q _ => ∃ (v : V) (bs : List Bar) (x : Int), vs = [v, .int x] ∧ BarsAt K H v bs ∧ (∀ b ∈ bs, 1 ≤ b.1) ∧ Q (.bl (fitsB bs x)) H
def sp_l_own (K : PySem.W.Frag) : Sp := fun vs H Q _ => ∃ (v : V) (bs : List Bar), vs = [v] ∧ BarsAt K H v bs ∧ ModsOk bs ∧ wh bs ≤ 100000 ∧
  ∀ D H', Same H H' → H D = none → H' D = some (.lst ((cls bs).map V.int)) → Q (.ref D) H'
def clsTo (bs : List Bar) (n : Nat) : List Int := ((List.range n).map fun i : Nat => (i : Int)).filter (fitsB bs)
theorem clsTo_succ (bs : List Bar) (n : Nat) : clsTo bs (n + 1) = clsTo bs n ++ (if fitsB bs n = true then [(n : Int)] else []) := by
  unfold clsTo
  rw [List.range_succ, List.map_append, List.filter_append]
  by_cases h : fitsB bs n = true
  · rw [if_pos h, List.map_singleton, List.filter_cons_of_pos h]
    rfl
  · rw [if_neg h, List.map_singleton, List.filter_cons_of_neg h]
    rfl
theorem clsTo_len (bs : List Bar) (n : Nat) : (clsTo bs n).length ≤ n := by
  have h := List.length_filter_le (fitsB bs) ((List.range n).map fun i : Nat => (i : Int))
  rw [List.length_map, List.length_range] at h
  exact h

end R
namespace R
open PySem PySem.Spec PyProof.Rows L2
section
variable {P : Program} [POk P FILE] {w : World} {K : PySem.W.Frag} {mg : Str → Option Value} {base : Heap}
theorem ok_l_bars (T : Txt K mg) : FnOk P w K mg base CX0 3 T.f_l_bars T.fd_l_bars ["_law_row", "_law_most", "_law_top"] (sp_l_bars K) := by
  refine T.F_l_bars.ok sc_l_bars (fun vs H Q E h => ?_) (fun cdv A outer s H vs Q E hr h => ?_)
  · obtain ⟨r, L, most, top, rfl, _⟩ := h
    rfl
  · obtain ⟨r, L, most, top, rfl, R0, hm, ht0, ht, q⟩ := h
    refine ⟨_, (pss_cons (ps_asg (pe_tup (pa_cons (pe_tup pa_nil) (pa_cons pe_int pa_nil))) (pg_tup (by rfl) (pgs_cons (pg_name (i := 3) sc_l_bars.nd rfl (by first | exact .inl rfl | exact .inr rfl)) (pgs_cons (pg_name (i := 4) sc_l_bars.nd rfl (by first | exact .inl rfl | exact .inr rfl)) pgs_nil))))
      (pss_cons (ps_for PassesOwn.never rfl (pi_range1 (by rfl) T.z_range (pa_cons (pe_call (ok_l_pick (P := P) T) (hr.mono (by decide)) (by rfl) T.g_l_pick T.F_l_pick.kp T.b_l_pick .nil pass0 (pa_cons (pv 0) (pa_cons (pe_op op_add (pv 1) pe_int) pa_nil))) pa_nil)) (pg_name (i := 5) sc_l_bars.nd rfl (by first | exact .inl rfl | exact .inr rfl)) (pss_cons (ps_set (i := 6) sc_l_bars.nd rfl (by first | exact .inl rfl | exact .inr rfl) (pe_op op_add pe_int (pe_call (ok_l_pick (P := P) T) (hr.mono (by decide)) (by rfl) T.g_l_pick T.F_l_pick.kp T.b_l_pick .nil pass0 (pa_cons (pv 0) (pa_cons (pv 2) pa_nil)))))
      (pss_cons (ps_set (i := 7) sc_l_bars.nd rfl (by first | exact .inl rfl | exact .inr rfl) (pe_op op_add pe_int (pe_call (ok_l_pick (P := P) T) (hr.mono (by decide)) (by rfl) T.g_l_pick T.F_l_pick.kp T.b_l_pick .nil pass0 (pa_cons (pv 0) (pa_cons pe_int pa_nil)))))
      (pss_cons (ps_set (i := 8) sc_l_bars.nd rfl (by first | exact .inl rfl | exact .inr rfl) (pe_callTy call_tuple_of (by rfl) T.z_tuple (by decide +kernel) (pa_cons (pe_lc (own := [("_law_rest", 9)]) rfl sc_l_bars.nd (pi_range1 (by rfl) T.z_range (pa_cons (pv 6) pa_nil)) (blkOk_by (N := ["_law_row", "_law_most", "_law_top", "_law_found", "_law_many", "_law_k", "_law_modulus", "_law_thick", "_law_lot", "_law_rest"]) (sc := defScope s_l_bars) (by decide +kernel)) (fun _ _ _ _ _ => (pg_name (i := 9) sc_l_bars.nd rfl (by first | exact .inl rfl | exact .inr rfl))) (fun _ _ _ _ _ => (pts_one (pt_cmpR op_lt (pe_call (ok_l_pick (P := P) T) (hr.mono (by decide)) (by rfl) T.g_l_pick T.F_l_pick.kp T.b_l_pick .nil pass0 (pa_cons (pv 0) (pa_cons pe_int pa_nil))) (pv 7) (nomark _)))) (fun _ _ _ _ _ => (pv 9))) pa_nil)))
      (C8.pss_cut (ps_if (pt_cmpR op_gt (pe_op op_mulW (pv 4) (pe_callB call_len_seq (by rfl) T.z_len (by decide +kernel) (pa_cons (pv 8) pa_nil))) pe_int (nomark _)) (pss_one (ps_set (i := 8) sc_l_bars.nd rfl (by first | exact .inl rfl | exact .inr rfl) (pe_slice sl_tupA (pv 8) po_none (po_some pe_int)))) pss_nil)
      (pss_cons (ps_set (i := 4) sc_l_bars.nd rfl (by first | exact .inl rfl | exact .inr rfl) (pe_op op_mulW (pv 4) (pe_callB (call_max2 rfl) (by rfl) T.z_max (by decide +kernel) (pa_cons pe_int (pa_cons (pe_callB call_len_seq (by rfl) T.z_len (by decide +kernel) (pa_cons (pv 8) pa_nil)) pa_nil)))))
      (pss_one (ps_set (i := 3) sc_l_bars.nd rfl (by first | exact .inl rfl | exact .inr rfl) (pe_op op_catA (pv 3) (pe_tup (pa_cons (pe_tup (pa_cons (pv 6) (pa_cons (pv 8) pa_nil))) pa_nil)))))))))))
      (pss_one (ps_ret (pv 3))))), ?_⟩
    refine ⟨sizeOk (by show (0 : Nat) ≤ 100000; decide), fun p0 np0 => ⟨sizeOk (by show (2 : Nat) ≤ 100000; decide), fun p1 np1 => ?_⟩⟩
    have s0 : Same H (upd H p0 (.tup [])) := same_upd np0
    have s1 := s0.trans (same_upd np1 (o := .tup [.ref p0, .int 1]))
    refine ⟨p1, _, rfl, tupOf upd_same, rfl, _, _, rfl, _, _, rfl, rfl, ?_⟩
    have n01 : p0 ≠ p1 := fun e => by
      subst e
      rw [upd_same] at np1
      cases np1
    refine ⟨_, rfl, _, rfl, _, _, rfl, rfl, r, L, _, rfl, R0.stay s1, by omega, by omega, fun n H1 hn0 hn1 k1 R1 => ⟨n, rfl, by omega, by omega, ?_⟩⟩
    have kp0 : Kp r H H1 := (Kp.of s1).trans k1
    have b0 : BarsAt K H1 (.ref p0) [] := ⟨p0, [], rfl, (R0.stay s1).tups k1 _ _ (tupOf (by rw [upd_ne n01]; exact upd_same)), rfl, fun i x b h => by simp at h⟩
    refine for_range (lo := 0) (n := n.toNat) (fun i σ H2 => ∃ (v : V) (bs : List Bar) (c : Int) (x5 x6 x7 x8 : Option V), σ = [some (.ref r), some (.int most), some (.int top), some v, some (.int c), x5, x6, x7, x8, none] ∧
        BarsAt K H2 v bs ∧ bs.length = i ∧ (choices bs : Int) = c ∧ Drawn i top bs ∧ Kp r H H2 ∧ RowAt H2 r L)
      ⟨.ref p0, [], 1, none, none, none, none, rfl, b0, rfl, rfl, ⟨Nat.le_refl _, fun b h => by simp at h, by decide⟩, kp0, R1⟩ ?_ ?_
    · rintro i σ H2 hi ⟨v, bs, c, x5, x6, x7, x8, rfl, B2, hl, hc, D2, k2, R2⟩
      -- the modulus
      refine ⟨_, rfl, _, rfl, r, L, _, rfl, R2, by omega, by omega, fun m0 H3 hm0 hm1 k3 R3 => ⟨_, _, rfl, rfl, ?_⟩⟩
      -- how thick
      refine ⟨_, rfl, r, L, 3, rfl, R3, by decide, by decide, fun t0 H4 ht0 ht1 k4 R4 => ⟨_, _, rfl, rfl, ?_⟩⟩
      -- the lot
      refine ⟨_, rfl, 1 + m0, rfl, by omega, by omega, fun D nD => ?_⟩
      have nDr := R4.new nD
      have kD : Kp r H4 (upd H4 D (.lst [])) := Kp.new nD
      refine lc_range (lo := 0) (n := (1 + m0).toNat) (fun j Hj => ∃ l : List Int, Hj D = some (.lst (l.map V.int)) ∧ Grown j l ∧ Kp r H4 Hj ∧ RowAt Hj r L)
        ⟨[], upd_same, ⟨List.Pairwise.nil, fun x h => by simp at h, fun x h => by simp at h, Nat.le_refl _⟩, kD, R4.upd nDr⟩ ?_ ?_
      · rintro j Hj hj ⟨l, ej, gj, kj, Rj⟩
        refine ⟨rfl, _, rfl, r, L, 5, rfl, Rj, by decide, by decide, fun p5 H5 _ _ k5 R5 => ⟨_, rfl, _, _, rfl, rfl, _, rfl, ?_⟩⟩
        have e5 : H5 D = some (.lst (l.map V.int)) := k5 _ _ nDr.1 ej
        refine ite2 (fun _ => ?_) (fun _ => ?_)
        · refine ⟨_, rfl, _, e5, ?_, ?_⟩
          · rw [List.length_map]
            have := gj.len
            exact sizeLt (by omega)
          · refine ⟨l ++ [(j : Int)], ?_, gj.add, fun b o n h => ?_, R5.upd nDr⟩
            · rw [upd_same, List.map_append, Int.zero_add]
              rfl
            · have nb : b ≠ D := ne_of_none h nD
              rw [upd_ne nb]
              exact k5 b o n (kj b o n h)
        · exact ⟨l, e5, gj.skip, kj.trans k5, R5⟩
      · rintro H5 ⟨l, e5, g5, k5, R5⟩
        -- tuple(..)
        refine ⟨D, _, rfl, .inl ⟨lstOf e5, fun t nt => ?_⟩⟩
        have k6 : Kp r H2 (upd H5 t (.tup (l.map V.int))) := ((k3.trans k4).trans k5).trans (Kp.new nt)
        have R6 : RowAt (upd H5 t (.tup (l.map V.int))) r L := R5.upd (R5.new nt)
        have t6 : SqT K (upd H5 t (.tup (l.map V.int))) t (l.map V.int) := tupOf upd_same
        generalize upd H5 t (.tup (l.map V.int)) = H6 at k6 R6 t6 ⊢
        have hm : (1 + m0).toNat ≤ top := by omega
        have ll : l.length ≤ top := Nat.le_trans g5.len hm
        have hc2 := D2.many
        have lot5 : LotOk (1 + m0) l := ⟨g5.up, g5.ge, fun x h => by have := g5.lt x h; omega, by omega⟩
        -- the cut
        refine ⟨fun σ H' => ∃ (a : Addr) (l' : List Int), σ = [some (.ref r), some (.int most), some (.int top), some v, some (.int c), some (.int (0 + (i : Int))), some (.int (1 + m0)), some (.int (2 + t0)), some (.ref a), none] ∧
          SqT K H' a (l'.map V.int) ∧ LotOk (1 + m0) l' ∧ choices bs * max 1 l'.length ≤ 2000 ∧ Kp r H2 H' ∧ RowAt H' r L, ?_, ?_⟩
        · refine ⟨_, rfl, _, rfl, t, _, rfl, .inr t6, _, _, rfl, rfl, wide_mul (a := 12) (b := 12) (by omega) (by rw [List.length_map]; omega) (by decide) (by decide) (by decide), _, _, rfl, rfl, _, rfl, ite2 (fun e => ?_) (fun e => ?_)⟩
          · refine ⟨_, rfl, 1, rfl, t, _, rfl, t6, fun e2 => ?_, fun _ p np => ?_⟩
            · have h1 : min 1 (l.map V.int).length = (l.map V.int).length := Eq.trans (HT.sIx_nat _ _ 1).symm e2.2
              have e' := of_decide_eq_true e
              rw [List.length_map] at h1 e'
              have h2 : l.length = 0 ∨ l.length = 1 := by omega
              rcases h2 with h2 | h2 <;> (rw [h2] at e'; omega)
            · rw [cutOne] at *
              refine ⟨p, l.take 1, rfl, tupOf upd_same, ?_, ?_, k6.trans (Kp.new np), R6.upd (R6.new np)⟩
              · exact ⟨lot5.up.sublist (List.take_sublist _ _), fun x h => lot5.ge x (List.mem_of_mem_take h), fun x h => lot5.lt x (List.mem_of_mem_take h), by rw [List.length_take]; omega⟩
              · have : max 1 (l.take 1).length = 1 := by rw [List.length_take]; omega
                rw [this]
                omega
          · refine ⟨t, l, rfl, t6, lot5, ?_, k6, R6⟩
            have e' : ¬ (2000 < c * ((l.map V.int).length : Int)) := fun h => e (decide_eq_true h)
            rw [List.length_map, ← hc, ← Int.natCast_mul] at e'
            by_cases h0 : l.length = 0
            · rw [h0]
              show choices bs * 1 ≤ 2000
              omega
            · rw [show max 1 l.length = l.length by omega]
              omega
        · rintro σ H' ⟨a, l', rfl, ta, lok, hch, k7, R7⟩
          refine ⟨_, rfl, _, rfl, a, _, rfl, .inr ta, _, _, rfl, _, _, rfl, rfl, wide_mul (a := 12) (b := 12) (by omega) ?_ (by decide) (by decide) (by decide), ?_⟩
          · rw [List.length_map, maxIte]
            have := lok.few
            omega
          · refine ⟨_, rfl, _, rfl, _, rfl, sizeOk (by show (2 : Nat) ≤ 100000; decide), fun p np => ⟨sizeOk (by show (1 : Nat) ≤ 100000; decide), fun p2 np2 => ?_⟩⟩
            obtain ⟨b, xs, rfl, tb, nb, hb⟩ := B2.ex
            have s8 : Same H' (upd H' p (.tup [.int (1 + m0), .ref a])) := same_upd np
            have s9 := s8.trans (same_upd np2 (o := .tup [.ref p]))
            have T9 : TupsStay K H2 _ := fun _ _ h => Same.seqTT s9 (R2.tups k7 _ _ h)
            have np12 : p ≠ p2 := fun e => by
              subst e
              rw [upd_same] at np2
              cases np2
            have bar9 : BarAt K (upd (upd H' p (.tup [.int (1 + m0), .ref a])) p2 (.tup [.ref p])) (.ref p) (1 + m0, l') :=
              ⟨p, .ref a, rfl, tupOf (by rw [upd_ne np12]; exact upd_same), ⟨a, rfl, Same.seqTT s9 ta⟩⟩
            have fin : ∀ (c' : Addr) H9, Same (upd (upd H' p (.tup [.int (1 + m0), .ref a])) p2 (.tup [.ref p])) H9 → SqT K H9 c' (xs ++ [.ref p]) → BarsAt K H9 (.ref c') (bs ++ [(1 + m0, l')]) ∧ (bs ++ [(1 + m0, l')]).length = i + 1 ∧
                ((choices (bs ++ [(1 + m0, l')]) : Nat) : Int) = c * (if ((l'.map V.int).length : Int) > 1 then ((l'.map V.int).length : Int) else 1) ∧ Drawn (i + 1) top (bs ++ [(1 + m0, l')]) ∧ Kp r H H9 ∧ RowAt H9 r L := by
              intro c' H9 s10 t10
              refine ⟨BarsAt.add t10 nb (fun j x d h1 h2 => (hb j x d h1 h2).stay fun _ _ h => Same.seqTT s10 (T9 _ _ h)) (bar9.stay (.same s10)), by rw [List.length_append, hl]; rfl, ?_, ⟨by rw [List.length_append, hl]; exact Nat.le_refl _, fun d h => ?_, ?_⟩, k2.trans (k7.trans ((Kp.of s9).trans (Kp.of s10))), (R7.stay s9).stay s10⟩
              · rw [choices_add, List.length_map, maxIte, ← hc, Int.natCast_mul]
              · rcases List.mem_append.mp h with h | h
                · exact D2.bar d h
                · rw [List.mem_singleton.mp h]
                  exact ⟨by show 1 ≤ 1 + m0; omega, by show 1 + m0 ≤ (top : Int); omega, lok⟩
              · rw [choices_add]
                exact hch
            have hxl : xs.length ≤ 6 := by omega
            refine ⟨b, p2, xs, [.ref p], rfl, rfl, T9 _ _ tb, tupOf upd_same, sizeOk (by show xs.length + 1 ≤ 100000; omega), fun e => ?_, fun _ e => absurd e (List.cons_ne_nil _ _), fun _ _ q' nq' => ?_⟩
            · subst e
              obtain ⟨f1, f2, f3, f4, f5, f6⟩ := fin p2 _ (Same.refl _) (tupOf upd_same)
              exact ⟨_, _, _, _, _, _, _, rfl, f1, f2, f3, f4, f5, f6⟩
            · obtain ⟨f1, f2, f3, f4, f5, f6⟩ := fin q' _ (same_upd nq') (tupOf upd_same)
              exact ⟨_, _, _, _, _, _, _, rfl, f1, f2, f3, f4, f5, f6⟩
    · rintro σ H2 ⟨v, bs, c, x5, x6, x7, x8, rfl, B2, hl, hc, D2, k2, R2⟩
      exact ⟨_, rfl, q v bs H2 ⟨by omega, fun b h => D2.bar b h, D2.many⟩ B2 k2 R2⟩
end

end R
namespace R
open PySem PySem.Spec PyProof.Rows L2
/-! ## joining rests: the mathematics -/
theorem emod_of_dvd_sub {a b m : Int} (h0 : 0 ≤ b) (h1 : b < m) (h : m ∣ a - b) : a % m = b := by
  obtain ⟨k, hk⟩ := h
  have e : a = b + m * k := by omega
  rw [e, Int.add_mul_emod_self_left]
  exact Int.emod_eq_of_lt h0 h1
def rowL (g turns back whole known : Int) (lot : List Int) : List Int := (lot.filter fun r => decide ((r - known) % g = 0)).map fun r => known + whole * ((r - known) / g * back % turns)
def joinL (g turns back whole : Int) (classes lot : List Int) : List Int := classes.flatMap fun k => rowL g turns back whole k lot
theorem rowL_add (g turns back whole known r : Int) (lot : List Int) : rowL g turns back whole known (lot ++ [r]) = rowL g turns back whole known lot ++ (if (r - known) % g = 0 then [known + whole * ((r - known) / g * back % turns)] else []) := by
  unfold rowL
  rw [List.filter_append, List.map_append]
  by_cases h : (r - known) % g = 0
  · rw [if_pos h, List.filter_cons_of_pos (by rw [decide_eq_true h])]
    rfl
  · rw [if_neg h, List.filter_cons_of_neg (by rw [decide_eq_false h]; exact Bool.false_ne_true)]
    rfl
theorem joinL_add (g turns back whole k : Int) (classes lot : List Int) : joinL g turns back whole (classes ++ [k]) lot = joinL g turns back whole classes lot ++ rowL g turns back whole k lot := by
  unfold joinL
  rw [List.flatMap_append]
  congr 1
  exact List.append_nil _
theorem mem_rowL {g turns back whole known y : Int} {lot : List Int} : y ∈ rowL g turns back whole known lot ↔ ∃ r ∈ lot, (r - known) % g = 0 ∧ y = known + whole * ((r - known) / g * back % turns) := by
  unfold rowL
  rw [List.mem_map]
  constructor
  · rintro ⟨r, hr, e⟩
    obtain ⟨h1, h2⟩ := List.mem_filter.mp hr
    exact ⟨r, h1, of_decide_eq_true h2, e.symm⟩
  · rintro ⟨r, h1, h2, e⟩
    exact ⟨r, List.mem_filter.mpr ⟨h1, decide_eq_true h2⟩, e.symm⟩
theorem mem_joinL {g turns back whole y : Int} {classes lot : List Int} : y ∈ joinL g turns back whole classes lot ↔ ∃ k ∈ classes, ∃ r ∈ lot, (r - k) % g = 0 ∧ y = k + whole * ((r - k) / g * back % turns) := by
  unfold joinL
  rw [List.mem_flatMap]
  constructor
  · rintro ⟨k, hk, h⟩
    exact ⟨k, hk, mem_rowL.mp h⟩
  · rintro ⟨k, hk, h⟩
    exact ⟨k, hk, mem_rowL.mpr h⟩
/-- what the joining leans on: g the common measure, w = g * w', m = g * turns, back the inverse of w' by turns -/
structure Meet (g turns back w w' m : Int) : Prop where
  g0 : 0 < g
  t0 : 0 < turns
  w0 : 0 < w
  ew : w = g * w'
  em : m = g * turns
  inv : turns ∣ w' * back - 1
section
variable {g turns back w w' m : Int}
theorem Meet.m0 (M : Meet g turns back w w' m) : 0 < m := by rw [M.em]; exact Int.mul_pos M.g0 M.t0
theorem Meet.out (M : Meet g turns back w w' m) {k r : Int} (hd : (r - k) % g = 0) : m ∣ (k + w * ((r - k) / g * back % turns)) - r := by
  obtain ⟨e, he⟩ := M.inv
  have hq : g * ((r - k) / g) = r - k := Int.mul_ediv_cancel' (Int.dvd_of_emod_eq_zero hd)
  generalize (r - k) / g = q at hq ⊢
  have ht := Int.mul_ediv_add_emod (q * back) turns
  generalize (q * back) % turns = t at ht ⊢
  generalize (q * back) / turns = j at ht
  refine ⟨q * e - w' * j, ?_⟩
  have h1 : w' * t - q = turns * (q * e - w' * j) := by
    have : t = q * back - turns * j := by omega
    rw [this, Int.mul_sub, Int.mul_sub]
    have a1 : w' * (q * back) = q * (w' * back) := by rw [← Int.mul_assoc, Int.mul_comm w' q, Int.mul_assoc]
    have a2 : w' * back = turns * e + 1 := by omega
    have a3 : w' * (turns * j) = turns * (w' * j) := by rw [← Int.mul_assoc, Int.mul_comm w' turns, Int.mul_assoc]
    have a4 : q * (turns * e + 1) = turns * (q * e) + q := by rw [Int.mul_add, Int.mul_one, ← Int.mul_assoc, Int.mul_comm q turns, Int.mul_assoc]
    rw [a1, a2, a3, a4]
    omega
  have h2 : k + w * t - r = g * (w' * t - q) := by
    rw [Int.mul_sub, hq, M.ew, ← Int.mul_assoc]
    omega
  rw [h2, h1, M.em, Int.mul_assoc]
theorem Meet.into (M : Meet g turns back w w' m) {y : Int} (h0 : 0 ≤ y) (h1 : y < w * turns) : (y % m - y % w) % g = 0 ∧ y = y % w + w * ((y % m - y % w) / g * back % turns) := by
  obtain ⟨e, he⟩ := M.inv
  have hw := Int.mul_ediv_add_emod y w
  have hm := Int.mul_ediv_add_emod y m
  have k0 := Int.emod_nonneg y (Int.ne_of_gt M.w0)
  have t0 : 0 ≤ y / w := Int.ediv_nonneg h0 (Int.le_of_lt M.w0)
  have t1 : y / w < turns := Int.ediv_lt_of_lt_mul M.w0 (by rw [Int.mul_comm]; exact h1)
  generalize y / w = t at hw t0 t1
  generalize y / m = s at hm
  generalize y % w = k at hw k0 ⊢
  generalize y % m = r at hm ⊢
  have hd : r - k = g * (w' * t - turns * s) := by
    have a1 : w * t = g * (w' * t) := by rw [M.ew, Int.mul_assoc]
    have a2 : m * s = g * (turns * s) := by rw [M.em, Int.mul_assoc]
    rw [Int.mul_sub, ← a1, ← a2]
    omega
  rw [hd]
  refine ⟨Int.mul_emod_right _ _, ?_⟩
  rw [Int.mul_ediv_cancel_left _ (Int.ne_of_gt M.g0)]
  have hq : (w' * t - turns * s) * back = t + turns * (e * t - s * back) := by
    have a2 : w' * back = turns * e + 1 := by omega
    rw [Int.sub_mul, Int.mul_sub]
    have a3 : w' * t * back = (w' * back) * t := by rw [Int.mul_assoc, Int.mul_comm t back, ← Int.mul_assoc]
    have a4 : (turns * e + 1) * t = turns * (e * t) + t := by rw [Int.add_mul, Int.one_mul, Int.mul_assoc]
    have a5 : turns * s * back = turns * (s * back) := Int.mul_assoc _ _ _
    rw [a3, a2, a4, a5]
    omega
  rw [hq, Int.add_mul_emod_self_left, Int.emod_eq_of_lt t0 t1]
  omega
/-- a number made of known and rest tells both -/
theorem Meet.tells (M : Meet g turns back w w' m) {k r : Int} (hk : 0 ≤ k ∧ k < w) (hr : 0 ≤ r ∧ r < m) (hd : (r - k) % g = 0) :
    (k + w * ((r - k) / g * back % turns)) % w = k ∧ (k + w * ((r - k) / g * back % turns)) % m = r := by
  refine ⟨?_, emod_of_dvd_sub hr.1 hr.2 (M.out hd)⟩
  rw [Int.add_mul_emod_self_left]
  exact Int.emod_eq_of_lt hk.1 hk.2
theorem Meet.rowNodup (M : Meet g turns back w w' m) {k : Int} {lot : List Int} (hk : 0 ≤ k ∧ k < w) (hl : ∀ r ∈ lot, 0 ≤ r ∧ r < m) (nd : lot.Nodup) : (rowL g turns back w k lot).Nodup := by
  unfold rowL
  have nf : (lot.filter fun r => decide ((r - k) % g = 0)).Nodup := nd.filter _
  refine List.pairwise_map.mpr (List.Pairwise.imp_of_mem (fun {a b} ha hb hne e => hne ?_) nf)
  obtain ⟨a1, a2⟩ := List.mem_filter.mp ha
  obtain ⟨b1, b2⟩ := List.mem_filter.mp hb
  have q1 := (M.tells hk (hl _ a1) (of_decide_eq_true a2)).2
  have q2 := (M.tells hk (hl _ b1) (of_decide_eq_true b2)).2
  rw [← q1, ← q2, e]
theorem Meet.joinNodup (M : Meet g turns back w w' m) {cs lot : List Int} (hc : ∀ k ∈ cs, 0 ≤ k ∧ k < w) (nc : cs.Nodup) (hl : ∀ r ∈ lot, 0 ≤ r ∧ r < m) (nd : lot.Nodup) : (joinL g turns back w cs lot).Nodup := by
  induction cs with
  | nil => exact List.nodup_nil
  | cons k r ih =>
    obtain ⟨n1, n2⟩ := List.nodup_cons.mp nc
    show (rowL g turns back w k lot ++ joinL g turns back w r lot).Nodup
    refine List.nodup_append.mpr ⟨M.rowNodup (hc k List.mem_cons_self) hl nd, ih (fun x hx => hc x (List.mem_cons_of_mem _ hx)) n2, fun a ha b hb e => ?_⟩
    obtain ⟨r1, hr1, d1, e1⟩ := mem_rowL.mp ha
    obtain ⟨k2, hk2, r2, hr2, d2, e2⟩ := mem_joinL.mp hb
    have q1 := (M.tells (hc k List.mem_cons_self) (hl _ hr1) d1).1
    have q2 := (M.tells (hc k2 (List.mem_cons_of_mem _ hk2)) (hl _ hr2) d2).1
    rw [← e1] at q1
    rw [← e2] at q2
    rw [e] at q1
    rw [← q1, q2] at n1
    exact n1 hk2
end
/-! what fits by a row of bars hangs on the rest by the whole alone -/
theorem dvd_wh : ∀ (bs : List Bar) (b : Bar), b ∈ bs → b.1.natAbs ∣ wh bs := by
  refine snocInd (fun b h => by simp at h) fun bs c ih b h => ?_
  rw [wh_add]
  rcases List.mem_append.mp h with h | h
  · exact Nat.dvd_trans (ih b h) (Nat.dvd_lcm_left _ _)
  · rw [List.mem_singleton.mp h]
    exact Nat.dvd_lcm_right _ _
theorem emod_emod_wh {bs : List Bar} {b : Bar} (h : b ∈ bs) (x : Int) : x % (wh bs : Int) % b.1 = x % b.1 := by
  refine Int.emod_emod_of_dvd x ?_
  have := dvd_wh bs b h
  exact Int.natAbs_dvd.mp (Int.natCast_dvd_natCast.mpr this)
theorem fitsB_iff {bs : List Bar} {x : Int} : fitsB bs x = true ↔ ∀ b ∈ bs, x % b.1 ∈ b.2 := by
  unfold fitsB
  rw [List.all_eq_true]
  exact ⟨fun h b hb => of_decide_eq_true (h b hb), fun h b hb => decide_eq_true (h b hb)⟩
theorem fitsB_mod (bs : List Bar) (x : Int) : fitsB bs (x % (wh bs : Int)) = fitsB bs x := by
  rw [Bool.eq_iff_iff, fitsB_iff, fitsB_iff]
  exact ⟨fun h b hb => by rw [← emod_emod_wh hb]; exact h b hb, fun h b hb => by rw [emod_emod_wh hb]; exact h b hb⟩
/-- xs: each number from 0 to w - 1 that fits, once -/
structure ClsIs (bs : List Bar) (xs : List Int) : Prop where
  nd : xs.Nodup
  mem : ∀ x, x ∈ xs ↔ 0 ≤ x ∧ x < (wh bs : Int) ∧ fitsB bs x = true
theorem ClsIs.nil : ClsIs [] [0] := by
  refine ⟨by simp, fun x => ?_⟩
  rw [List.mem_singleton]
  have e : (wh [] : Int) = 1 := rfl
  rw [e]
  constructor
  · rintro rfl
    exact ⟨by decide, by decide, rfl⟩
  · rintro ⟨a, b, _⟩
    omega
theorem ClsIs.add {g turns back w' : Int} {bs : List Bar} {b : Bar} {xs : List Int} (M : Meet g turns back (wh bs : Int) w' b.1) (h : ClsIs bs xs) (L : LotOk b.1 b.2) (hw : (wh (bs ++ [b]) : Int) = (wh bs : Int) * turns) :
    ClsIs (bs ++ [b]) (joinL g turns back (wh bs : Int) xs b.2) := by
  have hc : ∀ k ∈ xs, 0 ≤ k ∧ k < (wh bs : Int) := fun k hk => let ⟨a, c, _⟩ := (h.mem k).mp hk; ⟨a, c⟩
  have hl : ∀ r ∈ b.2, 0 ≤ r ∧ r < b.1 := fun r hr => ⟨L.ge r hr, L.lt r hr⟩
  refine ⟨M.joinNodup hc h.nd hl (L.up.imp fun h => Int.ne_of_lt h), fun y => ?_⟩
  rw [mem_joinL, hw, fitsB_add]
  constructor
  · rintro ⟨k, hk, r, hr, hd, e⟩
    obtain ⟨q1, q2⟩ := M.tells (hc k hk) (hl r hr) hd
    obtain ⟨k0, k1, kf⟩ := (h.mem k).mp hk
    have t0 := Int.emod_nonneg ((r - k) / g * back) (Int.ne_of_gt M.t0)
    have t1 := Int.emod_lt_of_pos ((r - k) / g * back) M.t0
    rw [← e] at q1 q2
    generalize (r - k) / g * back % turns = t at e t0 t1
    have p0 : 0 ≤ (wh bs : Int) * t := Int.mul_nonneg (Int.le_of_lt M.w0) t0
    have p1 : (wh bs : Int) * (t + 1) ≤ (wh bs : Int) * turns := Int.mul_le_mul_of_nonneg_left (by omega) (Int.le_of_lt M.w0)
    rw [Int.mul_add, Int.mul_one] at p1
    refine ⟨by omega, by omega, ?_⟩
    rw [q2, decide_eq_true hr, Bool.and_true, ← fitsB_mod, q1]
    exact kf
  · rintro ⟨y0, y1, yf⟩
    obtain ⟨f1, f2⟩ := Bool.and_eq_true_iff.mp yf
    obtain ⟨d1, d2⟩ := M.into y0 y1
    refine ⟨y % (wh bs : Int), (h.mem _).mpr ⟨Int.emod_nonneg _ (Int.ne_of_gt M.w0), Int.emod_lt_of_pos _ M.w0, by rw [fitsB_mod]; exact f1⟩, y % b.1, of_decide_eq_true f2, d1, d2⟩
/-- sorted, it is the list of them in order -/
theorem cls_is (bs : List Bar) : ClsIs bs (cls bs) := by
  refine ⟨?_, fun x => ?_⟩
  · refine List.Pairwise.filter _ (List.pairwise_map.mpr (List.nodup_range.imp fun h e => h (by omega)))
  · unfold cls
    rw [List.mem_filter, List.mem_map]
    constructor
    · rintro ⟨⟨n, hn, rfl⟩, f⟩
      have := List.mem_range.mp hn
      exact ⟨by omega, by omega, f⟩
    · rintro ⟨x0, x1, f⟩
      exact ⟨⟨x.toNat, List.mem_range.mpr (by omega), by omega⟩, f⟩
theorem cls_up (bs : List Bar) : (cls bs).Pairwise (· < ·) := by
  unfold cls
  refine List.Pairwise.filter _ (List.pairwise_map.mpr (List.pairwise_lt_range.imp fun h => by omega))
theorem sorted_unique : ∀ {xs ys : List Int}, xs.Pairwise (· < ·) → ys.Pairwise (· < ·) → (∀ x, x ∈ xs ↔ x ∈ ys) → xs = ys
  | [], [], _, _, _ => rfl
  | [], y :: r, _, _, h => absurd ((h y).mpr List.mem_cons_self) (by simp)
  | x :: r, [], _, _, h => absurd ((h x).mp List.mem_cons_self) (by simp)
  | x :: r, y :: s, p, q, h => by
    obtain ⟨p1, p2⟩ := List.pairwise_cons.mp p
    obtain ⟨q1, q2⟩ := List.pairwise_cons.mp q
    have e : x = y := by
      rcases List.mem_cons.mp ((h x).mp List.mem_cons_self) with e | e
      · exact e
      · rcases List.mem_cons.mp ((h y).mpr List.mem_cons_self) with f | f
        · exact f.symm
        · have := q1 x e
          have := p1 y f
          omega
    subst e
    congr 1
    refine sorted_unique p2 q2 fun z => ⟨fun hz => ?_, fun hz => ?_⟩
    · rcases List.mem_cons.mp ((h z).mp (List.mem_cons_of_mem _ hz)) with e | e
      · have := p1 z hz
        omega
      · exact e
    · rcases List.mem_cons.mp ((h z).mpr (List.mem_cons_of_mem _ hz)) with e | e
      · have := q1 z hz
        omega
      · exact e
theorem le_nodup_lt {xs : List Int} (h : xs.Pairwise (· ≤ ·)) (n : xs.Nodup) : xs.Pairwise (· < ·) := by
  refine (h.and n).imp fun ⟨a, b⟩ => ?_
  omega
theorem ClsIs.sorted {bs : List Bar} {xs ys : List Int} (h : ClsIs bs xs) (p : ys.Perm xs) (s : ys.Pairwise (· ≤ ·)) : ys = cls bs := by
  refine sorted_unique (le_nodup_lt s (p.nodup_iff.mpr h.nd)) (cls_up bs) fun x => ?_
  rw [p.mem_iff, h.mem, (cls_is bs).mem]
theorem joinL_len (g turns back whole : Int) (classes lot : List Int) : (joinL g turns back whole classes lot).length ≤ classes.length * lot.length := by
  induction classes with
  | nil => exact Nat.zero_le _
  | cons k r ih =>
    show (rowL g turns back whole k lot ++ joinL g turns back whole r lot).length ≤ (r.length + 1) * lot.length
    have h1 : (rowL g turns back whole k lot).length ≤ lot.length := by
      unfold rowL
      rw [List.length_map]
      exact List.length_filter_le _ _
    rw [List.length_append, Nat.add_mul, Nat.one_mul]
    omega

end R
namespace R
open PySem PySem.Spec PyProof.Rows L2
/-! ## the program's own: the checks, the joining, the sieve -/
/-- Euclid's walk with its factors: r, a the two numbers, F, G the factors' sizes -/
structure Euc (n m r a F G : Nat) (f g : Int) : Prop where
  r1 : 1 ≤ r
  co : Nat.gcd r a = 1
  sum : r * G + a * F = m
  sg : (f = F ∧ g = -(G : Int)) ∨ (f = -(F : Int) ∧ g = G)
  df : (m : Int) ∣ f * n - r
  dg : (m : Int) ∣ g * n - a
theorem Euc.start {n m : Nat} (h1 : 1 ≤ n) (co : Nat.gcd n m = 1) : Euc n m n m 1 0 1 0 := by
  refine ⟨h1, co, by omega, .inl ⟨rfl, rfl⟩, ⟨0, by omega⟩, ⟨-1, by omega⟩⟩
theorem Euc.step {n m r a F G : Nat} {f g : Int} (E : Euc n m r a F G f g) (ha : a ≠ 0) : Euc n m a (r % a) G (F + r / a * G) g (f - ((r / a : Nat) : Int) * g) := by
  have hd := Nat.div_add_mod r a
  refine ⟨Nat.pos_of_ne_zero ha, ?_, ?_, ?_, E.dg, ?_⟩
  · rw [Nat.gcd_comm a (r % a), ← Nat.gcd_rec, Nat.gcd_comm]
    exact E.co
  · have e := E.sum
    rw [← hd] at e
    rw [← e, Nat.mul_add, Nat.add_mul, Nat.mul_assoc]
    omega
  · rcases E.sg with ⟨h1, h2⟩ | ⟨h1, h2⟩
    · refine .inr ⟨h2, ?_⟩
      rw [h1, h2, Int.mul_neg, Int.natCast_add, Int.natCast_mul]
      omega
    · refine .inl ⟨h2, ?_⟩
      rw [h1, h2, Int.natCast_add, Int.natCast_mul]
      omega
  · obtain ⟨x, hx⟩ := E.df
    obtain ⟨y, hy⟩ := E.dg
    refine ⟨x - ((r / a : Nat) : Int) * y, ?_⟩
    have e1 : ((r : Nat) : Int) = (a : Int) * ((r / a : Nat) : Int) + ((r % a : Nat) : Int) := by
      rw [← Int.natCast_mul, ← Int.natCast_add, hd]
    have e2 : f * n = (m : Int) * x + r := by omega
    have e3 : g * n = (m : Int) * y + a := by omega
    rw [Int.sub_mul, Int.mul_assoc, e2, e3, Int.mul_sub, Int.mul_add]
    have e4 : ((r / a : Nat) : Int) * ((m : Int) * y) = (m : Int) * (((r / a : Nat) : Int) * y) := by rw [← Int.mul_assoc, Int.mul_comm _ (m : Int), Int.mul_assoc]
    have e5 : ((r / a : Nat) : Int) * (a : Int) = (a : Int) * ((r / a : Nat) : Int) := Int.mul_comm _ _
    rw [e4, e5]
    omega
theorem Euc.last {n m r F G : Nat} {f g : Int} (E : Euc n m r 0 F G f g) : (m : Int) ∣ (n : Int) * (f % (m : Int)) - 1 := by
  have h1 := E.co
  rw [Nat.gcd_zero_right] at h1
  obtain ⟨x, hx⟩ := E.df
  have hm := Int.mul_ediv_add_emod f (m : Int)
  generalize f / (m : Int) = q at hm
  refine ⟨x - (n : Int) * q, ?_⟩
  have e : f % (m : Int) = f - (m : Int) * q := by omega
  have e2 : (n : Int) * f = (m : Int) * x + 1 := by
    rw [Int.mul_comm]
    omega
  rw [e, Int.mul_sub, e2, Int.mul_sub]
  have e4 : (n : Int) * ((m : Int) * q) = (m : Int) * ((n : Int) * q) := by rw [← Int.mul_assoc, Int.mul_comm (n : Int), Int.mul_assoc]
  rw [e4]
  omega
def sp_p_inverse : Sp := fun vs H Q _ => ∃ n m : Nat, vs = [.int n, .int m] ∧ 1 ≤ n ∧ n < 2 ^ 150 ∧ 1 ≤ m ∧ m < 2 ^ 150 ∧ Nat.gcd n m = 1 ∧ ∀ (v : Int) (H' : Hp), Same H H' → 0 ≤ v → v < m → (m : Int) ∣ (n : Int) * v - 1 → Q (.int v) H'
section
variable {P : Program} [POk P FILE] {w : World} {K : PySem.W.Frag} {mg : Str → Option Value} {base : Heap}
theorem ok_p_inverse (T : Txt K mg) : FnOk P w K mg base CX0 2 T.f_p_inverse T.fd_p_inverse ["number", "modulus"] sp_p_inverse := by
  refine T.F_p_inverse.ok sc_p_inverse (fun vs H Q E h => ?_) (fun cdv A outer s H vs Q E hr h => ?_)
  · obtain ⟨n, m, rfl, _⟩ := h
    rfl
  · obtain ⟨n, m, rfl, h1, h2, h3, h4, co, q⟩ := h
    refine ⟨_, (pss_cons (ps_par (i := 2) (j := 3) (by rfl) sc_p_inverse.nd rfl rfl (by decide) rfl rfl (pa_cons (pv 0) (pa_cons (pv 1) pa_nil)) (by rfl))
      (pss_cons (ps_asg (pe_tup (pa_cons pe_int (pa_cons pe_int pa_nil))) (pg_tup (by rfl) (pgs_cons (pg_name (i := 4) sc_p_inverse.nd rfl (by first | exact .inl rfl | exact .inr rfl)) (pgs_cons (pg_name (i := 5) sc_p_inverse.nd rfl (by first | exact .inl rfl | exact .inr rfl)) pgs_nil))))
      (pss_cons (ps_while PassesOwn.never (pt_cmpR op_ne (pv 3) pe_int (nomark _)) (pss_cons (ps_set (i := 6) sc_p_inverse.nd rfl (by first | exact .inl rfl | exact .inr rfl) (pe_op op_fdivW (pv 2) (pv 3)))
      (pss_cons (ps_par (i := 2) (j := 3) (by rfl) sc_p_inverse.nd rfl rfl (by decide) rfl rfl (pa_cons (pv 3) (pa_cons (pe_op op_sub (pv 2) (pe_op op_mulW (pv 6) (pv 3))) pa_nil)) (by rfl))
      (pss_one (ps_par (i := 4) (j := 5) (by rfl) sc_p_inverse.nd rfl rfl (by decide) rfl rfl (pa_cons (pv 5) (pa_cons (pe_op op_sub (pv 4) (pe_op op_mulW (pv 6) (pv 5))) pa_nil)) (by rfl))))))
      (pss_one (ps_ret (pe_op op_mod (pv 4) (pv 1))))))), ?_⟩
    refine ⟨_, rfl, _, rfl, _, _, rfl, ?_⟩
    refine ⟨sizeOk (by show (2 : Nat) ≤ 100000; decide), fun p np => ⟨p, _, rfl, tupOf upd_same, rfl, _, _, rfl, _, _, rfl, rfl, ?_⟩⟩
    have s1 : Same H (upd H p (.tup [.int 1, .int 0])) := same_upd np
    generalize upd H p (.tup [.int 1, .int 0]) = H1 at s1
    refine while_by (fun σ H2 => ∃ (r a F G : Nat) (f g : Int) (x : Option V), σ = [some (.int n), some (.int m), some (.int r), some (.int a), some (.int f), some (.int g), x] ∧ Euc n m r a F G f g ∧ r < 2 ^ 150 ∧ a < 2 ^ 150 ∧ H2 = H1)
      (fun σ _ => match σ with | [_, _, _, some (.int a), _, _, _] => a.toNat | _ => 0) ⟨n, m, 1, 0, 1, 0, none, rfl, Euc.start h1 co, h2, h4, rfl⟩ ?_ ?_
    · rintro σ H2 ⟨r, a, F, G, f, g, x, rfl, U, hr1, ha1, rfl⟩
      refine ⟨_, rfl, rfl, _, rfl, ite2 (fun e => ?_) (fun e => ?_)⟩
      · have h0 : a ≠ 0 := fun z => by
          subst z
          have e' : (!decide (V.int ((0 : Nat) : Int) = V.int 0)) = true := e
          exact absurd e' (by decide)
        have ap : 0 < a := Nat.pos_of_ne_zero h0
        have hd := Nat.div_add_mod r a
        have q1 : r / a ≤ r := Nat.div_le_self _ _
        have sm := U.sum
        have g1 : 1 * G ≤ r * G := Nat.mul_le_mul_right _ U.r1
        have f1 : 1 * F ≤ a * F := Nat.mul_le_mul_right _ ap
        have gl : g.natAbs < 2 ^ 150 := by
          rcases U.sg with ⟨_, z⟩ | ⟨_, z⟩ <;> omega
        refine ⟨_, rfl, _, rfl, _, _, rfl, rfl, wide_div (b := 150) (by omega) (by rw [Int.natAbs_natCast]; exact ha1) (by decide) (by decide), ?_⟩
        refine ⟨_, rfl, _, rfl, _, rfl, _, rfl, _, _, rfl, rfl, ?_, _, _, rfl, rfl, _, _, rfl, ?_⟩
        · rw [divNat]
          exact wide_mul (a := 150) (b := 150) (by rw [Int.natAbs_natCast]; omega) (by rw [Int.natAbs_natCast]; exact ha1) (by decide) (by decide) (by decide)
        refine ⟨_, rfl, _, rfl, _, rfl, _, rfl, _, _, rfl, rfl, ?_, _, _, rfl, rfl, _, _, rfl, ?_, ?_⟩
        · rw [divNat]
          exact wide_mul (a := 150) (b := 150) (by rw [Int.natAbs_natCast]; omega) gl (by decide) (by decide) (by decide)
        · refine ⟨a, r % a, G, F + r / a * G, g, f - ((r / a : Nat) : Int) * g, some (.int ((r / a : Nat) : Int)), ?_, U.step h0, ha1, Nat.lt_of_le_of_lt (Nat.mod_le _ _) hr1, rfl⟩
          have em : (r : Int) - (r : Int) / (a : Int) * (a : Int) = ((r % a : Nat) : Int) := by
            rw [← modNat, Int.emod_def, Int.mul_comm]
          show ([some (.int n), some (.int m), some (.int a), some (.int ((r : Int) - (r : Int) / (a : Int) * (a : Int))), some (.int g), some (.int (f - (r : Int) / (a : Int) * g)), some (.int ((r : Int) / (a : Int)))] : L2.St) = _
          rw [em, divNat]
        · show ((r : Int) - (r : Int) / (a : Int) * (a : Int)).toNat < ((a : Nat) : Int).toNat
          have em : (r : Int) - (r : Int) / (a : Int) * (a : Int) = ((r % a : Nat) : Int) := by
            rw [← modNat, Int.emod_def, Int.mul_comm]
          rw [em, Int.toNat_natCast, Int.toNat_natCast]
          exact Nat.mod_lt _ ap
      · have e' : ¬ (!decide (V.int (a : Int) = V.int 0)) = true := e
        have a0 : a = 0 := by
          by_cases z : V.int (a : Int) = V.int 0
          · have := V.int.inj z
            omega
          · rw [decide_eq_false z] at e'
            exact absurd rfl e'
        subst a0
        refine ⟨_, rfl, _, rfl, _, _, rfl, rfl, by show 0 < (m : Int); omega, ?_⟩
        exact q _ _ s1 (Int.emod_nonneg _ (by omega)) (Int.emod_lt_of_pos _ (by omega)) U.last
    · intro σ H2 Q1 Q2 hQ h
      obtain ⟨v, hv, hs, k, hk, hq⟩ := h
      exact ⟨v, hv, hs, k, hk, hQ _ _ hq⟩
end

end R
namespace R
open PySem PySem.Spec PyProof.Rows L2
theorem samePut {H H' : Hp} {p : Addr} {o : HO} (s : Same H H') (h : H p = none) : Same H (upd H' p o) := fun b u e => by
  rw [upd_ne (ne_of_none e h)]
  exact s b u e
theorem freshOf {H H' : Hp} {p : Addr} (s : Same H H') (h : H' p = none) : H p = none := s.free h
theorem rowL_len (g turns back whole known : Int) (lot : List Int) : (rowL g turns back whole known lot).length ≤ lot.length := by
  unfold rowL
  rw [List.length_map]
  exact List.length_filter_le _ _
theorem joinL_len2 {g turns back whole k : Int} {xs lot : List Int} {i j : Nat} (hi : i < xs.length) : (joinL g turns back whole (xs.take i) lot ++ rowL g turns back whole k (lot.take j)).length ≤ xs.length * lot.length := by
  have h1 := joinL_len g turns back whole (xs.take i) lot
  have h2 := rowL_len g turns back whole k (lot.take j)
  rw [List.length_take] at h1 h2
  rw [List.length_append]
  have h3 : (i + 1) * lot.length ≤ xs.length * lot.length := Nat.mul_le_mul_right _ hi
  rw [Nat.add_mul, Nat.one_mul] at h3
  have h4 : min i xs.length = i := by omega
  rw [h4] at h1
  omega
def sp_p_joined (K : PySem.W.Frag) : Sp := fun vs H Q _ => ∃ (c : Addr) (xs lot : List Int) (w m : Nat) (v : V), vs = [.ref c, .int w, .int m, v] ∧ SqL K H c (xs.map V.int) ∧ LotAt K H v lot ∧ 1 ≤ w ∧ w < 2 ^ 130 ∧ 1 ≤ m ∧ m ≤ 1000000 ∧
  (∀ x ∈ xs, 0 ≤ x ∧ x < (w : Int)) ∧ (∀ r ∈ lot, 0 ≤ r ∧ r < (m : Int)) ∧ xs.length * lot.length ≤ 100000 ∧
  ∀ (D : Addr) (H' : Hp) (g t b w' : Int), Same H H' → Meet g t b w w' m → ((Nat.lcm w m : Nat) : Int) = (w : Int) * t → H' D = some (.lst ((joinL g t b w xs lot).map V.int)) → Q (.ref D) H'
section
variable {P : Program} [POk P FILE] {w : World} {K : PySem.W.Frag} {mg : Str → Option Value} {base : Heap}
theorem ok_p_joined (T : Txt K mg) : FnOk P w K mg base CX0 3 T.f_p_joined T.fd_p_joined ["classes", "whole", "modulus", "lot"] (sp_p_joined K) := by
  refine T.F_p_joined.ok sc_p_joined (fun vs H Q E h => ?_) (fun cdv A outer s H vs Q E hr h => ?_)
  · obtain ⟨c, xs, lot, W, m, v, rfl, _⟩ := h
    rfl
  · obtain ⟨c, xs, lot, W, m, v, rfl, hc, hL, w1, w2, m1, m2, hx, hl, hsz, q⟩ := h
    refine ⟨_, (pss_cons (ps_set (i := 4) sc_p_joined.nd rfl (by first | exact .inl rfl | exact .inr rfl) (pe_callBfun cr_gcd (by rfl) T.g_gcd (pa_cons (pv 1) (pa_cons (pv 2) pa_nil))))
      (pss_cons (ps_set (i := 5) sc_p_joined.nd rfl (by first | exact .inl rfl | exact .inr rfl) (pe_op op_fdivW (pv 2) (pv 4)))
      (pss_cons (ps_set (i := 6) sc_p_joined.nd rfl (by first | exact .inl rfl | exact .inr rfl) (pe_call (ok_p_inverse (P := P) T) (hr.mono (by decide)) (by rfl) T.g_p_inverse T.F_p_inverse.kp T.b_p_inverse .nil pass0 (pa_cons (pe_op op_fdivW (pv 1) (pv 4)) (pa_cons (pv 5) pa_nil))))
      (pss_cons (ps_set (i := 7) sc_p_joined.nd rfl (by first | exact .inl rfl | exact .inr rfl) (pe_lst pa_nil))
      (pss_cons (ps_for PassesOwn.never rfl (pi_list (pv 0)) (pg_name (i := 8) sc_p_joined.nd rfl (by first | exact .inl rfl | exact .inr rfl)) (pss_one (ps_for PassesOwn.never rfl (pi_tup (pv 3)) (pg_name (i := 9) sc_p_joined.nd rfl (by first | exact .inl rfl | exact .inr rfl)) (pss_cons (ps_set (i := 10) sc_p_joined.nd rfl (by first | exact .inl rfl | exact .inr rfl) (pe_op op_sub (pv 9) (pv 8)))
      (pss_one (ps_if (pt_cmpR op_eq (pe_op op_mod (pv 10) (pv 4)) pe_int (nomark _)) (pss_one (ps_expr (pe_bm PySem.F.plainAttrs_list PySem.F.slot_list_append PySem.F.type_list_append mt_append (pv 7) (pa_cons (pe_op op_add (pv 8) (pe_op op_mulW (pv 1) (pe_op op_mod (pe_op op_mulW (pe_op op_fdivW (pv 10) (pv 4)) (pv 6)) (pv 5)))) pa_nil)))) pss_nil))))))
      (pss_one (ps_ret (pv 7)))))))), ?_⟩
    have hg : 0 < Nat.gcd W m := Nat.gcd_pos_of_pos_left _ w1
    have gm : Nat.gcd W m ≤ m := Nat.gcd_le_right _ m1
    have gw : Nat.gcd W m ≤ W := Nat.gcd_le_left _ w1
    refine ⟨_, rfl, _, rfl, _, _, rfl, ?_⟩
    rw [Int.natAbs_natCast, Int.natAbs_natCast]
    have ew : Nat.gcd W m * (W / Nat.gcd W m) = W := Nat.mul_div_cancel' (Nat.gcd_dvd_left W m)
    have em : Nat.gcd W m * (m / Nat.gcd W m) = m := Nat.mul_div_cancel' (Nat.gcd_dvd_right W m)
    have cop : Nat.gcd (W / Nat.gcd W m) (m / Nat.gcd W m) = 1 := by rw [Nat.gcd_div (Nat.gcd_dvd_left W m) (Nat.gcd_dvd_right W m)]; exact Nat.div_self hg
    have lcmE : Nat.lcm W m = W * (m / Nat.gcd W m) := Nat.mul_div_assoc W (Nat.gcd_dvd_right W m)
    have t1 : 1 ≤ m / Nat.gcd W m := Nat.div_pos gm hg
    have t2 : m / Nat.gcd W m ≤ m := Nat.div_le_self _ _
    have v1 : 1 ≤ W / Nat.gcd W m := Nat.div_pos gw hg
    have v2 : W / Nat.gcd W m ≤ W := Nat.div_le_self _ _
    generalize Nat.gcd W m = g at *
    generalize ht : m / g = t at *
    generalize hw : W / g = w' at *
    have dm : (m : Int) / (g : Int) = (t : Int) := by rw [divNat, ht]
    have dw : (W : Int) / (g : Int) = (w' : Int) := by rw [divNat, hw]
    refine ⟨_, rfl, _, rfl, _, _, rfl, rfl, wide_div (b := 30) (by omega) (by rw [Int.natAbs_natCast]; omega) (by decide) (by decide), ?_⟩
    refine ⟨_, rfl, _, rfl, _, _, rfl, rfl, wide_div (b := 30) (by omega) (by rw [Int.natAbs_natCast]; omega) (by decide) (by decide), _, rfl, w', t, by rw [← dw, ← dm]; rfl, v1, by omega, t1, by omega, cop, fun back H1 s1 b0 b1 hb => ?_⟩
    have M : Meet (g : Int) (t : Int) back (W : Int) (w' : Int) (m : Int) := ⟨by omega, by omega, by omega, by rw [← Int.natCast_mul, ew], by rw [← Int.natCast_mul, em], hb⟩
    refine ⟨Nat.zero_le _, fun F nF => ?_⟩
    have nF0 := freshOf s1 nF
    obtain ⟨a, rfl, ta⟩ := hL.ex
    have s2 : Same H (upd H1 F (.lst [])) := samePut s1 nF0
    refine ⟨_, rfl, c, rfl, ⟨_, s2.seq hc⟩, for_list (K := K) (a := c) (xs := xs.map V.int) (fun i σ Hj => ∃ (x8 x9 x10 : Option V), σ = [some (.ref c), some (.int W), some (.int m), some (.ref a), some (.int g), some (.int ((m : Int) / (g : Int))), some (.int back), some (.ref F), x8, x9, x10] ∧
      Same H Hj ∧ Hj F = some (.lst ((joinL g t back W (xs.take i) lot).map V.int)))
      ⟨none, none, none, rfl, s2, upd_same⟩ (fun i σ Hj _ ⟨_, _, _, _, sj, _⟩ => sj.seq hc) ?_ ?_⟩
    · rintro i y σ Hj hi ⟨x8, x9, x10, rfl, sj, ej⟩
      obtain ⟨k, hk, rfl⟩ := getMapInt' hi
      have kx := hx k (List.mem_of_getElem? hk)
      refine ⟨_, rfl, a, rfl, ⟨_, Same.seqTT sj ta⟩, for_tup (K := K) (a := a) (xs := lot.map V.int) (fun j σ H2 => ∃ (x9 x10 : Option V), σ = [some (.ref c), some (.int W), some (.int m), some (.ref a), some (.int g), some (.int ((m : Int) / (g : Int))), some (.int back), some (.ref F), some (.int k), x9, x10] ∧
        Same H H2 ∧ H2 F = some (.lst ((joinL g t back W (xs.take i) lot ++ rowL g t back W k (lot.take j)).map V.int)))
        ⟨x9, x10, rfl, sj, by rw [ej]; show _ = some (HO.lst ((_ ++ []).map V.int)); rw [List.append_nil]⟩ (fun j σ H2 _ ⟨_, _, _, s3, _⟩ => Same.seqTT s3 ta) ?_ ?_⟩
      · rintro j z σ H2 hj ⟨y9, y10, rfl, s3, e3⟩
        obtain ⟨r, hr0, rfl⟩ := getMapInt' hj
        have rx := hl r (List.mem_of_getElem? hr0)
        refine ⟨_, rfl, _, rfl, _, _, rfl, rfl, ?_⟩
        refine ⟨_, rfl, _, rfl, _, _, rfl, rfl, by show (0 : Int) < (g : Int); omega, rfl, _, rfl, ite2 (fun e => ?_) (fun e => ?_)⟩
        · have e0 : (r - k) % (g : Int) = 0 := V.int.inj (of_decide_eq_true e)
          have nd : ((r - k) / (g : Int)).natAbs ≤ (r - k).natAbs := Int.natAbs_ediv_le_natAbs _ _
          refine ⟨_, rfl, .inl ⟨rfl, _, lstOf e3⟩, _, rfl, _, rfl, _, rfl, _, rfl, _, _, rfl, rfl, wide_div (b := 30) (by omega) (by rw [Int.natAbs_natCast]; omega) (by decide) (by decide), _, rfl, _, _, rfl, rfl,
            wide_mul (a := 150) (b := 30) (by omega) (by omega) (by decide) (by decide) (by decide), _, rfl, _, _, rfl, rfl, by show (0 : Int) < (m : Int) / (g : Int); rw [dm]; omega, _, _, rfl, rfl, ?_, _, _, rfl, rfl, ?_⟩
          · have u0 := Int.emod_nonneg ((r - k) / (g : Int) * back) (show ((m : Int) / (g : Int)) ≠ 0 by rw [dm]; omega)
            have u1 := Int.emod_lt_of_pos ((r - k) / (g : Int) * back) (show 0 < ((m : Int) / (g : Int)) by rw [dm]; omega)
            rw [dm] at u0 u1 ⊢
            exact wide_mul (a := 150) (b := 30) (by rw [Int.natAbs_natCast]; omega) (by omega) (by decide) (by decide) (by decide)
          · have hlen : (joinL g t back W (xs.take i) lot ++ rowL g t back W k (lot.take j)).length ≤ 100000 := Nat.le_trans (joinL_len2 (List.getElem?_eq_some_iff.mp hk).1) hsz
            refine ⟨F, _, _, rfl, rfl, e3, by rw [List.length_map]; exact sizeLt (by omega), ?_⟩
            refine ⟨_, _, rfl, samePut s3 nF0, ?_⟩
            rw [upd_same, takeSucc hr0, rowL_add, if_pos e0, ← List.append_assoc]
            generalize joinL g t back W (xs.take i) lot ++ rowL g t back W k (lot.take j) = L
            rw [List.map_append, dm]
            rfl
        · have e0 : ¬ (r - k) % (g : Int) = 0 := fun z => e (decide_eq_true (congrArg V.int z))
          refine ⟨_, _, rfl, s3, ?_⟩
          rw [e3, takeSucc hr0, rowL_add, if_neg e0, List.append_nil]
      · rintro σ H2 ⟨y9, y10, rfl, s3, e3⟩
        refine ⟨_, _, _, rfl, s3, ?_⟩
        rw [e3, List.length_map, List.take_length, takeSucc hk, joinL_add]
    · rintro σ H2 ⟨y8, y9, y10, rfl, s3, e3⟩
      rw [List.length_map, List.take_length] at e3
      exact ⟨_, rfl, q F H2 g t back w' s3 M (by rw [lcmE, Int.natCast_mul]) e3⟩
end

end R
namespace R
open PySem PySem.Spec PyProof.Rows L2
/-! ## what any value is: integers, lots, bars -/
def kOdd (K : PySem.W.Frag) (H : Hp) (x : V) : Prop := (∃ b, x = .bl b) ∨ ∃ t, TyX K H x (.type t) ∧ kitB t "int" = some false
theorem kOdd.ni {K : PySem.W.Frag} {H : Hp} {x : V} (h : kOdd K H x) (i : Int) : x ≠ .int i := by
  rintro rfl
  rcases h with ⟨b, e⟩ | ⟨t, h1, h2⟩
  · cases e
  · cases h1 with
    | base h =>
      cases h
      exact absurd h2 (by decide +kernel)
/-- an integer or something else whose kind is known -/
def Itm (K : PySem.W.Frag) (H : Hp) (x : V) : Prop := (∃ i, x = .int i) ∨ kOdd K H x
def NotTup (K : PySem.W.Frag) (H : Hp) (x : V) : Prop := ∃ t, TyX K H x (.type t) ∧ kitB t "tuple" = some false
def ascV (m : Int) : Int → List V → Bool
  | _, [] => true
  | lo, .int i :: r => (decide (lo ≤ i) && decide (i ≤ m - 1)) && ascV m (i + 1) r
  | _, _ :: _ => false
theorem ascV_ni {m lo : Int} {x : V} {r : List V} (h : ∀ i, x ≠ .int i) : ascV m lo (x :: r) = false := by
  cases x with
  | int i => exact absurd rfl (h i)
  | _ => rfl
theorem ascV_int {m lo i : Int} {r : List V} : ascV m lo (.int i :: r) = ((decide (lo ≤ i) && decide (i ≤ m - 1)) && ascV m (i + 1) r) := rfl
theorem ascV_iff {m : Int} : ∀ {l : List Int} {lo : Int}, ascV m lo (l.map V.int) = true ↔ l.Pairwise (· < ·) ∧ (∀ r ∈ l, lo ≤ r) ∧ ∀ r ∈ l, r < m
  | [], lo => ⟨fun _ => ⟨.nil, fun r h => by simp at h, fun r h => by simp at h⟩, fun _ => rfl⟩
  | x :: l, lo => by
    show ((decide (lo ≤ x) && decide (x ≤ m - 1)) && ascV m (x + 1) (l.map V.int)) = true ↔ _
    rw [Bool.and_eq_true, Bool.and_eq_true, decide_eq_true_iff, decide_eq_true_iff, ascV_iff (l := l) (lo := x + 1)]
    constructor
    · rintro ⟨⟨h1, h2⟩, h3, h4, h5⟩
      refine ⟨List.pairwise_cons.mpr ⟨fun z hz => by have := h4 z hz; omega, h3⟩, fun r hr => ?_, fun r hr => ?_⟩
      · rcases List.mem_cons.mp hr with rfl | hr
        · exact h1
        · have := h4 r hr
          omega
      · rcases List.mem_cons.mp hr with rfl | hr
        · omega
        · exact h5 r hr
    · rintro ⟨h1, h2, h3⟩
      obtain ⟨h4, h5⟩ := List.pairwise_cons.mp h1
      have := h3 x List.mem_cons_self
      exact ⟨⟨h2 x List.mem_cons_self, by omega⟩, h5, fun r hr => by have := h4 r hr; omega, fun r hr => h3 r (List.mem_cons_of_mem _ hr)⟩
theorem LotOk.asc {m : Int} {l : List Int} (h : LotOk m l) : ascV m 0 (l.map V.int) = true := ascV_iff.mpr ⟨h.up, h.ge, h.lt⟩
def barV : V → List V → Bool
  | .int m, zs => (decide (1 ≤ m) && decide (m ≤ 1000000)) && (ascV m 0 zs && decide (zs.length ≤ 60))
  | _, _ => false
theorem barV_ni {x : V} {r : List V} (h : ∀ i, x ≠ .int i) : barV x r = false := by
  cases x with
  | int i => exact absurd rfl (h i)
  | _ => rfl
theorem itmInts {K : PySem.W.Frag} {H : Hp} (l : List Int) : ∀ y ∈ l.map V.int, Itm K H y := fun y h => by
  obtain ⟨i, _, rfl⟩ := List.mem_map.mp h
  exact .inl ⟨i, rfl⟩
def sp_p_is_integer (K : PySem.W.Frag) : Sp := fun vs H Q _ => ∃ x : V, vs = [x] ∧ ((∃ i, x = .int i ∧ Q (.bl true) H) ∨ (kOdd K H x ∧ Q (.bl false) H))
def sp_p_integer_within (K : PySem.W.Frag) : Sp := fun vs H Q _ => ∃ (x : V) (lo hi : Int), vs = [x, .int lo, .int hi] ∧ ((∃ i, x = .int i ∧ Q (.bl (decide (lo ≤ i) && decide (i ≤ hi))) H) ∨ (kOdd K H x ∧ Q (.bl false) H))
def sp_p_is_ascending (K : PySem.W.Frag) : Sp := fun vs H Q _ => ∃ (x : V) (m : Int), vs = [x, .int m] ∧ ((NotTup K H x ∧ Q (.bl false) H) ∨ ∃ a xs, x = .ref a ∧ SqT K H a xs ∧ (∀ y ∈ xs, Itm K H y) ∧ Q (.bl (ascV m 0 xs)) H)
def sp_p_is_lot (K : PySem.W.Frag) : Sp := fun vs H Q _ => ∃ (x : V) (m : Int), vs = [x, .int m] ∧ ((NotTup K H x ∧ Q (.bl false) H) ∨ ∃ a xs, x = .ref a ∧ SqT K H a xs ∧ (∀ y ∈ xs, Itm K H y) ∧ Q (.bl (ascV m 0 xs && decide (xs.length ≤ 60))) H)
def sp_p_is_pair (K : PySem.W.Frag) : Sp := fun vs H Q _ => ∃ x : V, vs = [x] ∧ ((NotTup K H x ∧ Q (.bl false) H) ∨ ∃ a xs, x = .ref a ∧ SqT K H a xs ∧ Q (.bl (decide (xs.length = 2))) H)
def sp_p_is_bar (K : PySem.W.Frag) : Sp := fun vs H Q _ => ∃ x : V, vs = [x] ∧ ((NotTup K H x ∧ Q (.bl false) H) ∨ ∃ a xs, x = .ref a ∧ SqT K H a xs ∧ ((xs.length ≠ 2 ∧ Q (.bl false) H) ∨
  ∃ y z, xs = [y, z] ∧ Itm K H y ∧ ((NotTup K H z ∧ Q (.bl false) H) ∨ ∃ c zs, z = .ref c ∧ SqT K H c zs ∧ (∀ u ∈ zs, Itm K H u) ∧ Q (.bl (barV y zs)) H)))
section
variable {P : Program} [POk P FILE] {w : World} {K : PySem.W.Frag} {mg : Str → Option Value} {base : Heap}
theorem ok_p_is_integer (T : Txt K mg) : FnOk P w K mg base CX0 2 T.f_p_is_integer T.fd_p_is_integer ["value"] (sp_p_is_integer K) := by
  refine T.F_p_is_integer.ok sc_p_is_integer (fun vs H Q E h => ?_) (fun cdv A outer s H vs Q E hr h => ?_)
  · obtain ⟨x, rfl, _⟩ := h
    rfl
  · obtain ⟨x, rfl, h⟩ := h
    refine ⟨_, (pss_one (ps_ret (pe_and (pe_callB call_isi (by rfl) T.z_isinstance (by decide +kernel) (pa_cons (pv 0) (pa_cons (pe_bltn (v := .ty "int") (by rfl) T.z_int (by decide +kernel) rfl) pa_nil))) (pe_one (pe_not (pe_callB call_isi (by rfl) T.z_isinstance (by decide +kernel) (pa_cons (pv 0) (pa_cons (pe_bltn (v := .ty "bool") (by rfl) T.z_bool (by decide +kernel) rfl) pa_nil)))))))), ?_⟩
    rcases h with ⟨x, rfl, q⟩ | ⟨⟨b, rfl⟩ | ⟨t, ht, hk⟩, q⟩
    · refine ⟨_, rfl, _, _, _, _, _, rfl, .ty "int", .base (.int x), kit_ty (r := true) (by decide +kernel), true, rfl, iteT ?_⟩
      exact ⟨_, rfl, _, _, _, _, _, rfl, .ty "bool", .base (.int x), kit_ty (r := false) (by decide +kernel), false, rfl, q⟩
    · refine ⟨_, rfl, _, _, _, _, _, rfl, .ty "int", .base (.bl b), kit_ty (r := true) (by decide +kernel), true, rfl, iteT ?_⟩
      exact ⟨_, rfl, _, _, _, _, _, rfl, .ty "bool", .base (.bl b), kit_ty (r := true) (by decide +kernel), true, rfl, q⟩
    · exact ⟨_, rfl, _, _, _, _, _, rfl, .ty "int", ht, kit_ty (r := false) hk, false, rfl, iteF q⟩
theorem ok_p_integer_within (T : Txt K mg) : FnOk P w K mg base CX0 3 T.f_p_integer_within T.fd_p_integer_within ["value", "least", "greatest"] (sp_p_integer_within K) := by
  refine T.F_p_integer_within.ok sc_p_integer_within (fun vs H Q E h => ?_) (fun cdv A outer s H vs Q E hr h => ?_)
  · obtain ⟨x, lo, hi, rfl, _⟩ := h
    rfl
  · obtain ⟨x, lo, hi, rfl, h⟩ := h
    refine ⟨_, (pss_one (ps_ret (pe_and (pe_call (ok_p_is_integer (P := P) T) (hr.mono (by decide)) (by rfl) T.g_p_is_integer T.F_p_is_integer.kp T.b_p_is_integer .nil pass0 (pa_cons (pv 0) pa_nil)) (pe_one (pe_chain op_le op_le (pv 1) (pv 0) (pv 2)))))), ?_⟩
    rcases h with ⟨x, rfl, q⟩ | ⟨o, q⟩
    · refine ⟨_, rfl, _, rfl, .inl ⟨x, rfl, true, rfl, iteT ⟨_, rfl, _, rfl, _, _, rfl, rfl, _, rfl, ?_⟩⟩⟩
      by_cases h : lo ≤ x
      · rw [decide_eq_true h] at q ⊢
        exact iteT ⟨_, rfl, _, _, rfl, rfl, q⟩
      · rw [decide_eq_false h] at q ⊢
        exact iteF q
    · exact ⟨_, rfl, _, rfl, .inr ⟨o, false, rfl, iteF q⟩⟩
theorem ok_p_is_pair (T : Txt K mg) : FnOk P w K mg base CX0 2 T.f_p_is_pair T.fd_p_is_pair ["value"] (sp_p_is_pair K) := by
  refine T.F_p_is_pair.ok sc_p_is_pair (fun vs H Q E h => ?_) (fun cdv A outer s H vs Q E hr h => ?_)
  · obtain ⟨v, rfl, _⟩ := h
    rfl
  · obtain ⟨v, rfl, h⟩ := h
    refine ⟨_, (pss_one (ps_ret (pe_and (pe_callB call_isi (by rfl) T.z_isinstance (by decide +kernel) (pa_cons (pv 0) (pa_cons (pe_bltn (v := .ty "tuple") (by rfl) T.z_tuple (by decide +kernel) rfl) pa_nil))) (pe_one (pe_cmpR op_eq (pe_callB call_len_seq (by rfl) T.z_len (by decide +kernel) (pa_cons (pv 0) pa_nil)) pe_int (nomark _)))))), ?_⟩
    rcases h with ⟨⟨t, ht, hk⟩, q⟩ | ⟨a, xs, rfl, ta, q⟩
    · exact ⟨_, rfl, _, _, _, _, _, rfl, .ty "tuple", ht, kit_ty (r := false) hk, false, rfl, iteF q⟩
    · refine ⟨_, rfl, _, _, _, _, _, rfl, .ty "tuple", tyTup ta, kit_ty (r := true) (by decide +kernel), true, rfl, iteT ?_⟩
      refine ⟨_, rfl, a, _, rfl, .inr ta, rfl, ?_⟩
      have e2 : decide (V.int (xs.length : Int) = V.int 2) = decide (xs.length = 2) := by
        rw [Bool.eq_iff_iff, decide_eq_true_iff, decide_eq_true_iff]
        exact ⟨fun h => by have := V.int.inj h; omega, fun h => by rw [h]; rfl⟩
      show Q (.bl (decide (V.int (xs.length : Int) = V.int 2))) H
      rw [e2]
      exact q
end

end R
namespace R
open PySem PySem.Spec PyProof.Rows L2
section
variable {P : Program} [POk P FILE] {w : World} {K : PySem.W.Frag} {mg : Str → Option Value} {base : Heap}
theorem ok_p_is_ascending (T : Txt K mg) : FnOk P w K mg base CX0 4 T.f_p_is_ascending T.fd_p_is_ascending ["value", "limit"] (sp_p_is_ascending K) := by
  refine T.F_p_is_ascending.ok sc_p_is_ascending (fun vs H Q E h => ?_) (fun cdv A outer s H vs Q E hr h => ?_)
  · obtain ⟨v, m, rfl, _⟩ := h
    rfl
  · obtain ⟨v, m, rfl, h⟩ := h
    refine ⟨_, (pss_cons (ps_if (pt_not (pt_val (pe_callB call_isi (by rfl) T.z_isinstance (by decide +kernel) (pa_cons (pv 0) (pa_cons (pe_bltn (v := .ty "tuple") (by rfl) T.z_tuple (by decide +kernel) rfl) pa_nil))))) (pss_one (ps_ret pe_bl)) pss_nil)
      (pss_cons (ps_set (i := 2) sc_p_is_ascending.nd rfl (by first | exact .inl rfl | exact .inr rfl) pe_int)
      (pss_cons (ps_for PassesOwn.never rfl (pi_tup (pv 0)) (pg_name (i := 3) sc_p_is_ascending.nd rfl (by first | exact .inl rfl | exact .inr rfl)) (pss_cons (ps_if (pt_not (pt_val (pe_call (ok_p_integer_within (P := P) T) (hr.mono (by decide)) (by rfl) T.g_p_integer_within T.F_p_integer_within.kp T.b_p_integer_within .nil pass0 (pa_cons (pv 3) (pa_cons (pv 2) (pa_cons (pe_op op_sub (pv 1) pe_int) pa_nil)))))) (pss_one (ps_ret pe_bl)) pss_nil)
      (pss_one (ps_set (i := 2) sc_p_is_ascending.nd rfl (by first | exact .inl rfl | exact .inr rfl) (pe_op op_add (pv 3) pe_int)))))
      (pss_one (ps_ret pe_bl))))), ?_⟩
    rcases h with ⟨⟨t, ht, hk⟩, q⟩ | ⟨a, xs, rfl, ta, it, q⟩
    · exact ⟨_, rfl, _, _, _, _, _, rfl, .ty "tuple", ht, kit_ty (r := false) hk, false, rfl, iteT q⟩
    · refine ⟨_, rfl, _, _, _, _, _, rfl, .ty "tuple", tyTup ta, kit_ty (r := true) (by decide +kernel), true, rfl, iteF ?_⟩
      refine ⟨_, rfl, a, rfl, ⟨_, ta⟩, for_tup (K := K) (a := a) (xs := xs) (fun i σ H2 => ∃ (n : Int) (x : Option V), σ = [some (.ref a), some (.int m), some (.int n), x] ∧ ascV m 0 xs = ascV m n (xs.drop i) ∧ H2 = H)
        ⟨0, none, rfl, rfl, rfl⟩ (fun i σ H2 _ ⟨_, _, _, _, e⟩ => by rw [e]; exact ta) ?_ ?_⟩
      · rintro i y σ H2 hi ⟨n, x, rfl, hn, rfl⟩
        have hd : xs.drop i = y :: xs.drop (i + 1) := by
          obtain ⟨h1, h2⟩ := List.getElem?_eq_some_iff.mp hi
          rw [List.drop_eq_getElem_cons h1, h2]
        rw [hd] at hn
        refine ⟨_, rfl, _, rfl, _, rfl, _, _, rfl, rfl, _, _, _, rfl, ?_⟩
        rcases it y (List.mem_of_getElem? hi) with ⟨r, rfl⟩ | o
        · refine .inl ⟨r, rfl, _, rfl, ?_⟩
          rw [ascV_int] at hn
          by_cases h : (decide (n ≤ r) && decide (r ≤ m - 1)) = true
          · rw [h] at hn ⊢
            exact iteF ⟨_, rfl, _, _, rfl, rfl, _, _, rfl, hn, rfl⟩
          · rw [Bool.not_eq_true] at h
            rw [h] at hn ⊢
            rw [Bool.false_and] at hn
            rw [hn] at q
            exact iteT q
        · refine .inr ⟨o, _, rfl, iteT ?_⟩
          rw [hn, ascV_ni o.ni] at q
          exact q
      · rintro σ H2 ⟨n, x, rfl, hn, rfl⟩
        rw [List.drop_length] at hn
        rw [hn] at q
        exact q
theorem ok_p_is_lot (T : Txt K mg) : FnOk P w K mg base CX0 5 T.f_p_is_lot T.fd_p_is_lot ["value", "modulus"] (sp_p_is_lot K) := by
  refine T.F_p_is_lot.ok sc_p_is_lot (fun vs H Q E h => ?_) (fun cdv A outer s H vs Q E hr h => ?_)
  · obtain ⟨v, m, rfl, _⟩ := h
    rfl
  · obtain ⟨v, m, rfl, h⟩ := h
    refine ⟨_, (pss_one (ps_ret (pe_and (pe_call (ok_p_is_ascending (P := P) T) (hr.mono (by decide)) (by rfl) T.g_p_is_ascending T.F_p_is_ascending.kp T.b_p_is_ascending .nil pass0 (pa_cons (pv 0) (pa_cons (pv 1) pa_nil))) (pe_one (pe_cmpR op_le (pe_callB call_len_seq (by rfl) T.z_len (by decide +kernel) (pa_cons (pv 0) pa_nil)) (pe_glob (v := .int 60) (by rfl) T.c_MOST_RESTS.choose_spec ⟨_, rfl⟩) (nomark _)))))), ?_⟩
    rcases h with ⟨o, q⟩ | ⟨a, xs, rfl, ta, it, q⟩
    · exact ⟨_, rfl, _, rfl, v, m, rfl, .inl ⟨o, false, rfl, iteF q⟩⟩
    · refine ⟨_, rfl, _, rfl, _, m, rfl, .inr ⟨a, xs, rfl, ta, it, _, rfl, ?_⟩⟩
      cases e : ascV m 0 xs with
      | false =>
        rw [e] at q
        exact iteF q
      | true =>
        refine iteT ⟨_, rfl, a, _, rfl, .inr ta, _, _, rfl, rfl, ?_⟩
        rw [e, Bool.true_and] at q
        have e2 : decide ((xs.length : Int) ≤ 60) = decide (xs.length ≤ 60) := by
          rw [Bool.eq_iff_iff, decide_eq_true_iff, decide_eq_true_iff]
          omega
        show Q (.bl (decide ((xs.length : Int) ≤ 60))) H
        rw [e2]
        exact q
theorem ok_p_is_bar (T : Txt K mg) : FnOk P w K mg base CX0 6 T.f_p_is_bar T.fd_p_is_bar ["value"] (sp_p_is_bar K) := by
  refine T.F_p_is_bar.ok sc_p_is_bar (fun vs H Q E h => ?_) (fun cdv A outer s H vs Q E hr h => ?_)
  · obtain ⟨v, rfl, _⟩ := h
    rfl
  · obtain ⟨v, rfl, h⟩ := h
    refine ⟨_, (pss_cons (ps_if (pt_not (pt_val (pe_call (ok_p_is_pair (P := P) T) (hr.mono (by decide)) (by rfl) T.g_p_is_pair T.F_p_is_pair.kp T.b_p_is_pair .nil pass0 (pa_cons (pv 0) pa_nil)))) (pss_one (ps_ret pe_bl)) pss_nil)
      (pss_cons (ps_asg (pv 0) (pg_tup (by rfl) (pgs_cons (pg_name (i := 1) sc_p_is_bar.nd rfl (by first | exact .inl rfl | exact .inr rfl)) (pgs_cons (pg_name (i := 2) sc_p_is_bar.nd rfl (by first | exact .inl rfl | exact .inr rfl)) pgs_nil))))
      (pss_one (ps_ret (pe_and (pe_call (ok_p_integer_within (P := P) T) (hr.mono (by decide)) (by rfl) T.g_p_integer_within T.F_p_integer_within.kp T.b_p_integer_within .nil pass0 (pa_cons (pv 1) (pa_cons pe_int (pa_cons (pe_glob (v := .int 1000000) (by rfl) T.c_GREATEST_MODULUS.choose_spec ⟨_, rfl⟩) pa_nil)))) (pe_one (pe_call (ok_p_is_lot (P := P) T) (hr.mono (by decide)) (by rfl) T.g_p_is_lot T.F_p_is_lot.kp T.b_p_is_lot .nil pass0 (pa_cons (pv 2) (pa_cons (pv 1) pa_nil))))))))), ?_⟩
    rcases h with ⟨o, q⟩ | ⟨a, xs, rfl, ta, h⟩
    · exact ⟨_, rfl, v, rfl, .inl ⟨o, _, rfl, iteT q⟩⟩
    · refine ⟨_, rfl, _, rfl, .inr ⟨a, xs, rfl, ta, ?_⟩⟩
      rcases h with ⟨h, q⟩ | ⟨y, z, rfl, iy, h⟩
      · rw [decide_eq_false h]
        exact ⟨_, rfl, iteT q⟩
      · refine ⟨_, rfl, iteF ⟨_, rfl, a, _, rfl, ta, rfl, _, _, rfl, _, _, rfl, rfl, ?_⟩⟩
        refine ⟨_, rfl, _, _, _, rfl, ?_⟩
        rcases iy with ⟨m, rfl⟩ | o
        · refine .inl ⟨m, rfl, _, rfl, ?_⟩
          cases e : (decide (1 ≤ m) && decide (m ≤ 1000000)) with
          | false =>
            refine iteF ?_
            rcases h with ⟨_, q⟩ | ⟨c, zs, rfl, tc, iz, q⟩
            · exact q
            · have e3 : barV (.int m) zs = false := by
                show ((decide (1 ≤ m) && decide (m ≤ 1000000)) && _) = false
                rw [e]
                rfl
              rw [e3] at q
              exact q
          | true =>
            refine iteT ⟨_, rfl, _, rfl, z, m, rfl, ?_⟩
            rcases h with ⟨o, q⟩ | ⟨c, zs, rfl, tc, iz, q⟩
            · exact .inl ⟨o, q⟩
            · refine .inr ⟨c, zs, rfl, tc, iz, ?_⟩
              have e3 : barV (.int m) zs = (ascV m 0 zs && decide (zs.length ≤ 60)) := by
                show ((decide (1 ≤ m) && decide (m ≤ 1000000)) && _) = _
                rw [e]
                rfl
              rw [e3] at q
              exact q
        · refine .inr ⟨o, _, rfl, iteF ?_⟩
          rcases h with ⟨_, q⟩ | ⟨c, zs, rfl, tc, iz, q⟩
          · exact q
          · rw [barV_ni o.ni] at q
            exact q
end
theorem BarOk.bar {b : Bar} (h : BarOk b) : barV (.int b.1) (b.2.map V.int) = true := by
  have h1 := h.pos
  have h2 := h.most
  have h3 := h.lot.few
  show ((decide (1 ≤ b.1) && decide (b.1 ≤ 1000000)) && (ascV b.1 0 (b.2.map V.int) && decide ((b.2.map V.int).length ≤ 60))) = true
  rw [decide_eq_true h1, decide_eq_true h2, h.lot.asc, List.length_map, decide_eq_true h3]
  rfl

end R
namespace R
open PySem PySem.Spec PyProof.Rows L2
theorem small5000 {n : Nat} (h : n ≤ 1000000) : n < 2 ^ 5000 := Nat.lt_of_le_of_lt h (by decide)
theorem choices_take_le : ∀ (bs : List Bar) (i : Nat), choices (bs.take i) ≤ choices bs := by
  refine snocInd (fun i => by rw [List.take_nil]; exact Nat.le_refl _) fun bs b ih i => ?_
  rw [choices_add]
  by_cases hi : i ≤ bs.length
  · rw [List.take_append_of_le_length hi]
    have h1 := ih i
    have h2 : choices bs * 1 ≤ choices bs * max 1 b.2.length := Nat.mul_le_mul_left _ (by omega)
    omega
  · rw [List.take_of_length_le (by rw [List.length_append]; show bs.length + 1 ≤ i; omega), choices_add]
    exact Nat.le_refl _
/-- bars that are in order, whatever their whole -/
structure PreOk (bs : List Bar) : Prop where
  six : bs.length ≤ 6
  bar : ∀ b ∈ bs, BarOk b
theorem SvOk.pre {bs : List Bar} (h : SvOk bs) : PreOk bs := ⟨h.six, h.bar⟩
theorem PreOk.mods {bs : List Bar} (h : PreOk bs) : ModsOk bs := ⟨h.six, fun b hb => ⟨(h.bar b hb).pos, (h.bar b hb).most⟩⟩
theorem SvOk.mods {bs : List Bar} (h : SvOk bs) : ModsOk bs := ⟨h.six, fun b hb => ⟨(h.bar b hb).pos, (h.bar b hb).most⟩⟩
theorem Drawn.sv {most top : Nat} {bs : List Bar} (h : Drawn most top bs) (h6 : most ≤ 6) (ht : top ≤ 1000000) (hw : wh bs ≤ 10 ^ 30) : SvOk bs :=
  ⟨Nat.le_trans h.len h6, fun b hb => let ⟨a, c, d⟩ := h.bar b hb; ⟨a, by omega, d⟩, hw, h.many⟩
def sp_p_classes_of (K : PySem.W.Frag) : Sp := fun vs H Q _ => ∃ (v : V) (bs : List Bar), vs = [v] ∧ BarsAt K H v bs ∧ SvOk bs ∧ ∀ t H', Same H H' → H' t = some (.tup ((cls bs).map V.int)) → Q (.ref t) H'
section
variable {P : Program} [POk P FILE] {w : World} {K : PySem.W.Frag} {mg : Str → Option Value} {base : Heap}
theorem ok_p_classes_of (T : Txt K mg) : FnOk P w K mg base CX0 4 T.f_p_classes_of T.fd_p_classes_of ["bars"] (sp_p_classes_of K) := by
  refine T.F_p_classes_of.ok sc_p_classes_of (fun vs H Q E h => ?_) (fun cdv A outer s H vs Q E hr h => ?_)
  · obtain ⟨v, bs, rfl, _⟩ := h
    rfl
  · obtain ⟨v, bs, rfl, B, S, q⟩ := h
    refine ⟨_, (pss_cons (ps_set (i := 1) sc_p_classes_of.nd rfl (by first | exact .inl rfl | exact .inr rfl) pe_int)
      (pss_cons (ps_set (i := 2) sc_p_classes_of.nd rfl (by first | exact .inl rfl | exact .inr rfl) (pe_lst (pa_cons pe_int pa_nil)))
      (pss_cons (ps_for PassesOwn.never rfl (pi_tup (pv 0)) (pg_tup (by rfl) (pgs_cons (pg_name (i := 3) sc_p_classes_of.nd rfl (by first | exact .inl rfl | exact .inr rfl)) (pgs_cons (pg_name (i := 4) sc_p_classes_of.nd rfl (by first | exact .inl rfl | exact .inr rfl)) pgs_nil))) (pss_cons (ps_set (i := 2) sc_p_classes_of.nd rfl (by first | exact .inl rfl | exact .inr rfl) (pe_call (ok_p_joined (P := P) T) (hr.mono (by decide)) (by rfl) T.g_p_joined T.F_p_joined.kp T.b_p_joined .nil pass0 (pa_cons (pv 2) (pa_cons (pv 1) (pa_cons (pv 3) (pa_cons (pv 4) pa_nil))))))
      (pss_one (ps_set (i := 1) sc_p_classes_of.nd rfl (by first | exact .inl rfl | exact .inr rfl) (pe_callBfun cr_lcmW (by rfl) T.g_lcm (pa_cons (pv 1) (pa_cons (pv 3) pa_nil)))))))
      (pss_one (ps_ret (pe_callTy call_tuple_of (by rfl) T.z_tuple (by decide +kernel) (pa_cons (pe_callB cr_sortedI (by rfl) T.z_sorted (by decide +kernel) (pa_cons (pv 2) pa_nil)) pa_nil))))))), ?_⟩
    obtain ⟨a, xs, rfl, ta, nx, hx⟩ := B.ex
    have M := S.mods
    refine ⟨sizeOk (by show (1 : Nat) ≤ 100000; decide), fun c0 n0 => ?_⟩
    have s0 : Same H (upd H c0 (.lst [.int 0])) := same_upd n0
    refine ⟨_, rfl, a, rfl, ⟨_, Same.seqTT s0 ta⟩, for_tup (K := K) (a := a) (xs := xs) (fun i σ H2 => ∃ (c : Addr) (ys : List Int) (x y : Option V), σ = [some (.ref a), some (.int (wh (bs.take i) : Nat)), some (.ref c), x, y] ∧
        H2 c = some (.lst (ys.map V.int)) ∧ ClsIs (bs.take i) ys ∧ ys.length ≤ choices (bs.take i) ∧ Same H H2)
      ⟨c0, [0], none, none, rfl, upd_same, ClsIs.nil, Nat.le_refl _, s0⟩ (fun i σ H2 _ ⟨_, _, _, _, _, _, _, _, s2⟩ => Same.seqTT s2 ta) ?_ ?_⟩
    · rintro i x σ H2 hi ⟨c, ys, y1, y2, rfl, ec, C, hlen, s2⟩
      have hl : i < bs.length := by
        have := (List.getElem?_eq_some_iff.mp hi).1
        omega
      have hb : bs[i]? = some bs[i] := List.getElem?_eq_getElem hl
      obtain ⟨p, l, rfl, tp, L⟩ := (hx i x _ hi hb).ex
      have hB := S.bar _ (List.getElem_mem hl)
      have hch := Nat.le_trans (choices_take_le bs i) S.many
      generalize bs[i] = b at hb tp hB L
      have hw := (M.take i).lt
      have hp := (M.take i).pos
      have h1 := hB.pos
      have h2 := hB.most
      have hf := hB.lot.few
      have hmn : b.1 = ((b.1.toNat : Nat) : Int) := by omega
      have hmul : ys.length * b.2.length ≤ choices (bs.take (i + 1)) := by
        rw [takeSucc hb, choices_add]
        exact Nat.mul_le_mul hlen (by omega)
      have hch2 := Nat.le_trans (choices_take_le bs (i + 1)) S.many
      refine ⟨p, [_, _], rfl, Same.seqTT s2 tp, rfl, _, _, rfl, _, _, rfl, rfl, ?_⟩
      refine ⟨_, rfl, _, rfl, _, rfl, _, rfl, c, ys, b.2, wh (bs.take i), b.1.toNat, l, by rw [← hmn]; rfl, lstOf ec, L.stay (.same s2), hp, hw, by omega, by omega, fun z hz => let ⟨q1, q2, _⟩ := (C.mem z).mp hz; ⟨q1, q2⟩,
        fun r hr => ⟨hB.lot.ge r hr, by have := hB.lot.lt r hr; omega⟩, ?_, fun D H3 g t bk w' s3 Mt hlcm eD => ?_⟩
      · omega
      · rw [← hmn] at Mt
        refine ⟨_, rfl, _, rfl, wh (bs.take i), b.1.toNat, by rw [← hmn], Nat.lt_trans hw (by decide), small5000 (by omega), ?_⟩
        have ew : wh (bs.take (i + 1)) = Nat.lcm (wh (bs.take i)) b.1.toNat := by
          rw [takeSucc hb, wh_add, show b.1.natAbs = b.1.toNat by omega]
        refine ⟨D, joinL g t bk (wh (bs.take i) : Nat) ys b.2, some (.int b.1), some l, ?_, eD, ?_, ?_, s2.trans s3⟩
        · rw [ew]
          rfl
        · rw [takeSucc hb]
          refine C.add Mt hB.lot ?_
          rw [← takeSucc hb, ew]
          exact hlcm
        · rw [takeSucc hb, choices_add]
          have j1 := joinL_len g t bk (wh (bs.take i) : Nat) ys b.2
          have j2 : ys.length * b.2.length ≤ choices (bs.take i) * max 1 b.2.length := Nat.mul_le_mul hlen (by omega)
          omega
    · rintro σ H2 ⟨c, ys, y1, y2, rfl, ec, C, hlen, s2⟩
      rw [nx, List.take_length] at C
      refine ⟨_, rfl, c, ys, rfl, lstOf ec, fun zs p pz sz np => ?_⟩
      have e := C.sorted pz sz
      subst e
      refine ⟨p, _, rfl, .inl ⟨lstOf upd_same, fun t nt => ?_⟩⟩
      exact q t _ ((s2.trans (same_upd np)).trans (same_upd nt)) upd_same
end

end R
namespace R
open PySem PySem.Spec PyProof.Rows L2
/-! ## values that are no numbers -/
/-- a value that is no number, index or the like: no integer, or one that is too great -/
def OddV (K : PySem.W.Frag) (H : Hp) (x : V) : Prop := kOdd K H x ∨ x = .int (10 ^ 30 + 1) ∨ x = .int (0 - 10 ^ 30 - 1)
theorem tyKeep {K : PySem.W.Frag} {H H' : Hp} {r L : Addr} {x : V} {t : Value} (h : TyX K H x t) (R : RowAt H r L) (s : Kp r H H') (R' : RowAt H' r L) : TyX K H' x t := by
  obtain ⟨ns, i, b, z, e, _⟩ := R.ex
  obtain ⟨ns', i', b', z', e', _⟩ := R'.ex
  have ne : ∀ {a : Addr} {o : HO}, H a = some o → (∀ zs, o ≠ .lst zs) → a ≠ r := fun {a o} h1 h2 w => by
    subst w
    rw [e] at h1
    exact h2 _ (Option.some.inj h1).symm
  cases h with
  | base h => cases h with
    | non => exact .base .non
    | bl b => exact .base (.bl b)
    | int i => exact .base (.int i)
    | str x => exact .base (.str x)
    | flt x => exact .base (.flt x)
    | lst h =>
      rename_i a xs
      by_cases w : a = r
      · subst w
        exact .base (.lst e')
      · exact .base (.lst (s _ _ w h))
    | frz h => exact .base (.frz (s _ _ (ne h (fun _ w => nomatch w)) h))
    | tup h => exact .base (.tup (s _ _ (ne h (fun _ w => nomatch w)) h))
    | dK h => exact .base (.dK (s _ _ (ne h (fun _ w => nomatch w)) h))
    | dT h => exact .base (.dT (s _ _ (ne h (fun _ w => nomatch w)) h))
    | ins h c1 c2 c3 c4 c5 => exact .base (.ins (s _ _ (ne h (fun _ w => nomatch w)) h) c1 c2 c3 c4 c5)
  | byt b => exact .byt b
  | set h => exact .set (s _ _ (ne h (fun _ w => nomatch w)) h)
  | kList e c => exact .kList e c
  | kTuple e c => exact .kTuple e c
  | kDict e c => exact .kDict e c
  | fTuple h => exact .fTuple (s _ _ (ne h (fun _ w => nomatch w)) h)
  | fDict h => exact .fDict (s _ _ (ne h (fun _ w => nomatch w)) h)
theorem tySame {K : PySem.W.Frag} {H H' : Hp} {x : V} {t : Value} (h : TyX K H x t) (s : Same H H') : TyX K H' x t := by
  cases h with
  | base h => cases h with
    | non => exact .base .non
    | bl b => exact .base (.bl b)
    | int i => exact .base (.int i)
    | str x => exact .base (.str x)
    | flt x => exact .base (.flt x)
    | lst h => exact .base (.lst (s _ _ h))
    | frz h => exact .base (.frz (s _ _ h))
    | tup h => exact .base (.tup (s _ _ h))
    | dK h => exact .base (.dK (s _ _ h))
    | dT h => exact .base (.dT (s _ _ h))
    | ins h c1 c2 c3 c4 c5 => exact .base (.ins (s _ _ h) c1 c2 c3 c4 c5)
  | byt b => exact .byt b
  | set h => exact .set (s _ _ h)
  | kList e c => exact .kList e c
  | kTuple e c => exact .kTuple e c
  | kDict e c => exact .kDict e c
  | fTuple h => exact .fTuple (s _ _ h)
  | fDict h => exact .fDict (s _ _ h)
theorem OddV.keep {K : PySem.W.Frag} {H H' : Hp} {r L : Addr} {x : V} (h : OddV K H x) (R : RowAt H r L) (s : Kp r H H') (R' : RowAt H' r L) : OddV K H' x := by
  rcases h with (h | ⟨t, h1, h2⟩) | h
  · exact .inl (.inl h)
  · exact .inl (.inr ⟨t, tyKeep h1 R s R', h2⟩)
  · exact .inr h
theorem OddV.same {K : PySem.W.Frag} {H H' : Hp} {x : V} (h : OddV K H x) (s : Same H H') : OddV K H' x := by
  rcases h with (h | ⟨t, h1, h2⟩) | h
  · exact .inl (.inl h)
  · exact .inl (.inr ⟨t, tySame h1 s, h2⟩)
  · exact .inr h

end R
namespace R
open PySem PySem.Spec PyProof.Rows L2
/-! ## bars that are refused -/
theorem NotTup.same {K : PySem.W.Frag} {H H' : Hp} {x : V} (h : NotTup K H x) (s : Same H H') : NotTup K H' x := let ⟨t, h1, h2⟩ := h; ⟨t, tySame h1 s, h2⟩
/-- an integer, True or False, or the text 1 -/
def PItm (x : V) : Prop := (∃ i, x = .int i) ∨ (∃ b, x = .bl b) ∨ x = .str "1"
theorem PItm.itm {K : PySem.W.Frag} {H : Hp} {x : V} (h : PItm x) : Itm K H x := by
  rcases h with h | h | rfl
  · exact .inl h
  · exact .inr (.inl h)
  · exact .inr (.inr ⟨"str", .base (.str _), by decide +kernel⟩)
theorem PItm.ints (l : List Int) : ∀ y ∈ l.map V.int, PItm y := fun y h => by
  obtain ⟨i, _, rfl⟩ := List.mem_map.mp h
  exact .inl ⟨i, rfl⟩
/-- a bar -/
def Bar1 (K : PySem.W.Frag) (H : Hp) (y : V) : Prop := ∃ b, BarAt K H y b ∧ BarOk b
theorem Bar1.same {K : PySem.W.Frag} {H H' : Hp} {x : V} (h : Bar1 K H x) (s : Same H H') : Bar1 K H' x := let ⟨b, h1, h2⟩ := h; ⟨b, h1.stay (.same s), h2⟩
/-- no bar -/
def NoBar (K : PySem.W.Frag) (H : Hp) (y : V) : Prop := NotTup K H y ∨ ∃ a xs, y = .ref a ∧ SqT K H a xs ∧ (xs.length ≠ 2 ∨ ∃ u z, xs = [u, z] ∧ PItm u ∧ (NotTup K H z ∨ ∃ c zs, z = .ref c ∧ SqT K H c zs ∧ (∀ w ∈ zs, PItm w) ∧ barV u zs = false))
theorem NoBar.same {K : PySem.W.Frag} {H H' : Hp} {y : V} (h : NoBar K H y) (s : Same H H') : NoBar K H' y := by
  rcases h with h | ⟨a, xs, e, q, h | ⟨u, z, ex, iu, h | ⟨c, zs, ez, qz, iz, b⟩⟩⟩
  · exact .inl (h.same s)
  · exact .inr ⟨a, xs, e, Same.seqTT s q, .inl h⟩
  · exact .inr ⟨a, xs, e, Same.seqTT s q, .inr ⟨u, z, ex, iu, .inl (h.same s)⟩⟩
  · exact .inr ⟨a, xs, e, Same.seqTT s q, .inr ⟨u, z, ex, iu, .inr ⟨c, zs, ez, Same.seqTT s qz, iz, b⟩⟩⟩
/-- the first i are bars, the next is none -/
structure FirstBad (K : PySem.W.Frag) (H : Hp) (xs : List V) (i : Nat) : Prop where
  six : xs.length ≤ 6
  lt : i < xs.length
  ok : ∀ (j : Nat) x, j < i → xs[j]? = some x → Bar1 K H x
  bad : ∀ x, xs[i]? = some x → NoBar K H x
  any : ∀ (j : Nat) x, xs[j]? = some x → Bar1 K H x ∨ NoBar K H x
theorem FirstBad.same {K : PySem.W.Frag} {H H' : Hp} {xs : List V} {i : Nat} (h : FirstBad K H xs i) (s : Same H H') : FirstBad K H' xs i :=
  ⟨h.six, h.lt, fun j x l e => (h.ok j x l e).same s, fun x e => (h.bad x e).same s, fun j x e => (h.any j x e).imp (fun q => q.same s) fun q => q.same s⟩
/-- no row of bars; w the index that is told -/
def BadB (K : PySem.W.Frag) (H : Hp) (v w : V) : Prop := (NotTup K H v ∧ w = .non) ∨ ∃ a xs, v = .ref a ∧ SqT K H a xs ∧ ((6 < xs.length ∧ w = .non) ∨ ∃ i : Nat, FirstBad K H xs i ∧ w = .int (i : Nat))
theorem BadB.same {K : PySem.W.Frag} {H H' : Hp} {v w : V} (h : BadB K H v w) (s : Same H H') : BadB K H' v w := by
  rcases h with ⟨h, e⟩ | ⟨a, xs, e, q, h | ⟨i, h, e2⟩⟩
  · exact .inl ⟨h.same s, e⟩
  · exact .inr ⟨a, xs, e, Same.seqTT s q, .inl h⟩
  · exact .inr ⟨a, xs, e, Same.seqTT s q, .inr ⟨i, h.same s, e2⟩⟩
def tells (H : Hp) (B : Addr) (w : V) (E : XK) : Prop := ∀ d H', Same H H' → H' d = none → E (.ref B) (some d) (upd H' d (.xd [("index", w)]))
theorem tells.same {H H1 : Hp} {B : Addr} {w : V} {E : XK} (h : tells H B w E) (s : Same H H1) : tells H1 B w E := fun d H' s' n => h d H' (s.trans s') n
def sp_p_check_bars (K : PySem.W.Frag) (B : Addr) : Sp := fun vs H Q E => ∃ v : V, vs = [v] ∧ ((∃ bs : List Bar, BarsAt K H v bs ∧ PreOk bs ∧ ∀ H', Same H H' → Q .non H') ∨ ∃ w, BadB K H v w ∧ tells H B w E)
section
variable {P : Program} [POk P FILE] {w : World} {K : PySem.W.Frag} {mg : Str → Option Value} {base : Heap}
theorem ok_p_check_bars (T : Txt K mg) : FnOk P w K mg base (L2.CX P w) 7 T.f_p_check_bars T.fd_p_check_bars ["bars"] (sp_p_check_bars K T.C_BadBars) := by
  refine T.F_p_check_bars.okX sc_p_check_bars (fun vs H Q E h => ?_) (fun cdv A outer s H vs Q E hr h => ?_)
  · obtain ⟨v, rfl, _⟩ := h
    rfl
  · obtain ⟨v, rfl, h⟩ := h
    refine ⟨_, (pss_cons (ps_if (PW.pt (pw_or (pt_not (pt_val (pe_callB call_isi (by rfl) T.z_isinstance (by decide +kernel) (pa_cons (pv 0) (pa_cons (pe_bltn (v := .ty "tuple") (by rfl) T.z_tuple (by decide +kernel) rfl) pa_nil))))) (pw_or1 (pt_cmpR op_gt (pe_callB call_len_seq (by rfl) T.z_len (by decide +kernel) (pa_cons (pv 0) pa_nil)) (pe_glob (v := .int 6) (by rfl) T.c_MOST_BARS.choose_spec ⟨_, rfl⟩) (nomark _))))) (pss_one (ps_raise rfl (takes_of rfl rfl rfl rfl) (pmk_1 (file := FILE) (show POk P FILE from inferInstance) T.oc_BadBars T.of_BadBars hr T.z_super (pa_cons pe_non pa_nil) (by rfl) T.g_BadBars))) pss_nil)
      (pss_one (ps_for (passes_of rfl) rfl (pi_enT (by rfl) T.z_enumerate (pa_cons (pv 0) pa_nil)) (pg_tup (by rfl) (pgs_cons (pg_name (i := 1) sc_p_check_bars.nd rfl (by first | exact .inl rfl | exact .inr rfl)) (pgs_cons (pg_name (i := 2) sc_p_check_bars.nd rfl (by first | exact .inl rfl | exact .inr rfl)) pgs_nil))) (pss_one (ps_if (pt_not (pt_val (pe_call (ok_p_is_bar (P := P) T) (hr.mono (by decide)) (by rfl) T.g_p_is_bar T.F_p_is_bar.kp T.b_p_is_bar .nil pass0 (pa_cons (pv 2) pa_nil)))) (pss_one (ps_raise rfl (takes_of rfl rfl rfl rfl) (pmk_1 (file := FILE) (show POk P FILE from inferInstance) T.oc_BadBars T.of_BadBars hr T.z_super (pa_cons (pv 1) pa_nil) (by rfl) T.g_BadBars))) pss_nil))))), ?_⟩
    rcases h with ⟨bs, B, S, q⟩ | ⟨w, ⟨⟨t, ht, hk⟩, rfl⟩ | ⟨a, xs, rfl, ta, ⟨l, rfl⟩ | ⟨i0, F, rfl⟩⟩, tl⟩
    · obtain ⟨a, xs, rfl, ta, nx, hx⟩ := B.ex
      refine ⟨_, rfl, _, _, _, _, _, rfl, .ty "tuple", tyTup ta, kit_ty (r := true) (by decide +kernel), true, rfl, iteF ?_⟩
      refine ⟨_, rfl, a, _, rfl, .inr ta, _, _, rfl, rfl, _, rfl, ite2 (fun e => ?_) (fun e => ?_)⟩
      · have e' := of_decide_eq_true e
        have := S.six
        omega
      · refine ⟨_, rfl, a, xs, rfl, ta, for_it (walk_enT (K := K) (a := a) (xs := xs)) (fun i σ H2 => ∃ (x y : Option V), σ = [some (.ref a), x, y] ∧ Same H H2) ⟨none, none, rfl, Same.refl _⟩ (fun i σ H2 _ ⟨_, _, _, s2⟩ => Same.seqTT s2 ta) ?_ ?_⟩
        · rintro i y σ H2 H3 hi ⟨x1, x2, rfl, s2⟩ ⟨p, z1, z2, rfl, np, rfl, e1, e2⟩
          have s3 := s2.trans (same_upd np (o := .tup [z1, z2]))
          have hl : i < bs.length := by omega
          have hb : bs[i]? = some bs[i] := List.getElem?_eq_getElem hl
          refine ⟨p, _, rfl, tupOf upd_same, rfl, _, _, rfl, _, _, rfl, rfl, ?_⟩
          obtain ⟨a2, x2, rfl, ta2, ⟨c2, rfl, tc2⟩⟩ := ((hx i z2 _ e2 hb).stay (.same s3)).ex
          refine ⟨_, rfl, _, rfl, .inr ⟨a2, _, rfl, ta2, .inr ⟨_, _, rfl, .inl ⟨_, rfl⟩, .inr ⟨c2, _, rfl, tc2, itmInts _, true, congrArg V.bl (S.bar _ (List.getElem_mem hl)).bar, iteF ?_⟩⟩⟩⟩
          exact ⟨_, _, rfl, s3⟩
        · rintro σ H2 ⟨x1, x2, rfl, s2⟩
          exact q _ s2
    · refine ⟨_, rfl, _, _, _, _, _, rfl, .ty "tuple", ht, kit_ty (r := false) hk, false, rfl, iteT ?_⟩
      exact ⟨.non, rfl, .inl rfl, fun d nd => tl d H (Same.refl _) nd⟩
    · refine ⟨_, rfl, _, _, _, _, _, rfl, .ty "tuple", tyTup ta, kit_ty (r := true) (by decide +kernel), true, rfl, iteF ?_⟩
      refine ⟨_, rfl, a, _, rfl, .inr ta, _, _, rfl, rfl, _, rfl, ?_⟩
      rw [decide_eq_true (by omega)]
      exact iteT ⟨.non, rfl, .inl rfl, fun d nd => tl d H (Same.refl _) nd⟩
    · refine ⟨_, rfl, _, _, _, _, _, rfl, .ty "tuple", tyTup ta, kit_ty (r := true) (by decide +kernel), true, rfl, iteF ?_⟩
      have six := F.six
      have lt := F.lt
      refine ⟨_, rfl, a, _, rfl, .inr ta, _, _, rfl, rfl, _, rfl, ?_⟩
      rw [decide_eq_false (by omega)]
      refine iteF ⟨_, rfl, a, xs, rfl, ta, for_it (walk_enT (K := K) (a := a) (xs := xs)) (fun i σ H2 => ∃ (x y : Option V), σ = [some (.ref a), x, y] ∧ Same H H2 ∧ i ≤ i0) ⟨none, none, rfl, Same.refl _, Nat.zero_le _⟩ (fun i σ H2 _ ⟨_, _, _, s2, _⟩ => Same.seqTT s2 ta) ?_ ?_⟩
      · rintro i y σ H2 H3 hi ⟨x1, x2, rfl, s2, ki⟩ ⟨p, z1, z2, rfl, np, rfl, e1, e2⟩
        have s3 := s2.trans (same_upd np (o := .tup [z1, z2]))
        cases Option.some.inj e1
        refine ⟨p, _, rfl, tupOf upd_same, rfl, _, _, rfl, _, _, rfl, rfl, ?_⟩
        by_cases c : i = i0
        · subst c
          have fin : ∀ d, upd H2 p (.tup [.int (i : Nat), z2]) d = none → _ := fun d nd => tl d _ s3 nd
          refine ⟨_, rfl, _, rfl, ?_⟩
          rcases (F.bad z2 e2).same s3 with nt | ⟨a2, ys, rfl, ta2, l | ⟨u, z, rfl, iu, nz | ⟨c2, zs, rfl, tc2, iz, bv⟩⟩⟩
          · exact .inl ⟨nt, false, rfl, iteT ⟨_, rfl, _, rfl, .inr ⟨i, rfl, by omega⟩, fin⟩⟩
          · exact .inr ⟨a2, ys, rfl, ta2, .inl ⟨l, false, rfl, iteT ⟨_, rfl, _, rfl, .inr ⟨i, rfl, by omega⟩, fin⟩⟩⟩
          · exact .inr ⟨a2, _, rfl, ta2, .inr ⟨_, _, rfl, iu.itm, .inl ⟨nz, false, rfl, iteT ⟨_, rfl, _, rfl, .inr ⟨i, rfl, by omega⟩, fin⟩⟩⟩⟩
          · exact .inr ⟨a2, _, rfl, ta2, .inr ⟨_, _, rfl, iu.itm, .inr ⟨c2, zs, rfl, tc2, fun w hw => (iz w hw).itm, false, congrArg V.bl bv, iteT ⟨_, rfl, _, rfl, .inr ⟨i, rfl, by omega⟩, fin⟩⟩⟩⟩
        · obtain ⟨b, hb, ob⟩ := (F.ok i z2 (by omega) e2).same s3
          obtain ⟨a2, x2, rfl, ta2, ⟨c2, rfl, tc2⟩⟩ := hb.ex
          refine ⟨_, rfl, _, rfl, .inr ⟨a2, _, rfl, ta2, .inr ⟨_, _, rfl, .inl ⟨_, rfl⟩, .inr ⟨c2, _, rfl, tc2, itmInts _, true, congrArg V.bl ob.bar, iteF ?_⟩⟩⟩⟩
          exact ⟨_, _, rfl, s3, by omega⟩
      · rintro σ H2 ⟨x1, x2, rfl, s2, ki⟩
        omega
end

end R
namespace R
open PySem PySem.Spec PyProof.Rows L2
def sp_p_whole_of (K : PySem.W.Frag) : Sp := fun vs H Q _ => ∃ (v : V) (bs : List Bar), vs = [v] ∧ BarsAt K H v bs ∧ SvOk bs ∧ Q (.int (wh bs : Nat)) H
section
variable {P : Program} [POk P FILE] {w : World} {K : PySem.W.Frag} {mg : Str → Option Value} {base : Heap}
theorem ok_p_whole_of (T : Txt K mg) : FnOk P w K mg base CX0 2 T.f_p_whole_of T.fd_p_whole_of ["bars"] (sp_p_whole_of K) := by
  refine T.F_p_whole_of.ok sc_p_whole_of (fun vs H Q E h => ?_) (fun cdv A outer s H vs Q E hr h => ?_)
  · obtain ⟨v, bs, rfl, _⟩ := h
    rfl
  · obtain ⟨v, bs, rfl, B, S, q⟩ := h
    refine ⟨_, (pss_cons (ps_set (i := 1) sc_p_whole_of.nd rfl (by first | exact .inl rfl | exact .inr rfl) pe_int)
      (pss_cons (ps_for PassesOwn.never rfl (pi_tup (pv 0)) (pg_tup (by rfl) (pgs_cons (pg_name (i := 2) sc_p_whole_of.nd rfl (by first | exact .inl rfl | exact .inr rfl)) (pgs_cons (pg_name (i := 3) sc_p_whole_of.nd rfl (by first | exact .inl rfl | exact .inr rfl)) pgs_nil))) (pss_one (ps_set (i := 1) sc_p_whole_of.nd rfl (by first | exact .inl rfl | exact .inr rfl) (pe_callBfun cr_lcmW (by rfl) T.g_lcm (pa_cons (pv 1) (pa_cons (pv 2) pa_nil))))))
      (pss_cons (ps_if (pt_cmpR op_gt (pv 1) (pe_glob (v := .int 1000000000000000000000000000000) (by rfl) T.c_GREATEST_WHOLE.choose_spec ⟨_, rfl⟩) (nomark _)) (pss_one ps_never) pss_nil)
      (pss_one (ps_ret (pv 1)))))), ?_⟩
    obtain ⟨a, xs, rfl, ta, nx, hx⟩ := B.ex
    have M := S.mods
    refine ⟨_, rfl, a, rfl, ⟨_, ta⟩, for_tup (K := K) (a := a) (xs := xs) (fun i σ H2 => ∃ x y : Option V, σ = [some (.ref a), some (.int (wh (bs.take i) : Nat)), x, y] ∧ H2 = H)
      ⟨none, none, rfl, rfl⟩ (fun i σ H2 _ ⟨_, _, _, e⟩ => by rw [e]; exact ta) ?_ ?_⟩
    · rintro i x σ H2 hi ⟨y1, y2, rfl, rfl⟩
      have hl : i < bs.length := by
        have := (List.getElem?_eq_some_iff.mp hi).1
        omega
      have hb : bs[i]? = some bs[i] := List.getElem?_eq_getElem hl
      obtain ⟨p, l, rfl, tp, _⟩ := (hx i x _ hi hb).ex
      have hm := M.mod _ (List.getElem_mem hl)
      generalize bs[i] = b at hb tp hm
      have hw := (M.take i).lt
      have hmn : b.1 = ((b.1.toNat : Nat) : Int) := by omega
      refine ⟨p, [_, _], rfl, tp, rfl, _, _, rfl, _, _, rfl, rfl, ?_⟩
      refine ⟨_, rfl, _, rfl, wh (bs.take i), b.1.toNat, by rw [← hmn], Nat.lt_trans hw (by decide), small5000 (by omega), ?_⟩
      refine ⟨some (.int b.1), some l, ?_, rfl⟩
      rw [takeSucc hb, wh_add, show b.1.natAbs = b.1.toNat by omega]
      rfl
    · rintro σ H2 ⟨y1, y2, rfl, rfl⟩
      rw [nx, List.take_length]
      refine ⟨_, rfl, _, _, rfl, rfl, _, rfl, ite2 (fun e => ?_) (fun e => ?_)⟩
      · have e' := of_decide_eq_true e
        have := S.great
        omega
      · exact ⟨_, rfl, q⟩
end

end R
namespace R
open PySem PySem.Spec PyProof.Rows L2
def sp_p_check_choices (K : PySem.W.Frag) : Sp := fun vs H Q _ => ∃ (v : V) (bs : List Bar), vs = [v] ∧ BarsAt K H v bs ∧ SvOk bs ∧ Q .non H
section
variable {P : Program} [POk P FILE] {w : World} {K : PySem.W.Frag} {mg : Str → Option Value} {base : Heap}
theorem ok_p_check_choices (T : Txt K mg) : FnOk P w K mg base CX0 2 T.f_p_check_choices T.fd_p_check_choices ["bars"] (sp_p_check_choices K) := by
  refine T.F_p_check_choices.ok sc_p_check_choices (fun vs H Q E h => ?_) (fun cdv A outer s H vs Q E hr h => ?_)
  · obtain ⟨v, bs, rfl, _⟩ := h
    rfl
  · obtain ⟨v, bs, rfl, B, S, q⟩ := h
    refine ⟨_, (pss_cons (ps_set (i := 1) sc_p_check_choices.nd rfl (by first | exact .inl rfl | exact .inr rfl) pe_int)
      (pss_cons (ps_for PassesOwn.never rfl (pi_tup (pv 0)) (pg_tup (by rfl) (pgs_cons (pg_name (i := 2) sc_p_check_choices.nd rfl (by first | exact .inl rfl | exact .inr rfl)) (pgs_cons (pg_name (i := 3) sc_p_check_choices.nd rfl (by first | exact .inl rfl | exact .inr rfl)) pgs_nil))) (pss_one (ps_set (i := 1) sc_p_check_choices.nd rfl (by first | exact .inl rfl | exact .inr rfl) (pe_op op_mulW (pv 1) (pe_callB (call_max2 rfl) (by rfl) T.z_max (by decide +kernel) (pa_cons pe_int (pa_cons (pe_callB call_len_seq (by rfl) T.z_len (by decide +kernel) (pa_cons (pv 3) pa_nil)) pa_nil)))))))
      (pss_one (ps_if (pt_cmpR op_gt (pv 1) (pe_glob (v := .int 2000) (by rfl) T.c_MOST_CHOICES.choose_spec ⟨_, rfl⟩) (nomark _)) (pss_one ps_never) pss_nil)))), ?_⟩
    obtain ⟨a, xs, rfl, ta, nx, hx⟩ := B.ex
    refine ⟨_, rfl, a, rfl, ⟨_, ta⟩, for_tup (K := K) (a := a) (xs := xs) (fun i σ H2 => ∃ x y : Option V, σ = [some (.ref a), some (.int (choices (bs.take i) : Nat)), x, y] ∧ H2 = H)
      ⟨none, none, rfl, rfl⟩ (fun i σ H2 _ ⟨_, _, _, e⟩ => by rw [e]; exact ta) ?_ ?_⟩
    · rintro i x σ H2 hi ⟨y1, y2, rfl, rfl⟩
      have hl : i < bs.length := by
        have := (List.getElem?_eq_some_iff.mp hi).1
        omega
      have hb : bs[i]? = some bs[i] := List.getElem?_eq_getElem hl
      obtain ⟨p, l, rfl, tp, ⟨c, rfl, tc⟩⟩ := (hx i x _ hi hb).ex
      have hm := (S.bar _ (List.getElem_mem hl)).lot.few
      have hch := Nat.le_trans (choices_take_le bs i) S.many
      generalize bs[i] = b at hb tp hm tc
      refine ⟨p, [_, _], rfl, tp, rfl, _, _, rfl, _, _, rfl, rfl, ?_⟩
      refine ⟨_, rfl, _, rfl, c, _, rfl, .inr tc, _, _, rfl, _, _, rfl, rfl, ?_, ?_⟩
      · rw [List.length_map, maxIte]
        exact wide_mul (a := 20) (b := 20) (by rw [Int.natAbs_natCast]; omega) (by rw [Int.natAbs_natCast]; omega) (by decide) (by decide) (by decide)
      · refine ⟨some (.int b.1), some (.ref c), ?_, rfl⟩
        rw [List.length_map, maxIte, takeSucc hb, choices_add, Int.natCast_mul]
        rfl
    · rintro σ H2 ⟨y1, y2, rfl, rfl⟩
      rw [nx, List.take_length]
      refine ⟨_, rfl, _, _, rfl, rfl, _, rfl, ite2 (fun e => ?_) (fun e => ?_)⟩
      · have e' := of_decide_eq_true e
        have := S.many
        omega
      · exact q
end

end R
namespace R
open PySem PySem.Spec PyProof.Rows L2
/-! ## the sieve as an object -/
theorem putF_len (f : Str) (v : V) : ∀ fs : List (Str × V), (putF f v fs).length ≤ fs.length + 1
  | [] => Nat.le_refl _
  | (g, x) :: r => by
    show (if g = f then (g, v) :: r else (g, x) :: putF f v r).length ≤ r.length + 1 + 1
    split
    · exact Nat.le_succ _
    · exact Nat.succ_le_succ (putF_len f v r)
theorem nBW : ¬ (("_bars" : Str) = "_whole") := by decide +kernel
theorem nBC : ¬ (("_bars" : Str) = "_classes") := by decide +kernel
theorem nWC : ¬ (("_whole" : Str) = "_classes") := by decide +kernel
/-- the attributes in the order in which they are stored -/
def flds (v : V) (n : Int) (t : V) : List (Str × V) := putF "_classes" t (putF "_whole" (.int n) (putF "_bars" v []))
theorem flds_bars (v : V) (n : Int) (t : V) : (flds v n t).lookup ("_bars" : Str) = some v := by
  unfold flds
  rw [lookup_putF, if_neg nBC, lookup_putF, if_neg nBW, lookup_putF, if_pos rfl]
theorem flds_whole (v : V) (n : Int) (t : V) : (flds v n t).lookup ("_whole" : Str) = some (.int n) := by
  unfold flds
  rw [lookup_putF, if_neg nWC, lookup_putF, if_pos rfl]
theorem flds_classes (v : V) (n : Int) (t : V) : (flds v n t).lookup ("_classes" : Str) = some t := by
  unfold flds
  rw [lookup_putF, if_pos rfl]
/-- a Sieve of the bars bs stands at p: v its bars, t its classes -/
structure SvAt (K : PySem.W.Frag) (C : Addr) (H : Hp) (p : Addr) (v : V) (t : Addr) (bs : List Bar) : Prop where
  ob : ∃ dx, H p = some (.ins C dx (flds v (wh bs : Nat) (.ref t)))
  bars : BarsAt K H v bs
  cls : SqT K H t ((cls bs).map V.int)
  ok : SvOk bs
theorem SvAt.stay {K : PySem.W.Frag} {C : Addr} {H H' : Hp} {p : Addr} {v : V} {t : Addr} {bs : List Bar} (h : SvAt K C H p v t bs) (s : Same H H') : SvAt K C H' p v t bs :=
  ⟨let ⟨dx, e⟩ := h.ob; ⟨dx, s _ _ e⟩, h.bars.stay (.same s), Same.seqTT s h.cls, h.ok⟩
theorem SvAt.keep {K : PySem.W.Frag} {C : Addr} {H H' : Hp} {p r : Addr} {v : V} {t : Addr} {bs : List Bar} {L : Addr} (h : SvAt K C H p v t bs) (R : RowAt H r L) (s : Kp r H H') : SvAt K C H' p v t bs := by
  obtain ⟨dx, e⟩ := h.ob
  obtain ⟨zs, er⟩ := R.lst
  refine ⟨⟨dx, s _ _ (ne_of e er (by intro z; cases z)) e⟩, h.bars.stay (R.tups s), R.tups s _ _ h.cls, h.ok⟩
section
variable {P : Program} [POk P FILE] {w : World} {K : PySem.W.Frag} {mg : Str → Option Value} {base : Heap}
def sp_get (K : PySem.W.Frag) (C : Addr) (f : V → Addr → List Bar → V) : Sp := fun vs H Q _ => ∃ (p : Addr) (v : V) (t : Addr) (bs : List Bar), vs = [.ref p] ∧ SvAt K C H p v t bs ∧ Q (f v t bs) H
theorem ok_m_Sieve_bars (T : Txt K mg) : FnOk P w K mg base CX0 2 T.f_m_Sieve_bars T.fd_m_Sieve_bars ["self"] (sp_get K T.C fun v _ _ => v) := by
  refine T.F_m_Sieve_bars.ok sc_m_Sieve_bars (fun vs H Q E h => ?_) (fun cdv A outer s H vs Q E hr h => ?_)
  · obtain ⟨p, v, t, bs, rfl, _⟩ := h
    rfl
  · obtain ⟨p, v, t, bs, rfl, S, q⟩ := h
    obtain ⟨dx, e⟩ := S.ob
    exact ⟨_, (pss_one (ps_ret (pe_fld (pv 0) rfl))), _, rfl, p, T.C, dx, _, _, rfl, e, T.cl, T.n_bars, flds_bars _ _ _, q⟩
theorem ok_m_Sieve_whole (T : Txt K mg) : FnOk P w K mg base CX0 2 T.f_m_Sieve_whole T.fd_m_Sieve_whole ["self"] (sp_get K T.C fun _ _ bs => .int (wh bs : Nat)) := by
  refine T.F_m_Sieve_whole.ok sc_m_Sieve_whole (fun vs H Q E h => ?_) (fun cdv A outer s H vs Q E hr h => ?_)
  · obtain ⟨p, v, t, bs, rfl, _⟩ := h
    rfl
  · obtain ⟨p, v, t, bs, rfl, S, q⟩ := h
    obtain ⟨dx, e⟩ := S.ob
    exact ⟨_, (pss_one (ps_ret (pe_fld (pv 0) rfl))), _, rfl, p, T.C, dx, _, _, rfl, e, T.cl, T.n_whole, flds_whole _ _ _, q⟩
theorem ok_m_Sieve_classes (T : Txt K mg) : FnOk P w K mg base CX0 2 T.f_m_Sieve_classes T.fd_m_Sieve_classes ["self"] (sp_get K T.C fun _ t _ => .ref t) := by
  refine T.F_m_Sieve_classes.ok sc_m_Sieve_classes (fun vs H Q E h => ?_) (fun cdv A outer s H vs Q E hr h => ?_)
  · obtain ⟨p, v, t, bs, rfl, _⟩ := h
    rfl
  · obtain ⟨p, v, t, bs, rfl, S, q⟩ := h
    obtain ⟨dx, e⟩ := S.ob
    exact ⟨_, (pss_one (ps_ret (pe_fld (pv 0) rfl))), _, rfl, p, T.C, dx, _, _, rfl, e, T.cl, T.n_classes, flds_classes _ _ _, q⟩

end
/-! ## data -/
def okD (n : Nat) (d : PyData) : Prop := d.canLay0 = true ∧ d.depth ≤ n
theorem okD.shaped {n : Nat} {d : PyData} (h : okD n d) (hn : n ≤ 64) : SeqAt.shaped d = true := by
  unfold SeqAt.shaped
  rw [h.1, decide_eq_true (Nat.le_trans h.2 hn)]
  rfl
theorem okD.eqv {n : Nat} {d : PyData} (h : okD n d) : PyData.eqv d d = true := SeqAt.eqv_refl d h.1
theorem okD.int (i : Int) : okD 0 (.int i) := ⟨rfl, Nat.le_refl _⟩
theorem okD.all {n : Nat} : ∀ {ds : List PyData}, (∀ d ∈ ds, okD n d) → PyData.canLayAll0 ds = true ∧ PyData.depthAll ds ≤ n
  | [], _ => ⟨rfl, Nat.zero_le _⟩
  | d :: ds, h => by
    obtain ⟨a, b⟩ := h d List.mem_cons_self
    obtain ⟨c, e⟩ := okD.all fun x hx => h x (List.mem_cons_of_mem d hx)
    refine ⟨?_, ?_⟩
    · rw [PyData.canLayAll0, a, c]
      rfl
    · rw [PyData.depthAll]
      omega
theorem okD.tup {n : Nat} {ds : List PyData} (h : ∀ d ∈ ds, okD n d) : okD (n + 1) (.tuple ds) := by
  obtain ⟨a, b⟩ := okD.all h
  refine ⟨?_, ?_⟩
  · rw [PyData.canLay0]
    exact a
  · rw [PyData.depth]
    omega
theorem okD.lst {n : Nat} {ds : List PyData} (h : ∀ d ∈ ds, okD n d) : okD (n + 1) (.list ds) := by
  obtain ⟨a, b⟩ := okD.all h
  refine ⟨?_, ?_⟩
  · rw [PyData.canLay0]
    exact a
  · rw [PyData.depth]
    omega
theorem dpInts {K : PySem.W.Frag} {H : Hp} : ∀ l : List Int, DpAll K H (l.map V.int) (l.map PyData.int)
  | [] => .nil
  | i :: l => .cons (.int i) (dpInts l)
theorem dpTup {K : PySem.W.Frag} {H : Hp} {a : Addr} {l : List Int} (h : SqT K H a (l.map V.int)) : Dp K H (.ref a) (.tuple (l.map PyData.int)) := .tup h (dpInts l)
theorem dpLst {K : PySem.W.Frag} {H : Hp} {a : Addr} {l : List Int} (h : SqL K H a (l.map V.int)) : Dp K H (.ref a) (.list (l.map PyData.int)) := .lst h (dpInts l)
theorem okInts (l : List Int) : ∀ d ∈ l.map PyData.int, okD 0 d := fun d h => by
  obtain ⟨i, _, rfl⟩ := List.mem_map.mp h
  exact .int i
theorem eqvNil (l : List Int) : PyData.eqv (.list (l.map PyData.int)) (.list []) = decide (l = []) := by
  rw [PyData.eqv]
  cases l with
  | nil => rfl
  | cons x r => rfl
theorem eqvNilT (l : List Int) : PyData.eqv (.tuple (l.map PyData.int)) (.tuple []) = decide (l = []) := by
  rw [PyData.eqv]
  cases l with
  | nil => rfl
  | cons x r => rfl

end R
namespace R
open PySem PySem.Spec PyProof.Rows L2
def sp_m_Sieve_init (K : PySem.W.Frag) (C B : Addr) : Sp := fun vs H Q E => ∃ (p dx : Addr) (v : V), vs = [.ref p, v] ∧ H p = some (.ins C dx []) ∧
  ((∃ w, BadB K H v w ∧ tells H B w E) ∨ ∃ bs, BarsAt K H v bs ∧ SvOk bs ∧ ∀ (t : Addr) (H' : Hp), (∀ b o, b ≠ p → H b = some o → H' b = some o) → SvAt K C H' p v t bs → Q .non H')
section
variable {P : Program} [POk P FILE] {w : World} {K : PySem.W.Frag} {mg : Str → Option Value} {base : Heap}
theorem ok_m_Sieve_init (T : Txt K mg) : FnOk P w K mg base (L2.CX P w) 8 T.f_m_Sieve_init T.fd_m_Sieve_init ["self", "bars"] (sp_m_Sieve_init K T.C T.C_BadBars) := by
  refine T.F_m_Sieve_init.okX sc_m_Sieve_init (fun vs H Q E h => ?_) (fun cdv A outer s H vs Q E hr h => ?_)
  · obtain ⟨p, dx, v, rfl, _⟩ := h
    rfl
  · obtain ⟨p, dx, v, rfl, hp, h⟩ := h
    refine ⟨_, (pss_cons (ps_expr (pe_call (ok_p_check_bars (P := P) T) (hr.mono (by decide)) (by rfl) T.g_p_check_bars T.F_p_check_bars.kp T.b_p_check_bars .nil (passes_call (takes_of rfl rfl rfl rfl) (fun _ _ _ _ h => h)) (pa_cons (pv 1) pa_nil)))
      (pss_cons (ps_fld (pv 0) (pv 1) rfl)
      (pss_cons (ps_fld (pv 0) (pe_call (ok_p_whole_of (P := P) T) (hr.mono (by decide)) (by rfl) T.g_p_whole_of T.F_p_whole_of.kp T.b_p_whole_of .nil pass0 (pa_cons (pv 1) pa_nil)) rfl)
      (pss_cons (ps_expr (pe_call (ok_p_check_choices (P := P) T) (hr.mono (by decide)) (by rfl) T.g_p_check_choices T.F_p_check_choices.kp T.b_p_check_choices .nil pass0 (pa_cons (pv 1) pa_nil)))
      (pss_one (ps_fld (pv 0) (pe_call (ok_p_classes_of (P := P) T) (hr.mono (by decide)) (by rfl) T.g_p_classes_of T.F_p_classes_of.kp T.b_p_classes_of .nil pass0 (pa_cons (pv 1) pa_nil)) rfl)))))), ?_⟩
    rcases h with ⟨w, bad, tl⟩ | ⟨bs, B, S, q⟩
    · exact ⟨_, rfl, v, rfl, .inr ⟨w, bad, tl⟩⟩
    have st : ∀ {H1 H2 : Hp} {fs fs' : List (Str × V)}, H1 p = some (.ins T.C dx fs) → TupsStay K H1 (upd H1 p (.ins T.C dx fs')) := fun {H1 H2 fs fs'} e a xs h => by
      rcases h with (h | ⟨o, h⟩) | h
      · exact .inl (.inl (by rw [upd_ne (ne_of h e (by intro z; cases z))]; exact h))
      · exact .inl (.inr ⟨o, by rw [upd_ne (ne_of h e (by intro z; cases z))]; exact h⟩)
      · exact .inr h
    refine ⟨_, rfl, v, rfl, .inl ⟨bs, B, S.pre, fun H1 s1 => ?_⟩⟩
    have p1 := s1 _ _ hp
    have B1 := B.stay (.same s1)
    refine ⟨_, rfl, _, rfl, p, T.C, dx, [], rfl, p1, T.cl, T.n_bars, (by show 0 < 1000; decide), ?_⟩
    have B2 : BarsAt K _ v bs := B1.stay (st (H2 := H1) (fs' := putF "_bars" v []) p1)
    refine ⟨_, rfl, v, bs, rfl, B2, S, _, rfl, p, T.C, dx, _, rfl, upd_same, T.cl, T.n_whole, (by show 1 < 1000; decide), ?_⟩
    have B3 := B2.stay (st (H2 := H1) (fs' := putF "_whole" (.int (wh bs : Nat)) (putF "_bars" v [])) upd_same)
    refine ⟨_, rfl, v, bs, rfl, B3, S, ?_⟩
    refine ⟨_, rfl, v, bs, rfl, B3, S, fun t H4 s4 e4 => ?_⟩
    have p4 := s4 _ _ (upd_same (H := upd H1 p (.ins T.C dx (putF "_bars" v []))) (a := p) (o := .ins T.C dx (putF "_whole" (.int (wh bs : Nat)) (putF "_bars" v []))))
    refine ⟨_, rfl, p, T.C, dx, _, rfl, p4, T.cl, T.n_classes, ?_, ?_⟩
    · have l1 := putF_len "_whole" (.int (wh bs : Nat)) (putF "_bars" v [])
      have l2 := putF_len "_bars" v []
      have l3 : ([] : List (Str × V)).length = 0 := rfl
      omega
    · have B4 := B3.stay (.same s4)
      refine q t _ (fun b o n e => ?_) ⟨⟨dx, upd_same⟩, B4.stay (st (H2 := H1) p4), st (H2 := H1) p4 _ _ (tupOf e4), S⟩
      rw [upd_ne n]
      refine s4 _ _ ?_
      rw [upd_ne n, upd_ne n]
      exact s1 _ _ e
/-- Sieve(bars) at a new place x, or its error -/
theorem make_sieveB {C B : Addr} {H : Hp} {v : V} {Q : VK} {E : XK} {x dx : Addr} (nx : H x = none) (ndx : H dx = none)
    (k : (∃ w, BadB K H v w ∧ tells H B w E) ∨ ∃ bs, BarsAt K H v bs ∧ SvOk bs ∧ ∀ t H', Same H H' → SvAt K C H' x v t bs → Q .non H') :
    sp_m_Sieve_init K C B (.ref x :: ([v] ++ [])) (upd (upd H dx (.own x)) x (.ins C dx [])) Q E := by
  have s0 : Same H (upd (upd H dx (.own x)) x (.ins C dx [])) := samePut (same_upd ndx) nx
  refine ⟨x, dx, v, rfl, upd_same, ?_⟩
  rcases k with ⟨w, bad, tl⟩ | ⟨bs, Bb, S, k⟩
  · exact .inl ⟨w, bad.same s0, tl.same s0⟩
  · exact .inr ⟨bs, Bb.stay (.same s0), S, fun t H' s1 A => k t H' (fun b o e => s1 b o (ne_of_none e nx) (s0 b o e)) A⟩
end

end R
namespace R
open PySem PySem.Spec PyProof.Rows L2
/-! ## an object made inside a try -/
section
variable {X : Cx} {CX : CXT} {k : Nat} {f C : Addr} {fd : FuncData} {ps : List Str} {sp : Sp} {W : L2.St → XK} {x : Str} {p q : Pos} {e : Expr} {es : List Expr} {t : TA}
def tMakeS (C : Addr) (sp : Sp) (W : L2.St → XK) (t : TA) : TE := fun σ H Q => t σ H fun xs H2 => ∀ y dy, H2 y = none → H2 dy = none → dy ≠ y →
  sp (.ref y :: (xs ++ [])) (upd (upd H2 dy (.own y)) y (.ins C dy [])) (fun v H3 => v = .non ∧ Q (.ref y) H3) (W σ)
theorem runMakeS {pn : List (Addr × Obj)} {σ : L2.St} {H : Hp} {s : Shared} {Q : VK} {us : List Value} {xs : List V} (mk : Mk X.K C f) (F : FnOk X.prog X.w X.K X.mg X.base CX k f fd ps sp) (room : Room (k + 1) X.A)
    (bind : Binds X.K fd ps []) (out : ∀ σ, PassesAt CX X σ (W σ)) (I : Inv X pn σ H s) (rv : Vals xs us)
    (h : ∀ y dy, H y = none → H dy = none → dy ≠ y → sp (.ref y :: (xs ++ [])) (upd (upd H dy (.own y)) y (.ins C dy [])) (fun v H3 => v = .non ∧ Q (.ref y) H3) (W σ)) :
    wpAny (model X.prog X.w) X.A (call (.ref C) us) (EP X pn σ Q) X.xe s := by
  obtain ⟨z, hz⟩ : ∃ z, z = s.heap.objs.size := ⟨_, rfl⟩
  have f1 : H (z + 1) = none := I.hok.fresh (by omega)
  have f0 : H z = none := I.hok.fresh (by omega)
  have run := h (z + 1) z f1 f0 (Nat.ne_of_lt (Nat.lt_succ_self z))
  have J := Inv.made (C := C) I
  rw [← hz] at J
  have rv2 : Vals (V.ref (z + 1) :: (xs ++ [])) (Value.ref (z + 1) :: (us ++ [])) := .cons rfl (rv.append .nil)
  have len : (Value.ref (z + 1) :: us ++ []).length = ps.length := by
    have e := rv2.length
    rw [F.len _ _ _ _ run] at e
    exact e.symm
  have body := F.run _ X.stack _ _ ⟨Value.ref (z + 1) :: us, []⟩ (Value.ref (z + 1) :: (us ++ [])) _ _ (W σ) (room.make C us []) (J.env0.make C us [])
    (by rw [← List.cons_append]; exact bind _ (Value.ref (z + 1) :: us) J.kIn len) rv2 run
  refine wpAny_call (make_map (f := f) I.kIn mk.makes mk.init (beq_iff_eq.mp mk.fn) ?_)
  rw [← hz]
  refine codeAny_mono body fun r s2 post => ?_
  cases r with
  | error e => exact out σ pn _ _ e s2 J post
  | ok fl =>
    cases fl with
    | ret u =>
      obtain ⟨v, H3, I3, r3, ev, done⟩ := J.after post
      subst ev
      exact ⟨r3, V.ref (z + 1), H3, I3, rfl, done⟩
    | next | brk | cont => exact False.elim post
theorem pe_makeS (mk : Mk X.K C f) (F : FnOk X.prog X.w X.K X.mg X.base CX k f fd ps sp) (room : Room (k + 1) X.A) (gl : Gl X x) (at_ : X.mg x = some (.ref C)) (bind : Binds X.K fd ps []) (out : ∀ σ, PassesAt CX X σ (W σ))
    (args : PA X (e :: es) t) (nd : (x == ("__debug__" : Str)) = false := by decide) (st : starEach (e :: es) X.env = (false, eval e X.env) :: starEach es X.env := by rfl) (pl : (backTo q (starEach es X.env)).any (·.1) = false := by rfl) :
    PE X (.Call (.Name x p) (e :: es) [] q) (tMakeS C sp W t) := by
  constructor
  intro pn s σ H Q I h
  refine wpAny_Call_Name_kw (ld_glob I gl at_ ?_ nd)
  refine PySem.W.callWith_K (h₀ := X.base) I.ok.mod.kin mk.kp (thn (args.run q pn s σ H _ I h) ?_) st pl
  rintro us s2 ⟨xs, H2, I2, rv, go⟩
  exact ⟨I2.kIn, runMakeS mk F room bind out I2 rv go⟩
end

end R
namespace R
open PySem PySem.Spec PyProof.Rows L2
/-! ## the law -/
def sp_law (K : PySem.W.Frag) : Sp := fun vs H Q _ => ∃ (a : Addr) (ns : List Int), vs = [.ref a] ∧ SqL K H a (ns.map V.int) ∧ ns.length ≤ 63 ∧ ∀ H', Q (.bl true) H'
theorem powTop {bs : List Bar} {most top : Nat} (D : Drawn most top bs) (h6 : most ≤ 6) (ht : top ≤ 60) : wh bs ≤ top ^ bs.length := by
  have h : ∀ bs : List Bar, (∀ b ∈ bs, b.1.natAbs ≤ top) → wh bs ≤ top ^ bs.length := by
    refine snocInd (fun _ => by rw [List.length_nil, Nat.pow_zero]; decide) fun bs b ih h => ?_
    rw [wh_add, List.length_append]
    exact Nat.le_trans (lcm_le_mul _ _) (Nat.mul_le_mul (ih fun c hc => h c (List.mem_append_left _ hc)) (h b (List.mem_append_right _ (List.mem_singleton.mpr rfl))))
  exact h bs fun b hb => by
    have := D.bar b hb
    omega
theorem powLe {bs : List Bar} {most top N : Nat} (D : Drawn most top bs) (h6 : most ≤ 6) (h1 : 1 ≤ top) (ht : top ≤ 60) (hN : top ^ most ≤ N) : wh bs ≤ N :=
  Nat.le_trans (powTop D h6 ht) (Nat.le_trans (Nat.pow_le_pow_right h1 D.len) hN)
theorem nilOk : SvOk [] := ⟨by decide, fun b h => by simp at h, by decide, by decide⟩
theorem clsNil : cls [] = [0] := rfl

end R
namespace R
open PySem PySem.Spec PyProof.Rows L2
/-! ## bars as data -/
/-- bars + (a bar,) -/
theorem catBar {K : PySem.W.Frag} {H : Hp} {v : V} {bs : List Bar} {b : Bar} {p p2 : Addr} {Q : V → Hp → Prop} (B : BarsAt K H v bs) (few : bs.length ≤ 1000) (bar : BarAt K H (.ref p) b) (t2 : SqT K H p2 [.ref p])
    (q : ∀ y H', Same H H' → BarsAt K H' y (bs ++ [b]) → Q y H') : rCatA K v (.ref p2) H Q := by
  obtain ⟨a, xs, rfl, tb, nb, hb⟩ := B.ex
  refine ⟨a, p2, xs, [.ref p], rfl, rfl, tb, t2, sizeOk (by show xs.length + 1 ≤ 100000; omega), fun e => ?_, fun _ e => absurd e (List.cons_ne_nil _ _), fun _ _ q' nq' => ?_⟩
  · subst e
    exact q _ _ (Same.refl _) (BarsAt.add (xs := []) t2 nb (fun j x d h1 h2 => by simp at h1) bar)
  · exact q _ _ (same_upd nq') (BarsAt.add (tupOf upd_same) nb (fun j x d h1 h2 => (hb j x d h1 h2).stay (.same (same_upd nq'))) (bar.stay (.same (same_upd nq'))))
def barD (b : Bar) : PyData := .tuple [.int b.1, .tuple (b.2.map PyData.int)]
theorem dpBar {K : PySem.W.Frag} {H : Hp} {v : V} {b : Bar} (h : BarAt K H v b) : Dp K H v (barD b) := by
  obtain ⟨a, x, rfl, ta, ⟨c, rfl, tc⟩⟩ := h.ex
  exact .tup ta (.cons (.int _) (.cons (dpTup tc) .nil))
theorem dpBars {K : PySem.W.Frag} {H : Hp} {v : V} {bs : List Bar} (h : BarsAt K H v bs) : Dp K H v (.tuple (bs.map barD)) := by
  obtain ⟨a, xs, rfl, ta, nx, hx⟩ := h.ex
  refine .tup ta ?_
  clear ta h
  induction xs generalizing bs with
  | nil =>
    cases bs with
    | nil => exact .nil
    | cons b r => cases nx
  | cons x xs ih =>
    cases bs with
    | nil => cases nx
    | cons b r => exact .cons (dpBar (hx 0 x b rfl rfl)) (ih (Nat.succ.inj nx) fun i y d h1 h2 => hx (i + 1) y d h1 h2)
theorem okBars (bs : List Bar) : okD 3 (.tuple (bs.map barD)) := okD.tup fun d h => by
  obtain ⟨b, _, rfl⟩ := List.mem_map.mp h
  refine okD.tup fun d h => ?_
  rcases List.mem_cons.mp h with rfl | h
  · exact ⟨rfl, Nat.zero_le _⟩
  · rw [List.mem_singleton.mp h]
    exact okD.tup (okInts _)

end R
namespace R
open PySem PySem.Spec PyProof.Rows L2
/-! ## data that are equal -/
theorem eqvInts : ∀ xs ys : List Int, PyData.eqvAll (xs.map PyData.int) (ys.map PyData.int) = decide (xs = ys)
  | [], [] => by
    show PyData.eqvAll [] [] = _
    rw [PyData.eqvAll]
    rfl
  | [], y :: ys => by
    show PyData.eqvAll [] (_ :: _) = _
    rw [PyData.eqvAll] <;> first | rfl | simp
  | x :: xs, [] => by
    show PyData.eqvAll (_ :: _) [] = _
    rw [PyData.eqvAll] <;> first | rfl | simp
  | x :: xs, y :: ys => by
    show PyData.eqvAll (PyData.int x :: xs.map PyData.int) (PyData.int y :: ys.map PyData.int) = _
    rw [PyData.eqvAll, eqvInts xs ys, PyData.eqv]
    by_cases h : x = y
    · subst h
      by_cases h2 : xs = ys
      · subst h2
        simp
      · simp [h2]
    · simp [h]
theorem eqvIntsT (xs ys : List Int) : PyData.eqv (.tuple (xs.map PyData.int)) (.tuple (ys.map PyData.int)) = decide (xs = ys) := by
  rw [PyData.eqv]
  exact eqvInts xs ys
theorem eqvIntsL (xs ys : List Int) : PyData.eqv (.list (xs.map PyData.int)) (.list (ys.map PyData.int)) = decide (xs = ys) := by
  rw [PyData.eqv]
  exact eqvInts xs ys
theorem eqvBar (a b : Bar) : PyData.eqv (barD a) (barD b) = decide (a = b) := by
  obtain ⟨m, l⟩ := a
  obtain ⟨n, k⟩ := b
  show PyData.eqv (.tuple [.int m, .tuple (l.map PyData.int)]) (.tuple [.int n, .tuple (k.map PyData.int)]) = _
  rw [PyData.eqv, PyData.eqvAll, PyData.eqvAll, PyData.eqvAll, eqvIntsT, PyData.eqv]
  by_cases h : m = n
  · subst h
    by_cases h2 : l = k
    · subst h2
      simp
    · simp [h2]
  · simp [h]
theorem eqvBarsAll : ∀ xs ys : List Bar, PyData.eqvAll (xs.map barD) (ys.map barD) = decide (xs = ys)
  | [], [] => by
    show PyData.eqvAll [] [] = _
    rw [PyData.eqvAll]
    rfl
  | [], y :: ys => by
    show PyData.eqvAll [] (_ :: _) = _
    rw [PyData.eqvAll] <;> first | rfl | simp
  | x :: xs, [] => by
    show PyData.eqvAll (_ :: _) [] = _
    rw [PyData.eqvAll] <;> first | rfl | simp
  | x :: xs, y :: ys => by
    show PyData.eqvAll (barD x :: xs.map barD) (barD y :: ys.map barD) = _
    rw [PyData.eqvAll, eqvBarsAll xs ys, eqvBar]
    by_cases h : x = y
    · subst h
      by_cases h2 : xs = ys
      · subst h2
        simp
      · simp [h2]
    · simp [h]
theorem eqvBars (xs ys : List Bar) : PyData.eqv (.tuple (xs.map barD)) (.tuple (ys.map barD)) = decide (xs = ys) := by
  rw [PyData.eqv]
  exact eqvBarsAll xs ys

end R
namespace R
open PySem PySem.Spec PyProof.Rows L2
/-! ## == and != by a class's own __eq__ -/
/-- the other side: an object of the class, a text, None, a tuple -/
inductive Oth (K : PySem.W.Frag) (C : Addr) (H : Hp) : V → Value → Prop
  | ins {b dy : Addr} {gs : List (Str × V)} (e : H b = some (.ins C dy gs)) : Oth K C H (.ref b) (.ref C)
  | str (x : Str) : Oth K C H (.str x) (.type "str")
  | non : Oth K C H .non (.type "NoneType")
  | tup {b : Addr} {xs : List V} (e : SqT K H b xs) : Oth K C H (.ref b) (.type "tuple")
def rOwn (K : PySem.W.Frag) (C : Addr) (sp : Sp) (E : XK) (neg : Bool) : R2 := fun x y H Q => ∃ (a dx : Addr) (fs : List (Str × V)) (t : Value), x = .ref a ∧ H a = some (.ins C dx fs) ∧ Oth K C H y t ∧ PySem.W.notFirst K C t = true ∧
  sp [x, y] H (fun v H' => ∃ b, v = .bl b ∧ Q (.bl (if neg then !b else b)) H') E
section
variable {X : Cx} {CX : CXT} {C f : Addr} {fd : FuncData} {ps : List Str} {sp : Sp} {E : XK} {k : Nat}
theorem Oth.looks {M : Model} {pn : List (Addr × Obj)} {σ : L2.St} {H : Hp} {s : Shared} {y : V} {u t : Value} (I : Inv X pn σ H s) (ry : RelV y u) (o : Oth X.K C H y t) : PySem.W.Looks M s.heap (typeOf u) t := by
  cases o with
  | ins e =>
    obtain rfl : u = Value.ref _ := ry
    obtain ⟨_, J, _⟩ := ins_get I.hok e
    obtain ⟨_, J, _⟩ := J.look
    exact J.type
  | str x =>
    obtain ⟨t, rfl⟩ := (show ∃ t, u = Value.str x t from ry)
    exact .of_pure rfl
  | non =>
    obtain rfl : u = Value.none := ry
    exact .of_pure rfl
  | tup e =>
    obtain rfl : u = Value.ref _ := ry
    obtain ⟨its, _, ⟨o, ho, hc, _⟩, _⟩ := I.tuple e
    exact hc ▸ (PySem.W.Looks.ld ho).andThen .now
/-- the own __eq__ called, somewhere below the running body -/
theorem run_own {A : Around} {pn : List (Addr × Obj)} {σ : L2.St} {H : Hp} {s : Shared} {a : Addr} {y : V} {u : Value} {R : Bool → Hp → Prop} {W : Value → Shared → Prop} (G : FnOk X.prog X.w X.K X.mg X.base CX k f fd ps sp) (room : Room k A) (fr : A.frames = X.A.frames)
    (hb : Binds X.K fd ps []) (hx : Passes CX X E) (I : Inv X pn σ H s) (ry : RelV y u) (h : sp [.ref a, y] H (fun v H' => ∃ b, v = .bl b ∧ R b H') E)
    (fin : ∀ b s' H', Inv X pn σ H' s' → R b H' → W (.bool b) s') : wpAny (model X.prog X.w) A (call (.ref f) [.ref a, u]) W X.xe s := by
  have e0 : Env0 X.prog X.w X.K X.mg X.base A X.stack s H := by
    have e := I.env0
    exact ⟨by rw [fr]; exact e.frames, e.mod, e.bs, e.bsz, e.funs, e.frf, e.hok, e.bare⟩
  have len := G.len _ _ _ _ h
  have rv : Vals [V.ref a, y] [Value.ref a, u] := .cons rfl (.cons ry .nil)
  have bind : BindsTo s fd ⟨[.ref a, u], []⟩ (ps.zip [Value.ref a, u]) := by
    have q := hb s [.ref a, u] I.kIn (by simpa using len)
    simpa using q
  refine wpAny_call (codeAny_mono (G.run A X.stack s H ⟨[.ref a, u], []⟩ [.ref a, u] [.ref a, y] _ E room e0 bind rv h) fun r s' q => ?_)
  cases r with
  | error e => exact hx pn σ H s e s' I q
  | ok fl =>
    cases fl with
    | ret z =>
      obtain ⟨v, H', I', rz, b, ev, hR⟩ := I.after q
      subst ev
      obtain rfl : z = Value.bool b := rz
      exact fin b s' H' I' hR
    | next | brk | cont => exact False.elim q
theorem op_eqO (G : FnOk X.prog X.w X.K X.mg X.base CX k f fd ps sp) (hr : Room k X.A) (hs : PySem.W.findIn X.K (.ref C) "__eq__" = some (some (.ref f))) (hf : PySem.W.isFn X.K (.ref f) = true) (hb : Binds X.K fd ps []) (hx : Passes CX X E) :
    OpR X (compareOp .Eq) (rOwn X.K C sp E false) := by
  intro pn s σ H x y v u Q I rx ry h
  obtain ⟨a, dx, fs, t, rfl, ha, o, nf, h⟩ := h
  obtain rfl : v = Value.ref a := rx
  obtain ⟨_, J, _⟩ := ins_get I.hok ha
  obtain ⟨_, J, _⟩ := J.look
  obtain ⟨_, hF⟩ := I.fr
  show wpAny _ X.A (richCompare .Eq (.ref a) u) _ _ _
  refine PySem.W.cmp_K (op := .Eq) (tb := t) hr.units0 hF I.ok.mod.kin J (o.looks I ry) nf hs hf ?_
  exact run_own G hr rfl hb hx I ry h fun b s' H' I' q => ⟨.bl b, H', I', rfl, q⟩
theorem op_neO (G : FnOk X.prog X.w X.K X.mg X.base CX k f fd ps sp) (hr : Room (k + 1) X.A) (hs : PySem.W.findIn X.K (.ref C) "__eq__" = some (some (.ref f))) (hf : PySem.W.isFn X.K (.ref f) = true) (hb : Binds X.K fd ps []) (hx : Passes CX X E)
    (hn : PySem.W.findIn X.K (.ref C) "__ne__" = some (some (.builtin "object.__ne__"))) (hm : PySem.W.mroIn X.K C (.type "object") = some true) : OpR X (compareOp .NotEq) (rOwn X.K C sp E true) := by
  intro pn s σ H x y v u Q I rx ry h
  obtain ⟨a, dx, fs, t, rfl, ha, o, nf, h⟩ := h
  obtain rfl : v = Value.ref a := rx
  obtain ⟨_, J, _⟩ := ins_get I.hok ha
  obtain ⟨_, J, _⟩ := J.look
  have KI := I.kIn
  have unit : X.A.in1.units < cLine := hr.in1.units0
  have inner : wpAny (model X.prog X.w) X.A (call (.builtin "object.__ne__") [.ref a, u]) (fun z s' => ∃ b, z = .bool (!b) ∧ EP X pn σ Q (.bool (!b)) s') X.xe s := by
    refine wpAny_call (codeAny_call_builtin F.cmp_object.ne.plain F.cmpEntry_ne (PySem.W.check_slot F.cmpKind_ne F.cmpSplit_ne (J.type.andThen (PySem.W.looks_mroIn KI hm)) (F.cmpArgs_ne _ _) ?_))
    have eqq : wpAny (model X.prog X.w) X.A.in1 (callSpecialIfBound? (.ref a) "__eq__" [u]) (fun r s' => ∃ b, r = some (.bool b) ∧ EP X pn σ Q (.bool (!b)) s') X.xe s :=
      PySem.W.ifBound_K KI J hs hf (run_own G hr.in1 rfl hb hx I ry h fun b s' H' I' q => ⟨b, rfl, .bl (!b), H', I', rfl, q⟩)
    unfold Builtin.«object.__ne__»
    repeat (first
      | with_reducible refine wpAny_cRoomFor unit ?_
      | (refine wpAny_bind (m := callSpecialIfBound? (.ref a) (Str.ofString "__eq__") [u]) (wpAny_mono eqq (fun r s' hr' => ?_) fun _ _ e => e)
         obtain ⟨b, rfl, q⟩ := hr'
         repeat (first | exact ⟨b, rfl, q⟩ | (refine wpAny_bind (m := truthy (.bool _)) (wpAny_truthy_bool ?_)) | wp_step))
      | wp_step)
  show wpAny _ X.A (richCompare .NotEq (.ref a) u) _ _ _
  have one : wpAny (model X.prog X.w) X.A (tryCompare (.ref a) (cmpInfo .NotEq).2.1 u) (fun r s' => ∃ z, r = some z ∧ EP X pn σ Q z s') X.xe s := by
    unfold tryCompare
    refine wpAny_bind ?_
    simp only [callSpecialIfBound?, bindSpecialIfBound?]
    refine wpAny_holding <| wpAny_bind <| wpAny_bind <| wpAny_bind <| J.type.here <| (PySem.W.looks_findIn KI hn).here ?_
    refine wpAny_bind <| wpAny_askSetting <| wpAny_ite ?_
    have go : wpAny (model X.prog X.w) X.A (call (.builtin "object.__ne__") ([.ref a] ++ [u]) >>= fun v => pure (some v)) (fun r s' => wpAny (model X.prog X.w) X.A (match r with | some .notImplemented | none => pure none | some v => pure (some v)) (fun r s' => ∃ z, r = some z ∧ EP X pn σ Q z s') X.xe s') X.xe s :=
      wpAny_bind (wpAny_mono inner (fun z s' ⟨b, e, q⟩ => by subst e; exact wpAny_pure (wpAny_pure ⟨_, rfl, q⟩)) fun _ _ e => e)
    split
    · rw [F.cmp_object.ne.bind]
      exact wpAny_bind (wpAny_pure (wpAny_pure go))
    · rw [F.cmp_object.ne.bind]
      exact wpAny_tryCatch (wpAny_bind (wpAny_pure (wpAny_pure go)))
  unfold richCompare
  simp only [oneThing_ref]
  refine wpAny_holding (wpAny_bind (wpAny_cRoomFor hr.units0 ?_))
  refine wpAny_bind (J.type.here (wpAny_bind ((o.looks I ry).here ?_)))
  split
  · rename_i q
    have e : PySem.W.subIn X.K t (.ref C) = some false := by
      rcases Bool.or_eq_true_iff.mp nf with e | e
      · rw [beq_iff_eq.mp e] at q
        simp at q
      · exact beq_iff_eq.mp e
    refine wpAny_bind ((PySem.W.looks_subIn KI e).here ?_)
    simp only [Bool.false_eq_true, if_false]
    refine wpAny_bind (wpAny_mono one (fun r s' ⟨z, ez, q⟩ => ?_) fun _ _ e => e)
    subst ez
    exact wpAny_pure q
  · refine wpAny_bind (wpAny_pure ?_)
    simp only [Bool.false_eq_true, if_false]
    refine wpAny_bind (wpAny_mono one (fun r s' ⟨z, ez, q⟩ => ?_) fun _ _ e => e)
    subst ez
    exact wpAny_pure q
end
/-- one of two readings of an operator -/
def rOr (r1 r2 : R2) : R2 := fun x y H Q => r1 x y H Q ∨ r2 x y H Q
theorem op_or {X : Cx} {f : Value → Value → Sem Value} {r1 r2 : R2} (h1 : OpR X f r1) (h2 : OpR X f r2) : OpR X f (rOr r1 r2) := by
  intro pn s σ H x y v u Q I rx ry h
  rcases h with h | h
  · exact h1 pn s σ H x y v u Q I rx ry h
  · exact h2 pn s σ H x y v u Q I rx ry h
theorem kit_same {K : PySem.W.Frag} {C : Addr} : PySem.W.kitOne K (.ref C) (.ref C) = some true := by
  unfold PySem.W.kitOne
  rw [if_pos (by simp)]
theorem kit_no {K : PySem.W.Frag} {C : Addr} {t : String} (h1 : PySem.W.hasDictIn K C = true) (h2 : PySem.W.typeIn K (.ref C) = some (.type "type")) (h3 : PySem.W.subIn K (.type t) (.ref C) = some false) : PySem.W.kitOne K (.type t) (.ref C) = some false := by
  obtain ⟨cd, hc, _⟩ := PySem.W.any_some h1
  unfold PySem.W.kitOne
  rw [if_neg (by simp)]
  show (if ((PySem.W.clsIn K C).isSome && PySem.W.typeIn K (.ref C) == some (.type "type")) = true then PySem.W.subIn K (.type t) (.ref C) else none) = some false
  rw [hc, h2]
  exact h3

end R
namespace R
open PySem PySem.Spec PyProof.Rows L2
/-! ## two sieves compared -/
def sp_m_Sieve_eq (K : PySem.W.Frag) (C : Addr) : Sp := fun vs H Q _ => ∃ (p : Addr) (v : V) (t : Addr) (bs : List Bar) (y : V), vs = [.ref p, y] ∧ SvAt K C H p v t bs ∧
  ((∃ (p' : Addr) (v' : V) (t' : Addr) (bs' : List Bar), y = .ref p' ∧ SvAt K C H p' v' t' bs' ∧ Q (.bl (decide (bs = bs'))) H) ∨ ∃ t : String, TyX K H y (.type t) ∧ PySem.W.subIn K (.type t) (.ref C) = some false ∧ Q (.bl false) H)
section
variable {P : Program} [POk P FILE] {w : World} {K : PySem.W.Frag} {mg : Str → Option Value} {base : Heap}
theorem SvAt.ty (T : Txt K mg) {H : Hp} {p : Addr} {v : V} {t : Addr} {bs : List Bar} (S : SvAt K T.C H p v t bs) : TyX K H (.ref p) (.ref T.C) := by
  obtain ⟨dx, e⟩ := S.ob
  exact .base (.ins e T.cl T.kt1 T.kt2 T.kt3 T.moC)
theorem ok_m_Sieve_eq (T : Txt K mg) : FnOk P w K mg base CX0 10 T.f_m_Sieve_eq T.fd_m_Sieve_eq ["self", "other"] (sp_m_Sieve_eq K T.C) := by
  refine T.F_m_Sieve_eq.ok sc_m_Sieve_eq (fun vs H Q E h => ?_) (fun cdv A outer s H vs Q E hr h => ?_)
  · obtain ⟨p, v, t, bs, y, rfl, _⟩ := h
    rfl
  · obtain ⟨p, v, t, bs, y, rfl, S, h⟩ := h
    refine ⟨_, (pss_one (ps_ret (pe_and (pe_callB call_isi (by rfl) T.z_isinstance (by decide +kernel) (pa_cons (pv 1) (pa_cons (pe_glob (v := .ref T.C) (by rfl) T.g_Sieve rfl) pa_nil))) (pe_one (pe_cmpR (op_eqD hr.units) (pe_fld (pv 0) rfl) (pe_fld (pv 1) rfl) (nomark _)))))), ?_⟩
    obtain ⟨dx, e⟩ := S.ob
    rcases h with ⟨p', v', t', bs', rfl, S', q⟩ | ⟨ty, hy, hn, q⟩
    · obtain ⟨dx', e'⟩ := S'.ob
      refine ⟨_, rfl, _, _, _, _, _, rfl, .own T.C, S'.ty T, T.isC, true, rfl, iteT ?_⟩
      refine ⟨_, rfl, p, T.C, dx, _, _, rfl, e, T.cl, T.n_bars, flds_bars _ _ _, _, rfl, p', T.C, dx', _, _, rfl, e', T.cl, T.n_bars, flds_bars _ _ _, ?_⟩
      refine ⟨_, _, dpBars S.bars, dpBars S'.bars, (okBars _).shaped (by decide), (okBars _).shaped (by decide), ?_⟩
      rw [eqvBars]
      exact q
    · exact ⟨_, rfl, _, _, _, _, _, rfl, .own T.C, hy, T.noC ty hn, false, rfl, iteF q⟩
end
theorem nf_same {K : PySem.W.Frag} {C : Addr} : PySem.W.notFirst K C (.ref C) = true := by
  unfold PySem.W.notFirst
  simp
/-- two sieves by == or != -/
theorem ownSv {K : PySem.W.Frag} {C : Addr} {H : Hp} {Q : V → Hp → Prop} {E : XK} {neg : Bool} {p p' t t' : Addr} {v v' : V} {bs bs' : List Bar} (S : SvAt K C H p v t bs) (S' : SvAt K C H p' v' t' bs')
    (q : Q (.bl (if neg then !decide (bs = bs') else decide (bs = bs'))) H) : rOwn K C (sp_m_Sieve_eq K C) E neg (.ref p) (.ref p') H Q := by
  obtain ⟨dx, e⟩ := S.ob
  obtain ⟨dx', e'⟩ := S'.ob
  exact ⟨p, dx, _, _, rfl, e, .ins e', nf_same, p, v, t, bs, _, rfl, S, .inl ⟨p', v', t', bs', rfl, S', _, rfl, q⟩⟩
/-- a sieve and a text by == or != -/
theorem ownTx {K : PySem.W.Frag} {mg : Str → Option Value} (T : Txt K mg) {H : Hp} {Q : V → Hp → Prop} {E : XK} {neg : Bool} {p t : Addr} {v : V} {bs : List Bar} (S : SvAt K T.C H p v t bs) (x : Str)
    (q : Q (.bl (if neg then !false else false)) H) : rOwn K T.C (sp_m_Sieve_eq K T.C) E neg (.ref p) (.str x) H Q := by
  obtain ⟨dx, e⟩ := S.ob
  refine ⟨p, dx, _, _, rfl, e, .str x, ?_, p, v, t, bs, _, rfl, S, .inr ⟨"str", .base (.str x), T.suS, _, rfl, q⟩⟩
  unfold PySem.W.notFirst
  rw [T.suS]
  simp

end R
namespace R
open PySem PySem.Spec PyProof.Rows L2
/-! ## bars as the law judges them -/
def sp_l_is_whole (K : PySem.W.Frag) : Sp := fun vs H Q _ => ∃ (x : V) (lo hi : Int), vs = [x, .int lo, .int hi] ∧ ((∃ i, x = .int i ∧ Q (.bl (decide (lo ≤ i) && decide (i ≤ hi))) H) ∨ (kOdd K H x ∧ Q (.bl false) H))
/-- a rest that is none by m -/
def badR (m : Int) : V → Bool
  | .int i => !(decide (0 ≤ i) && decide (i ≤ m - 1))
  | _ => true
def dtV : V → PyData
  | .int i => .int i
  | .bl b => .bool b
  | .str t => .str t
  | _ => .none
theorem PItm.dp {K : PySem.W.Frag} {H : Hp} {x : V} (h : PItm x) : Dp K H x (dtV x) := by
  rcases h with ⟨i, rfl⟩ | ⟨b, rfl⟩ | rfl
  · exact .int i
  · exact .bl b
  · exact .str _
theorem PItm.ok {x : V} (h : PItm x) : okD 0 (dtV x) := by
  rcases h with ⟨i, rfl⟩ | ⟨b, rfl⟩ | rfl
  · exact okD.int i
  · exact ⟨rfl, Nat.le_refl _⟩
  · exact ⟨by show (PyData.str "1").canLay0 = true; rw [PyData.canLay0] <;> decide +kernel, by show (PyData.str "1").depth ≤ 0; rw [PyData.depth]; exact Nat.le_refl _⟩
theorem PItm.dps {K : PySem.W.Frag} {H : Hp} : ∀ {xs : List V}, (∀ x ∈ xs, PItm x) → DpAll K H xs (xs.map dtV)
  | [], _ => .nil
  | x :: xs, h => .cons (h x List.mem_cons_self).dp (PItm.dps fun y hy => h y (List.mem_cons_of_mem _ hy))
theorem PItm.oks {xs : List V} (h : ∀ x ∈ xs, PItm x) : okD 1 (.list (xs.map dtV)) := okD.lst fun d hd => by
  obtain ⟨x, hx, rfl⟩ := List.mem_map.mp hd
  exact (h x hx).ok
theorem eqvNilA (ds : List PyData) : PyData.eqv (.list ds) (.list []) = decide (ds = []) := by
  cases ds with
  | nil => rfl
  | cons a r =>
    rw [decide_eq_false (List.cons_ne_nil _ _)]
    rw [PyData.eqv, PyData.eqvAll] <;> first | rfl | simp
/-- where a row does not ascend, within its first n steps -/
def downs (l : List Int) (n : Nat) : List Int := ((List.range n).filter fun k => decide (l.getD (k + 1) 0 ≤ l.getD k 0)).map fun k : Nat => 1 + (k : Int)
theorem downs_succ (l : List Int) (n : Nat) : downs l (n + 1) = downs l n ++ (if decide (l.getD (n + 1) 0 ≤ l.getD n 0) = true then [1 + (n : Int)] else []) := by
  unfold downs
  rw [List.range_succ, List.filter_append, List.map_append]
  by_cases e : decide (l.getD (n + 1) 0 ≤ l.getD n 0) = true
  · rw [if_pos e, List.filter_cons_of_pos (by exact e)]
    rfl
  · rw [if_neg e, List.filter_cons_of_neg (by exact e)]
    rfl
theorem downs_len (l : List Int) (n : Nat) : (downs l n).length ≤ n := by
  unfold downs
  rw [List.length_map]
  exact Nat.le_trans (List.length_filter_le _ _) (by rw [List.length_range]; exact Nat.le_refl _)
theorem up_steps {l : List Int} (h : ∀ k, k + 1 < l.length → l.getD k 0 < l.getD (k + 1) 0) : l.Pairwise (· < ·) := by
  rw [List.pairwise_iff_getElem]
  intro i j hi hj hij
  have key : ∀ d i, (hd : i + d + 1 < l.length) → l.getD i 0 < l.getD (i + d + 1) 0 := by
    intro d
    induction d with
    | zero => intro i hd; exact h i hd
    | succ d ih =>
      intro i hd
      have h1 := ih i (by omega)
      have h2 := h (i + d + 1) (by omega)
      have e : i + (d + 1) + 1 = i + d + 1 + 1 := by omega
      rw [e]
      omega
  have := key (j - i - 1) i (by omega)
  rw [show i + (j - i - 1) + 1 = j by omega] at this
  rw [List.getD_eq_getElem?_getD, List.getD_eq_getElem?_getD, List.getElem?_eq_getElem hi, List.getElem?_eq_getElem hj] at this
  exact this
theorem downs_nil {l : List Int} : downs l (l.length - 1) = [] ↔ l.Pairwise (· < ·) := by
  unfold downs
  rw [List.map_eq_nil_iff, List.filter_eq_nil_iff]
  constructor
  · intro h
    refine up_steps fun k hk => ?_
    have := h k (List.mem_range.mpr (by omega))
    rw [decide_eq_true_iff] at this
    omega
  · intro h k hk
    rw [List.pairwise_iff_getElem] at h
    have hk := List.mem_range.mp hk
    have := h k (k + 1) (by omega) (by omega) (by omega)
    rw [List.getD_eq_getElem?_getD, List.getD_eq_getElem?_getD, List.getElem?_eq_getElem (by omega), List.getElem?_eq_getElem (by omega), decide_eq_true_iff]
    show ¬ l[k + 1] ≤ l[k]
    omega
/-- rests that are all in order stand as ints -/
theorem all_ints {m : Int} : ∀ {zs : List V}, zs.filter (badR m) = [] → ∃ l : List Int, zs = l.map V.int ∧ ∀ r ∈ l, 0 ≤ r ∧ r < m
  | [], _ => ⟨[], rfl, fun r h => by cases h⟩
  | z :: zs, h => by
    have hz : ¬ badR m z = true := fun e => by
      rw [List.filter_cons_of_pos e] at h
      cases h
    rw [List.filter_cons_of_neg hz] at h
    obtain ⟨l, rfl, hl⟩ := all_ints h
    cases z with
    | int i =>
      refine ⟨i :: l, rfl, fun r hr => ?_⟩
      rcases List.mem_cons.mp hr with rfl | hr
      · have hz' : ¬ (!(decide (0 ≤ r) && decide (r ≤ m - 1))) = true := hz
        rw [Bool.not_eq_true', Bool.not_eq_false, Bool.and_eq_true, decide_eq_true_iff, decide_eq_true_iff] at hz'
        omega
      · exact hl r hr
    | _ => exact absurd rfl hz
theorem asc_bad {m : Int} : ∀ {zs : List V} {lo : Int}, 0 ≤ lo → zs.filter (badR m) ≠ [] → ascV m lo zs = false
  | [], _, _, h => absurd rfl h
  | z :: zs, lo, hlo, h => by
    cases z with
    | int i =>
      rw [ascV_int]
      by_cases c : (decide (lo ≤ i) && decide (i ≤ m - 1)) = true
      · rw [c, Bool.true_and]
        rw [Bool.and_eq_true, decide_eq_true_iff, decide_eq_true_iff] at c
        refine asc_bad (by omega) ?_
        rwa [List.filter_cons_of_neg] at h
        show ¬ (!(decide (0 ≤ i) && decide (i ≤ m - 1))) = true
        rw [decide_eq_true (by omega), decide_eq_true c.2]
        decide
      · rw [Bool.not_eq_true] at c
        rw [c, Bool.false_and]
    | _ => rfl
theorem takeFilter' {α : Type} {p : α → Bool} {xs : List α} {j : Nat} {x : α} (h : xs[j]? = some x) : (xs.take (j + 1)).filter p = (xs.take j).filter p ++ (if p x = true then [x] else []) := by
  rw [takeSucc h, List.filter_append]
  by_cases e : p x = true
  · rw [if_pos e, List.filter_cons_of_pos e]
    rfl
  · rw [if_neg e, List.filter_cons_of_neg e]
    rfl
def sp_l_bad (K : PySem.W.Frag) : Sp := fun vs H Q _ => ∃ y : V, vs = [y] ∧ ((Bar1 K H y ∧ ∀ H', Same H H' → Q (.bl false) H') ∨ (NoBar K H y ∧ ∀ H', Same H H' → Q (.bl true) H'))
section
variable {P : Program} [POk P FILE] {w : World} {K : PySem.W.Frag} {mg : Str → Option Value} {base : Heap}
theorem ok_l_is_whole (T : Txt K mg) : FnOk P w K mg base CX0 2 T.f_l_is_whole T.fd_l_is_whole ["_law_value", "_law_low", "_law_high"] (sp_l_is_whole K) := by
  refine T.F_l_is_whole.ok sc_l_is_whole (fun vs H Q E h => ?_) (fun cdv A outer s H vs Q E hr h => ?_)
  · obtain ⟨x, lo, hi, rfl, _⟩ := h
    rfl
  · obtain ⟨x, lo, hi, rfl, h⟩ := h
    refine ⟨_, (pss_one (ps_ret (pe_and (pe_callB call_isi (by rfl) T.z_isinstance (by decide +kernel) (pa_cons (pv 0) (pa_cons (pe_bltn (v := .ty "int") (by rfl) T.z_int (by decide +kernel) rfl) pa_nil))) (pe_and (pe_not (pe_callB call_isi (by rfl) T.z_isinstance (by decide +kernel) (pa_cons (pv 0) (pa_cons (pe_bltn (v := .ty "bool") (by rfl) T.z_bool (by decide +kernel) rfl) pa_nil)))) (pe_one (pe_chain op_le op_le (pv 1) (pv 0) (pv 2))))))), ?_⟩
    rcases h with ⟨x, rfl, q⟩ | ⟨⟨b, rfl⟩ | ⟨t, ht, hk⟩, q⟩
    · refine ⟨_, rfl, _, _, _, _, _, rfl, .ty "int", .base (.int x), kit_ty (r := true) (by decide +kernel), true, rfl, iteT ?_⟩
      refine ⟨_, rfl, _, _, _, _, _, rfl, .ty "bool", .base (.int x), kit_ty (r := false) (by decide +kernel), false, rfl, true, rfl, iteT ?_⟩
      refine ⟨_, rfl, _, rfl, _, _, rfl, rfl, _, rfl, ?_⟩
      by_cases h : lo ≤ x
      · rw [decide_eq_true h] at q ⊢
        exact iteT ⟨_, rfl, _, _, rfl, rfl, q⟩
      · rw [decide_eq_false h] at q ⊢
        exact iteF q
    · refine ⟨_, rfl, _, _, _, _, _, rfl, .ty "int", .base (.bl b), kit_ty (r := true) (by decide +kernel), true, rfl, iteT ?_⟩
      exact ⟨_, rfl, _, _, _, _, _, rfl, .ty "bool", .base (.bl b), kit_ty (r := true) (by decide +kernel), true, rfl, false, rfl, iteF q⟩
    · exact ⟨_, rfl, _, _, _, _, _, rfl, .ty "int", ht, kit_ty (r := false) hk, false, rfl, iteF q⟩
theorem ok_l_bad (T : Txt K mg) : FnOk P w K mg base CX0 3 T.f_l_bad T.fd_l_bad ["_law_one"] (sp_l_bad K) := by
  refine T.F_l_bad.ok sc_l_bad (fun vs H Q E h => ?_) (fun cdv A outer s H vs Q E hr h => ?_)
  · obtain ⟨y, rfl, _⟩ := h
    rfl
  · obtain ⟨y, rfl, h⟩ := h
    refine ⟨_, (pss_cons (ps_if (PW.pt (pw_or (pt_not (pt_val (pe_callB call_isi (by rfl) T.z_isinstance (by decide +kernel) (pa_cons (pv 0) (pa_cons (pe_bltn (v := .ty "tuple") (by rfl) T.z_tuple (by decide +kernel) rfl) pa_nil))))) (pw_or (pt_cmpR op_ne (pe_callB call_len_seq (by rfl) T.z_len (by decide +kernel) (pa_cons (pv 0) pa_nil)) pe_int (nomark _)) (pw_or1 (pt_not (pt_val (pe_call (ok_l_is_whole (P := P) T) (hr.mono (by decide)) (by rfl) T.g_l_is_whole T.F_l_is_whole.kp T.b_l_is_whole .nil pass0 (pa_cons (pe_ix ix_tup (pv 0) pe_int (fun _ _ => rfl)) (pa_cons pe_int (pa_cons pe_int pa_nil)))))))))) (pss_one (ps_ret pe_bl)) pss_nil)
      (pss_cons (ps_if (PW.pt (pw_or (pt_not (pt_val (pe_callB call_isi (by rfl) T.z_isinstance (by decide +kernel) (pa_cons (pe_ix ix_tup (pv 0) pe_int (fun _ _ => rfl)) (pa_cons (pe_bltn (v := .ty "tuple") (by rfl) T.z_tuple (by decide +kernel) rfl) pa_nil))))) (pw_or1 (pt_cmpR op_gt (pe_callB call_len_seq (by rfl) T.z_len (by decide +kernel) (pa_cons (pe_ix ix_tup (pv 0) pe_int (fun _ _ => rfl)) pa_nil)) pe_int (nomark _))))) (pss_one (ps_ret pe_bl)) pss_nil)
      (pss_cons (ps_if (pt_cmpR (op_neD hr.units) (pe_lc (own := [("_law_rest", 1)]) rfl sc_l_bad.nd (pi_tup (pe_ix (r := rIxT K) ix_tup (pv 0) pe_int (fun _ _ => rfl))) (blkOk_by (N := ["_law_one", "_law_rest", "_law_k"]) (sc := defScope s_l_bad) (by decide +kernel)) (fun _ _ _ _ _ => (pg_name (i := 1) sc_l_bad.nd rfl (by first | exact .inl rfl | exact .inr rfl))) (fun _ _ _ _ _ => (pts_one (pt_not (pt_val (pe_call (ok_l_is_whole (P := P) T) (hr.mono (by decide)) (by rfl) T.g_l_is_whole T.F_l_is_whole.kp T.b_l_is_whole .nil pass0 (pa_cons (pv 1) (pa_cons pe_int (pa_cons (pe_op op_sub (pe_ix (r := rIxT K) ix_tup (pv 0) pe_int (fun _ _ => rfl)) pe_int) pa_nil)))))))) (fun _ _ _ _ _ => (pv 1))) (pe_lst pa_nil) (nomark _)) (pss_one (ps_ret pe_bl)) pss_nil)
      (pss_one (ps_ret (pe_cmpR (op_neD hr.units) (pe_lc (own := [("_law_k", 2)]) rfl sc_l_bad.nd (pi_range2 (by rfl) T.z_range (pa_cons pe_int (pa_cons (pe_callB (r := rLenK K) call_len_seq (by rfl) T.z_len (by decide +kernel) (pa_cons (pe_ix (r := rIxT K) ix_tup (pv 0) pe_int (fun _ _ => rfl)) pa_nil)) pa_nil))) (blkOk_by (N := ["_law_one", "_law_rest", "_law_k"]) (sc := defScope s_l_bad) (by decide +kernel)) (fun _ _ _ _ _ => (pg_name (i := 2) sc_l_bad.nd rfl (by first | exact .inl rfl | exact .inr rfl))) (fun _ _ _ _ _ => (pts_one (pt_cmpR op_le (pe_ix (r := rIxT K) ix_tup (pe_ix (r := rIxT K) ix_tup (pv 0) pe_int (fun _ _ => rfl)) (pv 2) (fun _ _ => rfl)) (pe_ix (r := rIxT K) ix_tup (pe_ix (r := rIxT K) ix_tup (pv 0) pe_int (fun _ _ => rfl)) (pe_op op_sub (pv 2) pe_int) (fun _ _ => rfl)) (nomark _)))) (fun _ _ _ _ _ => (pv 2))) (pe_lst pa_nil) (nomark _))))))), ?_⟩
    have h2 : (NotTup K H y ∧ ∀ H', Same H H' → Q (.bl true) H') ∨ ∃ a xs, y = .ref a ∧ SqT K H a xs ∧ ((xs.length ≠ 2 ∧ ∀ H', Same H H' → Q (.bl true) H') ∨ ∃ u z, xs = [u, z] ∧ PItm u ∧
        ((NotTup K H z ∧ ∀ H', Same H H' → Q (.bl true) H') ∨ ∃ c zs, z = .ref c ∧ SqT K H c zs ∧ (∀ w ∈ zs, PItm w) ∧ ∀ H', Same H H' → Q (.bl (!barV u zs)) H')) := by
      rcases h with ⟨⟨b, hb, ob⟩, q⟩ | ⟨nt | ⟨a, xs, e, ta, l | ⟨u, z, ex, iu, nz | ⟨c, zs, ez, tz, iz, bv⟩⟩⟩, q⟩
      · obtain ⟨a, x, e, ta, ⟨c, ex, tc⟩⟩ := hb.ex
        refine .inr ⟨a, _, e, ta, .inr ⟨_, _, rfl, .inl ⟨_, rfl⟩, .inr ⟨c, _, ex, tc, PItm.ints _, ?_⟩⟩⟩
        rw [ob.bar]
        exact q
      · exact .inl ⟨nt, q⟩
      · exact .inr ⟨a, xs, e, ta, .inl ⟨l, q⟩⟩
      · exact .inr ⟨a, xs, e, ta, .inr ⟨u, z, ex, iu, .inl ⟨nz, q⟩⟩⟩
      · refine .inr ⟨a, xs, e, ta, .inr ⟨u, z, ex, iu, .inr ⟨c, zs, ez, tz, iz, ?_⟩⟩⟩
        rw [bv]
        exact q
    clear h
    rcases h2 with ⟨⟨t, ht, hk⟩, q⟩ | ⟨a, xs, rfl, ta, ⟨l, q⟩ | ⟨u, z, rfl, iu, h⟩⟩
    · exact ⟨_, rfl, _, _, _, _, _, rfl, .ty "tuple", ht, kit_ty (r := false) hk, false, rfl, iteT (q _ (Same.refl _))⟩
    · refine ⟨_, rfl, _, _, _, _, _, rfl, .ty "tuple", tyTup ta, kit_ty (r := true) (by decide +kernel), true, rfl, iteF ?_⟩
      refine ⟨_, rfl, a, _, rfl, .inr ta, rfl, _, rfl, ?_⟩
      rw [decide_eq_false (fun e => by have := V.int.inj e; omega)]
      exact iteT (q _ (Same.refl _))
    · refine ⟨_, rfl, _, _, _, _, _, rfl, .ty "tuple", tyTup ta, kit_ty (r := true) (by decide +kernel), true, rfl, iteF ?_⟩
      refine ⟨_, rfl, a, _, rfl, .inr ta, rfl, _, rfl, iteF ?_⟩
      refine ⟨_, rfl, a, _, _, _, rfl, rfl, ta, atI_nat (j := 0) rfl, _, _, _, rfl, ?_⟩
      have odd : (∀ i, u ≠ .int i) → ∀ H', Same H H' → Q (.bl true) H' := fun ni => by
        rcases h with ⟨_, q⟩ | ⟨c, zs, rfl, tz, iz, q⟩
        · exact q
        · rw [barV_ni ni] at q
          exact q
      rcases iu with ⟨m, rfl⟩ | ⟨b, rfl⟩ | rfl
      rotate_left
      · exact .inr ⟨.inl ⟨b, rfl⟩, false, rfl, iteT (odd (fun i z => nomatch z) _ (Same.refl _))⟩
      · exact .inr ⟨.inr ⟨"str", .base (.str _), by decide +kernel⟩, false, rfl, iteT (odd (fun i z => nomatch z) _ (Same.refl _))⟩
      refine .inl ⟨m, rfl, _, rfl, ?_⟩
      by_cases hm : (decide (1 ≤ m) && decide (m ≤ 1000000)) = true
      rotate_left
      · rw [Bool.not_eq_true] at hm
        rw [hm]
        refine iteT ?_
        rcases h with ⟨_, q⟩ | ⟨c, zs, rfl, tz, iz, q⟩
        · exact q _ (Same.refl _)
        · have e : barV (.int m) zs = false := by
            show ((decide (1 ≤ m) && decide (m ≤ 1000000)) && _) = false
            rw [hm]
            rfl
          rw [e] at q
          exact q _ (Same.refl _)
      rw [hm]
      have bz : ∀ zs, barV (.int m) zs = (ascV m 0 zs && decide (zs.length ≤ 60)) := fun zs => by
        show ((decide (1 ≤ m) && decide (m ≤ 1000000)) && _) = _
        rw [hm]
        rfl
      rw [Bool.and_eq_true, decide_eq_true_iff, decide_eq_true_iff] at hm
      refine iteF ⟨_, rfl, a, _, _, _, rfl, rfl, ta, atI_nat (j := 1) rfl, ?_⟩
      rcases h with ⟨⟨t, ht, hk⟩, q⟩ | ⟨c, zs, rfl, tz, iz, q⟩
      · exact ⟨_, _, _, _, _, rfl, .ty "tuple", ht, kit_ty (r := false) hk, false, rfl, iteT (q _ (Same.refl _))⟩
      rw [bz] at q
      refine ⟨_, _, _, _, _, rfl, .ty "tuple", tyTup tz, kit_ty (r := true) (by decide +kernel), true, rfl, iteF ?_⟩
      refine ⟨_, rfl, a, _, _, _, rfl, rfl, ta, atI_nat (j := 1) rfl, c, _, rfl, .inr tz, _, _, rfl, rfl, _, rfl, ite2 (fun e => ?_) (fun e => ?_)⟩
      · have e' := of_decide_eq_true e
        rw [decide_eq_false (by omega), Bool.and_false] at q
        exact q _ (Same.refl _)
      have l60 : zs.length ≤ 60 := by
        have e' : ¬ (60 : Int) < (zs.length : Int) := fun h => e (decide_eq_true h)
        omega
      rw [decide_eq_true l60, Bool.and_true] at q
      refine ⟨_, rfl, a, _, _, _, rfl, rfl, ta, atI_nat (j := 1) rfl, c, rfl, ⟨_, tz⟩, fun D nD => ?_⟩
      have sD := same_upd nD (o := .lst [])
      refine lc_tup (K := K) (a := c) (xs := zs) (fun j Hj => Hj D = some (.lst ((zs.take j).filter (badR m))) ∧ Same H Hj) ⟨upd_same, sD⟩ (fun j Hj _ ⟨_, sj⟩ => Same.seqTT sj tz) ?_ ?_
      · rintro j y Hj hj ⟨eD, sj⟩
        have add := takeFilter' (p := badR m) hj
        have few : ((zs.take j).filter (badR m)).length < sizeLine := by
          have := List.length_filter_le (badR m) (zs.take j)
          rw [List.length_take] at this
          exact sizeLt (by omega)
        refine ⟨rfl, _, rfl, _, rfl, a, _, _, _, rfl, rfl, Same.seqTT sj ta, atI_nat (j := 0) rfl, _, _, rfl, rfl, _, _, _, rfl, ?_⟩
        rcases iz y (List.mem_of_getElem? hj) with ⟨i, rfl⟩ | ⟨b, rfl⟩ | rfl
        · refine .inl ⟨i, rfl, _, rfl, ?_⟩
          have eb : badR m (.int i) = !(decide (0 ≤ i) && decide (i ≤ m - 1)) := rfl
          have eb' : (decide (0 ≤ i) && decide (i ≤ m - 1)) = !badR m (.int i) := by rw [eb, Bool.not_not]
          rw [eb']
          by_cases cb : badR m (.int i) = true
          · rw [cb]
            rw [if_pos cb] at add
            exact iteT ⟨_, rfl, _, eD, few, by rw [upd_same, add], samePut sj nD⟩
          · rw [if_neg cb, List.append_nil] at add
            rw [Bool.not_eq_true] at cb
            rw [cb]
            exact iteF ⟨by rw [add]; exact eD, sj⟩
        · rw [if_pos (show badR m (V.bl b) = true from rfl)] at add
          exact .inr ⟨.inl ⟨b, rfl⟩, false, rfl, iteT ⟨_, rfl, _, eD, few, by rw [upd_same, add], samePut sj nD⟩⟩
        · rw [if_pos (show badR m (V.str "1") = true from rfl)] at add
          exact .inr ⟨.inr ⟨"str", .base (.str _), by decide +kernel⟩, false, rfl, iteT ⟨_, rfl, _, eD, few, by rw [upd_same, add], samePut sj nD⟩⟩
      · rintro Hd ⟨eD, sd⟩
        rw [List.take_length] at eD
        have ib : ∀ x ∈ zs.filter (badR m), PItm x := fun x hx => iz x (List.mem_filter.mp hx).1
        refine ⟨Nat.zero_le _, fun e0 ne0 => ?_⟩
        have se := same_upd ne0 (o := .lst [])
        refine ⟨_, _, .lst (lstOf (se _ _ eD)) (PItm.dps ib), .lst (lstOf upd_same) .nil, (PItm.oks ib).shaped (by decide), by decide, _, rfl, ?_⟩
        rw [eqvNilA]
        have sH := sd.trans se
        by_cases cn : zs.filter (badR m) = []
        rotate_left
        · rw [decide_eq_false (fun z => cn (List.map_eq_nil_iff.mp z))]
          rw [asc_bad (Int.le_refl 0) cn] at q
          exact iteT (q _ sH)
        rw [cn, List.map_nil, decide_eq_true rfl]
        obtain ⟨l, rfl, hl⟩ := all_ints cn
        rw [List.length_map] at l60
        have tz2 := Same.seqTT sH tz
        have ta2 := Same.seqTT sH ta
        have nn := ne0
        generalize upd Hd e0 (.lst []) = H2 at sH tz2 ta2 ⊢
        refine iteF ⟨_, rfl, a, _, _, _, rfl, rfl, ta2, atI_nat (j := 1) rfl, c, _, rfl, .inr tz2, 1, (((l.map V.int).length : Nat) : Int), rfl, ⟨by decide, by decide, by omega, by rw [List.length_map]; omega⟩, fun F nF => ?_⟩
        rw [List.length_map, show (((l.length : Nat) : Int) - 1).toNat = l.length - 1 by omega]
        have gl : ∀ k, k < l.length → l[k]? = some (l.getD k 0) := fun k hk => by
          rw [List.getD_eq_getElem?_getD, List.getElem?_eq_getElem hk]
          rfl
        refine lc_range (lo := 1) (n := l.length - 1) (fun k Hk => Hk F = some (.lst ((downs l k).map V.int)) ∧ Same H2 Hk) ⟨upd_same, same_upd nF⟩ ?_ ?_
        · rintro k Hk hk ⟨eF, sk⟩
          have ta3 := Same.seqTT sk ta2
          have tz3 := Same.seqTT sk tz2
          have g1 := gl (k + 1) (by omega)
          have g0 := gl k (by omega)
          refine ⟨rfl, _, rfl, a, _, _, _, rfl, rfl, ta3, atI_nat (j := 1) rfl, _, rfl, c, _, _, _, rfl, rfl, tz3, by rw [show (1 : Int) + (k : Int) = ((k + 1 : Nat) : Int) by omega]; exact atI_nat (j := k + 1) (by rw [List.getElem?_map, g1]; rfl), _, rfl, a, _, _, _, rfl, rfl, ta3, atI_nat (j := 1) rfl, _, rfl, _, _, rfl, rfl, c, _, _, _, rfl, rfl, tz3, by rw [show (1 : Int) + (k : Int) - 1 = ((k : Nat) : Int) by omega]; exact atI_nat (j := k) (by rw [List.getElem?_map, g0]; rfl), _, _, rfl, rfl, _, rfl, ?_⟩
          rw [downs_succ]
          refine ite2 (fun e => ?_) (fun e => ?_)
          · rw [if_pos e]
            refine ⟨_, rfl, _, eF, ?_, ?_, samePut sk nF⟩
            · have := downs_len l k
              rw [List.length_map]
              exact sizeLt (by omega)
            · rw [upd_same, List.map_append]
              rfl
          · rw [if_neg e, List.append_nil]
            exact ⟨eF, sk⟩
        · rintro H3 ⟨eF, s3⟩
          refine ⟨Nat.zero_le _, fun e1 ne1 => ?_⟩
          have sf := same_upd ne1 (o := .lst [])
          refine ⟨_, _, dpLst (lstOf (sf _ _ eF)), .lst (lstOf upd_same) .nil, (okD.lst (okInts _)).shaped (by decide), by decide, ?_⟩
          rw [eqvNilA]
          have e : ascV m 0 (l.map V.int) = decide ((downs l (l.length - 1)).map PyData.int = []) := by
            rw [Bool.eq_iff_iff, decide_eq_true_iff, List.map_eq_nil_iff, downs_nil, ascV_iff]
            exact ⟨fun h => h.1, fun h => ⟨h, fun r hr => (hl r hr).1, fun r hr => (hl r hr).2⟩⟩
          rw [← e]
          exact q _ (sH.trans (s3.trans sf))
end

end R
namespace R
open PySem PySem.Spec PyProof.Rows L2
def tellsQ (H : Hp) (m : Str) (w : V) (Q : VK) : Prop := ∀ l H', Same H H' → H' l = some (.lst [.str m, w]) → Q (.ref l) H'
def sp_l_due (K : PySem.W.Frag) : Sp := fun vs H Q _ => ∃ v : V, vs = [v] ∧ ((∃ w, BadB K H v w ∧ tellsQ H "bars" w Q) ∨ ∃ bs, BarsAt K H v bs ∧ PreOk bs ∧ ∀ H', Same H H' → Q .non H')
def sp_l_told_there (K : PySem.W.Frag) (C : Addr) : Sp := fun vs H Q _ => ∃ v : V, vs = [v] ∧ ((∃ w, BadB K H v w ∧ tellsQ H "bars" w Q) ∨ ∃ bs, BarsAt K H v bs ∧ SvOk bs ∧ ∀ p t H', Same H H' → SvAt K C H' p v t bs → Q (.ref p) H')
section
variable {P : Program} [POk P FILE] {w : World} {K : PySem.W.Frag} {mg : Str → Option Value} {base : Heap}
theorem ok_l_due (T : Txt K mg) : FnOk P w K mg base CX0 4 T.f_l_due T.fd_l_due ["_law_bars_here"] (sp_l_due K) := by
  refine T.F_l_due.ok sc_l_due (fun vs H Q E h => ?_) (fun cdv A outer s H vs Q E hr h => ?_)
  · obtain ⟨v, rfl, _⟩ := h
    rfl
  · obtain ⟨v, rfl, h⟩ := h
    refine ⟨_, (pss_cons (ps_if (PW.pt (pw_or (pt_not (pt_val (pe_callB call_isi (by rfl) T.z_isinstance (by decide +kernel) (pa_cons (pv 0) (pa_cons (pe_bltn (v := .ty "tuple") (by rfl) T.z_tuple (by decide +kernel) rfl) pa_nil))))) (pw_or1 (pt_cmpR op_gt (pe_callB call_len_seq (by rfl) T.z_len (by decide +kernel) (pa_cons (pv 0) pa_nil)) pe_int (nomark _))))) (pss_one (ps_ret (pe_lst (pa_cons pe_str (pa_cons pe_non pa_nil))))) pss_nil)
      (pss_cons (ps_setLc (i := 1) (own := [("_law_k", 2)]) rfl sc_l_due.nd rfl rfl (sw_true rfl rfl rfl (by decide +kernel)) (pi_range1 (by rfl) T.z_range (pa_cons (pe_callB (r := rLenK K) call_len_seq (by rfl) T.z_len (by decide +kernel) (pa_cons (pv 0) pa_nil)) pa_nil)) (blkOk_by (N := ["_law_bars_here", "_law_faults", "_law_k"]) (sc := defScope s_l_due) (by decide +kernel)) (fun _ _ _ _ _ => (pg_name (i := 2) sc_l_due.nd rfl (by first | exact .inl rfl | exact .inr rfl))) (fun _ _ _ _ _ => (pts_one (pt_val (pe_call (ok_l_bad (P := P) T) (hr.mono (by decide)) (by rfl) T.g_l_bad T.F_l_bad.kp T.b_l_bad .nil pass0 (pa_cons (pe_ix (r := rIxT K) ix_tup (pv 0) (pv 2) (fun _ _ => rfl)) pa_nil))))) (fun _ _ _ _ _ => (pv 2)))
      (pss_one (ps_ret (pe_ifExp (pt_cmpR (op_neD hr.units) (pv 1) (pe_lst pa_nil) (nomark _)) (pe_lst (pa_cons pe_str (pa_cons (pe_ix ix_list (pv 1) pe_int (fun _ _ => rfl)) pa_nil))) pe_non))))), ?_⟩
    rcases h with ⟨w, ⟨⟨t, ht, hk⟩, rfl⟩ | ⟨a, xs, rfl, ta, ⟨l, rfl⟩ | ⟨i0, F, rfl⟩⟩, tl⟩ | ⟨bs, B, S, q⟩
    · refine ⟨_, rfl, _, _, _, _, _, rfl, .ty "tuple", ht, kit_ty (r := false) hk, false, rfl, iteT ?_⟩
      exact ⟨sizeOk (by show (2 : Nat) ≤ 100000; decide), fun l nl => tl l _ (same_upd nl) upd_same⟩
    · refine ⟨_, rfl, _, _, _, _, _, rfl, .ty "tuple", tyTup ta, kit_ty (r := true) (by decide +kernel), true, rfl, iteF ?_⟩
      refine ⟨_, rfl, a, _, rfl, .inr ta, _, _, rfl, rfl, _, rfl, ?_⟩
      rw [decide_eq_true (by omega)]
      exact iteT ⟨sizeOk (by show (2 : Nat) ≤ 100000; decide), fun l nl => tl l _ (same_upd nl) upd_same⟩
    · have six := F.six
      have lt := F.lt
      refine ⟨_, rfl, _, _, _, _, _, rfl, .ty "tuple", tyTup ta, kit_ty (r := true) (by decide +kernel), true, rfl, iteF ?_⟩
      refine ⟨_, rfl, a, _, rfl, .inr ta, _, _, rfl, rfl, _, rfl, ?_⟩
      rw [decide_eq_false (by omega)]
      refine iteF ⟨_, rfl, a, _, rfl, .inr ta, _, rfl, by omega, by omega, fun D nD => ?_⟩
      rw [Int.toNat_natCast]
      refine lc_range (lo := 0) (n := xs.length) (fun j Hj => ∃ fs : List Int, Hj D = some (.lst (fs.map V.int)) ∧ (j ≤ i0 → fs = []) ∧ (i0 < j → fs[0]? = some (i0 : Int)) ∧ fs.length ≤ j ∧ Same H Hj) ⟨[], upd_same, fun _ => rfl, fun h => absurd h (Nat.not_lt_zero _), Nat.le_refl _, same_upd nD⟩ ?_ ?_
      · rintro j Hj hj ⟨fs, eD, f1, f2, fl, sj⟩
        have ex : xs[j]? = some xs[j] := List.getElem?_eq_getElem hj
        have tj := Same.seqTT sj ta
        refine ⟨rfl, _, rfl, _, rfl, a, _, _, _, rfl, rfl, tj, by rw [Int.zero_add]; exact atI_nat ex, _, rfl, ?_⟩
        by_cases c : j < i0
        · refine .inl ⟨(F.ok j _ c ex).same sj, fun H' s' => ⟨_, rfl, iteF ?_⟩⟩
          exact ⟨fs, s' _ _ eD, fun _ => f1 (by omega), fun h => absurd h (by omega), by omega, sj.trans s'⟩
        · have add : ∀ H', Same Hj H' → ∃ acc, H' D = some (.lst acc) ∧ acc.length < sizeLine ∧ ∃ gs : List Int, upd H' D (.lst (acc ++ [V.int (0 + (j : Int))])) D = some (.lst (gs.map V.int)) ∧ (j + 1 ≤ i0 → gs = []) ∧ (i0 < j + 1 → gs[0]? = some (i0 : Int)) ∧ gs.length ≤ j + 1 ∧ Same H (upd H' D (.lst (acc ++ [V.int (0 + (j : Int))]))) := fun H' s' => by
            refine ⟨_, s' _ _ eD, by rw [List.length_map]; exact sizeLt (by omega), fs ++ [(j : Int)], by rw [upd_same, List.map_append, Int.zero_add]; rfl, fun h => absurd h (by omega), fun _ => ?_, by rw [List.length_append, List.length_singleton]; omega, samePut (sj.trans s') nD⟩
            by_cases d : i0 < j
            · have := f2 d
              rw [List.getElem?_append_left (List.getElem?_eq_some_iff.mp this).1]
              exact this
            · have : j = i0 := by omega
              subst this
              rw [f1 (Nat.le_refl _)]
              rfl
          by_cases d : j = i0
          · subst d
            refine .inr ⟨(F.bad _ ex).same sj, fun H' s' => ⟨_, rfl, iteT ⟨_, rfl, add H' s'⟩⟩⟩
          · rcases F.any j _ ex with b | b
            · refine .inl ⟨b.same sj, fun H' s' => ⟨_, rfl, iteF ?_⟩⟩
              exact ⟨fs, s' _ _ eD, fun h => absurd h (by omega), fun _ => f2 (by omega), by omega, sj.trans s'⟩
            · exact .inr ⟨b.same sj, fun H' s' => ⟨_, rfl, iteT ⟨_, rfl, add H' s'⟩⟩⟩
      · rintro Hd ⟨fs, eD, f1, f2, fl, sd⟩
        have f0 := f2 lt
        refine ⟨_, rfl, Nat.zero_le _, fun e ne => ?_⟩
        have se := same_upd ne (o := .lst [])
        refine ⟨_, _, dpLst (lstOf (se _ _ eD)), .lst (lstOf upd_same) .nil, (okD.lst (okInts _)).shaped (by decide), by decide, _, rfl, ?_⟩
        rw [eqvNilA, decide_eq_false (fun z => by rw [List.map_eq_nil_iff.mp z] at f0; cases f0)]
        refine iteT ⟨_, rfl, D, _, _, _, rfl, rfl, lstOf (se _ _ eD), atI_nat (j := 0) (by rw [List.getElem?_map, f0]; rfl), sizeOk (by show (2 : Nat) ≤ 100000; decide), fun l nl => ?_⟩
        exact tl l _ ((sd.trans se).trans (same_upd nl)) upd_same
    · obtain ⟨a, xs, rfl, ta, nx, hx⟩ := B.ex
      have six := S.six
      refine ⟨_, rfl, _, _, _, _, _, rfl, .ty "tuple", tyTup ta, kit_ty (r := true) (by decide +kernel), true, rfl, iteF ?_⟩
      refine ⟨_, rfl, a, _, rfl, .inr ta, _, _, rfl, rfl, _, rfl, ?_⟩
      rw [decide_eq_false (by omega)]
      refine iteF ⟨_, rfl, a, _, rfl, .inr ta, _, rfl, by omega, by omega, fun D nD => ?_⟩
      rw [Int.toNat_natCast]
      refine lc_range (lo := 0) (n := xs.length) (fun j Hj => Hj D = some (.lst []) ∧ Same H Hj) ⟨upd_same, same_upd nD⟩ ?_ ?_
      · rintro j Hj hj ⟨eD, sj⟩
        have ex : xs[j]? = some xs[j] := List.getElem?_eq_getElem hj
        have tj := Same.seqTT sj ta
        have eb : bs[j]? = some (bs[j]'(by omega)) := List.getElem?_eq_getElem (by omega)
        refine ⟨rfl, _, rfl, _, rfl, a, _, _, _, rfl, rfl, tj, by rw [Int.zero_add]; exact atI_nat ex, _, rfl, .inl ⟨⟨_, (hx j _ _ ex eb).stay (.same sj), S.bar _ (List.getElem_mem _)⟩, fun H' s' => ⟨_, rfl, iteF ?_⟩⟩⟩
        exact ⟨s' _ _ eD, sj.trans s'⟩
      · rintro Hd ⟨eD, sd⟩
        refine ⟨_, rfl, Nat.zero_le _, fun e ne => ?_⟩
        have se := same_upd ne (o := .lst [])
        refine ⟨_, _, .lst (lstOf (se _ _ eD)) .nil, .lst (lstOf upd_same) .nil, by decide, by decide, _, rfl, ?_⟩
        rw [eqvNilA]
        exact iteF (q _ (sd.trans se))
theorem ok_l_told_there (T : Txt K mg) : FnOk P w K mg base CX0 12 T.f_l_told_there T.fd_l_told_there ["_law_bars_here"] (sp_l_told_there K T.C) := by
  refine T.F_l_told_there.ok sc_l_told_there (fun vs H Q E h => ?_) (fun cdv A outer s H vs Q E hr h => ?_)
  · obtain ⟨v, rfl, _⟩ := h
    rfl
  · obtain ⟨v, rfl, h⟩ := h
    refine ⟨_, (pss_cons (ps_set (i := 1) sc_l_told_there.nd rfl (by first | exact .inl rfl | exact .inr rfl) pe_non)
      (pss_cons (ps_try_as (i := 2) rfl rfl sc_l_told_there.nd rfl rfl ⟨by rfl, by decide, .inl T.g_BadBars⟩ takes0 (fun W pn xe tk po => (pss_one (ps_set (i := 1) sc_l_told_there.nd rfl (by first | exact .inl rfl | exact .inr rfl) (pe_makeS T.mkC (ok_m_Sieve_init (P := P) T) (hr.mono (by decide)) (by rfl) T.g_Sieve T.b_m_Sieve_init (fun σ => passAt tk σ) (pa_cons (pv 0) pa_nil)))))
      (fun a oe cls d pn hz hf => (pss_one (ps_set (i := 1) sc_l_told_there.nd rfl (by first | exact .inl rfl | exact .inr rfl) (pe_ifExp (pt_val (pe_callB (call_isD T.E_BadBars hz hf) (by rfl) T.z_isinstance (by decide +kernel) (pa_cons (pv 2) (pa_cons (pe_glob (v := .ref T.C_RestError) (by rfl) T.g_RestError rfl) pa_nil)))) (pe_lst (pa_cons pe_str (pa_cons (pe_xf T.xf_BadBars T.oc_BadBars.no hz hf (pv 2)) pa_nil))) pe_str)))))
      (pss_one (ps_ret (pv 1))))), ?_⟩
    refine ⟨_, rfl, fun x dx nx ndx _ => make_sieveB nx ndx ?_⟩
    rcases h with ⟨w, bad, tl⟩ | ⟨bs, B, S, q⟩
    · refine .inl ⟨w, bad, fun d H1 s1 nd => ⟨true, T.e_BadBars, fun _ a na => ?_, fun z => nomatch z⟩⟩
      have s2 := s1.trans (same_upd nd (o := .xd [("index", w)]))
      refine ⟨_, rfl, rfl, d, _, rfl, upd_same, .ref T.C_RestError, _, true, rfl, fun u r => r, T.r_BadBars, true, rfl, iteT ?_⟩
      refine ⟨_, rfl, rfl, rfl, d, _, w, rfl, upd_same, by simp [List.lookup], sizeOk (by show (2 : Nat) ≤ 100000; decide), fun l nl => ?_⟩
      exact ⟨_, rfl, tl l _ (s2.trans (same_upd nl)) upd_same⟩
    · exact .inr ⟨bs, B, S, fun t H' s' A => ⟨rfl, _, rfl, q x t H' s' A⟩⟩
end

end R
namespace R
open PySem PySem.Spec PyProof.Rows L2
/-! ## bars taken by times and moved -/
def scB (k o : Int) (b : Bar) : Bar := (b.1 * k, b.2.map fun r => r * k + o)
theorem whPow {N : Nat} : ∀ bs : List Bar, (∀ b ∈ bs, b.1.natAbs ≤ N) → wh bs ≤ N ^ bs.length := by
  refine snocInd (fun _ => by rw [List.length_nil, Nat.pow_zero]; decide) fun bs b ih h => ?_
  rw [wh_add, List.length_append]
  exact Nat.le_trans (lcm_le_mul _ _) (Nat.mul_le_mul (ih fun c hc => h c (List.mem_append_left _ hc)) (h b (List.mem_append_right _ (List.mem_singleton.mpr rfl))))
theorem scB_lot {k o m : Int} {l : List Int} (h : LotOk m l) (k1 : 1 ≤ k) (o0 : 0 ≤ o) (o1 : o < k) : LotOk (m * k) (l.map fun r => r * k + o) := by
  refine ⟨List.pairwise_map.mpr (h.up.imp fun {x y} lt => ?_), fun r hr => ?_, fun r hr => ?_, by rw [List.length_map]; exact h.few⟩
  · have := Int.mul_lt_mul_of_pos_right lt (show 0 < k by omega)
    omega
  · obtain ⟨x, hx, rfl⟩ := List.mem_map.mp hr
    have := Int.mul_nonneg (h.ge x hx) (show 0 ≤ k by omega)
    omega
  · obtain ⟨x, hx, rfl⟩ := List.mem_map.mp hr
    have h1 := h.lt x hx
    have h2 : (x + 1) * k ≤ m * k := Int.mul_le_mul_of_nonneg_right (by omega) (by omega)
    rw [Int.add_mul, Int.one_mul] at h2
    omega
theorem choices_sc (k o : Int) : ∀ bs : List Bar, choices (bs.map (scB k o)) = choices bs := by
  refine snocInd rfl fun bs b ih => ?_
  rw [List.map_append, choices_add, ← ih]
  show choices (bs.map (scB k o) ++ [scB k o b]) = _
  rw [choices_add]
  show _ * max 1 ((b.2.map _).length) = _
  rw [List.length_map]
theorem scB_one (bs : List Bar) : bs.map (scB 1 0) = bs := by
  have h : ∀ b : Bar, scB 1 0 b = b := fun b => by
    unfold scB
    rw [Int.mul_one, show (fun r : Int => r * 1 + 0) = id from funext fun r => by show r * 1 + 0 = r; omega, List.map_id]
  rw [show scB 1 0 = id from funext h, List.map_id]
theorem Drawn.scaled {most top : Nat} {bs : List Bar} {k o : Int} (D : Drawn most top bs) (h6 : most ≤ 3) (ht : top ≤ 60) (k1 : 1 ≤ k) (k2 : k ≤ 60) (o0 : 0 ≤ o) (o1 : o < k) :
    SvOk (bs.map (scB k o)) ∧ ∀ b ∈ bs.map (scB k o), 1 ≤ b.1 ∧ b.1 ≤ (top : Int) * k := by
  have mods : ∀ b ∈ bs.map (scB k o), 1 ≤ b.1 ∧ b.1 ≤ (top : Int) * k := fun b hb => by
    obtain ⟨c, hc, rfl⟩ := List.mem_map.mp hb
    obtain ⟨c1, c2, _⟩ := D.bar c hc
    have h1 : 1 * 1 ≤ c.1 * k := Int.mul_le_mul c1 k1 (by decide) (by omega)
    have h2 : c.1 * k ≤ (top : Int) * k := Int.mul_le_mul_of_nonneg_right c2 (by omega)
    exact ⟨by show 1 ≤ c.1 * k; omega, h2⟩
  have top60 : (top : Int) * k ≤ 60 * 60 := Int.mul_le_mul (by omega) k2 (by omega) (by decide)
  have len : (bs.map (scB k o)).length ≤ 3 := by
    rw [List.length_map]
    exact Nat.le_trans D.len h6
  refine ⟨⟨by omega, fun b hb => ?_, ?_, by rw [choices_sc]; exact D.many⟩, mods⟩
  · obtain ⟨h1, h2⟩ := mods b hb
    refine ⟨h1, by omega, ?_⟩
    obtain ⟨c, hc, rfl⟩ := List.mem_map.mp hb
    exact scB_lot (D.bar c hc).2.2 k1 o0 o1
  · have h := whPow (N := 3600) (bs.map (scB k o)) fun b hb => by have := mods b hb; omega
    exact Nat.le_trans h (Nat.le_trans (Nat.pow_le_pow_right (by decide) len) (by decide))
/-- a list of bars under way -/
structure BarLst (K : PySem.W.Frag) (H : Hp) (D : Addr) (bs : List Bar) : Prop where
  ex : ∃ ys : List V, H D = some (.lst ys) ∧ ys.length = bs.length ∧ ∀ (i : Nat) x b, ys[i]? = some x → bs[i]? = some b → BarAt K H x b
theorem BarLst.nil {K : PySem.W.Frag} {H : Hp} {D : Addr} (h : H D = some (.lst [])) : BarLst K H D [] := ⟨[], h, rfl, fun i x b a _ => by simp at a⟩
theorem BarLst.add {K : PySem.W.Frag} {H H' : Hp} {D : Addr} {bs : List Bar} {b : Bar} {ys : List V} {x : V} (n : ys.length = bs.length) (f : ∀ (i : Nat) x b, ys[i]? = some x → bs[i]? = some b → BarAt K H x b) (t : TupsStay K H H')
    (e : H' D = some (.lst (ys ++ [x]))) (hb : BarAt K H' x b) : BarLst K H' D (bs ++ [b]) := by
  refine ⟨ys ++ [x], e, by rw [List.length_append, List.length_append, n]; rfl, fun i u c h1 h2 => ?_⟩
  by_cases h : i < ys.length
  · rw [List.getElem?_append_left h] at h1
    rw [List.getElem?_append_left (by omega)] at h2
    exact (f i u c h1 h2).stay t
  · rw [List.getElem?_append_right (by omega)] at h1
    rw [List.getElem?_append_right (by omega), ← n] at h2
    cases z : i - ys.length with
    | zero =>
      rw [z] at h1 h2
      cases Option.some.inj h1
      cases Option.some.inj h2
      exact hb
    | succ j => rw [z] at h1; simp at h1
theorem BarLst.tup {K : PySem.W.Frag} {H : Hp} {u : Addr} {ys : List V} {bs : List Bar} (n : ys.length = bs.length) (f : ∀ (i : Nat) x b, ys[i]? = some x → bs[i]? = some b → BarAt K H x b) (nu : H u = none) :
    BarsAt K (upd H u (.tup ys)) (.ref u) bs := ⟨u, ys, rfl, tupOf upd_same, n, fun i x b h1 h2 => (f i x b h1 h2).stay (.same (same_upd nu))⟩
/-- a list's change leaves the tuples -/
theorem lstTups {K : PySem.W.Frag} {H : Hp} {D : Addr} {ys zs : List V} (e : H D = some (.lst ys)) : TupsStay K H (upd H D (.lst zs)) := fun b xs h => by
  rcases h with (h | ⟨o, h⟩) | h
  · exact .inl (.inl (by rw [upd_ne (ne_of h e (by intro z; cases z))]; exact h))
  · exact .inl (.inr ⟨o, by rw [upd_ne (ne_of h e (by intro z; cases z))]; exact h⟩)
  · exact .inr h

end R
namespace R
open PySem PySem.Spec PyProof.Rows L2
/-! ## the first rests -/
def upTo (g : Int) : List Int := (List.range g.toNat).map fun i : Nat => (i : Int)
theorem rgUp (g : Int) : rgV 0 g = (upTo g).map V.int := by
  unfold rgV upTo
  rw [List.map_map, Int.sub_zero]
  congr 1
  funext i
  show V.int (0 + (i : Int)) = V.int (i : Int)
  rw [Int.zero_add]
theorem upTo_len (g : Int) : (upTo g).length = g.toNat := by
  unfold upTo
  rw [List.length_map, List.length_range]
theorem lotUp {g : Int} (h1 : g ≤ 60) : LotOk 60 (upTo g) := by
  refine ⟨?_, fun r hr => ?_, fun r hr => ?_, by rw [upTo_len]; omega⟩
  · unfold upTo
    rw [List.pairwise_map]
    exact List.Pairwise.imp (fun h => by omega) List.pairwise_lt_range
  · obtain ⟨i, hi, rfl⟩ := List.mem_map.mp hr
    omega
  · obtain ⟨i, hi, rfl⟩ := List.mem_map.mp hr
    have := List.mem_range.mp hi
    omega

end R
namespace R
open PySem PySem.Spec PyProof.Rows L2
/-! ## tuples cut and joined -/
theorem tcTake (xs : List V) (i : Nat) : cutV xs none (some (i : Int)) = xs.take i := by
  unfold cutV
  rw [HT.sIx_none, HT.sIx_nat, List.drop_zero, Nat.sub_zero, ← List.take_take, List.take_length]
theorem tcDrop (xs : List V) {i : Nat} (h : i ≤ xs.length) : cutV xs (some (i : Int)) none = xs.drop i := by
  unfold cutV
  rw [HT.sIx_none, HT.sIx_nat, Nat.min_eq_left h, List.take_of_length_le (by rw [List.length_drop]; exact Nat.le_refl _)]
theorem tupTake {K : PySem.W.Frag} {H : Hp} {a : Addr} {xs : List V} {i : Nat} {Q : V → Hp → Prop} (B : SqT K H a xs) (q : ∀ y H', Same H H' → SqT K H' y (xs.take i) → Q (.ref y) H') : rSlA K (.ref a) none (some (i : Int)) H Q := by
  refine ⟨a, xs, rfl, B, fun h => ?_, fun _ p np => ?_⟩
  · have h2 := h.2
    rw [HT.sIx_nat] at h2
    refine q _ _ (Same.refl _) ?_
    rw [List.take_of_length_le (by omega)]
    exact B
  · refine q _ _ (same_upd np) (tupOf ?_)
    rw [upd_same, tcTake]
theorem tupDrop {K : PySem.W.Frag} {H : Hp} {a : Addr} {xs : List V} {i : Nat} {Q : V → Hp → Prop} (B : SqT K H a xs) (hi : i ≤ xs.length) (q : ∀ y H', Same H H' → SqT K H' y (xs.drop i) → Q (.ref y) H') : rSlA K (.ref a) (some (i : Int)) none H Q := by
  refine ⟨a, xs, rfl, B, fun h => ?_, fun _ p np => ?_⟩
  · have h1 := h.1
    rw [HT.sIx_nat] at h1
    refine q _ _ (Same.refl _) ?_
    by_cases z : i = 0
    · subst z
      exact B
    · have e : xs = [] := List.length_eq_zero_iff.mp (by omega)
      subst e
      rw [List.drop_nil]
      exact B
  · refine q _ _ (same_upd np) (tupOf ?_)
    rw [upd_same, tcDrop xs hi]
theorem tupCat {K : PySem.W.Frag} {H : Hp} {a b : Addr} {xs ys : List V} {Q : V → Hp → Prop} (B : SqT K H a xs) (C : SqT K H b ys) (few : xs.length + ys.length ≤ 1000) (q : ∀ y H', Same H H' → SqT K H' y (xs ++ ys) → Q (.ref y) H') : rCatA K (.ref a) (.ref b) H Q := by
  refine ⟨a, b, xs, ys, rfl, rfl, B, C, sizeOk (by omega), fun e => ?_, fun _ e => ?_, fun _ _ p np => ?_⟩
  · subst e
    exact q _ _ (Same.refl _) C
  · subst e
    refine q _ _ (Same.refl _) ?_
    rw [List.append_nil]
    exact B
  · exact q _ _ (same_upd np) (tupOf upd_same)

end R
namespace R
open PySem PySem.Spec PyProof.Rows L2
/-! ## bars with one thing put in -/
theorem choices_in (xs ys : List Bar) (m : Int) : choices (xs ++ (m, []) :: ys) = choices (xs ++ ys) := by
  unfold choices
  rw [List.foldl_append, List.foldl_cons, List.foldl_append]
  rw [show max 1 ((m, []) : Bar).2.length = 1 from rfl, Nat.mul_one]
theorem put_sv {bs : List Bar} (D : Drawn 3 9 bs) (i : Nat) : SvOk (bs.take i ++ [((1 : Int), ([] : List Int))] ++ bs.drop i) := by
  have l3 := D.len
  have mem : ∀ b ∈ bs.take i ++ [((1 : Int), ([] : List Int))] ++ bs.drop i, b ∈ bs ∨ b = (1, []) := fun b hb => by
    rcases List.mem_append.mp hb with hb | hb
    · rcases List.mem_append.mp hb with hb | hb
      · exact .inl (List.mem_of_mem_take hb)
      · exact .inr (List.mem_singleton.mp hb)
    · exact .inl (List.mem_of_mem_drop hb)
  have len : (bs.take i ++ [((1 : Int), ([] : List Int))] ++ bs.drop i).length ≤ 4 := by
    simp only [List.length_append, List.length_take, List.length_drop, List.length_singleton]
    omega
  have all : ∀ b ∈ bs.take i ++ [((1 : Int), ([] : List Int))] ++ bs.drop i, 1 ≤ b.1 ∧ b.1 ≤ 9 ∧ LotOk b.1 b.2 := fun b hb => by
    rcases mem b hb with h | rfl
    · obtain ⟨h1, h2, h3⟩ := D.bar b h
      exact ⟨h1, by omega, h3⟩
    · exact ⟨by decide, by decide, ⟨List.Pairwise.nil, fun r h => (nomatch h), fun r h => (nomatch h), Nat.zero_le _⟩⟩
  refine ⟨by omega, fun b hb => ?_, ?_, ?_⟩
  · obtain ⟨h1, h2, h3⟩ := all b hb
    exact ⟨h1, by omega, h3⟩
  · refine Nat.le_trans (whPow (N := 9) _ fun b hb => by have := all b hb; omega) ?_
    exact Nat.le_trans (Nat.pow_le_pow_right (by decide) len) (by decide)
  · rw [List.append_assoc]
    show choices (bs.take i ++ (1, []) :: bs.drop i) ≤ 2000
    rw [choices_in, List.take_append_drop]
    exact D.many
theorem at_put {α : Type} {xs : List α} {i : Nat} (hi : i ≤ xs.length) (y : α) : (xs.take i ++ [y] ++ xs.drop i)[i]? = some y := by
  rw [List.append_assoc, List.getElem?_append_right (by rw [List.length_take]; omega), List.length_take, Nat.min_eq_left hi, Nat.sub_self]
  rfl
theorem at_put_lt {α : Type} {xs : List α} {i j : Nat} (hi : i ≤ xs.length) (hj : j < i) (y : α) : (xs.take i ++ [y] ++ xs.drop i)[j]? = xs[j]? := by
  rw [List.append_assoc, List.getElem?_append_left (by rw [List.length_take]; omega), List.getElem?_take, if_pos hj]
theorem at_put_gt {α : Type} {xs : List α} {i j : Nat} (hi : i ≤ xs.length) (hj : i < j) (y : α) : (xs.take i ++ [y] ++ xs.drop i)[j]? = xs[j - 1]? := by
  rw [List.getElem?_append_right (by rw [List.length_append, List.length_take, List.length_singleton]; omega), List.length_append, List.length_take, List.length_singleton, List.getElem?_drop, Nat.min_eq_left hi]
  congr 1
  omega
theorem len_put {α : Type} {xs : List α} {i : Nat} (hi : i ≤ xs.length) (y : α) : (xs.take i ++ [y] ++ xs.drop i).length = xs.length + 1 := by
  simp only [List.length_append, List.length_take, List.length_drop, List.length_singleton]
  omega
theorem put_bars {K : PySem.W.Frag} {H : Hp} {a : Addr} {xs : List V} {bs : List Bar} {y : V} {b : Bar} {i : Nat} (hi : i ≤ xs.length) (n : xs.length = bs.length) (h : ∀ (i : Nat) x b, xs[i]? = some x → bs[i]? = some b → BarAt K H x b) (hy : BarAt K H y b)
    (ta : SqT K H a (xs.take i ++ [y] ++ xs.drop i)) : BarsAt K H (.ref a) (bs.take i ++ [b] ++ bs.drop i) := by
  refine ⟨a, _, rfl, ta, by rw [len_put hi, len_put (by omega), n], fun j x c h1 h2 => ?_⟩
  rcases Nat.lt_trichotomy j i with l | rfl | l
  · rw [at_put_lt hi l] at h1
    rw [at_put_lt (by omega) l] at h2
    exact h j x c h1 h2
  · rw [at_put hi] at h1
    rw [at_put (by omega)] at h2
    cases Option.some.inj h1
    cases Option.some.inj h2
    exact hy
  · rw [at_put_gt hi l] at h1
    rw [at_put_gt (by omega) l] at h2
    exact h _ x c h1 h2
theorem put_bad {K : PySem.W.Frag} {H : Hp} {xs : List V} {y : V} {i : Nat} (hi : i ≤ xs.length) (few : xs.length ≤ 5) (h : ∀ (i : Nat) x, xs[i]? = some x → Bar1 K H x) (hy : NoBar K H y) : FirstBad K H (xs.take i ++ [y] ++ xs.drop i) i := by
  refine ⟨by rw [len_put hi]; omega, by rw [len_put hi]; omega, fun j x l e => ?_, fun x e => ?_, fun j x e => ?_⟩
  · rw [at_put_lt hi l] at e
    exact h j x e
  · rw [at_put hi] at e
    cases Option.some.inj e
    exact hy
  · rcases Nat.lt_trichotomy j i with l | rfl | l
    · rw [at_put_lt hi l] at e
      exact .inl (h j x e)
    · rw [at_put hi] at e
      cases Option.some.inj e
      exact .inr hy
    · rw [at_put_gt hi l] at e
      exact .inl (h _ x e)
/-- sieves and their bars, as they were made -/
def BefAt (K : PySem.W.Frag) (C : Addr) (H : Hp) (xs : List V) : Prop := ∀ (i : Nat) x, xs[i]? = some x → ∃ t p v v' tc bs, x = .ref t ∧ SqT K H t [.ref p, v] ∧ SvAt K C H p v' tc bs ∧ BarsAt K H v bs
theorem BefAt.stay {K : PySem.W.Frag} {C : Addr} {H H' : Hp} {xs : List V} (h : BefAt K C H xs) (s : Same H H') : BefAt K C H' xs := fun i x e => by
  obtain ⟨t, p, v, v', tc, bs, ex, q, S, B⟩ := h i x e
  exact ⟨t, p, v, v', tc, bs, ex, Same.seqTT s q, S.stay s, B.stay (.same s)⟩
theorem BefAt.keep {K : PySem.W.Frag} {C : Addr} {H H' : Hp} {r L : Addr} {xs : List V} (h : BefAt K C H xs) (R : RowAt H r L) (k : Kp r H H') : BefAt K C H' xs := fun i x e => by
  obtain ⟨t, p, v, v', tc, bs, ex, q, S, B⟩ := h i x e
  exact ⟨t, p, v, v', tc, bs, ex, R.tups k _ _ q, S.keep R k, B.stay (R.tups k)⟩
theorem SvAt.other {K : PySem.W.Frag} {C : Addr} {H : Hp} {p D t : Addr} {v : V} {bs : List Bar} {zs ys : List V} (S : SvAt K C H p v t bs) (e : H D = some (.lst zs)) : SvAt K C (upd H D (.lst ys)) p v t bs := by
  obtain ⟨dx, eo⟩ := S.ob
  refine ⟨⟨dx, ?_⟩, S.bars.stay (lstTups e), lstTups e _ _ S.cls, S.ok⟩
  rw [upd_ne (fun z => by rw [z, e] at eo; cases eo)]
  exact eo
theorem BefAt.add {K : PySem.W.Frag} {C : Addr} {H : Hp} {D t p tc : Addr} {v v' : V} {bs : List Bar} {xs : List V} (h : BefAt K C H xs) (e : H D = some (.lst xs)) (ht : SqT K H t [.ref p, v]) (S : SvAt K C H p v' tc bs) (B : BarsAt K H v bs) :
    BefAt K C (upd H D (.lst (xs ++ [.ref t]))) (xs ++ [.ref t]) := fun i x ex => by
  by_cases l : i < xs.length
  · rw [List.getElem?_append_left l] at ex
    obtain ⟨t', p', v1, v2, tc', bs', e1, q, S', B'⟩ := h i x ex
    exact ⟨t', p', v1, v2, tc', bs', e1, lstTups e _ _ q, S'.other e, B'.stay (lstTups e)⟩
  · rw [List.getElem?_append_right (by omega)] at ex
    cases z : i - xs.length with
    | zero =>
      rw [z] at ex
      cases Option.some.inj ex
      exact ⟨t, p, v, v', tc, bs, rfl, lstTups e _ _ ht, S.other e, B.stay (lstTups e)⟩
    | succ j => rw [z] at ex; simp at ex

end R
namespace R
open PySem PySem.Spec PyProof.Rows L2
/-! ## the law -/
theorem okN : okD 0 .none := ⟨by rw [PyData.canLay0] <;> decide +kernel, by rw [PyData.depth]; exact Nat.le_refl _⟩
theorem okB : okD 0 (.str "bars") := ⟨by rw [PyData.canLay0] <;> decide +kernel, by rw [PyData.depth]; exact Nat.le_refl _⟩
theorem okTold {m : Str} {d : PyData} (hm : okD 0 (.str m)) (hd : okD 0 d) : okD 1 (.list [.str m, d]) := okD.lst fun x hx => by
  rcases List.mem_cons.mp hx with rfl | hx
  · exact hm
  · rw [List.mem_singleton.mp hx]
    exact hd
theorem dpTold {K : PySem.W.Frag} {H : Hp} {l : Addr} {m : Str} {w : V} {d : PyData} (e : H l = some (.lst [.str m, w])) (hd : Dp K H w d) : Dp K H (.ref l) (.list [.str m, d]) := .lst (lstOf e) (.cons (.str m) (.cons hd .nil))
theorem oneOk : BarOk ((1 : Int), ([] : List Int)) := ⟨by decide, by decide, ⟨List.Pairwise.nil, fun r h => (nomatch h), fun r h => (nomatch h), Nat.zero_le _⟩⟩
theorem bar61 : barV (.int 100) (rgV 0 61) = false := by
  rw [rgUp]
  have e : ∀ zs : List V, barV (.int 100) zs = ((decide ((1 : Int) ≤ 100) && decide ((100 : Int) ≤ 1000000)) && (ascV 100 0 zs && decide (zs.length ≤ 60))) := fun zs => rfl
  rw [e, List.length_map, upTo_len, show decide ((61 : Int).toNat ≤ 60) = false by decide, Bool.and_false, Bool.and_false]
theorem pone {x : V} (h : PItm x) : ∀ w ∈ [x], PItm w := fun w hw => by
  rw [List.mem_singleton.mp hw]
  exact h
theorem ptwo {x y : V} (h : PItm x) (g : PItm y) : ∀ w ∈ [x, y], PItm w := fun w hw => by
  rcases List.mem_cons.mp hw with rfl | hw
  · exact h
  · rw [List.mem_singleton.mp hw]
    exact g
/-- a sieve and a tuple by == or != -/
theorem ownTp {K : PySem.W.Frag} {mg : Str → Option Value} (T : Txt K mg) {H : Hp} {Q : V → Hp → Prop} {E : XK} {neg : Bool} {p t : Addr} {v : V} {bs : List Bar} (S : SvAt K T.C H p v t bs) {a : Addr} {xs : List V} (ta : SqT K H a xs)
    (q : Q (.bl (if neg then !false else false)) H) : rOwn K T.C (sp_m_Sieve_eq K T.C) E neg (.ref p) (.ref a) H Q := by
  obtain ⟨dx, e⟩ := S.ob
  refine ⟨p, dx, _, _, rfl, e, .tup ta, ?_, p, v, t, bs, _, rfl, S, .inr ⟨"tuple", tyTup ta, T.suT, _, rfl, q⟩⟩
  unfold PySem.W.notFirst
  rw [T.suT]
  simp
section
variable {P : Program} [POk P FILE] {w : World} {K : PySem.W.Frag} {mg : Str → Option Value} {base : Heap}
set_option maxHeartbeats 3200000 in
theorem ok_law (T : Txt K mg) : FnOk P w K mg base CX0 13 T.f_law T.fd_law ["_law_script"] (sp_law K) := by
  refine T.F_law.ok sc_law (fun vs H Q E h => ?_) (fun cdv A outer s H vs Q E hr h => ?_)
  · obtain ⟨a, ns, rfl, _⟩ := h
    rfl
  · obtain ⟨a, ns, rfl, hS, hl, q⟩ := h
    refine ⟨_, (pss_cons (ps_set (i := 1) sc_law.nd rfl (by first | exact .inl rfl | exact .inr rfl) (pe_call (ok_l_draws (P := P) T) (hr.mono (by decide)) (by rfl) T.g_l_draws T.F_l_draws.kp T.b_l_draws .nil pass0 (pa_cons (pv 0) pa_nil)))
      (pss_cons (ps_set (i := 2) sc_law.nd rfl (by first | exact .inl rfl | exact .inr rfl) (pe_lst pa_nil))
      (pss_cons (ps_for PassesOwn.never rfl (pi_range1 (by rfl) T.z_range (pa_cons pe_int pa_nil)) (pg_name (i := 3) sc_law.nd rfl (by first | exact .inl rfl | exact .inr rfl)) (pss_cons (ps_set (i := 4) sc_law.nd rfl (by first | exact .inl rfl | exact .inr rfl) (pe_call (ok_l_bars (P := P) T) (hr.mono (by decide)) (by rfl) T.g_l_bars T.F_l_bars.kp T.b_l_bars .nil pass0 (pa_cons (pv 1) (pa_cons pe_int (pa_cons pe_int pa_nil)))))
      (pss_cons (ps_set (i := 5) sc_law.nd rfl (by first | exact .inl rfl | exact .inr rfl) (pe_lst (pa_cons pe_non (pa_cons (pe_tup (pa_cons pe_int pa_nil)) (pa_cons (pe_lst (pa_cons pe_int (pa_cons (pe_tup (pa_cons pe_int pa_nil)) pa_nil))) (pa_cons (pe_tup (pa_cons pe_int (pa_cons (pe_tup pa_nil) pa_nil))) (pa_cons (pe_tup (pa_cons pe_int (pa_cons (pe_tup (pa_cons pe_int pa_nil)) pa_nil))) (pa_cons (pe_tup (pa_cons pe_int (pa_cons (pe_lst (pa_cons pe_int pa_nil)) pa_nil))) (pa_cons (pe_tup (pa_cons pe_int (pa_cons (pe_tup (pa_cons pe_int pa_nil)) pa_nil))) (pa_cons (pe_tup (pa_cons pe_int (pa_cons (pe_tup (pa_cons (pe_un un_neg pe_int) pa_nil)) pa_nil))) (pa_cons (pe_tup (pa_cons pe_int (pa_cons (pe_tup (pa_cons pe_int (pa_cons pe_int pa_nil))) pa_nil))) pa_nil)))))))))))
      (pss_cons (ps_set (i := 5) sc_law.nd rfl (by first | exact .inl rfl | exact .inr rfl) (pe_op op_cat (pv 5) (pe_lst (pa_cons (pe_tup (pa_cons pe_int (pa_cons (pe_tup (pa_cons pe_int (pa_cons pe_int pa_nil))) pa_nil))) (pa_cons (pe_tup (pa_cons pe_bl (pa_cons (pe_tup (pa_cons pe_int pa_nil)) pa_nil))) (pa_cons (pe_tup (pa_cons pe_int (pa_cons (pe_tup (pa_cons pe_bl pa_nil)) pa_nil))) (pa_cons (pe_tup (pa_cons pe_int (pa_cons pe_non pa_nil))) (pa_cons (pe_tup (pa_cons pe_int (pa_cons (pe_tupRg rfl (by rfl) T.z_tuple (prg_1 (by rfl) T.z_range pe_int)) pa_nil))) pa_nil))))))))
      (pss_cons (ps_set (i := 5) sc_law.nd rfl (by first | exact .inl rfl | exact .inr rfl) (pe_op op_cat (pv 5) (pe_lst (pa_cons (pe_tup (pa_cons pe_int (pa_cons (pe_tup (pa_cons pe_int pa_nil)) (pa_cons pe_int pa_nil)))) (pa_cons (pe_tup (pa_cons pe_int (pa_cons (pe_tup pa_nil) pa_nil))) (pa_cons pe_str (pa_cons (pe_tup (pa_cons pe_int (pa_cons (pe_tup (pa_cons pe_int (pa_cons pe_str pa_nil))) pa_nil))) pa_nil)))))))
      (pss_cons (ps_set (i := 6) sc_law.nd rfl (by first | exact .inl rfl | exact .inr rfl) (pe_call (ok_l_pick (P := P) T) (hr.mono (by decide)) (by rfl) T.g_l_pick T.F_l_pick.kp T.b_l_pick .nil pass0 (pa_cons (pv 1) (pa_cons (pe_op op_add (pe_callB call_len_seq (by rfl) T.z_len (by decide +kernel) (pa_cons (pv 4) pa_nil)) pe_int) pa_nil))))
      (C8.pss_cut (ps_if (pt_cmpR op_eq (pe_call (ok_l_pick (P := P) T) (hr.mono (by decide)) (by rfl) T.g_l_pick T.F_l_pick.kp T.b_l_pick .nil pass0 (pa_cons (pv 1) (pa_cons pe_int pa_nil))) pe_int (nomark _)) (pss_one (ps_set (i := 4) sc_law.nd rfl (by first | exact .inl rfl | exact .inr rfl) (pe_op op_catA (pe_op op_catA (pe_slice sl_tupA (pv 4) po_none (po_some (pv 6))) (pe_tup (pa_cons (pe_ix ix_list (pv 5) (pe_call (ok_l_pick (P := P) T) (hr.mono (by decide)) (by rfl) T.g_l_pick T.F_l_pick.kp T.b_l_pick .nil pass0 (pa_cons (pv 1) (pa_cons pe_int pa_nil))) (fun _ _ => rfl)) pa_nil))) (pe_slice sl_tupA (pv 4) (po_some (pv 6)) po_none)))) (pss_one (ps_if (pt_cmpR op_eq (pe_call (ok_l_pick (P := P) T) (hr.mono (by decide)) (by rfl) T.g_l_pick T.F_l_pick.kp T.b_l_pick .nil pass0 (pa_cons (pv 1) (pa_cons pe_int pa_nil))) pe_int (nomark _)) (pss_one (ps_set (i := 4) sc_law.nd rfl (by first | exact .inl rfl | exact .inr rfl) (pe_ix ix_list (pe_lst (pa_cons pe_non (pa_cons (pe_callTy call_list_of (by rfl) T.z_list (by decide +kernel) (pa_cons (pv 4) pa_nil)) (pa_cons (pe_op op_repT (pe_tup (pa_cons (pe_tup (pa_cons pe_int (pa_cons (pe_tup (pa_cons pe_int pa_nil)) pa_nil))) pa_nil)) pe_int) (pa_cons pe_str (pa_cons pe_dnewK pa_nil)))))) (pe_call (ok_l_pick (P := P) T) (hr.mono (by decide)) (by rfl) T.g_l_pick T.F_l_pick.kp T.b_l_pick .nil pass0 (pa_cons (pv 1) (pa_cons pe_int pa_nil))) (fun _ _ => rfl)))) pss_nil)))
      (pss_cons (ps_asg (pe_tup (pa_cons (pe_call (ok_l_due (P := P) T) (hr.mono (by decide)) (by rfl) T.g_l_due T.F_l_due.kp T.b_l_due .nil pass0 (pa_cons (pv 4) pa_nil)) (pa_cons (pe_call (ok_l_told_there (P := P) T) (hr.mono (by decide)) (by rfl) T.g_l_told_there T.F_l_told_there.kp T.b_l_told_there .nil pass0 (pa_cons (pv 4) pa_nil)) pa_nil))) (pg_tup (by rfl) (pgs_cons (pg_name (i := 7) sc_law.nd rfl (by first | exact .inl rfl | exact .inr rfl)) (pgs_cons (pg_name (i := 8) sc_law.nd rfl (by first | exact .inl rfl | exact .inr rfl)) pgs_nil))))
      (pss_one (ps_if (pt_cmpR op_notN (pv 7) pe_non (nomark _)) (pss_one (ps_if (pt_cmpR (op_neD hr.units) (pv 8) (pv 7) (nomark _)) (pss_one (ps_ret pe_bl)) pss_nil)) (pss_cons (ps_if (PW.pt (pw_or (pt_not (pt_val (pe_callB call_isi (by rfl) T.z_isinstance (by decide +kernel) (pa_cons (pv 8) (pa_cons (pe_glob (v := .ref T.C) (by rfl) T.g_Sieve rfl) pa_nil))))) (pw_or (pt_cmpR (op_neD hr.units) (pe_prop (pv 8) T.cl T.pp_bars (ok_m_Sieve_bars (P := P) T) (hr.mono (by decide)) T.b_m_Sieve_bars .nil pass0 (by rfl)) (pv 4) (nomark _)) (pw_or1 (pt_cmpR (op_eqO (ok_m_Sieve_eq (P := P) T) (hr.mono (by decide)) T.eqS T.eqF T.b_m_Sieve_eq pass0) (pv 8) (pv 4) (nomark _)))))) (pss_one (ps_ret pe_bl)) pss_nil)
      (pss_cons (ps_if (pt_cmpR (op_neD hr.units) (pe_lc (own := [("_law_one", 9), ("_law_some", 10)]) (g := gTup K 2 (gCons (gName 9) (gCons (gName 10) (gNil)))) rfl sc_law.nd (pi_list (pv 2)) (blkOk_by (N := ["_law_script", "_law_row", "_law_before", "_law_turn", "_law_bars_here", "_law_odd", "_law_at", "_law_due_here", "_law_told_there_here", "_law_one", "_law_some"]) (sc := defScope s_law) (by decide +kernel)) (fun _ _ _ _ _ => (pg_tup (by rfl) (pgs_cons (pg_name (i := 9) sc_law.nd rfl (by first | exact .inl rfl | exact .inr rfl)) (pgs_cons (pg_name (i := 10) sc_law.nd rfl (by first | exact .inl rfl | exact .inr rfl)) pgs_nil)))) (fun _ _ _ _ _ => (pts_one (pt_cmpR op_ne (pe_cmpR (r := rOwn K T.C (sp_m_Sieve_eq K T.C) E0 false) (op_eqO (ok_m_Sieve_eq (P := P) T) (hr.mono (by decide)) T.eqS T.eqF T.b_m_Sieve_eq pass0) (pv 9) (pv 8) (nomark _)) (pe_cmpR (r := rEqD K) (op_eqD hr.units) (pv 10) (pv 4) (nomark _)) (nomark _)))) (fun _ _ _ _ _ => (pv 9))) (pe_lst pa_nil) (nomark _)) (pss_one (ps_ret pe_bl)) pss_nil)
      (pss_one (ps_expr (pe_bm PySem.F.plainAttrs_list PySem.F.slot_list_append PySem.F.type_list_append mt_append (pv 2) (pa_cons (pe_tup (pa_cons (pv 8) (pa_cons (pv 4) pa_nil))) pa_nil))))))))))))))))
      (pss_one (ps_ret pe_bl))))), ?_⟩
    refine ⟨_, rfl, a, ns, rfl, hS, fun r L H1 s1 R1 => ⟨Nat.zero_le _, fun D nD => ?_⟩⟩
    have nDr := R1.new nD
    refine ⟨6, rfl, by decide, by decide, for_range (lo := 0) (n := 6) (fun i σ H2 => ∃ (x3 x4 x5 x6 x7 x8 x9 x10 : Option V) (xs : List V), σ = [some (.ref a), some (.ref r), some (.ref D), x3, x4, x5, x6, x7, x8, x9, x10] ∧ H2 D = some (.lst xs) ∧ xs.length ≤ i ∧ BefAt K T.C H2 xs ∧ RowAt H2 r L) ⟨none, none, none, none, none, none, none, none, [], rfl, upd_same, Nat.le_refl _, fun i x e => by simp at e, R1.upd nDr⟩ ?_ ?_⟩
    · rintro i σ H2 hi ⟨x3, x4, x5, x6, x7, x8, x9, x10, xs, rfl, eD, lx, bf, R2⟩
      refine ⟨_, rfl, r, L, 3, 9, rfl, R2, by decide, by decide, by decide, fun v bs H3 Dr Bs k3 R3 => ?_⟩
      have eD3 := k3 _ _ nDr.1 eD
      have bf3 := bf.keep R2 k3
      obtain ⟨va, ys, rfl, tv, nv, hv⟩ := Bs.ex
      clear k3 R2 eD bf
      refine ⟨sizeOk (by show (1 : Nat) ≤ 100000; decide), fun o1 no1 => ?_⟩
      have qo1 := same_upd no1 (o := .tup [.int 4])
      have eo1 := upd_same (H := H3) (a := o1) (o := .tup [.int 4])
      have Ro1 := R3.stay qo1
      generalize upd H3 o1 (.tup [.int 4]) = HH_o1 at qo1 eo1 Ro1 ⊢
      clear no1
      refine ⟨sizeOk (by show (1 : Nat) ≤ 100000; decide), fun o2 no2 => ?_⟩
      have qo2 := same_upd no2 (o := .tup [.int 1])
      have eo2 := upd_same (H := HH_o1) (a := o2) (o := .tup [.int 1])
      have Ro2 := Ro1.stay qo2
      generalize upd HH_o1 o2 (.tup [.int 1]) = HH_o2 at qo2 eo2 Ro2 ⊢
      clear no2 Ro1
      refine ⟨sizeOk (by show (2 : Nat) ≤ 100000; decide), fun o3 no3 => ?_⟩
      have qo3 := same_upd no3 (o := .lst [.int 4, .ref o2])
      have eo3 := upd_same (H := HH_o2) (a := o3) (o := .lst [.int 4, .ref o2])
      have Ro3 := Ro2.stay qo3
      have mo3 := Ro2.new no3
      generalize upd HH_o2 o3 (.lst [.int 4, .ref o2]) = HH_o3 at qo3 eo3 Ro3 ⊢
      clear no3 Ro2
      refine ⟨sizeOk (by show (0 : Nat) ≤ 100000; decide), fun o4 no4 => ?_⟩
      have qo4 := same_upd no4 (o := .tup [])
      have eo4 := upd_same (H := HH_o3) (a := o4) (o := .tup [])
      have Ro4 := Ro3.stay qo4
      generalize upd HH_o3 o4 (.tup []) = HH_o4 at qo4 eo4 Ro4 ⊢
      clear no4 Ro3
      refine ⟨sizeOk (by show (2 : Nat) ≤ 100000; decide), fun o5 no5 => ?_⟩
      have qo5 := same_upd no5 (o := .tup [.int 0, .ref o4])
      have eo5 := upd_same (H := HH_o4) (a := o5) (o := .tup [.int 0, .ref o4])
      have Ro5 := Ro4.stay qo5
      generalize upd HH_o4 o5 (.tup [.int 0, .ref o4]) = HH_o5 at qo5 eo5 Ro5 ⊢
      clear no5 Ro4
      refine ⟨sizeOk (by show (1 : Nat) ≤ 100000; decide), fun o6 no6 => ?_⟩
      have qo6 := same_upd no6 (o := .tup [.int 1])
      have eo6 := upd_same (H := HH_o5) (a := o6) (o := .tup [.int 1])
      have Ro6 := Ro5.stay qo6
      generalize upd HH_o5 o6 (.tup [.int 1]) = HH_o6 at qo6 eo6 Ro6 ⊢
      clear no6 Ro5
      refine ⟨sizeOk (by show (2 : Nat) ≤ 100000; decide), fun o7 no7 => ?_⟩
      have qo7 := same_upd no7 (o := .tup [.int 1000001, .ref o6])
      have eo7 := upd_same (H := HH_o6) (a := o7) (o := .tup [.int 1000001, .ref o6])
      have Ro7 := Ro6.stay qo7
      generalize upd HH_o6 o7 (.tup [.int 1000001, .ref o6]) = HH_o7 at qo7 eo7 Ro7 ⊢
      clear no7 Ro6
      refine ⟨sizeOk (by show (1 : Nat) ≤ 100000; decide), fun o8 no8 => ?_⟩
      have qo8 := same_upd no8 (o := .lst [.int 1])
      have eo8 := upd_same (H := HH_o7) (a := o8) (o := .lst [.int 1])
      have Ro8 := Ro7.stay qo8
      have mo8 := Ro7.new no8
      generalize upd HH_o7 o8 (.lst [.int 1]) = HH_o8 at qo8 eo8 Ro8 ⊢
      clear no8 Ro7
      refine ⟨sizeOk (by show (2 : Nat) ≤ 100000; decide), fun o9 no9 => ?_⟩
      have qo9 := same_upd no9 (o := .tup [.int 4, .ref o8])
      have eo9 := upd_same (H := HH_o8) (a := o9) (o := .tup [.int 4, .ref o8])
      have Ro9 := Ro8.stay qo9
      generalize upd HH_o8 o9 (.tup [.int 4, .ref o8]) = HH_o9 at qo9 eo9 Ro9 ⊢
      clear no9 Ro8
      refine ⟨sizeOk (by show (1 : Nat) ≤ 100000; decide), fun o10 no10 => ?_⟩
      have qo10 := same_upd no10 (o := .tup [.int 4])
      have eo10 := upd_same (H := HH_o9) (a := o10) (o := .tup [.int 4])
      have Ro10 := Ro9.stay qo10
      generalize upd HH_o9 o10 (.tup [.int 4]) = HH_o10 at qo10 eo10 Ro10 ⊢
      clear no10 Ro9
      refine ⟨sizeOk (by show (2 : Nat) ≤ 100000; decide), fun o11 no11 => ?_⟩
      have qo11 := same_upd no11 (o := .tup [.int 4, .ref o10])
      have eo11 := upd_same (H := HH_o10) (a := o11) (o := .tup [.int 4, .ref o10])
      have Ro11 := Ro10.stay qo11
      generalize upd HH_o10 o11 (.tup [.int 4, .ref o10]) = HH_o11 at qo11 eo11 Ro11 ⊢
      clear no11 Ro10
      refine ⟨_, rfl, sizeOk (by show (1 : Nat) ≤ 100000; decide), fun o12 no12 => ?_⟩
      have qo12 := same_upd no12 (o := .tup [.int (-1)])
      have eo12 := upd_same (H := HH_o11) (a := o12) (o := .tup [.int (-1)])
      have Ro12 := Ro11.stay qo12
      generalize upd HH_o11 o12 (.tup [.int (-1)]) = HH_o12 at qo12 eo12 Ro12 ⊢
      clear no12 Ro11
      refine ⟨sizeOk (by show (2 : Nat) ≤ 100000; decide), fun o13 no13 => ?_⟩
      have qo13 := same_upd no13 (o := .tup [.int 4, .ref o12])
      have eo13 := upd_same (H := HH_o12) (a := o13) (o := .tup [.int 4, .ref o12])
      have Ro13 := Ro12.stay qo13
      generalize upd HH_o12 o13 (.tup [.int 4, .ref o12]) = HH_o13 at qo13 eo13 Ro13 ⊢
      clear no13 Ro12
      refine ⟨sizeOk (by show (2 : Nat) ≤ 100000; decide), fun o14 no14 => ?_⟩
      have qo14 := same_upd no14 (o := .tup [.int 2, .int 1])
      have eo14 := upd_same (H := HH_o13) (a := o14) (o := .tup [.int 2, .int 1])
      have Ro14 := Ro13.stay qo14
      generalize upd HH_o13 o14 (.tup [.int 2, .int 1]) = HH_o14 at qo14 eo14 Ro14 ⊢
      clear no14 Ro13
      refine ⟨sizeOk (by show (2 : Nat) ≤ 100000; decide), fun o15 no15 => ?_⟩
      have qo15 := same_upd no15 (o := .tup [.int 4, .ref o14])
      have eo15 := upd_same (H := HH_o14) (a := o15) (o := .tup [.int 4, .ref o14])
      have Ro15 := Ro14.stay qo15
      generalize upd HH_o14 o15 (.tup [.int 4, .ref o14]) = HH_o15 at qo15 eo15 Ro15 ⊢
      clear no15 Ro14
      refine ⟨sizeOk (by show (9 : Nat) ≤ 100000; decide), fun w1 nw1 => ?_⟩
      have qw1 := same_upd nw1 (o := .lst [.non, .ref o1, .ref o3, .ref o5, .ref o7, .ref o9, .ref o11, .ref o13, .ref o15])
      have ew1 := upd_same (H := HH_o15) (a := w1) (o := .lst [.non, .ref o1, .ref o3, .ref o5, .ref o7, .ref o9, .ref o11, .ref o13, .ref o15])
      have Rw1 := Ro15.stay qw1
      have mw1 := Ro15.new nw1
      generalize upd HH_o15 w1 (.lst [.non, .ref o1, .ref o3, .ref o5, .ref o7, .ref o9, .ref o11, .ref o13, .ref o15]) = HH_w1 at qw1 ew1 Rw1 ⊢
      clear nw1 Ro15
      refine ⟨_, rfl, sizeOk (by show (2 : Nat) ≤ 100000; decide), fun o16 no16 => ?_⟩
      have qo16 := same_upd no16 (o := .tup [.int 1, .int 1])
      have eo16 := upd_same (H := HH_w1) (a := o16) (o := .tup [.int 1, .int 1])
      have Ro16 := Rw1.stay qo16
      generalize upd HH_w1 o16 (.tup [.int 1, .int 1]) = HH_o16 at qo16 eo16 Ro16 ⊢
      clear no16 Rw1
      refine ⟨sizeOk (by show (2 : Nat) ≤ 100000; decide), fun o17 no17 => ?_⟩
      have qo17 := same_upd no17 (o := .tup [.int 4, .ref o16])
      have eo17 := upd_same (H := HH_o16) (a := o17) (o := .tup [.int 4, .ref o16])
      have Ro17 := Ro16.stay qo17
      generalize upd HH_o16 o17 (.tup [.int 4, .ref o16]) = HH_o17 at qo17 eo17 Ro17 ⊢
      clear no17 Ro16
      refine ⟨sizeOk (by show (1 : Nat) ≤ 100000; decide), fun o18 no18 => ?_⟩
      have qo18 := same_upd no18 (o := .tup [.int 0])
      have eo18 := upd_same (H := HH_o17) (a := o18) (o := .tup [.int 0])
      have Ro18 := Ro17.stay qo18
      generalize upd HH_o17 o18 (.tup [.int 0]) = HH_o18 at qo18 eo18 Ro18 ⊢
      clear no18 Ro17
      refine ⟨sizeOk (by show (2 : Nat) ≤ 100000; decide), fun o19 no19 => ?_⟩
      have qo19 := same_upd no19 (o := .tup [.bl true, .ref o18])
      have eo19 := upd_same (H := HH_o18) (a := o19) (o := .tup [.bl true, .ref o18])
      have Ro19 := Ro18.stay qo19
      generalize upd HH_o18 o19 (.tup [.bl true, .ref o18]) = HH_o19 at qo19 eo19 Ro19 ⊢
      clear no19 Ro18
      refine ⟨sizeOk (by show (1 : Nat) ≤ 100000; decide), fun o20 no20 => ?_⟩
      have qo20 := same_upd no20 (o := .tup [.bl true])
      have eo20 := upd_same (H := HH_o19) (a := o20) (o := .tup [.bl true])
      have Ro20 := Ro19.stay qo20
      generalize upd HH_o19 o20 (.tup [.bl true]) = HH_o20 at qo20 eo20 Ro20 ⊢
      clear no20 Ro19
      refine ⟨sizeOk (by show (2 : Nat) ≤ 100000; decide), fun o21 no21 => ?_⟩
      have qo21 := same_upd no21 (o := .tup [.int 4, .ref o20])
      have eo21 := upd_same (H := HH_o20) (a := o21) (o := .tup [.int 4, .ref o20])
      have Ro21 := Ro20.stay qo21
      generalize upd HH_o20 o21 (.tup [.int 4, .ref o20]) = HH_o21 at qo21 eo21 Ro21 ⊢
      clear no21 Ro20
      refine ⟨sizeOk (by show (2 : Nat) ≤ 100000; decide), fun o22 no22 => ?_⟩
      have qo22 := same_upd no22 (o := .tup [.int 4, .non])
      have eo22 := upd_same (H := HH_o21) (a := o22) (o := .tup [.int 4, .non])
      have Ro22 := Ro21.stay qo22
      generalize upd HH_o21 o22 (.tup [.int 4, .non]) = HH_o22 at qo22 eo22 Ro22 ⊢
      clear no22 Ro21
      refine ⟨61, rfl, ⟨by decide, by decide, by decide, by decide, sizeOk (by decide)⟩, fun o23 no23 => ?_⟩
      have qo23 := same_upd no23 (o := .tup (rgV 0 61))
      have eo23 := upd_same (H := HH_o22) (a := o23) (o := .tup (rgV 0 61))
      have Ro23 := Ro22.stay qo23
      generalize upd HH_o22 o23 (.tup (rgV 0 61)) = HH_o23 at qo23 eo23 Ro23 ⊢
      clear no23 Ro22
      refine ⟨sizeOk (by show (2 : Nat) ≤ 100000; decide), fun o24 no24 => ?_⟩
      have qo24 := same_upd no24 (o := .tup [.int 100, .ref o23])
      have eo24 := upd_same (H := HH_o23) (a := o24) (o := .tup [.int 100, .ref o23])
      have Ro24 := Ro23.stay qo24
      generalize upd HH_o23 o24 (.tup [.int 100, .ref o23]) = HH_o24 at qo24 eo24 Ro24 ⊢
      clear no24 Ro23
      refine ⟨sizeOk (by show (5 : Nat) ≤ 100000; decide), fun w2 nw2 => ?_⟩
      have qw2 := same_upd nw2 (o := .lst [.ref o17, .ref o19, .ref o21, .ref o22, .ref o24])
      have ew2 := upd_same (H := HH_o24) (a := w2) (o := .lst [.ref o17, .ref o19, .ref o21, .ref o22, .ref o24])
      have Rw2 := Ro24.stay qw2
      have mw2 := Ro24.new nw2
      generalize upd HH_o24 w2 (.lst [.ref o17, .ref o19, .ref o21, .ref o22, .ref o24]) = HH_w2 at qw2 ew2 Rw2 ⊢
      clear nw2 Ro24
      refine ⟨w1, w2, _, _, rfl, rfl, (qo16.trans (qo17.trans (qo18.trans (qo19.trans (qo20.trans (qo21.trans (qo22.trans (qo23.trans (qo24.trans (qw2)))))))))) _ _ ew1, ew2, sizeOk (by show (14 : Nat) ≤ 100000; decide), fun c1 nc1 => ?_⟩
      have qc1 := same_upd nc1 (o := .lst ([.non, .ref o1, .ref o3, .ref o5, .ref o7, .ref o9, .ref o11, .ref o13, .ref o15] ++ [.ref o17, .ref o19, .ref o21, .ref o22, .ref o24]))
      have ec1 := upd_same (H := HH_w2) (a := c1) (o := .lst ([.non, .ref o1, .ref o3, .ref o5, .ref o7, .ref o9, .ref o11, .ref o13, .ref o15] ++ [.ref o17, .ref o19, .ref o21, .ref o22, .ref o24]))
      have Rc1 := Rw2.stay qc1
      have mc1 := Rw2.new nc1
      generalize upd HH_w2 c1 (.lst ([.non, .ref o1, .ref o3, .ref o5, .ref o7, .ref o9, .ref o11, .ref o13, .ref o15] ++ [.ref o17, .ref o19, .ref o21, .ref o22, .ref o24])) = HH_c1 at qc1 ec1 Rc1 ⊢
      clear nc1 Rw2
      refine ⟨_, rfl, sizeOk (by show (1 : Nat) ≤ 100000; decide), fun o25 no25 => ?_⟩
      have qo25 := same_upd no25 (o := .tup [.int 1])
      have eo25 := upd_same (H := HH_c1) (a := o25) (o := .tup [.int 1])
      have Ro25 := Rc1.stay qo25
      generalize upd HH_c1 o25 (.tup [.int 1]) = HH_o25 at qo25 eo25 Ro25 ⊢
      clear no25 Rc1
      refine ⟨sizeOk (by show (3 : Nat) ≤ 100000; decide), fun o26 no26 => ?_⟩
      have qo26 := same_upd no26 (o := .tup [.int 4, .ref o25, .int 0])
      have eo26 := upd_same (H := HH_o25) (a := o26) (o := .tup [.int 4, .ref o25, .int 0])
      have Ro26 := Ro25.stay qo26
      generalize upd HH_o25 o26 (.tup [.int 4, .ref o25, .int 0]) = HH_o26 at qo26 eo26 Ro26 ⊢
      clear no26 Ro25
      refine ⟨sizeOk (by show (0 : Nat) ≤ 100000; decide), fun o27 no27 => ?_⟩
      have qo27 := same_upd no27 (o := .tup [])
      have eo27 := upd_same (H := HH_o26) (a := o27) (o := .tup [])
      have Ro27 := Ro26.stay qo27
      generalize upd HH_o26 o27 (.tup []) = HH_o27 at qo27 eo27 Ro27 ⊢
      clear no27 Ro26
      refine ⟨sizeOk (by show (2 : Nat) ≤ 100000; decide), fun o28 no28 => ?_⟩
      have qo28 := same_upd no28 (o := .tup [.int 1, .ref o27])
      have eo28 := upd_same (H := HH_o27) (a := o28) (o := .tup [.int 1, .ref o27])
      have Ro28 := Ro27.stay qo28
      generalize upd HH_o27 o28 (.tup [.int 1, .ref o27]) = HH_o28 at qo28 eo28 Ro28 ⊢
      clear no28 Ro27
      refine ⟨sizeOk (by show (2 : Nat) ≤ 100000; decide), fun o29 no29 => ?_⟩
      have qo29 := same_upd no29 (o := .tup [.int 0, .str "1"])
      have eo29 := upd_same (H := HH_o28) (a := o29) (o := .tup [.int 0, .str "1"])
      have Ro29 := Ro28.stay qo29
      generalize upd HH_o28 o29 (.tup [.int 0, .str "1"]) = HH_o29 at qo29 eo29 Ro29 ⊢
      clear no29 Ro28
      refine ⟨sizeOk (by show (2 : Nat) ≤ 100000; decide), fun o30 no30 => ?_⟩
      have qo30 := same_upd no30 (o := .tup [.int 4, .ref o29])
      have eo30 := upd_same (H := HH_o29) (a := o30) (o := .tup [.int 4, .ref o29])
      have Ro30 := Ro29.stay qo30
      generalize upd HH_o29 o30 (.tup [.int 4, .ref o29]) = HH_o30 at qo30 eo30 Ro30 ⊢
      clear no30 Ro29
      refine ⟨sizeOk (by show (4 : Nat) ≤ 100000; decide), fun w3 nw3 => ?_⟩
      have qw3 := same_upd nw3 (o := .lst [.ref o26, .ref o28, .str "bar", .ref o30])
      have ew3 := upd_same (H := HH_o30) (a := w3) (o := .lst [.ref o26, .ref o28, .str "bar", .ref o30])
      have Rw3 := Ro30.stay qw3
      have mw3 := Ro30.new nw3
      generalize upd HH_o30 w3 (.lst [.ref o26, .ref o28, .str "bar", .ref o30]) = HH_w3 at qw3 ew3 Rw3 ⊢
      clear nw3 Ro30
      refine ⟨c1, w3, _, _, rfl, rfl, (qo25.trans (qo26.trans (qo27.trans (qo28.trans (qo29.trans (qo30.trans (qw3))))))) _ _ ec1, ew3, sizeOk (by show (18 : Nat) ≤ 100000; decide), fun c2 nc2 => ?_⟩
      have qc2 := same_upd nc2 (o := .lst (([.non, .ref o1, .ref o3, .ref o5, .ref o7, .ref o9, .ref o11, .ref o13, .ref o15] ++ [.ref o17, .ref o19, .ref o21, .ref o22, .ref o24]) ++ [.ref o26, .ref o28, .str "bar", .ref o30]))
      have ec2 := upd_same (H := HH_w3) (a := c2) (o := .lst (([.non, .ref o1, .ref o3, .ref o5, .ref o7, .ref o9, .ref o11, .ref o13, .ref o15] ++ [.ref o17, .ref o19, .ref o21, .ref o22, .ref o24]) ++ [.ref o26, .ref o28, .str "bar", .ref o30]))
      have Rc2 := Rw3.stay qc2
      have mc2 := Rw3.new nc2
      generalize upd HH_w3 c2 (.lst (([.non, .ref o1, .ref o3, .ref o5, .ref o7, .ref o9, .ref o11, .ref o13, .ref o15] ++ [.ref o17, .ref o19, .ref o21, .ref o22, .ref o24]) ++ [.ref o26, .ref o28, .str "bar", .ref o30])) = HH_c2 at qc2 ec2 Rc2 ⊢
      clear nc2 Rw3
      -- all at the end
      have zc2 : Same HH_c2 HH_c2 := Same.refl _
      have zw3 := qc2.trans zc2
      have zo30 := qw3.trans zw3
      have zo29 := qo30.trans zo30
      have zo28 := qo29.trans zo29
      have zo27 := qo28.trans zo28
      have zo26 := qo27.trans zo27
      have zo25 := qo26.trans zo26
      have zc1 := qo25.trans zo25
      have zw2 := qc1.trans zc1
      have zo24 := qw2.trans zw2
      have zo23 := qo24.trans zo24
      have zo22 := qo23.trans zo23
      have zo21 := qo22.trans zo22
      have zo20 := qo21.trans zo21
      have zo19 := qo20.trans zo20
      have zo18 := qo19.trans zo19
      have zo17 := qo18.trans zo18
      have zo16 := qo17.trans zo17
      have zw1 := qo16.trans zo16
      have zo15 := qw1.trans zw1
      have zo14 := qo15.trans zo15
      have zo13 := qo14.trans zo14
      have zo12 := qo13.trans zo13
      have zo11 := qo12.trans zo12
      have zo10 := qo11.trans zo11
      have zo9 := qo10.trans zo10
      have zo8 := qo9.trans zo9
      have zo7 := qo8.trans zo8
      have zo6 := qo7.trans zo7
      have zo5 := qo6.trans zo6
      have zo4 := qo5.trans zo5
      have zo3 := qo4.trans zo4
      have zo2 := qo3.trans zo3
      have zo1 := qo2.trans zo2
      have zAll := qo1.trans zo1
      have fo1 := zo1 _ _ eo1
      have fo2 := zo2 _ _ eo2
      have fo3 := zo3 _ _ eo3
      have fo4 := zo4 _ _ eo4
      have fo5 := zo5 _ _ eo5
      have fo6 := zo6 _ _ eo6
      have fo7 := zo7 _ _ eo7
      have fo8 := zo8 _ _ eo8
      have fo9 := zo9 _ _ eo9
      have fo10 := zo10 _ _ eo10
      have fo11 := zo11 _ _ eo11
      have fo12 := zo12 _ _ eo12
      have fo13 := zo13 _ _ eo13
      have fo14 := zo14 _ _ eo14
      have fo15 := zo15 _ _ eo15
      have fo16 := zo16 _ _ eo16
      have fo17 := zo17 _ _ eo17
      have fo18 := zo18 _ _ eo18
      have fo19 := zo19 _ _ eo19
      have fo20 := zo20 _ _ eo20
      have fo21 := zo21 _ _ eo21
      have fo22 := zo22 _ _ eo22
      have fo23 := zo23 _ _ eo23
      have fo24 := zo24 _ _ eo24
      have fo25 := zo25 _ _ eo25
      have fo26 := zo26 _ _ eo26
      have fo27 := zo27 _ _ eo27
      have fo28 := zo28 _ _ eo28
      have fo29 := zo29 _ _ eo29
      have fo30 := zo30 _ _ eo30
      have fc2 := zc2 _ _ ec2
      clear qo1 zo1 qo2 zo2 qo3 zo3 qo4 zo4 qo5 zo5 qo6 zo6 qo7 zo7 qo8 zo8 qo9 zo9 qo10 zo10 qo11 zo11 qo12 zo12 qo13 zo13 qo14 zo14 qo15 zo15 qw1 zw1 qo16 zo16 qo17 zo17 qo18 zo18 qo19 zo19 qo20 zo20 qo21 zo21 qo22 zo22 qo23 zo23 qo24 zo24 qw2 zw2 qc1 zc1 qo25 zo25 qo26 zo26 qo27 zo27 qo28 zo28 qo29 zo29 qo30 zo30 qw3 zw3 qc2 zc2 eo1 eo2 eo3 eo4 eo5 eo6 eo7 eo8 eo9 eo10 eo11 eo12 eo13 eo14 eo15 ew1 eo16 eo17 eo18 eo19 eo20 eo21 eo22 eo23 eo24 ew2 ec1 eo25 eo26 eo27 eo28 eo29 eo30 ew3 ec2
      have RE := Rc2
      have tvE := Same.seqTT zAll tv
      have BsE := Bs.stay (.same zAll)
      have eDE := zAll _ _ eD3
      have bfE := bf3.stay zAll
      have hvE : ∀ (i : Nat) x b, ys[i]? = some x → bs[i]? = some b → BarAt K HH_c2 x b := fun i x b h1 h2 => (hv i x b h1 h2).stay (.same zAll)
      clear Rc2 tv eD3 bf3 zAll Bs R3
      generalize HH_c2 = HE at *
      refine ⟨_, rfl, _, rfl, va, _, rfl, .inr tvE, _, _, rfl, rfl, r, L, _, rfl, RE, by omega, by have := Dr.len; rw [nv]; omega, fun at0 HB a0 a1 kB1 RB => ?_⟩
      rw [nv] at a1
      obtain ⟨at_, rfl⟩ : ∃ k : Nat, at0 = (k : Int) := ⟨at0.toNat, by omega⟩
      have hat : at_ ≤ bs.length := by omega
      have b3 := Dr.len
      have svD : SvOk bs := Dr.sv (by decide) (by decide) (Nat.le_trans (whPow (N := 9) bs fun b hb => by have := Dr.bar b hb; omega) (Nat.le_trans (Nat.pow_le_pow_right (by decide) b3) (by decide)))
      refine ⟨fun σ H' => ∃ v4 : V, σ = [some (.ref a), some (.ref r), some (.ref D), some (.int (0 + (i : Int))), some v4, some (.ref c2), some (.int (at_ : Nat)), x7, x8, x9, x10] ∧ RowAt H' r L ∧ H' D = some (.lst xs) ∧ BefAt K T.C H' xs ∧ ((∃ w, BadB K H' v4 w) ∨ ∃ bs, BarsAt K H' v4 bs ∧ SvOk bs), ?_, ?_⟩
      · refine ⟨_, rfl, r, L, 2, rfl, RB, by decide, by decide, fun b0 H6 b00 b01 k6 R6 => ⟨rfl, _, rfl, ite2 (fun _ => ?_) (fun _ => ?_)⟩⟩
        · have kE6 := kB1.trans k6
          have tv6 := RE.tups kE6 _ _ tvE
          refine ⟨_, rfl, _, rfl, _, rfl, tupTake (K := K) tv6 fun y1 H7 s7 t7 => ?_⟩
          have R7 := R6.stay s7
          refine ⟨_, rfl, _, rfl, r, L, 18, rfl, R7, by decide, by decide, fun z HC z0 z1 kC RC => ?_⟩
          have kB : Kp r HE HC := (kE6.trans (Kp.of s7)).trans kC
          have tB : ∀ {c : Addr} {us : List V}, HE c = some (.tup us) → SqT K HC c us := fun e => RE.tups kB _ _ (tupOf e)
          obtain ⟨y, hy, cy⟩ : ∃ y, atI (([.non, .ref o1, .ref o3, .ref o5, .ref o7, .ref o9, .ref o11, .ref o13, .ref o15] ++ [.ref o17, .ref o19, .ref o21, .ref o22, .ref o24]) ++ [.ref o26, .ref o28, .str "bar", .ref o30]) z = some y ∧ (BarAt K HC y (1, []) ∨ NoBar K HC y) := by
            rcases (by omega : z = 0 ∨ z = 1 ∨ z = 2 ∨ z = 3 ∨ z = 4 ∨ z = 5 ∨ z = 6 ∨ z = 7 ∨ z = 8 ∨ z = 9 ∨ z = 10 ∨ z = 11 ∨ z = 12 ∨ z = 13 ∨ z = 14 ∨ z = 15 ∨ z = 16 ∨ z = 17) with rfl | rfl | rfl | rfl | rfl | rfl | rfl | rfl | rfl | rfl | rfl | rfl | rfl | rfl | rfl | rfl | rfl | rfl
            · exact ⟨_, atI_nat (j := 0) rfl, .inr (.inl ⟨"NoneType", .base .non, by decide +kernel⟩)⟩
            · exact ⟨_, atI_nat (j := 1) rfl, .inr (.inr ⟨o1, _, rfl, (tB fo1), .inl (by show (1 : Nat) ≠ 2; decide)⟩)⟩
            · exact ⟨_, atI_nat (j := 2) rfl, .inr (.inl ⟨"list", .base (.lst (kB _ _ mo3.1 fo3)), by decide +kernel⟩)⟩
            · exact ⟨_, atI_nat (j := 3) rfl, .inr (.inr ⟨o5, _, rfl, (tB fo5), .inr ⟨_, _, rfl, .inl ⟨_, rfl⟩, .inr ⟨o4, _, rfl, (tB fo4), (fun w hw => nomatch hw), by decide⟩⟩⟩)⟩
            · exact ⟨_, atI_nat (j := 4) rfl, .inr (.inr ⟨o7, _, rfl, (tB fo7), .inr ⟨_, _, rfl, .inl ⟨_, rfl⟩, .inr ⟨o6, _, rfl, (tB fo6), pone (.inl ⟨_, rfl⟩), by decide⟩⟩⟩)⟩
            · exact ⟨_, atI_nat (j := 5) rfl, .inr (.inr ⟨o9, _, rfl, (tB fo9), .inr ⟨_, _, rfl, .inl ⟨_, rfl⟩, .inl ⟨"list", .base (.lst (kB _ _ mo8.1 fo8)), by decide +kernel⟩⟩⟩)⟩
            · exact ⟨_, atI_nat (j := 6) rfl, .inr (.inr ⟨o11, _, rfl, (tB fo11), .inr ⟨_, _, rfl, .inl ⟨_, rfl⟩, .inr ⟨o10, _, rfl, (tB fo10), pone (.inl ⟨_, rfl⟩), by decide⟩⟩⟩)⟩
            · exact ⟨_, atI_nat (j := 7) rfl, .inr (.inr ⟨o13, _, rfl, (tB fo13), .inr ⟨_, _, rfl, .inl ⟨_, rfl⟩, .inr ⟨o12, _, rfl, (tB fo12), pone (.inl ⟨_, rfl⟩), by decide⟩⟩⟩)⟩
            · exact ⟨_, atI_nat (j := 8) rfl, .inr (.inr ⟨o15, _, rfl, (tB fo15), .inr ⟨_, _, rfl, .inl ⟨_, rfl⟩, .inr ⟨o14, _, rfl, (tB fo14), ptwo (.inl ⟨_, rfl⟩) (.inl ⟨_, rfl⟩), by decide⟩⟩⟩)⟩
            · exact ⟨_, atI_nat (j := 9) rfl, .inr (.inr ⟨o17, _, rfl, (tB fo17), .inr ⟨_, _, rfl, .inl ⟨_, rfl⟩, .inr ⟨o16, _, rfl, (tB fo16), ptwo (.inl ⟨_, rfl⟩) (.inl ⟨_, rfl⟩), by decide⟩⟩⟩)⟩
            · exact ⟨_, atI_nat (j := 10) rfl, .inr (.inr ⟨o19, _, rfl, (tB fo19), .inr ⟨_, _, rfl, .inr (.inl ⟨_, rfl⟩), .inr ⟨o18, _, rfl, (tB fo18), pone (.inl ⟨_, rfl⟩), by decide⟩⟩⟩)⟩
            · exact ⟨_, atI_nat (j := 11) rfl, .inr (.inr ⟨o21, _, rfl, (tB fo21), .inr ⟨_, _, rfl, .inl ⟨_, rfl⟩, .inr ⟨o20, _, rfl, (tB fo20), pone (.inr (.inl ⟨_, rfl⟩)), by decide⟩⟩⟩)⟩
            · exact ⟨_, atI_nat (j := 12) rfl, .inr (.inr ⟨o22, _, rfl, (tB fo22), .inr ⟨_, _, rfl, .inl ⟨_, rfl⟩, .inl ⟨"NoneType", .base .non, by decide +kernel⟩⟩⟩)⟩
            · exact ⟨_, atI_nat (j := 13) rfl, .inr (.inr ⟨o24, _, rfl, (tB fo24), .inr ⟨_, _, rfl, .inl ⟨_, rfl⟩, .inr ⟨o23, _, rfl, (tB fo23), (fun w hw => by rw [rgUp] at hw; exact PItm.ints _ w hw), bar61⟩⟩⟩)⟩
            · exact ⟨_, atI_nat (j := 14) rfl, .inr (.inr ⟨o26, _, rfl, (tB fo26), .inl (by show (3 : Nat) ≠ 2; decide)⟩)⟩
            · exact ⟨_, atI_nat (j := 15) rfl, .inl ⟨o28, .ref o27, rfl, tB fo28, ⟨o27, rfl, tB fo27⟩⟩⟩
            · exact ⟨_, atI_nat (j := 16) rfl, .inr (.inl ⟨"str", .base (.str _), by decide +kernel⟩)⟩
            · exact ⟨_, atI_nat (j := 17) rfl, .inr (.inr ⟨o30, _, rfl, (tB fo30), .inr ⟨_, _, rfl, .inl ⟨_, rfl⟩, .inr ⟨o29, _, rfl, (tB fo29), ptwo (.inl ⟨_, rfl⟩) (.inr (.inr rfl)), by decide⟩⟩⟩)⟩
          have BsC := BsE.stay (RE.tups kB)
          have tvC := RE.tups kB _ _ tvE
          have eDC := kB _ _ nDr.1 eDE
          have bfC := bfE.keep RE kB
          have t7C := R7.tups kC _ _ t7
          refine ⟨c2, _, _, _, rfl, rfl, lstOf (kB _ _ mc2.1 fc2), hy, sizeOk (by show (1 : Nat) ≤ 100000; decide), fun t1 n1 => ?_⟩
          have q1 := same_upd n1 (o := .tup [y])
          have e1 := upd_same (H := HC) (a := t1) (o := .tup [y])
          generalize upd HC t1 (.tup [y]) = HF at q1 e1 ⊢
          refine tupCat (K := K) (Same.seqTT q1 t7C) (tupOf e1) (by rw [List.length_take]; show min at_ ys.length + 1 ≤ 1000; omega) fun y2 HG sG tG => ?_
          have sFG := q1.trans sG
          refine ⟨_, rfl, _, rfl, _, rfl, ?_⟩
          simp only [tNoPart]
          refine tupDrop (K := K) (i := at_) (Same.seqTT sFG tvC) (by omega) fun y3 HI sI tI => ?_
          refine tupCat (K := K) (Same.seqTT sI tG) tI (by simp only [List.length_append, List.length_take, List.length_drop, List.length_singleton]; omega) fun y4 HJ sJ tJ => ?_
          have sAll := sFG.trans (sI.trans sJ)
          refine ⟨_, rfl, RC.stay sAll, sAll _ _ eDC, bfC.stay sAll, ?_⟩
          have hvJ : ∀ (i : Nat) x b, ys[i]? = some x → bs[i]? = some b → BarAt K HJ x b := fun i x b h1 h2 => ((hvE i x b h1 h2).stay (RE.tups kB)).stay (.same sAll)
          have nys : ys.length = bs.length := nv
          rcases cy with b1 | nb
          · exact .inr ⟨_, put_bars (by omega) nys hvJ (b1.stay (.same sAll)) tJ, put_sv Dr at_⟩
          · exact .inl ⟨_, .inr ⟨y4, _, rfl, tJ, .inr ⟨at_, put_bad (by omega) (by omega) (fun j x e => ⟨_, hvJ j x _ e (List.getElem?_eq_getElem (by have := (List.getElem?_eq_some_iff.mp e).1; omega)), svD.bar _ (List.getElem_mem _)⟩) (nb.same sAll), rfl⟩⟩⟩
        · refine ⟨_, rfl, r, L, 5, rfl, R6, by decide, by decide, fun b1 H7 b10 b11 k7 R7 => ⟨rfl, _, rfl, ite2 (fun _ => ?_) (fun _ => ?_)⟩⟩
          · have kE7 := (kB1.trans k6).trans k7
            have tv7 := RE.tups kE7 _ _ tvE
            have eD7 := kE7 _ _ nDr.1 eDE
            have bf7 := bfE.keep RE kE7
            refine ⟨_, rfl, va, _, rfl, .inr tv7, fun l1 nl1 => ⟨sizeOk (by show (1 : Nat) ≤ 100000; decide), fun u1 nu1 => ⟨sizeOk (by show (2 : Nat) ≤ 100000; decide), fun u2 nu2 => ⟨sizeOk (by show (1 : Nat) ≤ 100000; decide), fun u3 nu3 => ?_⟩⟩⟩⟩
            refine ⟨u3, 7, _, rfl, rfl, tupOf upd_same, List.cons_ne_nil _ _, by decide, by decide, (by show (1 : Nat) ≤ 1000; decide), fun u4 nu4 d nd => ?_⟩
            have r1 := same_upd nl1 (o := .lst ys)
            have r2 := same_upd nu1 (o := .tup [.int 0])
            have r3 := same_upd nu2 (o := .tup [.int 2, .ref u1])
            have r4 := same_upd nu3 (o := .tup [.ref u2])
            have r5 := same_upd nu4 (o := .tup (List.replicate (Int.toNat 7) [V.ref u2]).flatten)
            have r6 := same_upd nd (o := .dK [])
            have g1 := (r2.trans (r3.trans (r4.trans (r5.trans r6)))) _ _ (upd_same (H := H7) (a := l1) (o := .lst ys))
            have g5 := r6 _ _ (upd_same (H := upd (upd (upd (upd H7 l1 (.lst ys)) u1 (.tup [.int 0])) u2 (.tup [.int 2, .ref u1])) u3 (.tup [.ref u2])) (a := u4) (o := .tup (List.replicate (Int.toNat 7) [V.ref u2]).flatten))
            have g6 := upd_same (H := upd (upd (upd (upd (upd H7 l1 (.lst ys)) u1 (.tup [.int 0])) u2 (.tup [.int 2, .ref u1])) u3 (.tup [.ref u2])) u4 (.tup (List.replicate (Int.toNat 7) [V.ref u2]).flatten)) (a := d) (o := .dK [])
            have sA := r1.trans (r2.trans (r3.trans (r4.trans (r5.trans r6))))
            have n1r := R7.new nl1
            have n6r := (R7.stay (r1.trans (r2.trans (r3.trans (r4.trans r5))))).new nd
            generalize upd (upd (upd (upd (upd (upd H7 l1 (.lst ys)) u1 (.tup [.int 0])) u2 (.tup [.int 2, .ref u1])) u3 (.tup [.ref u2])) u4 (.tup (List.replicate (Int.toNat 7) [V.ref u2]).flatten)) d (.dK []) = H8 at g1 g5 g6 sA ⊢
            have R8 := R7.stay sA
            refine ⟨sizeOk (by show (5 : Nat) ≤ 100000; decide), fun l2 nl2 => ?_⟩
            have q2 := same_upd nl2 (o := .lst [.non, .ref l1, .ref u4, .str "bars", .ref d])
            have e2 := upd_same (H := H8) (a := l2) (o := .lst [.non, .ref l1, .ref u4, .str "bars", .ref d])
            have R9 := R8.stay q2
            have n2r := R8.new nl2
            generalize upd H8 l2 (.lst [.non, .ref l1, .ref u4, .str "bars", .ref d]) = H9 at q2 e2 R9 ⊢
            refine ⟨_, rfl, r, L, 5, rfl, R9, by decide, by decide, fun z HC z0 z1 kC RC => ?_⟩
            have kA : Kp r H7 HC := ((Kp.of sA).trans (Kp.of q2)).trans kC
            obtain ⟨y, hy, by_⟩ : ∃ y, atI [V.non, .ref l1, .ref u4, .str "bars", .ref d] z = some y ∧ BadB K HC y .non := by
              rcases (by omega : z = 0 ∨ z = 1 ∨ z = 2 ∨ z = 3 ∨ z = 4) with rfl | rfl | rfl | rfl | rfl
              · exact ⟨_, atI_nat (j := 0) rfl, .inl ⟨⟨"NoneType", .base .non, by decide +kernel⟩, rfl⟩⟩
              · exact ⟨_, atI_nat (j := 1) rfl, .inl ⟨⟨"list", .base (.lst (kC _ _ n1r.1 (q2 _ _ g1))), by decide +kernel⟩, rfl⟩⟩
              · exact ⟨_, atI_nat (j := 2) rfl, .inr ⟨u4, _, rfl, R9.tups kC _ _ (tupOf (q2 _ _ g5)), .inl ⟨by show 6 < (7 : Nat); decide, rfl⟩⟩⟩
              · exact ⟨_, atI_nat (j := 3) rfl, .inl ⟨⟨"str", .base (.str _), by decide +kernel⟩, rfl⟩⟩
              · exact ⟨_, atI_nat (j := 4) rfl, .inl ⟨⟨"dict", .base (.dK (kC _ _ n6r.1 (q2 _ _ g6))), by decide +kernel⟩, rfl⟩⟩
            refine ⟨l2, _, _, _, rfl, rfl, lstOf (kC _ _ n2r.1 e2), hy, ?_⟩
            exact ⟨_, rfl, RC, kA _ _ nDr.1 eD7, bf7.keep R7 kA, .inl ⟨_, by_⟩⟩
          · have kE7 := (kB1.trans k6).trans k7
            exact ⟨_, rfl, R7, kE7 _ _ nDr.1 eDE, bfE.keep RE kE7, .inr ⟨bs, BsE.stay (RE.tups kE7), svD⟩⟩
      · clear bfE eDE BsE tvE RE hvE
        rintro σ H4 ⟨v4, rfl, R4, e4, bf4, cases4⟩
        rcases cases4 with ⟨w, bad⟩ | ⟨cs, Cs, Sv⟩
        · obtain ⟨dw, hdw, okw⟩ : ∃ dw, (∀ H, Dp K H w dw) ∧ okD 0 dw := by
            rcases bad with ⟨_, rfl⟩ | ⟨_, _, _, _, ⟨_, rfl⟩ | ⟨i, _, rfl⟩⟩
            · exact ⟨.none, fun H => .non, okN⟩
            · exact ⟨.none, fun H => .non, okN⟩
            · exact ⟨.int i, fun H => .int _, okD.int _⟩
          refine ⟨_, rfl, v4, rfl, .inl ⟨w, bad, fun l1 H5 s5 e5 => ?_⟩⟩
          refine ⟨_, rfl, v4, rfl, .inl ⟨w, bad.same s5, fun l2 H6 s6 e6 => ⟨sizeOk (by show (2 : Nat) ≤ 100000; decide), fun t nt => ?_⟩⟩⟩
          have st := same_upd nt (o := .tup [.ref l1, .ref l2])
          refine ⟨t, [_, _], rfl, tupOf upd_same, rfl, _, _, rfl, _, _, rfl, rfl, ?_⟩
          have sA := s5.trans (s6.trans st)
          refine ⟨_, rfl, rfl, _, rfl, ?_⟩
          rw [decide_eq_false (by intro z; cases z)]
          refine iteT ⟨_, rfl, _, rfl, _, _, dpTold (st _ _ e6) (hdw _), dpTold ((s6.trans st) _ _ e5) (hdw _), (okTold okB okw).shaped (by decide), (okTold okB okw).shaped (by decide), _, rfl, ?_⟩
          rw [(okTold okB okw).eqv]
          refine iteF ?_
          exact ⟨_, _, _, _, _, _, _, _, xs, rfl, sA _ _ e4, by omega, bf4.stay sA, R4.stay sA⟩
        · refine ⟨_, rfl, v4, rfl, .inr ⟨cs, Cs, Sv.pre, fun H5 s5 => ?_⟩⟩
          refine ⟨_, rfl, v4, rfl, .inr ⟨cs, Cs.stay (.same s5), Sv, fun p tc H6 s6 A6 => ⟨sizeOk (by show (2 : Nat) ≤ 100000; decide), fun t nt => ?_⟩⟩⟩
          have st := same_upd nt (o := .tup [.non, .ref p])
          refine ⟨t, [_, _], rfl, tupOf upd_same, rfl, _, _, rfl, _, _, rfl, rfl, ?_⟩
          have sA := s5.trans (s6.trans st)
          have A7 := A6.stay st
          have e7 := sA _ _ e4
          have bf7 := bf4.stay sA
          have R7 := R4.stay sA
          have C7 := Cs.stay (.same sA)
          generalize upd H6 t (.tup [.non, .ref p]) = H7 at *
          refine ⟨_, rfl, rfl, _, rfl, ?_⟩
          rw [decide_eq_true rfl]
          refine iteF ⟨_, rfl, _, _, _, _, _, rfl, .own T.C, A7.ty T, T.isC, true, rfl, iteF ?_⟩
          refine ⟨_, rfl, p, _, _, rfl, A7.ob.choose_spec, p, _, tc, cs, rfl, A7, _, rfl, _, _, dpBars A7.bars, dpBars C7, (okBars _).shaped (by decide), (okBars _).shaped (by decide), _, rfl, ?_⟩
          rw [eqvBars, decide_eq_true rfl]
          obtain ⟨va4, ys4, rfl, t4, _, _⟩ := C7.ex
          refine iteF ⟨_, rfl, _, rfl, ownTp T A7 t4 ⟨_, rfl, iteF ?_⟩⟩
          refine ⟨_, rfl, D, rfl, ⟨_, lstOf e7⟩, fun F nF => ?_⟩
          refine lc_list (xs := xs) (fun m Hm => Hm F = some (.lst []) ∧ Same H7 Hm) ⟨upd_same, same_upd nF⟩ (fun m Hm _ z => lstOf (z.2 _ _ e7)) ?_ ?_
          · rintro m x Hm ex ⟨eF, sm⟩
            obtain ⟨t', p', v1, v2, tc', bs', rfl, tt', S', B'⟩ := bf7 m x ex
            refine ⟨t', _, rfl, Same.seqTT sm tt', rfl, _, _, rfl, _, _, rfl, rfl, rfl, ?_⟩
            refine ⟨_, rfl, _, rfl, ownSv (S'.stay sm) (A7.stay sm) ⟨_, rfl, _, rfl, _, _, dpBars (B'.stay (.same sm)), dpBars (C7.stay (.same sm)), (okBars _).shaped (by decide), (okBars _).shaped (by decide), ?_⟩⟩
            rw [eqvBars]
            refine ⟨rfl, _, rfl, ?_⟩
            show (if (!decide (V.bl (decide (bs' = cs)) = V.bl (decide (bs' = cs)))) = true then _ else _)
            rw [decide_eq_true (rfl : V.bl (decide (bs' = cs)) = V.bl (decide (bs' = cs)))]
            exact iteF ⟨eF, sm⟩
          · rintro HL ⟨eF, sL⟩
            refine ⟨Nat.zero_le _, fun G nG => ?_⟩
            have sG := same_upd nG (o := .lst [])
            refine ⟨_, _, .lst (lstOf (sG _ _ eF)) .nil, .lst (lstOf upd_same) .nil, by decide, by decide, _, rfl, ?_⟩
            rw [eqvNilA]
            refine iteF ?_
            have sB := sL.trans sG
            have e9 := sB _ _ e7
            have bf9 := bf7.stay sB
            have R9 := R7.stay sB
            have A9 := A7.stay sB
            have C9 := C7.stay (.same sB)
            refine ⟨_, rfl, .inl ⟨rfl, _, lstOf e9⟩, _, rfl, _, rfl, sizeOk (by show (2 : Nat) ≤ 100000; decide), fun u nu => ⟨D, _, _, rfl, rfl, same_upd nu _ _ e9, sizeLt (by omega), ?_⟩⟩
            have su := same_upd nu (o := .tup [.ref p, .ref va4])
            refine ⟨_, _, _, _, _, _, _, _, xs ++ [.ref u], rfl, upd_same, by rw [List.length_append, List.length_singleton]; omega, BefAt.add (bf9.stay su) (su _ _ e9) (tupOf upd_same) (A9.stay su) (C9.stay (.same su)), (R9.stay su).upd nDr⟩
    · rintro σ H2 ⟨x3, x4, x5, x6, x7, x8, x9, x10, xs, rfl, eD, lx, bf, R2⟩
      exact q _
end

end R
namespace R
open PySem PySem.Spec PyProof.Rows L2
theorem kit_ref {K : PySem.W.Frag} {C : Addr} {t : Value} (h1 : PySem.W.hasDictIn K C = true) (h2 : PySem.W.typeIn K (.ref C) = some (.type "type")) (h3 : PySem.W.subIn K t (.ref C) = some true) : PySem.W.kitOne K t (.ref C) = some true := by
  obtain ⟨cd, hc, _⟩ := PySem.W.any_some h1
  unfold PySem.W.kitOne
  split
  · rfl
  · show (if ((PySem.W.clsIn K C).isSome && PySem.W.typeIn K (.ref C) == some (.type "type")) = true then PySem.W.subIn K t (.ref C) else none) = some true
    rw [hc, h2]
    exact h3
theorem all_mk {l : PySem.W.OpenLaw} [POk l.prog FILE] {w : World} {K : PySem.W.Frag} {h : Heap} {mg : Str → Option Value} {fa : Addr} (X : K.In h) (G : h.Ns mainGlobals mg) (hfa : mg "law" = some (.ref fa))
    {f0 : Addr} {oc0 kV0 dc0 pm0 cd0 ct0 : Value} {od0 an0 : Option Addr} {sl0 : Array (Option Value)}
    (a0 : PySem.W.nsIn K mainGlobals "is_integer" = some (some (.ref f0)))
    {f1 : Addr} {oc1 kV1 dc1 pm1 cd1 ct1 : Value} {od1 an1 : Option Addr} {sl1 : Array (Option Value)}
    (a1 : PySem.W.nsIn K mainGlobals "integer_within" = some (some (.ref f1)))
    {f2 : Addr} {oc2 kV2 dc2 pm2 cd2 ct2 : Value} {od2 an2 : Option Addr} {sl2 : Array (Option Value)}
    (a2 : PySem.W.nsIn K mainGlobals "is_ascending" = some (some (.ref f2)))
    {f3 : Addr} {oc3 kV3 dc3 pm3 cd3 ct3 : Value} {od3 an3 : Option Addr} {sl3 : Array (Option Value)}
    (a3 : PySem.W.nsIn K mainGlobals "is_lot" = some (some (.ref f3)))
    {f4 : Addr} {oc4 kV4 dc4 pm4 cd4 ct4 : Value} {od4 an4 : Option Addr} {sl4 : Array (Option Value)}
    (a4 : PySem.W.nsIn K mainGlobals "is_pair" = some (some (.ref f4)))
    {f5 : Addr} {oc5 kV5 dc5 pm5 cd5 ct5 : Value} {od5 an5 : Option Addr} {sl5 : Array (Option Value)}
    (a5 : PySem.W.nsIn K mainGlobals "is_bar" = some (some (.ref f5)))
    {f6 : Addr} {oc6 kV6 dc6 pm6 cd6 ct6 : Value} {od6 an6 : Option Addr} {sl6 : Array (Option Value)}
    (a6 : PySem.W.nsIn K mainGlobals "inverse" = some (some (.ref f6)))
    {f7 : Addr} {oc7 kV7 dc7 pm7 cd7 ct7 : Value} {od7 an7 : Option Addr} {sl7 : Array (Option Value)}
    (a7 : PySem.W.nsIn K mainGlobals "joined" = some (some (.ref f7)))
    {f8 : Addr} {oc8 kV8 dc8 pm8 cd8 ct8 : Value} {od8 an8 : Option Addr} {sl8 : Array (Option Value)}
    (a8 : PySem.W.nsIn K mainGlobals "classes_of" = some (some (.ref f8)))
    {f9 : Addr} {oc9 kV9 dc9 pm9 cd9 ct9 : Value} {od9 an9 : Option Addr} {sl9 : Array (Option Value)}
    (a9 : PySem.W.nsIn K mainGlobals "check_bars" = some (some (.ref f9)))
    {f10 : Addr} {oc10 kV10 dc10 pm10 cd10 ct10 : Value} {od10 an10 : Option Addr} {sl10 : Array (Option Value)}
    (a10 : PySem.W.nsIn K mainGlobals "whole_of" = some (some (.ref f10)))
    {f11 : Addr} {oc11 kV11 dc11 pm11 cd11 ct11 : Value} {od11 an11 : Option Addr} {sl11 : Array (Option Value)}
    (a11 : PySem.W.nsIn K mainGlobals "check_choices" = some (some (.ref f11)))
    {f12 : Addr} {oc12 kV12 dc12 pm12 cd12 ct12 : Value} {od12 an12 : Option Addr} {sl12 : Array (Option Value)}
    (a12 : PySem.W.nsIn K mainGlobals "_law_draws" = some (some (.ref f12)))
    {f13 : Addr} {oc13 kV13 dc13 pm13 cd13 ct13 : Value} {od13 an13 : Option Addr} {sl13 : Array (Option Value)}
    (a13 : PySem.W.nsIn K mainGlobals "_law_pick" = some (some (.ref f13)))
    {f14 : Addr} {oc14 kV14 dc14 pm14 cd14 ct14 : Value} {od14 an14 : Option Addr} {sl14 : Array (Option Value)}
    (a14 : PySem.W.nsIn K mainGlobals "_law_bars" = some (some (.ref f14)))
    {f15 : Addr} {oc15 kV15 dc15 pm15 cd15 ct15 : Value} {od15 an15 : Option Addr} {sl15 : Array (Option Value)}
    (a15 : PySem.W.nsIn K mainGlobals "_law_told_there" = some (some (.ref f15)))
    {f16 : Addr} {oc16 kV16 dc16 pm16 cd16 ct16 : Value} {od16 an16 : Option Addr} {sl16 : Array (Option Value)}
    (a16 : PySem.W.nsIn K mainGlobals "_law_is_whole" = some (some (.ref f16)))
    {f17 : Addr} {oc17 kV17 dc17 pm17 cd17 ct17 : Value} {od17 an17 : Option Addr} {sl17 : Array (Option Value)}
    (a17 : PySem.W.nsIn K mainGlobals "_law_bad" = some (some (.ref f17)))
    {f18 : Addr} {oc18 kV18 dc18 pm18 cd18 ct18 : Value} {od18 an18 : Option Addr} {sl18 : Array (Option Value)}
    (a18 : PySem.W.nsIn K mainGlobals "_law_due" = some (some (.ref f18)))
    {f19 : Addr} {oc19 kV19 dc19 pm19 cd19 ct19 : Value} {od19 an19 : Option Addr} {sl19 : Array (Option Value)}
    (a19 : PySem.W.nsIn K mainGlobals "law" = some (some (.ref f19)))
    {f20 : Addr} {oc20 kV20 dc20 pm20 cd20 ct20 : Value} {od20 an20 : Option Addr} {sl20 : Array (Option Value)}
    {f21 : Addr} {oc21 kV21 dc21 pm21 cd21 ct21 : Value} {od21 an21 : Option Addr} {sl21 : Array (Option Value)}
    {f22 : Addr} {oc22 kV22 dc22 pm22 cd22 ct22 : Value} {od22 an22 : Option Addr} {sl22 : Array (Option Value)}
    {f23 : Addr} {oc23 kV23 dc23 pm23 cd23 ct23 : Value} {od23 an23 : Option Addr} {sl23 : Array (Option Value)}
    {f24 : Addr} {oc24 kV24 dc24 pm24 cd24 ct24 : Value} {od24 an24 : Option Addr} {sl24 : Array (Option Value)}
    {C : Addr} {pB pW pC : Addr} {rB rW rC : List Value}
    (aC : PySem.W.nsIn K mainGlobals "Sieve" = some (some (.ref C)))
    (mI : PySem.W.findIn K (.ref C) "__init__" = some (some (.ref f20)))
    (iI : PySem.W.isFn K (.ref f20) = true)
    (mE : PySem.W.findIn K (.ref C) "__eq__" = some (some (.ref f21)))
    (pg : PySem.W.plainGet K C Str.empty = true)
    (hd : PySem.W.hasDictIn K C = true)
    (po : PySem.W.plainOver K C = true)
    (sa : PySem.W.findIn K (.ref C) "__setattr__" = some (some (.builtin "object.__setattr__")))
    (mk : PySem.W.makesIn K C = true)
    (kc : PySem.W.keepIn K (.ref C) = true)
    (n_bars : PySem.W.findIn K (.ref C) "_bars" = some none)
    (n_whole : PySem.W.findIn K (.ref C) "_whole" = some none)
    (n_classes : PySem.W.findIn K (.ref C) "_classes" = some none)
    (q1B : PySem.W.findIn K (.ref C) "bars" = some (some (.ref pB)))
    (q2B : PySem.W.specialIn K (.ref pB) "__get__" = some (some (.builtin "property.__get__")))
    (q3B : PySem.W.takesIn K (.ref pB) = some true)
    (q4B : PySem.W.recIn K pB "property" = some (.ref f22 :: rB))
    (q1W : PySem.W.findIn K (.ref C) "whole" = some (some (.ref pW)))
    (q2W : PySem.W.specialIn K (.ref pW) "__get__" = some (some (.builtin "property.__get__")))
    (q3W : PySem.W.takesIn K (.ref pW) = some true)
    (q4W : PySem.W.recIn K pW "property" = some (.ref f23 :: rW))
    (q1C : PySem.W.findIn K (.ref C) "classes" = some (some (.ref pC)))
    (q2C : PySem.W.specialIn K (.ref pC) "__get__" = some (some (.builtin "property.__get__")))
    (q3C : PySem.W.takesIn K (.ref pC) = some true)
    (q4C : PySem.W.recIn K pC "property" = some (.ref f24 :: rC))
    (l0 : K.lookup f0 = some ⟨oc0, od0, .func (PySem.W.fnOf "is_integer" "is_integer" (defArgs s_p_is_integer) (defBody s_p_is_integer) (defScope s_p_is_integer) .none kV0 dc0 pm0 an0 cd0 ct0), sl0⟩)
    (d0 : PySem.W.codeIn K cd0 "is_integer" = true)
    (k0 : PySem.W.keepIn K (.ref f0) = true)
    (l1 : K.lookup f1 = some ⟨oc1, od1, .func (PySem.W.fnOf "integer_within" "integer_within" (defArgs s_p_integer_within) (defBody s_p_integer_within) (defScope s_p_integer_within) .none kV1 dc1 pm1 an1 cd1 ct1), sl1⟩)
    (d1 : PySem.W.codeIn K cd1 "integer_within" = true)
    (k1 : PySem.W.keepIn K (.ref f1) = true)
    (l2 : K.lookup f2 = some ⟨oc2, od2, .func (PySem.W.fnOf "is_ascending" "is_ascending" (defArgs s_p_is_ascending) (defBody s_p_is_ascending) (defScope s_p_is_ascending) .none kV2 dc2 pm2 an2 cd2 ct2), sl2⟩)
    (d2 : PySem.W.codeIn K cd2 "is_ascending" = true)
    (k2 : PySem.W.keepIn K (.ref f2) = true)
    (l3 : K.lookup f3 = some ⟨oc3, od3, .func (PySem.W.fnOf "is_lot" "is_lot" (defArgs s_p_is_lot) (defBody s_p_is_lot) (defScope s_p_is_lot) .none kV3 dc3 pm3 an3 cd3 ct3), sl3⟩)
    (d3 : PySem.W.codeIn K cd3 "is_lot" = true)
    (k3 : PySem.W.keepIn K (.ref f3) = true)
    (l4 : K.lookup f4 = some ⟨oc4, od4, .func (PySem.W.fnOf "is_pair" "is_pair" (defArgs s_p_is_pair) (defBody s_p_is_pair) (defScope s_p_is_pair) .none kV4 dc4 pm4 an4 cd4 ct4), sl4⟩)
    (d4 : PySem.W.codeIn K cd4 "is_pair" = true)
    (k4 : PySem.W.keepIn K (.ref f4) = true)
    (l5 : K.lookup f5 = some ⟨oc5, od5, .func (PySem.W.fnOf "is_bar" "is_bar" (defArgs s_p_is_bar) (defBody s_p_is_bar) (defScope s_p_is_bar) .none kV5 dc5 pm5 an5 cd5 ct5), sl5⟩)
    (d5 : PySem.W.codeIn K cd5 "is_bar" = true)
    (k5 : PySem.W.keepIn K (.ref f5) = true)
    (l6 : K.lookup f6 = some ⟨oc6, od6, .func (PySem.W.fnOf "inverse" "inverse" (defArgs s_p_inverse) (defBody s_p_inverse) (defScope s_p_inverse) .none kV6 dc6 pm6 an6 cd6 ct6), sl6⟩)
    (d6 : PySem.W.codeIn K cd6 "inverse" = true)
    (k6 : PySem.W.keepIn K (.ref f6) = true)
    (l7 : K.lookup f7 = some ⟨oc7, od7, .func (PySem.W.fnOf "joined" "joined" (defArgs s_p_joined) (defBody s_p_joined) (defScope s_p_joined) .none kV7 dc7 pm7 an7 cd7 ct7), sl7⟩)
    (d7 : PySem.W.codeIn K cd7 "joined" = true)
    (k7 : PySem.W.keepIn K (.ref f7) = true)
    (l8 : K.lookup f8 = some ⟨oc8, od8, .func (PySem.W.fnOf "classes_of" "classes_of" (defArgs s_p_classes_of) (defBody s_p_classes_of) (defScope s_p_classes_of) .none kV8 dc8 pm8 an8 cd8 ct8), sl8⟩)
    (d8 : PySem.W.codeIn K cd8 "classes_of" = true)
    (k8 : PySem.W.keepIn K (.ref f8) = true)
    (l9 : K.lookup f9 = some ⟨oc9, od9, .func (PySem.W.fnOf "check_bars" "check_bars" (defArgs s_p_check_bars) (defBody s_p_check_bars) (defScope s_p_check_bars) .none kV9 dc9 pm9 an9 cd9 ct9), sl9⟩)
    (d9 : PySem.W.codeIn K cd9 "check_bars" = true)
    (k9 : PySem.W.keepIn K (.ref f9) = true)
    (l10 : K.lookup f10 = some ⟨oc10, od10, .func (PySem.W.fnOf "whole_of" "whole_of" (defArgs s_p_whole_of) (defBody s_p_whole_of) (defScope s_p_whole_of) .none kV10 dc10 pm10 an10 cd10 ct10), sl10⟩)
    (d10 : PySem.W.codeIn K cd10 "whole_of" = true)
    (k10 : PySem.W.keepIn K (.ref f10) = true)
    (l11 : K.lookup f11 = some ⟨oc11, od11, .func (PySem.W.fnOf "check_choices" "check_choices" (defArgs s_p_check_choices) (defBody s_p_check_choices) (defScope s_p_check_choices) .none kV11 dc11 pm11 an11 cd11 ct11), sl11⟩)
    (d11 : PySem.W.codeIn K cd11 "check_choices" = true)
    (k11 : PySem.W.keepIn K (.ref f11) = true)
    (l12 : K.lookup f12 = some ⟨oc12, od12, .func (PySem.W.fnOf "_law_draws" "_law_draws" (defArgs s_l_draws) (defBody s_l_draws) (defScope s_l_draws) .none kV12 dc12 pm12 an12 cd12 ct12), sl12⟩)
    (d12 : PySem.W.codeIn K cd12 "_law_draws" = true)
    (k12 : PySem.W.keepIn K (.ref f12) = true)
    (l13 : K.lookup f13 = some ⟨oc13, od13, .func (PySem.W.fnOf "_law_pick" "_law_pick" (defArgs s_l_pick) (defBody s_l_pick) (defScope s_l_pick) .none kV13 dc13 pm13 an13 cd13 ct13), sl13⟩)
    (d13 : PySem.W.codeIn K cd13 "_law_pick" = true)
    (k13 : PySem.W.keepIn K (.ref f13) = true)
    (l14 : K.lookup f14 = some ⟨oc14, od14, .func (PySem.W.fnOf "_law_bars" "_law_bars" (defArgs s_l_bars) (defBody s_l_bars) (defScope s_l_bars) .none kV14 dc14 pm14 an14 cd14 ct14), sl14⟩)
    (d14 : PySem.W.codeIn K cd14 "_law_bars" = true)
    (k14 : PySem.W.keepIn K (.ref f14) = true)
    (l15 : K.lookup f15 = some ⟨oc15, od15, .func (PySem.W.fnOf "_law_told_there" "_law_told_there" (defArgs s_l_told_there) (defBody s_l_told_there) (defScope s_l_told_there) .none kV15 dc15 pm15 an15 cd15 ct15), sl15⟩)
    (d15 : PySem.W.codeIn K cd15 "_law_told_there" = true)
    (k15 : PySem.W.keepIn K (.ref f15) = true)
    (l16 : K.lookup f16 = some ⟨oc16, od16, .func (PySem.W.fnOf "_law_is_whole" "_law_is_whole" (defArgs s_l_is_whole) (defBody s_l_is_whole) (defScope s_l_is_whole) .none kV16 dc16 pm16 an16 cd16 ct16), sl16⟩)
    (d16 : PySem.W.codeIn K cd16 "_law_is_whole" = true)
    (k16 : PySem.W.keepIn K (.ref f16) = true)
    (l17 : K.lookup f17 = some ⟨oc17, od17, .func (PySem.W.fnOf "_law_bad" "_law_bad" (defArgs s_l_bad) (defBody s_l_bad) (defScope s_l_bad) .none kV17 dc17 pm17 an17 cd17 ct17), sl17⟩)
    (d17 : PySem.W.codeIn K cd17 "_law_bad" = true)
    (k17 : PySem.W.keepIn K (.ref f17) = true)
    (l18 : K.lookup f18 = some ⟨oc18, od18, .func (PySem.W.fnOf "_law_due" "_law_due" (defArgs s_l_due) (defBody s_l_due) (defScope s_l_due) .none kV18 dc18 pm18 an18 cd18 ct18), sl18⟩)
    (d18 : PySem.W.codeIn K cd18 "_law_due" = true)
    (k18 : PySem.W.keepIn K (.ref f18) = true)
    (l19 : K.lookup f19 = some ⟨oc19, od19, .func (PySem.W.fnOf "law" "law" (defArgs s_law) (defBody s_law) (defScope s_law) .none kV19 dc19 pm19 an19 cd19 ct19), sl19⟩)
    (d19 : PySem.W.codeIn K cd19 "law" = true)
    (k19 : PySem.W.keepIn K (.ref f19) = true)
    (l20 : K.lookup f20 = some ⟨oc20, od20, .func (PySem.W.fnOf "__init__" "Sieve.__init__" (defArgs s_m_Sieve_init) (defBody s_m_Sieve_init) (defScope s_m_Sieve_init) .none kV20 dc20 pm20 an20 cd20 ct20), sl20⟩)
    (d20 : PySem.W.codeIn K cd20 "Sieve.__init__" = true)
    (k20 : PySem.W.keepIn K (.ref f20) = true)
    (l21 : K.lookup f21 = some ⟨oc21, od21, .func (PySem.W.fnOf "__eq__" "Sieve.__eq__" (defArgs s_m_Sieve_eq) (defBody s_m_Sieve_eq) (defScope s_m_Sieve_eq) .none kV21 dc21 pm21 an21 cd21 ct21), sl21⟩)
    (d21 : PySem.W.codeIn K cd21 "Sieve.__eq__" = true)
    (k21 : PySem.W.keepIn K (.ref f21) = true)
    (l22 : K.lookup f22 = some ⟨oc22, od22, .func (PySem.W.fnOf "bars" "Sieve.bars" (defArgs s_m_Sieve_bars) (defBody s_m_Sieve_bars) (defScope s_m_Sieve_bars) .none kV22 dc22 pm22 an22 cd22 ct22), sl22⟩)
    (d22 : PySem.W.codeIn K cd22 "Sieve.bars" = true)
    (k22 : PySem.W.keepIn K (.ref f22) = true)
    (l23 : K.lookup f23 = some ⟨oc23, od23, .func (PySem.W.fnOf "whole" "Sieve.whole" (defArgs s_m_Sieve_whole) (defBody s_m_Sieve_whole) (defScope s_m_Sieve_whole) .none kV23 dc23 pm23 an23 cd23 ct23), sl23⟩)
    (d23 : PySem.W.codeIn K cd23 "Sieve.whole" = true)
    (k23 : PySem.W.keepIn K (.ref f23) = true)
    (l24 : K.lookup f24 = some ⟨oc24, od24, .func (PySem.W.fnOf "classes" "Sieve.classes" (defArgs s_m_Sieve_classes) (defBody s_m_Sieve_classes) (defScope s_m_Sieve_classes) .none kV24 dc24 pm24 an24 cd24 ct24), sl24⟩)
    (d24 : PySem.W.codeIn K cd24 "Sieve.classes" = true)
    (k24 : PySem.W.keepIn K (.ref f24) = true)
    (z_len : PySem.W.nsIn K mainGlobals "len" = some none)
    (z_max : PySem.W.nsIn K mainGlobals "max" = some none)
    (z_range : PySem.W.nsIn K mainGlobals "range" = some none)
    (z_int : PySem.W.nsIn K mainGlobals "int" = some none)
    (z_list : PySem.W.nsIn K mainGlobals "list" = some none)
    (z_tuple : PySem.W.nsIn K mainGlobals "tuple" = some none)
    (z_sorted : PySem.W.nsIn K mainGlobals "sorted" = some none)
    (z_isinstance : PySem.W.nsIn K mainGlobals "isinstance" = some none)
    (z_enumerate : PySem.W.nsIn K mainGlobals "enumerate" = some none)
    (z_bool : PySem.W.nsIn K mainGlobals "bool" = some none)
    (g_gcd : PySem.W.nsIn K mainGlobals "gcd" = some (some (.builtin "math.gcd")))
    (g_lcm : PySem.W.nsIn K mainGlobals "lcm" = some (some (.builtin "math.lcm")))
    {t_GREATEST_MODULUS : Tok}
    (c_GREATEST_MODULUS : PySem.W.nsIn K mainGlobals "GREATEST_MODULUS" = some (some (.int 1000000 t_GREATEST_MODULUS)))
    {t_MOST_RESTS : Tok}
    (c_MOST_RESTS : PySem.W.nsIn K mainGlobals "MOST_RESTS" = some (some (.int 60 t_MOST_RESTS)))
    {t_MOST_BARS : Tok}
    (c_MOST_BARS : PySem.W.nsIn K mainGlobals "MOST_BARS" = some (some (.int 6 t_MOST_BARS)))
    {t_GREATEST_WHOLE : Tok}
    (c_GREATEST_WHOLE : PySem.W.nsIn K mainGlobals "GREATEST_WHOLE" = some (some (.int 1000000000000000000000000000000 t_GREATEST_WHOLE)))
    {t_MOST_CHOICES : Tok}
    (c_MOST_CHOICES : PySem.W.nsIn K mainGlobals "MOST_CHOICES" = some (some (.int 2000 t_MOST_CHOICES)))
    {C_RestError : Addr}
    (g_RestError : PySem.W.nsIn K mainGlobals "RestError" = some (some (.ref C_RestError)))
    (hR : PySem.W.hasDictIn K C_RestError = true)
    (tR : PySem.W.typeIn K (.ref C_RestError) = some (.type "type"))
    {C_TooGreat : Addr}
    (g_TooGreat : PySem.W.nsIn K mainGlobals "TooGreat" = some (some (.ref C_TooGreat)))
    (x_TooGreat : PySem.W.excIn K C_TooGreat [.type "ValueError", .type "Exception", .type "BaseException", .type "object"] "ValueError.__new__" = true)
    (k_TooGreat : PySem.W.keepIn K (.ref C_TooGreat) = true)
    (b_TooGreat : PySem.W.subIn K (.ref C_TooGreat) (.type "BaseException") = some true)
    (t_TooGreat : PySem.W.typeIn K (.ref C_TooGreat) = some (.type "type"))
    (e_TooGreat : PySem.W.subIn K (.ref C_TooGreat) (.ref C_TooGreat) = some true)
    (E1_TooGreat : PySem.W.findIn K (.ref C_TooGreat) "__getattribute__" = some (some (.builtin "BaseException.__getattribute__")))
    (E2_TooGreat : PySem.W.findIn K (.ref C_TooGreat) "__getattr__" = some none)
    (E3_TooGreat : PySem.W.hasDictIn K C_TooGreat = true)
    (E4_TooGreat : PySem.W.findIn K (.ref C_TooGreat) "__class__" = some (some (.builtin "object.__class__")))
    (E5_TooGreat : PySem.W.specialIn K (.builtin "object.__class__") "__get__" = some (some (.builtin "getset_descriptor.__get__")))
    (E6_TooGreat : PySem.W.takesIn K (.builtin "object.__class__") = some true)
    (E7_TooGreat : PySem.W.mroIn K C_TooGreat (.type "object") = some true)
    (r_TooGreat : PySem.W.subIn K (.ref C_TooGreat) (.ref C_RestError) = some true)
    {C_TooMany : Addr}
    (g_TooMany : PySem.W.nsIn K mainGlobals "TooMany" = some (some (.ref C_TooMany)))
    (x_TooMany : PySem.W.excIn K C_TooMany [.type "ValueError", .type "Exception", .type "BaseException", .type "object"] "ValueError.__new__" = true)
    (k_TooMany : PySem.W.keepIn K (.ref C_TooMany) = true)
    (b_TooMany : PySem.W.subIn K (.ref C_TooMany) (.type "BaseException") = some true)
    (t_TooMany : PySem.W.typeIn K (.ref C_TooMany) = some (.type "type"))
    (e_TooMany : PySem.W.subIn K (.ref C_TooMany) (.ref C_TooMany) = some true)
    (E1_TooMany : PySem.W.findIn K (.ref C_TooMany) "__getattribute__" = some (some (.builtin "BaseException.__getattribute__")))
    (E2_TooMany : PySem.W.findIn K (.ref C_TooMany) "__getattr__" = some none)
    (E3_TooMany : PySem.W.hasDictIn K C_TooMany = true)
    (E4_TooMany : PySem.W.findIn K (.ref C_TooMany) "__class__" = some (some (.builtin "object.__class__")))
    (E5_TooMany : PySem.W.specialIn K (.builtin "object.__class__") "__get__" = some (some (.builtin "getset_descriptor.__get__")))
    (E6_TooMany : PySem.W.takesIn K (.builtin "object.__class__") = some true)
    (E7_TooMany : PySem.W.mroIn K C_TooMany (.type "object") = some true)
    (r_TooMany : PySem.W.subIn K (.ref C_TooMany) (.ref C_RestError) = some true)
    (z_super : PySem.W.nsIn K mainGlobals "super" = some none)
    {C_BadBars i_BadBars : Addr}
    (g_BadBars : PySem.W.nsIn K mainGlobals "BadBars" = some (some (.ref C_BadBars)))
    {nm_BadBars q_BadBars : Str} {N_BadBars : Addr} {bs_BadBars bm_BadBars sub_BadBars : List Value} {sn_BadBars : List Str} {ab_BadBars : Bool} {col_BadBars : Option Bool} {dd_BadBars : Option Addr} {k0_BadBars k1_BadBars k2_BadBars k3_BadBars k5_BadBars : Option Value}
    (oc1_BadBars : K.lookup C_BadBars = some (excClassObj nm_BadBars q_BadBars C_BadBars N_BadBars bs_BadBars bm_BadBars true sn_BadBars sub_BadBars ab_BadBars col_BadBars dd_BadBars k0_BadBars k1_BadBars k2_BadBars k3_BadBars k5_BadBars "ValueError.__new__"))
    (oc2_BadBars : PySem.HandSPX.refsVE bm_BadBars = true)
    (oc3_BadBars : PySem.W.ks_superIn K C_BadBars C_BadBars "__init__" = some (some (.builtin "ValueError.__init__")))
    (oc4_BadBars : PySem.W.subIn K (.ref C_BadBars) (.type "ValueError") = some true)
    (oc5_BadBars : PySem.W.mroIn K C_BadBars (.ref C_BadBars) = some true)
    (oc6_BadBars : PySem.W.nsIn K cStatics "thirdparty.any" = some none)
    (oc7_BadBars : PySem.W.findIn K (.ref C_BadBars) "__setattr__" = some (some (.builtin "object.__setattr__")))
    (oc8a_BadBars : PySem.W.findIn K (.ref C_BadBars) "index" = some none)
    (oc9_BadBars : PySem.W.findIn K (.ref C_BadBars) "__init__" = some (some (.ref i_BadBars)))
    (oc10_BadBars : PySem.W.typeIn K (.ref i_BadBars) = some (.type "function"))
    (oc11_BadBars : PySem.W.keepIn K (.ref C_BadBars) = true)
    (oc12_BadBars : PySem.W.subIn K (.ref C_BadBars) (.type "BaseException") = some true)
    (oc13_BadBars : PySem.W.typeIn K (.ref C_BadBars) = some (.type "type"))
    {ocv_BadBars : Value} {ocd_BadBars : Option Addr} {ocs_BadBars : Array (Option Value)} {fq_BadBars : Str} {doc_BadBars pm_BadBars ct_BadBars : Value} {an_BadBars : Option Addr} {cda_BadBars cc_BadBars : Addr} {m1_BadBars m2_BadBars : Str} {p1_BadBars p2_BadBars q1_BadBars q2_BadBars q3_BadBars q4_BadBars q5_BadBars r1_BadBars r2_BadBars r3_BadBars r4_BadBars r5_BadBars q6_BadBars q7_BadBars q8_BadBars q9_BadBars : Pos}
    (of1_BadBars : K.lookup i_BadBars = some ⟨ocv_BadBars, ocd_BadBars, .func (PySem.W.ksFn "__init__" fq_BadBars (XI.oneArgs p1_BadBars p2_BadBars) [.Expr (XI.oneCall m1_BadBars m2_BadBars q1_BadBars q2_BadBars q3_BadBars q4_BadBars r1_BadBars r2_BadBars r3_BadBars r4_BadBars r5_BadBars) q5_BadBars, XI.oneSet q6_BadBars q7_BadBars q8_BadBars q9_BadBars] XI.oneScope .none .none doc_BadBars pm_BadBars an_BadBars (.ref cda_BadBars) ct_BadBars cc_BadBars), ocs_BadBars⟩)
    (of2_BadBars : PySem.W.codeIn K (.ref cda_BadBars) fq_BadBars = true)
    (of3_BadBars : (q3_BadBars.endLine == q4_BadBars.line) = true)
    (of4m1_BadBars : m1_BadBars.length ≤ 1000)
    (of4m2_BadBars : m2_BadBars.length ≤ 1000)
    {ccl_BadBars : Value} {cdd_BadBars : Option Addr} {cvs_BadBars : Array Value} {ccs_BadBars : Array (Option Value)} {tf_BadBars : Tok} {cel_BadBars : Value} {ced_BadBars : Option Addr} {ces_BadBars : Array (Option Value)}
    (of5_BadBars : K.lookup cda_BadBars = some ⟨ccl_BadBars, cdd_BadBars, .fields cvs_BadBars, ccs_BadBars⟩)
    (of6_BadBars : cvs_BadBars[2]? = some (.str FILE tf_BadBars))
    (of7_BadBars : K.lookup cc_BadBars = some ⟨cel_BadBars, ced_BadBars, .cell (some (.ref C_BadBars)), ces_BadBars⟩)
    (xf1_BadBars : PySem.W.findIn K (.ref C_BadBars) "__getattribute__" = some (some (.builtin "BaseException.__getattribute__")))
    (xf2_BadBars : PySem.W.findIn K (.ref C_BadBars) "__getattr__" = some none)
    (xf3_BadBars : PySem.W.hasDictIn K C_BadBars = true)
    (xe_BadBars : PySem.W.subIn K (.ref C_BadBars) (.ref C_BadBars) = some true)
    (E4_BadBars : PySem.W.findIn K (.ref C_BadBars) "__class__" = some (some (.builtin "object.__class__")))
    (E5_BadBars : PySem.W.specialIn K (.builtin "object.__class__") "__get__" = some (some (.builtin "getset_descriptor.__get__")))
    (E6_BadBars : PySem.W.takesIn K (.builtin "object.__class__") = some true)
    (E7_BadBars : PySem.W.mroIn K C_BadBars (.type "object") = some true)
    (r_BadBars : PySem.W.subIn K (.ref C_BadBars) (.ref C_RestError) = some true)
    (e_TooGreat_TooMany : PySem.W.subIn K (.ref C_TooGreat) (.ref C_TooMany) = some false)
    (e_TooGreat_BadBars : PySem.W.subIn K (.ref C_TooGreat) (.ref C_BadBars) = some false)
    (e_TooMany_TooGreat : PySem.W.subIn K (.ref C_TooMany) (.ref C_TooGreat) = some false)
    (e_TooMany_BadBars : PySem.W.subIn K (.ref C_TooMany) (.ref C_BadBars) = some false)
    (e_BadBars_TooGreat : PySem.W.subIn K (.ref C_BadBars) (.ref C_TooGreat) = some false)
    (e_BadBars_TooMany : PySem.W.subIn K (.ref C_BadBars) (.ref C_TooMany) = some false)
    (eqF : PySem.W.isFn K (.ref f21) = true)
    (neS : PySem.W.findIn K (.ref C) "__ne__" = some (some (.builtin "object.__ne__")))
    (moC : PySem.W.mroIn K C (.type "object") = some true)
    (kt1 : PySem.W.findIn K (.ref C) "__class__" = some (some (.builtin "object.__class__")))
    (kt2 : PySem.W.specialIn K (.builtin "object.__class__") "__get__" = some (some (.builtin "getset_descriptor.__get__")))
    (kt3 : PySem.W.takesIn K (.builtin "object.__class__") = some true)
    (tyC : PySem.W.typeIn K (.ref C) = some (.type "type"))
    (suC : PySem.W.subIn K (.ref C) (.ref C) = some true)
    (suS : PySem.W.subIn K (.type "str") (.ref C) = some false)
    (suT : PySem.W.subIn K (.type "tuple") (.ref C) = some false)
    : ∃ fd : FuncData, (∀ (s : Shared) (v : Value), BindsTo s fd ⟨[v], []⟩ [("_law_script", v)]) ∧ ∀ base : Heap, K.In base → base.Ns mainGlobals mg → FnOk l.prog w K mg base CX0 13 fa fd ["_law_script"] (sp_law K) := by
  have e := hfa.symm.trans (PySem.W.mg_of X G a19)
  cases e
  have F0 := fun_mk (st := s_p_is_integer) l0 d0 k0
  have b0 := F0.binds (ps := ["value"]) fun _ _ _ _ _ _ us hl => match us, hl with | [_], _ => rfl
  have F1 := fun_mk (st := s_p_integer_within) l1 d1 k1
  have b1 := F1.binds (ps := ["value", "least", "greatest"]) fun _ _ _ _ _ _ us hl => match us, hl with | [_, _, _], _ => rfl
  have F2 := fun_mk (st := s_p_is_ascending) l2 d2 k2
  have b2 := F2.binds (ps := ["value", "limit"]) fun _ _ _ _ _ _ us hl => match us, hl with | [_, _], _ => rfl
  have F3 := fun_mk (st := s_p_is_lot) l3 d3 k3
  have b3 := F3.binds (ps := ["value", "modulus"]) fun _ _ _ _ _ _ us hl => match us, hl with | [_, _], _ => rfl
  have F4 := fun_mk (st := s_p_is_pair) l4 d4 k4
  have b4 := F4.binds (ps := ["value"]) fun _ _ _ _ _ _ us hl => match us, hl with | [_], _ => rfl
  have F5 := fun_mk (st := s_p_is_bar) l5 d5 k5
  have b5 := F5.binds (ps := ["value"]) fun _ _ _ _ _ _ us hl => match us, hl with | [_], _ => rfl
  have F6 := fun_mk (st := s_p_inverse) l6 d6 k6
  have b6 := F6.binds (ps := ["number", "modulus"]) fun _ _ _ _ _ _ us hl => match us, hl with | [_, _], _ => rfl
  have F7 := fun_mk (st := s_p_joined) l7 d7 k7
  have b7 := F7.binds (ps := ["classes", "whole", "modulus", "lot"]) fun _ _ _ _ _ _ us hl => match us, hl with | [_, _, _, _], _ => rfl
  have F8 := fun_mk (st := s_p_classes_of) l8 d8 k8
  have b8 := F8.binds (ps := ["bars"]) fun _ _ _ _ _ _ us hl => match us, hl with | [_], _ => rfl
  have F9 := fun_mk (st := s_p_check_bars) l9 d9 k9
  have b9 := F9.binds (ps := ["bars"]) fun _ _ _ _ _ _ us hl => match us, hl with | [_], _ => rfl
  have F10 := fun_mk (st := s_p_whole_of) l10 d10 k10
  have b10 := F10.binds (ps := ["bars"]) fun _ _ _ _ _ _ us hl => match us, hl with | [_], _ => rfl
  have F11 := fun_mk (st := s_p_check_choices) l11 d11 k11
  have b11 := F11.binds (ps := ["bars"]) fun _ _ _ _ _ _ us hl => match us, hl with | [_], _ => rfl
  have F12 := fun_mk (st := s_l_draws) l12 d12 k12
  have b12 := F12.binds (ps := ["_law_script"]) fun _ _ _ _ _ _ us hl => match us, hl with | [_], _ => rfl
  have F13 := fun_mk (st := s_l_pick) l13 d13 k13
  have b13 := F13.binds (ps := ["_law_row", "_law_many"]) fun _ _ _ _ _ _ us hl => match us, hl with | [_, _], _ => rfl
  have F14 := fun_mk (st := s_l_bars) l14 d14 k14
  have b14 := F14.binds (ps := ["_law_row", "_law_most", "_law_top"]) fun _ _ _ _ _ _ us hl => match us, hl with | [_, _, _], _ => rfl
  have F15 := fun_mk (st := s_l_told_there) l15 d15 k15
  have b15 := F15.binds (ps := ["_law_bars_here"]) fun _ _ _ _ _ _ us hl => match us, hl with | [_], _ => rfl
  have F16 := fun_mk (st := s_l_is_whole) l16 d16 k16
  have b16 := F16.binds (ps := ["_law_value", "_law_low", "_law_high"]) fun _ _ _ _ _ _ us hl => match us, hl with | [_, _, _], _ => rfl
  have F17 := fun_mk (st := s_l_bad) l17 d17 k17
  have b17 := F17.binds (ps := ["_law_one"]) fun _ _ _ _ _ _ us hl => match us, hl with | [_], _ => rfl
  have F18 := fun_mk (st := s_l_due) l18 d18 k18
  have b18 := F18.binds (ps := ["_law_bars_here"]) fun _ _ _ _ _ _ us hl => match us, hl with | [_], _ => rfl
  have F19 := fun_mk (st := s_law) l19 d19 k19
  have b19 := F19.binds (ps := ["_law_script"]) fun _ _ _ _ _ _ us hl => match us, hl with | [_], _ => rfl
  have F20 := fun_mk (st := s_m_Sieve_init) l20 d20 k20
  have b20 := F20.binds (ps := ["self", "bars"]) fun _ _ _ _ _ _ us hl => match us, hl with | [_, _], _ => rfl
  have F21 := fun_mk (st := s_m_Sieve_eq) l21 d21 k21
  have b21 := F21.binds (ps := ["self", "other"]) fun _ _ _ _ _ _ us hl => match us, hl with | [_, _], _ => rfl
  have F22 := fun_mk (st := s_m_Sieve_bars) l22 d22 k22
  have b22 := F22.binds (ps := ["self"]) fun _ _ _ _ _ _ us hl => match us, hl with | [_], _ => rfl
  have F23 := fun_mk (st := s_m_Sieve_whole) l23 d23 k23
  have b23 := F23.binds (ps := ["self"]) fun _ _ _ _ _ _ us hl => match us, hl with | [_], _ => rfl
  have F24 := fun_mk (st := s_m_Sieve_classes) l24 d24 k24
  have b24 := F24.binds (ps := ["self"]) fun _ _ _ _ _ _ us hl => match us, hl with | [_], _ => rfl
  let T : Txt K mg := {
    f_p_is_integer := _, fd_p_is_integer := _, F_p_is_integer := F0, b_p_is_integer := b0, g_p_is_integer := PySem.W.mg_of X G a0,
    f_p_integer_within := _, fd_p_integer_within := _, F_p_integer_within := F1, b_p_integer_within := b1, g_p_integer_within := PySem.W.mg_of X G a1,
    f_p_is_ascending := _, fd_p_is_ascending := _, F_p_is_ascending := F2, b_p_is_ascending := b2, g_p_is_ascending := PySem.W.mg_of X G a2,
    f_p_is_lot := _, fd_p_is_lot := _, F_p_is_lot := F3, b_p_is_lot := b3, g_p_is_lot := PySem.W.mg_of X G a3,
    f_p_is_pair := _, fd_p_is_pair := _, F_p_is_pair := F4, b_p_is_pair := b4, g_p_is_pair := PySem.W.mg_of X G a4,
    f_p_is_bar := _, fd_p_is_bar := _, F_p_is_bar := F5, b_p_is_bar := b5, g_p_is_bar := PySem.W.mg_of X G a5,
    f_p_inverse := _, fd_p_inverse := _, F_p_inverse := F6, b_p_inverse := b6, g_p_inverse := PySem.W.mg_of X G a6,
    f_p_joined := _, fd_p_joined := _, F_p_joined := F7, b_p_joined := b7, g_p_joined := PySem.W.mg_of X G a7,
    f_p_classes_of := _, fd_p_classes_of := _, F_p_classes_of := F8, b_p_classes_of := b8, g_p_classes_of := PySem.W.mg_of X G a8,
    f_p_check_bars := _, fd_p_check_bars := _, F_p_check_bars := F9, b_p_check_bars := b9, g_p_check_bars := PySem.W.mg_of X G a9,
    f_p_whole_of := _, fd_p_whole_of := _, F_p_whole_of := F10, b_p_whole_of := b10, g_p_whole_of := PySem.W.mg_of X G a10,
    f_p_check_choices := _, fd_p_check_choices := _, F_p_check_choices := F11, b_p_check_choices := b11, g_p_check_choices := PySem.W.mg_of X G a11,
    f_l_draws := _, fd_l_draws := _, F_l_draws := F12, b_l_draws := b12, g_l_draws := PySem.W.mg_of X G a12,
    f_l_pick := _, fd_l_pick := _, F_l_pick := F13, b_l_pick := b13, g_l_pick := PySem.W.mg_of X G a13,
    f_l_bars := _, fd_l_bars := _, F_l_bars := F14, b_l_bars := b14, g_l_bars := PySem.W.mg_of X G a14,
    f_l_told_there := _, fd_l_told_there := _, F_l_told_there := F15, b_l_told_there := b15, g_l_told_there := PySem.W.mg_of X G a15,
    f_l_is_whole := _, fd_l_is_whole := _, F_l_is_whole := F16, b_l_is_whole := b16, g_l_is_whole := PySem.W.mg_of X G a16,
    f_l_bad := _, fd_l_bad := _, F_l_bad := F17, b_l_bad := b17, g_l_bad := PySem.W.mg_of X G a17,
    f_l_due := _, fd_l_due := _, F_l_due := F18, b_l_due := b18, g_l_due := PySem.W.mg_of X G a18,
    f_law := _, fd_law := _, F_law := F19, b_law := b19, g_law := PySem.W.mg_of X G a19,
    f_m_Sieve_init := _, fd_m_Sieve_init := _, F_m_Sieve_init := F20, b_m_Sieve_init := b20,
    f_m_Sieve_eq := _, fd_m_Sieve_eq := _, F_m_Sieve_eq := F21, b_m_Sieve_eq := b21,
    f_m_Sieve_bars := _, fd_m_Sieve_bars := _, F_m_Sieve_bars := F22, b_m_Sieve_bars := b22,
    f_m_Sieve_whole := _, fd_m_Sieve_whole := _, F_m_Sieve_whole := F23, b_m_Sieve_whole := b23,
    f_m_Sieve_classes := _, fd_m_Sieve_classes := _, F_m_Sieve_classes := F24, b_m_Sieve_classes := b24,
    z_len := PySem.W.mg_none_of X G z_len,
    z_max := PySem.W.mg_none_of X G z_max,
    z_range := PySem.W.mg_none_of X G z_range,
    z_int := PySem.W.mg_none_of X G z_int,
    z_list := PySem.W.mg_none_of X G z_list,
    z_tuple := PySem.W.mg_none_of X G z_tuple,
    z_sorted := PySem.W.mg_none_of X G z_sorted,
    z_isinstance := PySem.W.mg_none_of X G z_isinstance,
    z_enumerate := PySem.W.mg_none_of X G z_enumerate,
    z_bool := PySem.W.mg_none_of X G z_bool,
    g_gcd := PySem.W.mg_of X G g_gcd,
    g_lcm := PySem.W.mg_of X G g_lcm,
    c_GREATEST_MODULUS := ⟨t_GREATEST_MODULUS, PySem.W.mg_of X G c_GREATEST_MODULUS⟩,
    c_MOST_RESTS := ⟨t_MOST_RESTS, PySem.W.mg_of X G c_MOST_RESTS⟩,
    c_MOST_BARS := ⟨t_MOST_BARS, PySem.W.mg_of X G c_MOST_BARS⟩,
    c_GREATEST_WHOLE := ⟨t_GREATEST_WHOLE, PySem.W.mg_of X G c_GREATEST_WHOLE⟩,
    c_MOST_CHOICES := ⟨t_MOST_CHOICES, PySem.W.mg_of X G c_MOST_CHOICES⟩,
    C := C, g_Sieve := PySem.W.mg_of X G aC, cl := ⟨pg, hd, po, sa⟩, mkC := ⟨mk, mI, iI, kc⟩, n_bars := n_bars, n_whole := n_whole, n_classes := n_classes,
    p_bars := pB, pp_bars := ⟨q1B, q2B, q3B, ⟨rB, q4B⟩⟩,
    p_whole := pW, pp_whole := ⟨q1W, q2W, q3W, ⟨rW, q4W⟩⟩,
    p_classes := pC, pp_classes := ⟨q1C, q2C, q3C, ⟨rC, q4C⟩⟩,
    C_RestError := _, g_RestError := PySem.W.mg_of X G g_RestError,
    C_TooGreat := _, g_TooGreat := PySem.W.mg_of X G g_TooGreat, x_TooGreat := x_TooGreat, k_TooGreat := k_TooGreat, b_TooGreat := b_TooGreat, t_TooGreat := t_TooGreat, e_TooGreat := PySem.W.exm_ref b_TooGreat E3_TooGreat t_TooGreat e_TooGreat, E_TooGreat := ⟨E1_TooGreat, E2_TooGreat, b_TooGreat, E3_TooGreat, E4_TooGreat, E5_TooGreat, E6_TooGreat, E7_TooGreat⟩, r_TooGreat := kit_ref hR tR r_TooGreat,
    C_TooMany := _, g_TooMany := PySem.W.mg_of X G g_TooMany, x_TooMany := x_TooMany, k_TooMany := k_TooMany, b_TooMany := b_TooMany, t_TooMany := t_TooMany, e_TooMany := PySem.W.exm_ref b_TooMany E3_TooMany t_TooMany e_TooMany, E_TooMany := ⟨E1_TooMany, E2_TooMany, b_TooMany, E3_TooMany, E4_TooMany, E5_TooMany, E6_TooMany, E7_TooMany⟩, r_TooMany := kit_ref hR tR r_TooMany,
    z_super := PySem.W.mg_none_of X G z_super,
    C_BadBars := C_BadBars, i_BadBars := i_BadBars, g_BadBars := PySem.W.mg_of X G g_BadBars,
    oc_BadBars := ⟨⟨_, _, _, _, _, _, _, _, _, _, _, _, _, _, _, oc1_BadBars, oc2_BadBars⟩, oc3_BadBars, oc4_BadBars, oc5_BadBars, oc6_BadBars, oc7_BadBars, oc8a_BadBars, oc9_BadBars, oc10_BadBars, oc11_BadBars, oc12_BadBars, oc13_BadBars⟩,
    of_BadBars := ⟨⟨_, _, _, _, _, _, _, _, _, _, _, _, _, _, _, _, _, _, _, _, _, _, _, _, _, _, _, _, of1_BadBars, of2_BadBars, of3_BadBars, of4m1_BadBars, of4m2_BadBars, ⟨_, _, _, _, _, of5_BadBars, of6_BadBars⟩, _, _, _, of7_BadBars⟩⟩,
    xf_BadBars := ⟨xf1_BadBars, xf2_BadBars, oc12_BadBars, xf3_BadBars⟩, e_BadBars := PySem.W.exm_ref oc12_BadBars xf3_BadBars oc13_BadBars xe_BadBars, E_BadBars := ⟨xf1_BadBars, xf2_BadBars, oc12_BadBars, xf3_BadBars, E4_BadBars, E5_BadBars, E6_BadBars, E7_BadBars⟩, r_BadBars := kit_ref hR tR r_BadBars,
    e_TooGreat_TooMany := PySem.W.exm_ref b_TooMany E3_TooMany t_TooMany e_TooGreat_TooMany,
    e_TooGreat_BadBars := PySem.W.exm_ref oc12_BadBars xf3_BadBars oc13_BadBars e_TooGreat_BadBars,
    e_TooMany_TooGreat := PySem.W.exm_ref b_TooGreat E3_TooGreat t_TooGreat e_TooMany_TooGreat,
    e_TooMany_BadBars := PySem.W.exm_ref oc12_BadBars xf3_BadBars oc13_BadBars e_TooMany_BadBars,
    e_BadBars_TooGreat := PySem.W.exm_ref b_TooGreat E3_TooGreat t_TooGreat e_BadBars_TooGreat,
    e_BadBars_TooMany := PySem.W.exm_ref b_TooMany E3_TooMany t_TooMany e_BadBars_TooMany,
    eqS := mE, eqF := eqF, neS := neS, moC := moC, kt1 := kt1, kt2 := kt2, kt3 := kt3, suS := suS, suT := suT, isC := kit_same, noC := fun t h => kit_no hd tyC h
  }
  exact ⟨PySem.W.fnOf "law" "law" (defArgs s_law) (defBody s_law) (defScope s_law) .none kV19 dc19 pm19 an19 cd19 ct19, fun s v => .of_eq rfl, fun base _ _ => ok_law T⟩
end R
instance : L2.POk (PySem.Challenge.rw_restlots_k01_bars_refused).prog R.FILE := ⟨by first | rfl | decide +kernel, by first | rfl | decide +kernel⟩
open PySem PySem.W PyProof.Rows
set_option maxHeartbeats 0 in
theorem PySem.Challenge.cw_restlots_k01_bars_refused_holds : PySem.Challenge.rw_restlots_k01_bars_refused.Holds := by
  w_on; o_law; k_head; (case hw => w_witness2)
  k_fill
  refine L2.walk_of (l := PySem.Challenge.rw_restlots_k01_bars_refused) (n := 63) (k := 13) (x := "_law_script") (CX := fun _ => L2.CX0) (sp := fun w => R.sp_law _) rfl (by decide) rfl ⟨rfl, by decide, by decide⟩ (fun w h Y => PySem.W.kIn_of Y) ?F (fun _ _ a ns hl _ hS => ⟨a, ns, rfl, hS, hl, fun _ => rfl⟩) (fun _ _ _ _ _ h => h)
  case F =>
    intro w mg fa h KX G hmg
    refine' R.all_mk KX G hmg ?a0 ?a1 ?a2 ?a3 ?a4 ?a5 ?a6 ?a7 ?a8 ?a9 ?a10 ?a11 ?a12 ?a13 ?a14 ?a15 ?a16 ?a17 ?a18 ?a19 ?aC ?mI ?iI ?mE ?pg ?hd ?po ?sa ?mk ?kc ?n_bars ?n_whole ?n_classes ?q1B ?q2B ?q3B ?q4B ?q1W ?q2W ?q3W ?q4W ?q1C ?q2C ?q3C ?q4C ?l0 ?d0 ?k0 ?l1 ?d1 ?k1 ?l2 ?d2 ?k2 ?l3 ?d3 ?k3 ?l4 ?d4 ?k4 ?l5 ?d5 ?k5 ?l6 ?d6 ?k6 ?l7 ?d7 ?k7 ?l8 ?d8 ?k8 ?l9 ?d9 ?k9 ?l10 ?d10 ?k10 ?l11 ?d11 ?k11 ?l12 ?d12 ?k12 ?l13 ?d13 ?k13 ?l14 ?d14 ?k14 ?l15 ?d15 ?k15 ?l16 ?d16 ?k16 ?l17 ?d17 ?k17 ?l18 ?d18 ?k18 ?l19 ?d19 ?k19 ?l20 ?d20 ?k20 ?l21 ?d21 ?k21 ?l22 ?d22 ?k22 ?l23 ?d23 ?k23 ?l24 ?d24 ?k24 ?z_len ?z_max ?z_range ?z_int ?z_list ?z_tuple ?z_sorted ?z_isinstance ?z_enumerate ?z_bool ?g_gcd ?g_lcm ?c_GREATEST_MODULUS ?c_MOST_RESTS ?c_MOST_BARS ?c_GREATEST_WHOLE ?c_MOST_CHOICES ?g_RestError ?hR ?tR ?g_TooGreat ?x_TooGreat ?k_TooGreat ?b_TooGreat ?t_TooGreat ?e_TooGreat ?E1_TooGreat ?E2_TooGreat ?E3_TooGreat ?E4_TooGreat ?E5_TooGreat ?E6_TooGreat ?E7_TooGreat ?r_TooGreat ?g_TooMany ?x_TooMany ?k_TooMany ?b_TooMany ?t_TooMany ?e_TooMany ?E1_TooMany ?E2_TooMany ?E3_TooMany ?E4_TooMany ?E5_TooMany ?E6_TooMany ?E7_TooMany ?r_TooMany ?z_super ?g_BadBars ?oc1_BadBars ?oc2_BadBars ?oc3_BadBars ?oc4_BadBars ?oc5_BadBars ?oc6_BadBars ?oc7_BadBars ?oc8a_BadBars ?oc9_BadBars ?oc10_BadBars ?oc11_BadBars ?oc12_BadBars ?oc13_BadBars ?of1_BadBars ?of2_BadBars ?of3_BadBars ?of4m1_BadBars ?of4m2_BadBars ?of5_BadBars ?of6_BadBars ?of7_BadBars ?xf1_BadBars ?xf2_BadBars ?xf3_BadBars ?xe_BadBars ?E4_BadBars ?E5_BadBars ?E6_BadBars ?E7_BadBars ?r_BadBars ?e_TooGreat_TooMany ?e_TooGreat_BadBars ?e_TooMany_TooGreat ?e_TooMany_BadBars ?e_BadBars_TooGreat ?e_BadBars_TooMany ?eqF ?neS ?moC ?kt1 ?kt2 ?kt3 ?tyC ?suC ?suS ?suT
    (case a0 => k_is)
    (case a1 => k_is)
    (case a2 => k_is)
    (case a3 => k_is)
    (case a4 => k_is)
    (case a5 => k_is)
    (case a6 => k_is)
    (case a7 => k_is)
    (case a8 => k_is)
    (case a9 => k_is)
    (case a10 => k_is)
    (case a11 => k_is)
    (case a12 => k_is)
    (case a13 => k_is)
    (case a14 => k_is)
    (case a15 => k_is)
    (case a16 => k_is)
    (case a17 => k_is)
    (case a18 => k_is)
    (case a19 => k_is)
    (case aC => k_is)
    (case mI => k_is)
    (case iI => k_is)
    (case mE => k_is)
    (case pg => k_is)
    (case hd => k_is)
    (case po => k_is)
    (case sa => k_is)
    (case mk => k_is)
    (case kc => k_is)
    (case n_bars => k_is)
    (case n_whole => k_is)
    (case n_classes => k_is)
    (case q1B => k_is)
    (case q2B => k_is)
    (case q3B => k_is)
    (case q4B => k_is)
    (case q1W => k_is)
    (case q2W => k_is)
    (case q3W => k_is)
    (case q4W => k_is)
    (case q1C => k_is)
    (case q2C => k_is)
    (case q3C => k_is)
    (case q4C => k_is)
    (case l0 => k_is)
    (case d0 => k_is)
    (case k0 => k_is)
    (case l1 => k_is)
    (case d1 => k_is)
    (case k1 => k_is)
    (case l2 => k_is)
    (case d2 => k_is)
    (case k2 => k_is)
    (case l3 => k_is)
    (case d3 => k_is)
    (case k3 => k_is)
    (case l4 => k_is)
    (case d4 => k_is)
    (case k4 => k_is)
    (case l5 => k_is)
    (case d5 => k_is)
    (case k5 => k_is)
    (case l6 => k_is)
    (case d6 => k_is)
    (case k6 => k_is)
    (case l7 => k_is)
    (case d7 => k_is)
    (case k7 => k_is)
    (case l8 => k_is)
    (case d8 => k_is)
    (case k8 => k_is)
    (case l9 => k_is)
    (case d9 => k_is)
    (case k9 => k_is)
    (case l10 => k_is)
    (case d10 => k_is)
    (case k10 => k_is)
    (case l11 => k_is)
    (case d11 => k_is)
    (case k11 => k_is)
    (case l12 => k_is)
    (case d12 => k_is)
    (case k12 => k_is)
    (case l13 => k_is)
    (case d13 => k_is)
    (case k13 => k_is)
    (case l14 => k_is)
    (case d14 => k_is)
    (case k14 => k_is)
    (case l15 => k_is)
    (case d15 => k_is)
    (case k15 => k_is)
    (case l16 => k_is)
    (case d16 => k_is)
    (case k16 => k_is)
    (case l17 => k_is)
    (case d17 => k_is)
    (case k17 => k_is)
    (case l18 => k_is)
    (case d18 => k_is)
    (case k18 => k_is)
    (case l19 => k_is)
    (case d19 => k_is)
    (case k19 => k_is)
    (case l20 => k_is)
    (case d20 => k_is)
    (case k20 => k_is)
    (case l21 => k_is)
    (case d21 => k_is)
    (case k21 => k_is)
    (case l22 => k_is)
    (case d22 => k_is)
    (case k22 => k_is)
    (case l23 => k_is)
    (case d23 => k_is)
    (case k23 => k_is)
    (case l24 => k_is)
    (case d24 => k_is)
    (case k24 => k_is)
    (case z_len => k_is)
    (case z_max => k_is)
    (case z_range => k_is)
    (case z_int => k_is)
    (case z_list => k_is)
    (case z_tuple => k_is)
    (case z_sorted => k_is)
    (case z_isinstance => k_is)
    (case z_enumerate => k_is)
    (case z_bool => k_is)
    (case g_gcd => k_is)
    (case g_lcm => k_is)
    (case c_GREATEST_MODULUS => k_is)
    (case c_MOST_RESTS => k_is)
    (case c_MOST_BARS => k_is)
    (case c_GREATEST_WHOLE => k_is)
    (case c_MOST_CHOICES => k_is)
    (case g_RestError => k_is)
    (case hR => k_is)
    (case tR => k_is)
    (case g_TooGreat => k_is)
    (case x_TooGreat => k_exc)
    (case k_TooGreat => k_is)
    (case b_TooGreat => k_is)
    (case t_TooGreat => k_is)
    (case e_TooGreat => k_is)
    (case E1_TooGreat => k_is)
    (case E2_TooGreat => k_is)
    (case E3_TooGreat => k_is)
    (case E4_TooGreat => k_is)
    (case E5_TooGreat => k_is)
    (case E6_TooGreat => k_is)
    (case E7_TooGreat => k_is)
    (case r_TooGreat => k_is)
    (case g_TooMany => k_is)
    (case x_TooMany => k_exc)
    (case k_TooMany => k_is)
    (case b_TooMany => k_is)
    (case t_TooMany => k_is)
    (case e_TooMany => k_is)
    (case E1_TooMany => k_is)
    (case E2_TooMany => k_is)
    (case E3_TooMany => k_is)
    (case E4_TooMany => k_is)
    (case E5_TooMany => k_is)
    (case E6_TooMany => k_is)
    (case E7_TooMany => k_is)
    (case r_TooMany => k_is)
    (case z_super => k_is)
    (case g_BadBars => k_is)
    (case oc1_BadBars => k_is)
    (case oc2_BadBars => rfl)
    (case oc3_BadBars => ks_is)
    (case oc4_BadBars => k_is)
    (case oc5_BadBars => k_is)
    (case oc6_BadBars => k_is)
    (case oc7_BadBars => k_is)
    (case oc8a_BadBars => k_is)
    (case oc9_BadBars => k_is)
    (case oc10_BadBars => k_is)
    (case oc11_BadBars => k_is)
    (case oc12_BadBars => k_is)
    (case oc13_BadBars => k_is)
    (case of1_BadBars => k_is)
    (case of2_BadBars => k_is)
    (case of3_BadBars => rfl)
    (case of4m1_BadBars => decide)
    (case of4m2_BadBars => decide)
    (case of5_BadBars => k_is)
    (case of6_BadBars => first | rfl | kernel_rfl)
    (case of7_BadBars => k_is)
    (case xf1_BadBars => k_is)
    (case xf2_BadBars => k_is)
    (case xf3_BadBars => k_is)
    (case xe_BadBars => k_is)
    (case E4_BadBars => k_is)
    (case E5_BadBars => k_is)
    (case E6_BadBars => k_is)
    (case E7_BadBars => k_is)
    (case r_BadBars => k_is)
    (case e_TooGreat_TooMany => k_is)
    (case e_TooGreat_BadBars => k_is)
    (case e_TooMany_TooGreat => k_is)
    (case e_TooMany_BadBars => k_is)
    (case e_BadBars_TooGreat => k_is)
    (case e_BadBars_TooMany => k_is)
    (case eqF => k_is)
    (case neS => k_is)
    (case moC => k_is)
    (case kt1 => k_is)
    (case kt2 => k_is)
    (case kt3 => k_is)
    (case tyC => k_is)
    (case suC => k_is)
    (case suS => k_is)
    (case suT => k_is)
