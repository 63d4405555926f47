import PyProof.Rows.All
import Wide.All
import OpenK.AllK
import Wide.FinOn
import HandS.ForMost
import KE.KExcSuper
import KE.KExcIs
import HandS.ExcField
import PyProof.FString
import PyProof.FString2
import HandS.SortInts
import HandS.TupAny
import HandS.IsInst
import HandS.Wide
import HandS.Conv
import HandS.Gcd
import HandS.Property
import HandS.Codes
import HandS.Walk
import KE.GoesMore
import KE.KMathGC
import HandS.Exc
import HandS.ExcOwn
import HandS.TryOnly
import HandS.ExcIs
import HandS.WordsExc
import HandS.WideBits
import HandS.SetFor
import HandS.Strs
import HandS.SetBool
import PyProof.LongRange
import HandS.DictComp
import HandS.Deep
import HandS.TupSets
import HandS.TupMul
import PySem.Challenge.RW_restlots_k33_seen_refused
set_option Elab.async false
set_option linter.all false
set_option maxRecDepth 100000
set_option maxHeartbeats 4000000
set_option exponentiation.threshold 6000
namespace R
open PySem PySem.Spec PyProof.Rows L2
/-! the text by places -/
def top (i : Nat) : Stmt := (PySem.Challenge.pw_restlots_k33_seen_refused.main.body).getD i (.Pass ⟨0, 0, 0, 0⟩)
abbrev s_p_is_integer : Stmt := top 7
abbrev s_p_integer_within : Stmt := top 8
abbrev s_p_is_number : Stmt := top 9
abbrev s_p_is_pair : Stmt := top 10
abbrev s_p_check_moduli : Stmt := top 16
abbrev s_p_is_sight : Stmt := top 17
abbrev s_p_check_seen : Stmt := top 18
abbrev s_p_marks_of : Stmt := top 19
abbrev s_p_held_marks : Stmt := top 20
abbrev s_p_unheld_marks : Stmt := top 21
abbrev s_p_rows_with : Stmt := top 22
abbrev s_p_many_lots : Stmt := top 23
abbrev s_p_rests_at : Stmt := top 24
abbrev s_p_sure_rests : Stmt := top 25
abbrev s_l_draws : Stmt := top 27
abbrev s_l_pick : Stmt := top 28
abbrev s_l_far : Stmt := top 29
abbrev s_l_told_there : Stmt := top 30
abbrev s_law : Stmt := top 31
theorem sc_p_is_integer : FnScope ["value"] ["value"] (defScope s_p_is_integer) := ⟨rfl, rfl, rfl, by decide +kernel, rfl, by decide +kernel, by decide +kernel⟩
theorem sc_p_integer_within : FnScope ["value", "least", "greatest"] ["value", "least", "greatest"] (defScope s_p_integer_within) := ⟨rfl, rfl, rfl, by decide +kernel, rfl, by decide +kernel, by decide +kernel⟩
theorem sc_p_is_number : FnScope ["value"] ["value"] (defScope s_p_is_number) := ⟨rfl, rfl, rfl, by decide +kernel, rfl, by decide +kernel, by decide +kernel⟩
theorem sc_p_is_pair : FnScope ["value"] ["value"] (defScope s_p_is_pair) := ⟨rfl, rfl, rfl, by decide +kernel, rfl, by decide +kernel, by decide +kernel⟩
theorem sc_p_check_moduli : FnScope ["moduli", "index", "modulus"] ["moduli"] (defScope s_p_check_moduli) := ⟨rfl, rfl, rfl, by decide +kernel, rfl, by decide +kernel, by decide +kernel⟩
theorem sc_p_is_sight : FnScope ["value"] ["value"] (defScope s_p_is_sight) := ⟨rfl, rfl, rfl, by decide +kernel, rfl, by decide +kernel, by decide +kernel⟩
theorem sc_p_check_seen : FnScope ["seen", "unfit", "index", "sight"] ["seen"] (defScope s_p_check_seen) := ⟨rfl, rfl, rfl, by decide +kernel, rfl, by decide +kernel, by decide +kernel⟩
theorem sc_p_marks_of : FnScope ["moduli", "number", "index", "modulus"] ["moduli", "number"] (defScope s_p_marks_of) := ⟨rfl, rfl, rfl, by decide +kernel, rfl, by decide +kernel, by decide +kernel⟩
theorem sc_p_held_marks : FnScope ["moduli", "seen", "number", "does", "mark"] ["moduli", "seen"] (defScope s_p_held_marks) := ⟨rfl, rfl, rfl, by decide +kernel, rfl, by decide +kernel, by decide +kernel⟩
theorem sc_p_unheld_marks : FnScope ["moduli", "seen", "held", "number", "does", "mark"] ["moduli", "seen"] (defScope s_p_unheld_marks) := ⟨rfl, rfl, rfl, by decide +kernel, rfl, by decide +kernel, by decide +kernel⟩
theorem sc_p_rows_with : FnScope ["total", "held", "unheld", "more", "mark"] ["total", "held", "unheld"] (defScope s_p_rows_with) := ⟨rfl, rfl, rfl, by decide +kernel, rfl, by decide +kernel, by decide +kernel⟩
theorem sc_p_many_lots : FnScope ["moduli", "seen"] ["moduli", "seen"] (defScope s_p_many_lots) := ⟨rfl, rfl, rfl, by decide +kernel, rfl, by decide +kernel, by decide +kernel⟩
theorem sc_p_rests_at : FnScope ["marks", "index", "place", "rest"] ["marks", "index"] (defScope s_p_rests_at) := ⟨rfl, rfl, rfl, by decide +kernel, rfl, by decide +kernel, by decide +kernel⟩
theorem sc_p_sure_rests : FnScope ["moduli", "seen", "held", "unheld", "barred", "marks", "index"] ["moduli", "seen"] (defScope s_p_sure_rests) := ⟨rfl, rfl, rfl, by decide +kernel, rfl, by decide +kernel, by decide +kernel⟩
theorem sc_l_draws : FnScope ["_law_script"] ["_law_script"] (defScope s_l_draws) := ⟨rfl, rfl, rfl, by decide +kernel, rfl, by decide +kernel, by decide +kernel⟩
theorem sc_l_pick : FnScope ["_law_row", "_law_many", "_law_cell", "_law_found"] ["_law_row", "_law_many"] (defScope s_l_pick) := ⟨rfl, rfl, rfl, by decide +kernel, rfl, by decide +kernel, by decide +kernel⟩
theorem sc_l_far : FnScope ["_law_row", "_law_wide"] ["_law_row"] (defScope s_l_far) := ⟨rfl, rfl, rfl, by decide +kernel, rfl, by decide +kernel, by decide +kernel⟩
theorem sc_l_told_there : FnScope ["_law_moduli", "_law_seen", "_law_is_many", "_law_told_there_here", "e"] ["_law_moduli", "_law_seen", "_law_is_many"] (defScope s_l_told_there) := ⟨rfl, rfl, rfl, by decide +kernel, rfl, by decide +kernel, by decide +kernel⟩
theorem sc_law : FnScope ["_law_script", "_law_row", "_law_turn", "_law_moduli", "_law_seen", "_law_is_many", "_law_at", "_law_wrong", "_law_odd", "_law_k"] ["_law_script"] (defScope s_law) := ⟨rfl, rfl, rfl, by decide +kernel, rfl, by decide +kernel, by decide +kernel⟩
end R
/-! ## an own exception whose __init__ hands a text on and keeps its one argument -/
namespace XI
open PySem PySem.W PySem.Calls PyProof.Rows PySem.HandSPX
/-- __init__ of one field -/
def oneArgs (p1 p2 : Pos) : Arguments :=
  { posonlyargs := [], args := [⟨"self", none, p1⟩, ⟨"index", none, p2⟩], vararg := none,
    kwonlyargs := [], kw_defaults := [], kwarg := none, defaults := [] }
def oneCall (m1 m2 : Str) (q1 q2 q3 q4 r1 r2 r3 r4 r5 : Pos) : Expr :=
  .Call (.Attribute (.Call (.Name "super" q1) [] [] q2) "__init__" q3) [.JoinedStr [.Constant (.str m1) 0 r1, .FormattedValue (.Name "index" r2) (-1) none r3, .Constant (.str m2) 0 r4] r5] [] q4
def oneSet (q6 q7 q8 q9 : Pos) : Stmt := .Assign [.Attribute (.Name "self" q6) "index" q7] (.Name "index" q8) q9
def oneScope : Scope :=
  { kind := .function, names := [(Str.ofString "self", .local), (Str.ofString "index", .local), (Str.ofString "__class__", .free), (Str.ofString "super", .globalImplicit)],
    isGenerator := false, isCoroutine := false, more := [] }
/-- a value that the text tells: None, or a small int -/
def Told (v : Value) : Prop := v = .none ∨ ∃ (i : Nat) (t : Tok), v = .int (i : Int) t ∧ i ≤ 100
theorem short_small : ∀ i : Nat, i ≤ 100 → (Str.ofString (toString (i : Int))).length ≤ 10 := by decide +kernel
theorem log_small : ∀ i : Nat, i ≤ 100 → (i : Int).natAbs.log2 < 1920 := by decide +kernel
/-- what the written part tells of the class at C -/
structure OwnC (K : Frag) (C fI : Addr) (f : Str) : Prop where
  cls : ∃ nm q N bs bm sn sub ab col dd k0 k1 k2 k3 k5, K.lookup C = some (excClassObj nm q C N bs bm true sn sub ab col dd k0 k1 k2 k3 k5 "ValueError.__new__") ∧ refsVE bm = true
  sup : ks_superIn K C C "__init__" = some (some (.builtin "ValueError.__init__"))
  isV : subIn K (.ref C) (.type "ValueError") = some true
  self : mroIn K C (.ref C) = some true
  any_ : nsIn K cStatics "thirdparty.any" = some none
  sa : findIn K (.ref C) "__setattr__" = some (some (.builtin "object.__setattr__"))
  no : findIn K (.ref C) f = some none
  init : findIn K (.ref C) "__init__" = some (some (.ref fI))
  fn : typeIn K (.ref fI) = some (.type "function")
  keep : keepIn K (.ref C) = true
  exc : subIn K (.ref C) (.type "BaseException") = some true
  ty : typeIn K (.ref C) = some (.type "type")
/-- what it tells of its __init__ -/
structure OwnF (K : Frag) (C fI : Addr) (file : Str) : Prop where
  ex : ∃ (oc : Value) (od : Option Addr) (osl : Array (Option Value)) (q m1 m2 : Str) (doc pm ct : Value) (an : Option Addr) (cda cc : Addr) (p1 p2 q1 q2 q3 q4 q5 r1 r2 r3 r4 r5 q6 q7 q8 q9 : Pos),
    K.lookup fI = some ⟨oc, od, .func (ksFn "__init__" q (oneArgs p1 p2) [.Expr (oneCall m1 m2 q1 q2 q3 q4 r1 r2 r3 r4 r5) q5, oneSet q6 q7 q8 q9] oneScope .none .none doc pm an (.ref cda) ct cc), osl⟩ ∧
    codeIn K (.ref cda) q = true ∧ (q3.endLine == q4.line) = true ∧ m1.length ≤ 1000 ∧ m2.length ≤ 1000 ∧ (∃ ccl cdd vs ccs tf, K.lookup cda = some ⟨ccl, cdd, .fields vs, ccs⟩ ∧ vs[2]? = some (.str file tf)) ∧
    ∃ cl cld csl, K.lookup cc = some ⟨cl, cld, .cell (some (.ref C)), csl⟩
structure Left (h h' : Heap) (x C dx : Addr) (f : Str) (v : Value) : Prop where
  keep : ∀ b o, b ≠ x → h.get? b = some o → h'.get? b = some o
  obj : ∃ t1, h'.get? x = some { cls := .ref C, dict := some dx, data := .fields #[.ref t1, .none, .none, .none, .bool false, .none] }
  big : h.objs.size ≤ dx
  ne : dx ≠ x
  ns : h'.Ns1 dx (fun y => if y = f then some v else none)
section
variable {prog : Program} {w : World} {A : Around} {E : Value → Shared → Prop} {R : Result → Shared → Prop} {s : Shared} {K : Frag} {C fI : Addr} {f file : Str} {mg mb : Str → Option Value}
theorem args_one {M : Model} {pos : Pos} {env : Env} {e : Expr} {Q : List Value → Shared → Prop} (h : wpAny M A (eval e env) (fun v s' => Q [v] s') E s) (he : starEach [e] env = [(false, eval e env)] := by rfl) :
    wpAny M A (spliced (backTo pos (starEach [e] env))) Q E s := by
  rw [he]
  exact Calls.spliced_cons (wpAny_mono h (fun v s1 h1 => Calls.spliced_nil h1) fun _ _ z => z)
theorem call_mw {u e t0 : Addr} {h : Heap} {g : Array GenState} {d : Drawn} {t : Nat} {os : OsState} {rest : List Value} {Q : Value → Shared → Prop} {nm q : Str} {N : Addr} {bs bm : List Value} {hdct : Bool} {sn : List Str} {sub : List Value} {ab : Bool} {col : Option Bool} {dd : Option Addr} {k0 k1 k2 k3 k5 : Option Value}
    (hC : h.get? C = some (excClassObj nm q C N bs bm hdct sn sub ab col dd k0 k1 k2 k3 k5 "ValueError.__new__")) (he : h.get? e = some (excO C t0)) (hu : h.get? u = some (kxs_mw "ValueError.__init__" e)) (hrest : rest.length ≤ sizeLine)
    (hq : ∀ h' t1, (∀ b o, b ≠ e → h.get? b = some o → h'.get? b = some o) → h'.get? e = some (excO C t1) → Q .none ⟨h', g, d, t, os⟩) :
    wpAny (model prog w) A (call (.ref u) rest) Q E ⟨h, g, d, t, os⟩ := by
  refine wpAny_call (codeAny_of_tree ?_)
  show wpAny _ A.in1 (callAny (.ref u) ⟨rest, []⟩) _ _ _
  simp only [callAny]
  refine wpAny_bind (wpAny_load hu ?_)
  simp only [kxs_mw, show (Value.type "method-wrapper" == Value.type "method" || Value.type "method-wrapper" == Value.type "builtin_function_or_method" || Value.type "method-wrapper" == Value.type "method-wrapper") = true by decide, if_true]
  refine W.KFB.if_so (by decide) ?_
  refine wpAny_bind (check_bound_init F.excBase_ValueError.toExcCallFacts hC he rfl ?_)
  refine wpAny_bind (wpAny_pure (wpAny_pure ?_))
  refine ⟨Code.quiet_builtin _ (by decide +kernel), codeAny_builtin F.excBase_ValueError.initEntry ?_⟩
  rw [Around.under_plainId F.excBase_ValueError.init.plain _]
  wp_walk
  refine hq _ h.objs.size (fun b o hb ho => ?_) ?_
  · rw [Heap.get?_update_other _ _ (Ne.symm hb)]
    exact Heap.get?_push_of_some _ ho
  · rw [Heap.get?_update_self _ (Heap.get?_push_of_some _ he) rfl]
    rfl
theorem told_text {v : Value} (hv : Told v) : ∃ y : Str, y.length ≤ 10 ∧ ∀ {A : Around} {E : Value → Shared → Prop} {s : Shared} {Q : Value → Shared → Prop}, (∀ t t' : Nat, Q (.str y t) { s with toks := t' }) → wpAny (model prog w) A (formatField v Str.empty) Q E s := by
  rcases hv with rfl | ⟨i, ti, rfl, hi⟩
  · exact ⟨"None", by decide, fun q => wpAny_formatField_none (q _ _)⟩
  · exact ⟨toString (i : Int), short_small i hi, fun q => wpAny_formatField_int (log_small i hi) (q _ _)⟩
theorem lenA1 {m1 : Str} (z1 : m1.length ≤ 1000) : (Str.empty ++ m1).length ≤ sizeLine := by
  rw [strLen_append, sizeLine_eq]
  have : Str.empty.length = 0 := rfl
  omega
theorem lenA2 {m1 y : Str} (z1 : m1.length ≤ 1000) (hy : y.length ≤ 10) : (Str.empty ++ m1 ++ y).length ≤ sizeLine := by
  rw [strLen_append, strLen_append, sizeLine_eq]
  have : Str.empty.length = 0 := rfl
  omega
theorem lenA3 {m1 y m2 : Str} (z1 : m1.length ≤ 1000) (hy : y.length ≤ 10) (z2 : m2.length ≤ 1000) : (Str.empty ++ m1 ++ y ++ m2).length ≤ sizeLine := by
  rw [strLen_append, strLen_append, strLen_append, sizeLine_eq]
  have : Str.empty.length = 0 := rfl
  omega
theorem call_line {o e : Expr} {n : Str} {ap pos : Pos} {env : Env} (hl : (ap.endLine == pos.line) = true) (hs : starEach [e] env = [(false, eval e env)] := by rfl) :
    eval (.Call (.Attribute o n ap) [e] [] pos) env = (do
      let ov ← attributeBase o n env (eval o env)
      standAt ap.atName
      let (f, first) ← holding [ov] (getMethod ov n (do return (← importBound o env).getD true))
      callWith pos f first (backTo pos (starEach [e] env)) []) := by
  rw [arm_eval_Call]
  unfold methodCall
  have e1 : methodCallForm ([e].length + ([] : List Keyword).length) (backTo pos (starEach [e] env)) (backToKw pos (keywordEach [] env)) = true := by
    rw [hs]
    rfl
  have e2 : methodCallPos true o env ap pos = pure pos := by
    unfold methodCallPos
    rw [hl]
    rfl
  rw [e1, e2]
  rfl
theorem own_init (T : OwnC K C fI "index") (TF : OwnF K C fI file) {x t0 : Addr} {v : Value} (X : K.In s.heap) (hlim : s.heap.NoLimit) (hG : s.heap.Ns mainGlobals mg) (hg : mg "super" = none) (hB : s.heap.Ns builtinsNs mb) (hb : mb "super" = some (.type "super"))
    (hfile : ((prog.main.file : Str) == file) = true) (htop : (prog.main.scope.names.lookup ("super" : Str)).isSome = false)
    (hx : s.heap.get? x = some (excO C t0)) (hnx : K.lookup x = none) (hv : Told v) (hroom : A.depth < recursionLimit)
    (hq : ∀ h' tk dx, Left s.heap h' x C dx "index" v → R (.ok (.ret .none)) { s with heap := h', toks := tk }) :
    codeAny (model prog w) A (.call (.ref fI) ⟨[.ref x, v], []⟩) R s := by
  obtain ⟨oc, od, osl, q, m1, m2, doc, pm, ct, an, cda, cc, p1, p2, q1, q2, q3, q4, q5, r1, r2, r3, r4, r5, q6, q7, q8, q9, ho, hcd, hln, z1, z2, ⟨ccl, cdd, vs, ccs, tf, hcode, hvs⟩, cl, cld, csl, hcell⟩ := TF.ex
  obtain ⟨nm, qn, N, bs, bm, sn, sub, ab, col, dd, k0, k1, k2, k3, k5, hC, hbm⟩ := T.cls
  have hcl : clsIn K C = some { name := nm, bases := bs, mro := .ref C :: bm, ns := N, qualname := qn, hasDict := true, slotNames := sn, subclasses := sub, abstract := ab, collection := col, hasDel := false } := by unfold clsIn; rw [hC] <;> rfl
  refine ks_codeAny_call_defAt (fd := ksFn "__init__" q (oneArgs p1 p2) _ oneScope .none .none doc pm an (.ref cda) ct cc) (binds := [("self", .ref x), ("index", v)]) hroom (X _ _ ho) rfl hlim (codeRec_of X hcd) rfl (BindsTo.of_eq (by first | rfl | with_unfolding_all rfl)) (show ∀ x ∈ oneScope.names, x.2 ≠ .cell by decide) (fun y hy => ?_) (fun h₁ hns k₁ => ?_)
  · rcases List.mem_cons.mp hy with rfl | hy
    · rfl
    · rw [List.mem_singleton.mp hy]
      rfl
  obtain ⟨hp, g, d, t, os⟩ := s
  have X₁ : K.In h₁ := X.keeps k₁
  have hx₁ := k₁ _ _ hx
  have hxL : hp.objs.size ≠ x := Nat.ne_of_gt (Heap.lt_size hx)
  have nsk : ∀ {h2 : Heap}, (∀ b o, b ≠ x → h₁.get? b = some o → h2.get? b = some o) → h2.Ns hp.objs.size _ := fun k => hns.at fun o e => k _ o hxL e
  refine ks_wpAt_execs_cons (ks_wpAt_Expr_any (ks_wpAt_MethodCall ?_ (call_line hln)))
  refine ks_wpAt_super_base (env := ksEnv q oneScope hp.objs.size fI (.ref cda) cc) (by rfl) (by rfl) (by rfl) rfl (X₁ _ _ ho) rfl rfl rfl (X₁ _ _ hcode) rfl hvs hfile htop ?_
  refine ks_loadName_global (by rfl) (by rfl) (loadGlobal_builtin (env := ksEnv q oneScope hp.objs.size fI (.ref cda) cc) (hG.keeps k₁) hg (hB.keeps k₁) hb ⟨rfl, ?_⟩)
  refine wpAny_loadName_free (by rfl) (by rfl) rfl ⟨_, X₁ _ _ hcell, rfl⟩ ?_
  refine wpAny_loadName_local (by rfl) (by rfl) hns (by first | rfl | with_unfolding_all rfl | kernel_rfl) ?_
  refine ks_wpAny_isType_cls (X₁ _ _ hC) rfl ⟨rfl, ?_⟩
  refine ks_wpAny_call_super (X₁ _ _ hC) rfl hx₁ rfl (fun c e => by cases e) (looks_mroIn X₁ T.self) (fun h₂ e₂ k₂ => ?_)
  have X₂ : K.In h₂ := X₁.keeps k₂
  have hx₂ := k₂ _ _ hx₁
  have hI : Looks (model prog w) h₂ (isInstance (.ref x) (.type "ValueError")) true := (InstAt.type (od := none) ⟨hx₂, rfl, rfl, trivial⟩).andThen (looks_subIn X₂ T.isV)
  have sup := T.sup
  unfold ks_superIn at sup
  rw [hcl] at sup
  refine kxs_getMethod kxs_ValueError e₂ (looks_opaque X₂ T.any_) (l₀ := .ref C :: bm) (fun A Q E s k q => wpAny_bind ((looks_clsIn X₂ hcl) A _ E s k (wpAny_pure q))) rfl X₂ sup hI (fun z => by
    have y := X₂ _ _ hC
    rw [← z, hx₂] at y
    cases y) (by decide) ?_
  have hu : (h₂.push (kxs_mw "ValueError.__init__" x)).get? h₂.objs.size = some (kxs_mw "ValueError.__init__" x) := Heap.get?_push_at rfl rfl
  have k₃ : ∀ b o, h₂.get? b = some o → (h₂.push (kxs_mw "ValueError.__init__" x)).get? b = some o := fun b o e => Heap.get?_push_of_some _ e
  generalize h₂.push (kxs_mw "ValueError.__init__" x) = h₃ at hu k₃ ⊢
  have hx₃ := k₃ _ _ hx₂
  have X₃ : K.In h₃ := X₂.keeps k₃
  have kk : ∀ b o, h₁.get? b = some o → h₃.get? b = some o := fun b o e => k₃ _ _ (k₂ _ _ e)
  have hns₃ := hns.keeps kk
  show wpAny _ _ (callWith _ (.ref _) [] _ []) _ _ _
  refine kxs_callWith (i := "ValueError.__init__") (x := x) (by rfl) (evalArgs_plain (Calls.spliced_cons ?_))
  obtain ⟨y, hy, fmt⟩ := told_text (prog := prog) (w := w) hv
  refine wpAny_JoinedStr (pos := r5) ?_
  refine wpAny_Constant_str ⟨m1, _, rfl, lenA1 z1, ?_⟩
  refine wpAny_FormattedValue_plain (wpAny_Name (wpAny_loadName_local (by rfl) (by rfl) hns₃ (by first | rfl | with_unfolding_all rfl | kernel_rfl) ?_))
  refine fmt fun t1 t2 => ⟨y, _, rfl, lenA2 z1 hy, ?_⟩
  refine wpAny_Constant_str ⟨m2, _, rfl, lenA3 z1 hy z2, lenA3 z1 hy z2, ?_⟩
  refine Calls.spliced_nil ⟨hu, ?_⟩
  refine call_mw (X₃ _ _ hC) hx₃ hu (by rw [sizeLine_eq]; exact (by decide : 1 ≤ 16777216)) (fun h₄ t4 k₄ hx₄ => ?_)
  have k14 : ∀ b o, b ≠ x → h₁.get? b = some o → h₄.get? b = some o := fun b o n e => k₄ b o n (kk _ _ e)
  have hns₄ := nsk k14
  have X₄ : K.In h₄ := fun b o e => k14 b o (fun z => by
    rw [z, hnx] at e
    cases e) (X₁ _ _ e)
  refine wpAt_of_wpAny (wpAny_execs_cons (plainObj_wpAny_Assign_Attribute (wpAny_Name (wpAny_loadName_local (by rfl) (by rfl) hns₄ (by first | rfl | with_unfolding_all rfl | kernel_rfl) ?_))))
  refine wpAny_Name (wpAny_loadName_local (by rfl) (by rfl) hns₄ (by first | rfl | with_unfolding_all rfl | kernel_rfl) ?_)
  refine set_plain X₄ (ox := excO C t4) (od := none) ⟨hx₄, rfl, rfl, trivial⟩ T.sa ?_
  refine exc_osa X₄ hx₄ hcl (show refsVE (.ref C :: bm) = true from hbm) rfl T.no (fun h₅ tk₅ dx k₅ dn dne hx₅ hn₅ => ?_)
  show wpAny _ _ (execs _ _) _ _ _
  have z : hp.objs.size < h₄.objs.size := hns₄.lt
  exact wpAny_execs_nil (hq h₅ tk₅ dx ⟨fun b o hb e => k₅ b o hb (k14 b o hb (k₁ b o e)), ⟨_, hx₅⟩, Nat.le_of_lt (Nat.lt_of_lt_of_le z dn), dne, hn₅⟩)
/-- a made exception -/
structure Born (h h' : Heap) (e C d : Addr) (v : Value) : Prop where
  keep : ∀ b o, h.get? b = some o → h'.get? b = some o
  new : h.objs.size ≤ e
  obj : ∃ oe vs, h'.get? e = some oe ∧ oe.cls = .ref C ∧ oe.dict = some d ∧ oe.data = .fields vs ∧ vs[1]? = some .none
  big : h.objs.size ≤ d
  ne : d ≠ e
  ns : h'.Ns1 d (fun y => if y = "index" then some v else none)
theorem own_born (T : OwnC K C fI "index") (TF : OwnF K C fI file) {v : Value} (X : K.In s.heap) (hlim : s.heap.NoLimit) (hG : s.heap.Ns mainGlobals mg) (hg : mg "super" = none) (hB : s.heap.Ns builtinsNs mb) (hb : mb "super" = some (.type "super"))
    (hfile : ((prog.main.file : Str) == file) = true) (htop : (prog.main.scope.names.lookup ("super" : Str)).isSome = false) (hv : Told v) (hroom : A.depth + 1 < recursionLimit)
    (hq : ∀ h' tk e d, Born s.heap h' e C d v → R (.ok (.ret (.ref e))) { s with heap := h', toks := tk }) :
    codeAny (model prog w) A (.call (.ref C) ⟨[v], []⟩) R s := by
  obtain ⟨nm, q, N, bs, bm, sn, sub, ab, col, dd, k0, k1, k2, k3, k5, hC, hbm⟩ := T.cls
  obtain ⟨hp, g, dr, tk, os⟩ := s
  have k : ∀ b o, hp.get? b = some o → ((hp.push (kdv_tup [v])).push (excO C hp.objs.size)).get? b = some o := fun b o e => Heap.get?_push_of_some _ (Heap.get?_push_of_some _ e)
  have hget : ((hp.push (kdv_tup [v])).push (excO C hp.objs.size)).get? (hp.objs.size + 1) = some (excO C hp.objs.size) := by heap_get
  have hnx : K.lookup (hp.objs.size + 1) = none := by
    cases e : K.lookup (hp.objs.size + 1) with
    | none => rfl
    | some o => exact absurd (Nat.lt_of_succ_lt (Heap.lt_size (show hp.get? (hp.objs.size + 1) = some o from X _ _ e))) (Nat.lt_irrefl _)
  refine call_own F.excBase_ValueError (fun Y => refsVE_contains Y bm hbm) (X _ _ hC) (looks_findIn X T.init) (fun u => bind_fn X u T.fn) (by rw [sizeLine_eq]; exact (by decide : 1 ≤ 16777216)) ?_
  refine own_init (s := ⟨(hp.push (kdv_tup [v])).push (excO C hp.objs.size), g, dr, tk, os⟩) T TF (X.keeps k) (hlim.keeps k) (hG.keeps k) hg (hB.keeps k) hb hfile htop hget hnx hv (show A.depth + 1 < recursionLimit from hroom) fun h' tk' dx L => ?_
  have old : ∀ b o, hp.get? b = some o → h'.get? b = some o := fun b o e => L.keep b o (Nat.ne_of_lt (Nat.lt_succ_of_lt (Heap.lt_size e))) (k b o e)
  have z : hp.objs.size + 1 + 1 ≤ dx := by
    have y := L.big
    first
      | (simpa only [Heap.size_push] using y)
      | exact y
  obtain ⟨t1, hx⟩ := L.obj
  exact ⟨rfl, hq h' tk' (hp.objs.size + 1) dx ⟨old, Nat.le_succ _, ⟨_, _, hx, rfl, rfl, rfl, rfl⟩, Nat.le_trans (Nat.le_trans (Nat.le_succ _) (Nat.le_succ _)) z, L.ne, L.ns⟩⟩
end
end XI
namespace L2
open PySem PySem.Spec PyProof.Rows
theorem relO_index {v : V} {v' : Value} (r : RelV v v') (f : Str) : RelO (List.lookup f [(("index" : Str), v)]) (if f = "index" then some v' else none) := by
  by_cases hw : f = "index"
  · subst hw
    have q : List.lookup ("index" : Str) [(("index" : Str), v)] = some v := by simp [List.lookup]
    rw [if_pos rfl, q]
    exact r
  · have qw : (f == ("index" : Str)) = false := by simpa using hw
    have q2 : List.lookup f [(("index" : Str), v)] = none := by simp [List.lookup, qw]
    rw [if_neg hw, q2]
    trivial
/-- None, or a small int -/
def ToldV (v : V) : Prop := v = .non ∨ ∃ i : Nat, v = .int (i : Int) ∧ i ≤ 100
/-- what the program's file must be -/
class POk (P : Program) (file : Str) : Prop where
  file : ((P.main.file : Str) == file) = true
  top : (P.main.scope.names.lookup ("super" : Str)).isSome = false
section
variable {X : Cx} {C fI : Addr} {file : Str}
/-- C(e), C of one field -/
def tMk1 (C : Addr) (ta : TA) : St → Hp → XK → Prop := fun σ H Q => ta σ H fun vs H1 => ∃ v, vs = [v] ∧ ToldV v ∧ ∀ d, H1 d = none → Q (.ref C) (some d) (upd H1 d (.xd [(("index" : Str), v)]))
theorem pmk_1 {a : Expr} {ta : TA} {x : Str} {p pos : Pos} {k : Nat} (po : POk X.prog file) (T : XI.OwnC X.K C fI "index") (TF : XI.OwnF X.K C fI file) (hr : Room k X.A) (hs : X.mg "super" = none) (ha : PA X [a] ta) (hg : Gl X x) (gC : X.mg x = some (.ref C)) (hdb : (x == ("__debug__" : Str)) = false := by decide)
    (he : starEach (a :: []) X.env = (false, eval a X.env) :: starEach [] X.env := by rfl) (hpl : (backTo pos (starEach [] X.env)).any (·.1) = false := by rfl) :
    PMk X (.Call (.Name x p) [a] [] pos) (tMk1 C ta) := by
  intro pins s σ H Q I h
  refine wpAny_Call_Name_kw (ld_glob I hg gC ?_ hdb)
  refine PySem.W.callWith_K (h₀ := X.base) I.ok.mod.kin T.keep (thn (ha.run pos pins s σ H _ I h) fun us s1 hh => ?_) he hpl
  obtain ⟨vs, H1, I1, r1, v, ev, tv, q1⟩ := hh
  subst ev
  refine ⟨I1.kIn, ?_⟩
  cases r1 with
  | cons rv rn =>
    rename_i v' us'
    cases rn
    show wpAny _ _ (call (.ref C) [v']) _ _ _
    have hlim := I1.nolimit
    obtain ⟨mb, b1, b2⟩ := I1.mod.blt
    have hb : mb "super" = some (.type "super") := (b2 "super" (by decide)).trans PyProof.Rows.Boot.«super»
    have tv' : XI.Told v' := by
      rcases tv with rfl | ⟨i, rfl, hi⟩
      · exact .inl rv
      · obtain ⟨t, rfl⟩ := rv
        exact .inr ⟨i, t, rfl, hi⟩
    have G1 := I1.mod.glob.keeps I1.bk
    have G2 := b1.keeps I1.bk
    obtain ⟨hp, g, dr, tk, os⟩ := s1
    refine wpAny_call (XI.own_born T TF I1.kIn hlim G1 hs G2 hb po.file po.top tv' (by have := hr.dp; omega) fun h' tk' e d M => ?_)
    show MkP X pins σ Q (.ref e) ⟨h', g, dr, tk', os⟩
    obtain ⟨oe, fv, hoe, hc, hd, hdat, h1⟩ := M.obj
    have hns := M.ns
    obtain ⟨G', g1, g2⟩ := restrict h' fun b => decide (b ≠ e)
    have gk : ∀ b, b ≠ e → G'.get? b = h'.get? b := fun b hb => g1 b (decide_eq_true hb)
    have ge : G'.get? e = none := g2 e (by simp)
    have old : ∀ b o, hp.get? b = some o → G'.get? b = some o := fun b o q => (gk b (Nat.ne_of_lt (Nat.lt_of_lt_of_le (Heap.lt_size q) M.new))).trans (M.keep b o q)
    have ob : ObjOk X.prog X.w (upd H1 d (.xd [(("index" : Str), v)])) G' d (.xd [(("index" : Str), v)]) :=
      ⟨_, hns.at (fun o q => (gk d M.ne).trans q), fun f => relO_index rv f⟩
    have J : Inv X pins σ (upd H1 d (.xd [(("index" : Str), v)])) ⟨G', g, dr, tk', os⟩ := I1.laid (t' := tk') old M.big ob
    refine ⟨e, oe, fv, ⟨G', g, dr, tk', os⟩, _, .ref C, some d, rfl, J, fun b o q => ?_, ge, hoe, ⟨hc, hd⟩, hdat, h1, ?_, rfl, I1.bare, raises_own T.exc T.ty, q1 d (I1.hok.fresh M.big)⟩
    · by_cases hb : b = e
      · have q' : G'.get? b = some o := q
        rw [hb, ge] at q'
        cases q'
      · exact (gk b hb).symm.trans q
    · rw [upd_ne (Ne.symm M.ne)]
      exact I1.hok.fresh M.new
/-- isinstance(e, c), e an exception with its dict that the suite holds -/
def rIsD (K : PySem.W.Frag) (D a : Addr) (cls : Value) (d : Option Addr) : List V → Hp → VK → Prop := fun xs H Q => cls = .ref D ∧ ∃ (dd : Addr) (fs : List (Str × V)), d = some dd ∧ H dd = some (.xd fs) ∧ rIsE K D a xs H Q
theorem call_isD {a D : Addr} {oe : Obj} {pn : List (Addr × Obj)} {cls : Value} {d : Option Addr} (C : ExcC X.K D) (hz : Zc cls d oe) (hf : ∃ vs, oe.data = .fields vs) :
    CallR (X.suite a ((a, oe) :: pn)) (.builtin "isinstance") (rIsD X.K D a cls d) := by
  intro pins s σ H xs us Q I r h
  obtain ⟨h1, dd, fs, h2, hxd, c, cv, b, rfl, hcv, e, q⟩ := h
  subst h1 h2
  cases r with
  | cons rx rr =>
    cases rr with
    | cons rt rr =>
      cases rr
      cases rx
      have ec := hcv _ rt
      subst ec
      obtain ⟨hget, _⟩ := I.pin (a, oe) (List.mem_append.mpr (.inl List.mem_cons_self))
      obtain ⟨vs, hv⟩ := hf
      obtain ⟨mA, hns, _⟩ : ObjOk X.prog X.w H s.heap dd (.xd fs) := I.hok dd _ hxd
      obtain ⟨od, ho, _⟩ := lookIn_ns hns
      have J : PySem.W.InstAt s.heap a oe D (some od) := ⟨hget, hz.1, by unfold PySem.W.notCls; rw [hv] <;> rfl, by rw [hz.2]; exact ho⟩
      have hcl : (PySem.W.clsIn X.K D).isSome = true := by
        obtain ⟨cd, hc, _⟩ := PySem.W.any_some C.hd
        rw [hc]
        rfl
      exact PySem.W.kia_one (PySem.W.kitx_exc hcl C.hg C.hk C.hs C.ha C.hn C.ht C.hm) I.kIn J e (fun z => nomatch z) fun tk => ⟨.bl b, H, I.kept (t' := tk) fun _ _ z => z, rfl, q⟩
end
end L2
namespace R
open PySem PySem.Spec PyProof.Rows L2

def FILE : Str := "/claim/cut.py"
/-! what stands behind the top -/
structure Txt (K : PySem.W.Frag) (mg : Str → Option Value) where
  f_p_is_integer : Addr
  fd_p_is_integer : FuncData
  F_p_is_integer : Fun K "is_integer" "is_integer" s_p_is_integer f_p_is_integer fd_p_is_integer
  b_p_is_integer : Binds K fd_p_is_integer ["value"] []
  g_p_is_integer : mg "is_integer" = some (.ref f_p_is_integer)
  f_p_integer_within : Addr
  fd_p_integer_within : FuncData
  F_p_integer_within : Fun K "integer_within" "integer_within" s_p_integer_within f_p_integer_within fd_p_integer_within
  b_p_integer_within : Binds K fd_p_integer_within ["value", "least", "greatest"] []
  g_p_integer_within : mg "integer_within" = some (.ref f_p_integer_within)
  f_p_is_number : Addr
  fd_p_is_number : FuncData
  F_p_is_number : Fun K "is_number" "is_number" s_p_is_number f_p_is_number fd_p_is_number
  b_p_is_number : Binds K fd_p_is_number ["value"] []
  g_p_is_number : mg "is_number" = some (.ref f_p_is_number)
  f_p_is_pair : Addr
  fd_p_is_pair : FuncData
  F_p_is_pair : Fun K "is_pair" "is_pair" s_p_is_pair f_p_is_pair fd_p_is_pair
  b_p_is_pair : Binds K fd_p_is_pair ["value"] []
  g_p_is_pair : mg "is_pair" = some (.ref f_p_is_pair)
  f_p_check_moduli : Addr
  fd_p_check_moduli : FuncData
  F_p_check_moduli : Fun K "check_moduli" "check_moduli" s_p_check_moduli f_p_check_moduli fd_p_check_moduli
  b_p_check_moduli : Binds K fd_p_check_moduli ["moduli"] []
  g_p_check_moduli : mg "check_moduli" = some (.ref f_p_check_moduli)
  f_p_is_sight : Addr
  fd_p_is_sight : FuncData
  F_p_is_sight : Fun K "is_sight" "is_sight" s_p_is_sight f_p_is_sight fd_p_is_sight
  b_p_is_sight : Binds K fd_p_is_sight ["value"] []
  g_p_is_sight : mg "is_sight" = some (.ref f_p_is_sight)
  f_p_check_seen : Addr
  fd_p_check_seen : FuncData
  F_p_check_seen : Fun K "check_seen" "check_seen" s_p_check_seen f_p_check_seen fd_p_check_seen
  b_p_check_seen : Binds K fd_p_check_seen ["seen"] []
  g_p_check_seen : mg "check_seen" = some (.ref f_p_check_seen)
  f_p_marks_of : Addr
  fd_p_marks_of : FuncData
  F_p_marks_of : Fun K "marks_of" "marks_of" s_p_marks_of f_p_marks_of fd_p_marks_of
  b_p_marks_of : Binds K fd_p_marks_of ["moduli", "number"] []
  g_p_marks_of : mg "marks_of" = some (.ref f_p_marks_of)
  f_p_held_marks : Addr
  fd_p_held_marks : FuncData
  F_p_held_marks : Fun K "held_marks" "held_marks" s_p_held_marks f_p_held_marks fd_p_held_marks
  b_p_held_marks : Binds K fd_p_held_marks ["moduli", "seen"] []
  g_p_held_marks : mg "held_marks" = some (.ref f_p_held_marks)
  f_p_unheld_marks : Addr
  fd_p_unheld_marks : FuncData
  F_p_unheld_marks : Fun K "unheld_marks" "unheld_marks" s_p_unheld_marks f_p_unheld_marks fd_p_unheld_marks
  b_p_unheld_marks : Binds K fd_p_unheld_marks ["moduli", "seen"] []
  g_p_unheld_marks : mg "unheld_marks" = some (.ref f_p_unheld_marks)
  f_p_rows_with : Addr
  fd_p_rows_with : FuncData
  F_p_rows_with : Fun K "rows_with" "rows_with" s_p_rows_with f_p_rows_with fd_p_rows_with
  b_p_rows_with : Binds K fd_p_rows_with ["total", "held", "unheld"] []
  g_p_rows_with : mg "rows_with" = some (.ref f_p_rows_with)
  f_p_many_lots : Addr
  fd_p_many_lots : FuncData
  F_p_many_lots : Fun K "many_lots" "many_lots" s_p_many_lots f_p_many_lots fd_p_many_lots
  b_p_many_lots : Binds K fd_p_many_lots ["moduli", "seen"] []
  g_p_many_lots : mg "many_lots" = some (.ref f_p_many_lots)
  f_p_rests_at : Addr
  fd_p_rests_at : FuncData
  F_p_rests_at : Fun K "rests_at" "rests_at" s_p_rests_at f_p_rests_at fd_p_rests_at
  b_p_rests_at : Binds K fd_p_rests_at ["marks", "index"] []
  g_p_rests_at : mg "rests_at" = some (.ref f_p_rests_at)
  f_p_sure_rests : Addr
  fd_p_sure_rests : FuncData
  F_p_sure_rests : Fun K "sure_rests" "sure_rests" s_p_sure_rests f_p_sure_rests fd_p_sure_rests
  b_p_sure_rests : Binds K fd_p_sure_rests ["moduli", "seen"] []
  g_p_sure_rests : mg "sure_rests" = some (.ref f_p_sure_rests)
  f_l_draws : Addr
  fd_l_draws : FuncData
  F_l_draws : Fun K "_law_draws" "_law_draws" s_l_draws f_l_draws fd_l_draws
  b_l_draws : Binds K fd_l_draws ["_law_script"] []
  g_l_draws : mg "_law_draws" = some (.ref f_l_draws)
  f_l_pick : Addr
  fd_l_pick : FuncData
  F_l_pick : Fun K "_law_pick" "_law_pick" s_l_pick f_l_pick fd_l_pick
  b_l_pick : Binds K fd_l_pick ["_law_row", "_law_many"] []
  g_l_pick : mg "_law_pick" = some (.ref f_l_pick)
  f_l_far : Addr
  fd_l_far : FuncData
  F_l_far : Fun K "_law_far" "_law_far" s_l_far f_l_far fd_l_far
  b_l_far : Binds K fd_l_far ["_law_row"] []
  g_l_far : mg "_law_far" = some (.ref f_l_far)
  f_l_told_there : Addr
  fd_l_told_there : FuncData
  F_l_told_there : Fun K "_law_told_there" "_law_told_there" s_l_told_there f_l_told_there fd_l_told_there
  b_l_told_there : Binds K fd_l_told_there ["_law_moduli", "_law_seen", "_law_is_many"] []
  g_l_told_there : mg "_law_told_there" = some (.ref f_l_told_there)
  f_law : Addr
  fd_law : FuncData
  F_law : Fun K "law" "law" s_law f_law fd_law
  b_law : Binds K fd_law ["_law_script"] []
  g_law : mg "law" = some (.ref f_law)
  z_len : mg "len" = none
  z_sum : mg "sum" = none
  z_range : mg "range" = none
  z_int : mg "int" = none
  z_list : mg "list" = none
  z_tuple : mg "tuple" = none
  z_sorted : mg "sorted" = none
  z_isinstance : mg "isinstance" = none
  z_enumerate : mg "enumerate" = none
  z_bool : mg "bool" = none
  c_GREATEST_NUMBER : ∃ t, mg "GREATEST_NUMBER" = some (.int 1000000000000000000000000000000 t)
  c_MOST_MODULI : ∃ t, mg "MOST_MODULI" = some (.int 4 t)
  c_GREATEST_TOLD_BY : ∃ t, mg "GREATEST_TOLD_BY" = some (.int 30 t)
  c_MOST_SEEN : ∃ t, mg "MOST_SEEN" = some (.int 20 t)
  c_MOST_UNFIT : ∃ t, mg "MOST_UNFIT" = some (.int 8 t)
  C_RestError : Addr
  g_RestError : mg "RestError" = some (.ref C_RestError)
  C_Nothing : Addr
  g_Nothing : mg "Nothing" = some (.ref C_Nothing)
  x_Nothing : PySem.W.excIn K C_Nothing [.type "ValueError", .type "Exception", .type "BaseException", .type "object"] "ValueError.__new__" = true
  k_Nothing : PySem.W.keepIn K (.ref C_Nothing) = true
  b_Nothing : PySem.W.subIn K (.ref C_Nothing) (.type "BaseException") = some true
  t_Nothing : PySem.W.typeIn K (.ref C_Nothing) = some (.type "type")
  e_Nothing : PySem.W.exmOne K (.ref C_Nothing) (.ref C_Nothing) = some true
  E_Nothing : ExcC K C_Nothing
  r_Nothing : PySem.W.kitOne K (.ref C_Nothing) (.ref C_RestError) = some true
  z_super : mg "super" = none
  C_BadModuli : Addr
  i_BadModuli : Addr
  g_BadModuli : mg "BadModuli" = some (.ref C_BadModuli)
  oc_BadModuli : XI.OwnC K C_BadModuli i_BadModuli "index"
  of_BadModuli : XI.OwnF K C_BadModuli i_BadModuli FILE
  xf_BadModuli : XfC K C_BadModuli
  e_BadModuli : PySem.W.exmOne K (.ref C_BadModuli) (.ref C_BadModuli) = some true
  E_BadModuli : ExcC K C_BadModuli
  r_BadModuli : PySem.W.kitOne K (.ref C_BadModuli) (.ref C_RestError) = some true
  C_BadSeen : Addr
  i_BadSeen : Addr
  g_BadSeen : mg "BadSeen" = some (.ref C_BadSeen)
  oc_BadSeen : XI.OwnC K C_BadSeen i_BadSeen "index"
  of_BadSeen : XI.OwnF K C_BadSeen i_BadSeen FILE
  xf_BadSeen : XfC K C_BadSeen
  e_BadSeen : PySem.W.exmOne K (.ref C_BadSeen) (.ref C_BadSeen) = some true
  E_BadSeen : ExcC K C_BadSeen
  r_BadSeen : PySem.W.kitOne K (.ref C_BadSeen) (.ref C_RestError) = some true
  e_Nothing_BadModuli : PySem.W.exmOne K (.ref C_Nothing) (.ref C_BadModuli) = some false
  e_Nothing_BadSeen : PySem.W.exmOne K (.ref C_Nothing) (.ref C_BadSeen) = some false
  e_BadModuli_Nothing : PySem.W.exmOne K (.ref C_BadModuli) (.ref C_Nothing) = some false
  e_BadModuli_BadSeen : PySem.W.exmOne K (.ref C_BadModuli) (.ref C_BadSeen) = some false
  e_BadSeen_Nothing : PySem.W.exmOne K (.ref C_BadSeen) (.ref C_Nothing) = some false
  e_BadSeen_BadModuli : PySem.W.exmOne K (.ref C_BadSeen) (.ref C_BadModuli) = some false

end R
namespace R
open PySem PySem.Spec PyProof.Rows L2
/-! ## heaps: what stays -/
/-- every object but the one at r is as it was -/
def Kp (r : Addr) (H H' : Hp) : Prop := ∀ b o, b ≠ r → H b = some o → H' b = some o
theorem Kp.refl (r : Addr) (H : Hp) : Kp r H H := fun _ _ _ h => h
theorem Kp.trans {r : Addr} {H H1 H2 : Hp} (a : Kp r H H1) (b : Kp r H1 H2) : Kp r H H2 := fun c o n h => b c o n (a c o n h)
theorem Kp.of {r : Addr} {H H' : Hp} (s : Same H H') : Kp r H H' := fun b o _ h => s b o h
theorem Kp.at_ {r : Addr} {H : Hp} {o : HO} : Kp r H (upd H r o) := fun b u n h => by rw [upd_ne n]; exact h
theorem Kp.new {r p : Addr} {H : Hp} {o : HO} (h : H p = none) : Kp r H (upd H p o) := fun b u _ e => by rw [upd_ne (ne_of_none e h)]; exact e
theorem Kp.add {r p : Addr} {H H' : Hp} {o : HO} (s : Kp r H H') (h : H p = none) : Kp r H (upd H' p o) := fun b u n e => by rw [upd_ne (ne_of_none e h)]; exact s b u n e
/-- an address that is free stays no matter of the frame: what the frame keeps is not there -/
theorem Kp.none {r p : Addr} {H H' : Hp} (s : Kp r H H') (hp : p ≠ r) (h : H' p = Option.none) : H p = Option.none := by
  cases q : H p with
  | none => rfl
  | some o => rw [s p o hp q] at h; cases h
theorem Kp.rd {r a : Addr} {H H' : Hp} {u : HO} (s : Kp r H H') (n : a ≠ r) (h : Rd H a u) : Rd H' a u := by
  rcases h with h | ⟨o, h⟩
  · exact .inl (s _ _ n h)
  · exact .inr ⟨o, s _ _ n h⟩
theorem Kp.seqT {K : PySem.W.Frag} {r a : Addr} {H H' : Hp} {xs zs : List V} (s : Kp r H H') (hr : H r = some (.lst zs)) (h : SqT K H a xs) : SqT K H' a xs := by
  rcases h with h | h
  · refine .inl (s.rd ?_ h)
    rintro rfl
    rcases h with h | ⟨o, h⟩
    · rw [hr] at h; cases h
    · rw [hr] at h; cases h
  · exact .inr h
theorem Kp.seqL {K : PySem.W.Frag} {r a : Addr} {H H' : Hp} {xs : List V} (s : Kp r H H') (n : a ≠ r) (h : SqL K H a xs) : SqL K H' a xs := by
  rcases h with h | h
  · exact .inl (s.rd n h)
  · exact .inr h
theorem same_upd {H : Hp} {p : Addr} {o : HO} (h : H p = none) : Same H (upd H p o) := fun b x e => by
  rw [upd_ne (ne_of_none e h)]; exact e
theorem Same.seqTT {K : PySem.W.Frag} {H H' : Hp} {a : Addr} {xs : List V} (e : Same H H') (h : SqT K H a xs) : SqT K H' a xs := by
  rcases h with (h | ⟨o, h⟩) | h
  · exact .inl (.inl (e _ _ h))
  · exact .inl (.inr ⟨o, e _ _ h⟩)
  · exact .inr h
theorem tupOf {K : PySem.W.Frag} {H : Hp} {a : Addr} {xs : List V} (h : H a = some (.tup xs)) : SqT K H a xs := .inl (.inl h)
theorem lstOf {K : PySem.W.Frag} {H : Hp} {a : Addr} {xs : List V} (h : H a = some (.lst xs)) : SqL K H a xs := .inl (.inl h)
theorem getMapInt {ns : List Int} {i : Nat} (h : i < ns.length) : (ns.map V.int)[i]? = some (.int ns[i]) := by
  rw [List.getElem?_map, List.getElem?_eq_getElem h]; rfl
theorem getMapInt' {ns : List Int} {i : Nat} {x : V} (h : (ns.map V.int)[i]? = some x) : ∃ n, ns[i]? = some n ∧ x = .int n := by
  rw [List.getElem?_map] at h
  cases e : ns[i]? with
  | none => rw [e] at h; cases h
  | some n => rw [e] at h; exact ⟨n, rfl, (Option.some.inj h).symm⟩
theorem flatInts (ns : List Int) : (ns.map V.int).all flatV = true := by
  rw [List.all_eq_true]
  intro x hx
  obtain ⟨n, _, rfl⟩ := List.mem_map.mp hx
  rfl
theorem sizeOk {n : Nat} (h : n ≤ 100000) : n ≤ sizeLine := Nat.le_trans h (by decide)
theorem sizeLt {n : Nat} (h : n ≤ 100000) : n < sizeLine := Nat.lt_of_le_of_lt h (by decide)

/-- len by its wish, told over the written part alone -/
def rLenK (K : PySem.W.Frag) : List V → Hp → VK → Prop := fun xs H Q => ∃ p ys, xs = [.ref p] ∧ (SqL K H p ys ∨ SqT K H p ys) ∧ Q (.int ys.length) H
/-! ## bars -/
abbrev Bar := Int × List Int
/-- a lot: ascending rests by m -/
structure LotOk (m : Int) (l : List Int) : Prop where
  up : l.Pairwise (· < ·)
  ge : ∀ r ∈ l, 0 ≤ r
  lt : ∀ r ∈ l, r < m
  few : l.length ≤ 60
structure BarOk (b : Bar) : Prop where
  pos : 1 ≤ b.1
  most : b.1 ≤ 1000000
  lot : LotOk b.1 b.2
/-- the least common multiple of the moduli -/
def wh (bs : List Bar) : Nat := bs.foldl (fun w b => Nat.lcm w b.1.natAbs) 1
def choices (bs : List Bar) : Nat := bs.foldl (fun c b => c * max 1 b.2.length) 1
structure SvOk (bs : List Bar) : Prop where
  six : bs.length ≤ 6
  bar : ∀ b ∈ bs, BarOk b
  great : wh bs ≤ 10 ^ 30
  many : choices bs ≤ 2000
def fitsB (bs : List Bar) (x : Int) : Bool := bs.all fun b => decide (x % b.1 ∈ b.2)
/-- the numbers from 0 to whole - 1 that fit -/
def cls (bs : List Bar) : List Int := ((List.range (wh bs)).map fun i : Nat => (i : Int)).filter (fitsB bs)

/-! ## bars on the heap -/
structure LotAt (K : PySem.W.Frag) (H : Hp) (v : V) (l : List Int) : Prop where
  ex : ∃ a, v = .ref a ∧ SqT K H a (l.map V.int)
structure BarAt (K : PySem.W.Frag) (H : Hp) (v : V) (b : Bar) : Prop where
  ex : ∃ a x, v = .ref a ∧ SqT K H a [.int b.1, x] ∧ LotAt K H x b.2
structure BarsAt (K : PySem.W.Frag) (H : Hp) (v : V) (bs : List Bar) : Prop where
  ex : ∃ a xs, v = .ref a ∧ SqT K H a xs ∧ xs.length = bs.length ∧ ∀ (i : Nat) x b, xs[i]? = some x → bs[i]? = some b → BarAt K H x b
section
variable {K : PySem.W.Frag} {H H' : Hp} {v : V} {l : List Int} {b : Bar} {bs : List Bar}
/-- all tuples that may be read are as they were -/
def TupsStay (K : PySem.W.Frag) (H H' : Hp) : Prop := ∀ a xs, SqT K H a xs → SqT K H' a xs
theorem TupsStay.same (s : Same H H') : TupsStay K H H' := fun _ _ h => Same.seqTT s h
theorem TupsStay.sx {r : Addr} {zs : List V} (s : Kp r H H') (hr : H r = some (.lst zs)) : TupsStay K H H' := fun _ _ h => s.seqT hr h
theorem LotAt.stay (t : TupsStay K H H') (h : LotAt K H v l) : LotAt K H' v l := let ⟨a, e, q⟩ := h.ex; ⟨a, e, t _ _ q⟩
theorem BarAt.stay (t : TupsStay K H H') (h : BarAt K H v b) : BarAt K H' v b := let ⟨a, x, e, q, z⟩ := h.ex; ⟨a, x, e, t _ _ q, z.stay t⟩
theorem BarsAt.stay (t : TupsStay K H H') (h : BarsAt K H v bs) : BarsAt K H' v bs := let ⟨a, xs, e, q, n, z⟩ := h.ex; ⟨a, xs, e, t _ _ q, n, fun i x b h1 h2 => (z i x b h1 h2).stay t⟩
end

end R
namespace R
open PySem PySem.Spec PyProof.Rows L2
/-! ## rules of my own: enumerate over a tuple, lcm of great numbers -/
abbrev itTup (t : Addr) : Obj := { cls := .type "tuple_iterator", data := .fields #[.ref t, .int 0 0] }
abbrev enObj (i : Addr) : Obj := { cls := .type "enumerate", data := .fields #[.none, .bool false, .ref i, rawInt 0, .none, .none] }
abbrev enHeap (h : Heap) (t : Addr) : Heap := (h.push (itTup t)).push (enObj h.objs.size)
theorem meets_enT (t : Addr) (items : Array Value) : Meets (Builtin.«enumerate.__new__» ⟨[.type "enumerate", .ref t], []⟩)
    (fun _ R s => s.heap.IsTuple t items ∧ R (.ok (.ret (.ref (s.heap.push (itTup t)).objs.size))) { s with heap := enHeap s.heap t }) := by
  refine .of_wp fun prog w A R s ⟨ht, h⟩ => ?_
  obtain ⟨hp, g, d, tk, os⟩ := s
  have sub_ := PySem.sub_enumerate
  have it_ : ∀ {A' : Around} {E : Value → Shared → Prop} {Q : Value → Shared → Prop}, Q (.ref hp.objs.size) ⟨hp.push (itTup t), g, d, tk, os⟩ → wpAny (model prog w) A' (pyIter (.ref t)) Q E ⟨hp, g, d, tk, os⟩ :=
    fun q => wpAny_pyIter_tuple ht q
  wp_walk using it_
  refine wpAny_stack_any fun st => wpAny_pure ?_
  split
  · rename_i c _ _ _ _ _
    cases (c == Value.type "enumerate") <;> (wp_walk using it_; exact ⟨_, rfl, h⟩)
  · (wp_walk using it_; exact ⟨_, rfl, h⟩)
theorem call_enT {prog : Program} {w : World} {A : Around} {E : Value → Shared → Prop} {s : Shared} {t : Addr} {items : Array Value} {Q : Value → Shared → Prop} (ht : s.heap.IsTuple t items)
    (h : ∀ h', IsEnum h' (s.heap.objs.size + 1) s.heap.objs.size 0 .none → h'.IsTupleIter s.heap.objs.size t 0 → (∀ b o, s.heap.get? b = some o → h'.get? b = some o) → Q (.ref (s.heap.objs.size + 1)) { s with heap := h' }) :
    wpAny (model prog w) A (call (.type "enumerate") [.ref t]) Q E s := by
  have sz : (s.heap.push (itTup t)).objs.size = s.heap.objs.size + 1 := Heap.size_push ..
  have he : IsEnum (enHeap s.heap t) (s.heap.objs.size + 1) s.heap.objs.size 0 .none := by
    have q := Heap.get?_push_size (s.heap.push (itTup t)) (o := enObj s.heap.objs.size) rfl
    rw [sz] at q
    exact q
  have kp : ∀ b o, s.heap.get? b = some o → (enHeap s.heap t).get? b = some o := fun b o x => Heap.get?_push_of_some _ (Heap.get?_push_of_some _ x)
  refine callType_new F.called_enumerate (by decide) (F.typeCall_enumerate_1 _) (F.newCall_enumerate_1 _) (fun obj => F.args_object_init_2 obj _) F.entry_enumerate_new (meets_enT t items) ⟨ht, ?_⟩
  show _ ∧ _
  rw [sz]
  exact ⟨⟨_, he, rfl⟩, h _ he ⟨_, Heap.get?_push_of_some _ (Heap.get?_push_size _ rfl), rfl, rfl⟩ kp⟩
/-- the tuple at a, each item in a new pair with its place -/
def IteT (K : PySem.W.Frag) (a : Addr) : It :=
  ⟨fun i H => ∃ (xs : List V) (x : V), SqT K H a xs ∧ xs[i]? = some x,
   fun i H v H' => ∃ T x, v = .ref T ∧ H T = none ∧ H' = upd H T (.tup [.int (i : Nat), x]) ∧ ∀ xs, SqT K H a xs → xs[i]? = some x,
   fun i H => ∃ xs : List V, SqT K H a xs ∧ xs.length ≤ i⟩
theorem turn_enT {P : Program} {w : World} {K : PySem.W.Frag} {elts : List Expr} {kk : Nat} {tpos : Pos} (a e it : Addr) :
    Turn P w K (.Tuple elts kk tpos) (IteT K a) [e, it] e (fun i h => (∃ old, IsEnum h e it ((i : Nat) : Int) old) ∧ h.IsTupleIter it a i ∧ e ≠ it) where
  mem := List.mem_cons_self ..
  obj := fun i h ⟨⟨old, he⟩, ⟨o, ho, _, hd⟩, _⟩ b hb => by
    rcases List.mem_cons.mp hb with rfl | hb
    · exact ⟨_, he, fun v q => nomatch q⟩
    · rw [List.mem_singleton.mp hb]
      exact ⟨o, ho, fun v q => by rw [hd] at q; cases q⟩
  keep := fun i h h' ⟨⟨old, he⟩, hi, hne⟩ k => ⟨⟨old, k e (by simp) _ he⟩, hi.at fun o q => k it (by simp) o q, hne⟩
  item := by
    intro X hP hw hK hc i pins s σ H E I hf ⟨⟨old, he⟩, hit, hne⟩ ⟨xs, x, hq, hx⟩
    subst hP hw hK
    obtain ⟨its, rv, p, hz⟩ := I.tuple hq
    have hT : s.heap.IsTuple a its.toArray := p
    have nta : a ≠ it := fun z => by
      subst z
      obtain ⟨o, e1, c1, _⟩ := hT
      obtain ⟨o2, e2, c2, _⟩ := hit
      rw [e1] at e2
      cases e2
      rw [c1] at c2
      exact absurd c2 (by decide)
    have nea : e ≠ a := fun z => by
      subst z
      obtain ⟨o, e1, c1, _⟩ := hT
      rw [he] at e1
      cases e1
      exact absurd (show Value.type "enumerate" = Value.type "tuple" from c1) (by decide)
    have el : e < s.heap.objs.size := Heap.lt_size he
    have il : it < s.heap.objs.size := by obtain ⟨_, q, _⟩ := hit; exact Heap.lt_size q
    have hlt : i < its.toArray.size := by
      have := (List.getElem?_eq_some_iff.mp hx).1
      rw [rv.length] at this
      rw [List.size_toArray]
      exact this
    refine wpAny_pyNext_enum_itemD (Draws.tuple (A := X.A.in1) (I.ok.hd hc) it a nta its.toArray) he ⟨hit, hT⟩ hlt hne (by simp [hne, nea]) fun u h' tk hP ho st' ht' hsz hk => ?_
    obtain ⟨u', hu', ru⟩ := rv.get hx
    have eu : u = u' := by
      rw [List.getElem?_toArray] at hP
      exact Option.some.inj (hP.symm.trans hu')
    subst eu
    refine ⟨_, rfl, wpAny_letOwnedTupleGo_enum (s := { s with heap := h', toks := tk + 1 }) ho fun h2 he2 sb => ?_⟩
    have t2 := (sb.2 _ (Nat.ne_of_gt el)).trans ht'
    have new : ObjOk X.prog X.w (upd H s.heap.objs.size (.tup [.int (i : Nat), x])) h2 s.heap.objs.size (.tup [.int (i : Nat), x]) :=
      ⟨sizeOk (by show (2 : Nat) ≤ 100000; decide), [.int i tk, u], .cons ⟨_, rfl⟩ (.cons ru .nil), _, t2, rfl, _, rfl⟩
    have I1 : Inv X pins σ (upd H s.heap.objs.size (.tup [.int (i : Nat), x])) { s with heap := h2, toks := tk + 1 } := by
      refine I.turnedNew (ch := [e, it]) (fun b ob hb q => ?_) hf (Nat.le_refl _) new
      have hbe : b ≠ e := fun z => hb (by simp [z])
      exact (sb.2 b hbe).trans (hk b ob hbe (fun z => hb (by simp [z])) q)
    refine ⟨.ref s.heap.objs.size, _, I1, rfl, ⟨_, x, rfl, I.hok.fresh (Nat.le_refl _), rfl, fun ys hy => by rw [I.tuple_inj hy hq]; exact hx⟩, ⟨⟨u, ?_⟩, st'.1.at fun o q => (sb.2 it (Ne.symm hne)).trans q, hne⟩, fun b hb => ?_⟩
    · rw [show ((i + 1 : Nat) : Int) = (i : Int) + 1 from rfl]
      exact he2
    · have lt : b < s.heap.objs.size := by
        rcases List.mem_cons.mp hb with rfl | hb
        · exact el
        · rw [List.mem_singleton.mp hb]; exact il
      rw [upd_ne (Nat.ne_of_lt lt)]
      exact (hf b hb).1
  done := by
    intro X hP hw hK hc i pins s σ H E I hf ⟨⟨old, he⟩, hit, hne⟩ ⟨xs, hq, hx⟩
    subst hP hw hK
    obtain ⟨its, rv, p, hz⟩ := I.tuple hq
    have hT : s.heap.IsTuple a its.toArray := p
    obtain ⟨f0, f1, f2, f3, f4, f5⟩ := hf it (by simp)
    have hT' : s.TypeIs (.ref e) "enumerate" := ⟨_, he, rfl⟩
    unfold pyNext
    refine wpAny_bind (wpAny_attempt (wpAny_callSpecial?_slot (name := Str.ofString "__next__") hT' F.slot_enumerate_next (wpAny_call_entry F.slot_enumerate_next hT' F.entry_enumerate_next ?_ (F.args_enumerate_next_1 _))))
    show wpAny _ _ (field (.ref e) 2 >>= _) _ _ _
    refine wpAny_bind (wpAny_field he rfl (x := .ref it) rfl ?_)
    refine wpAny_bind (PySem.wpAny_nextOf_tuple_end (I.ok.hd hc) hit hT (Array.getElem?_eq_none (by rw [List.size_toArray, ← rv.length]; exact hx)) fun h' y eb hy => ?_)
    obtain ⟨o, ho, hcl⟩ := hy
    refine wpAny_bind (wpAny_isInstance (T := "StopIteration") (b := true) ⟨o, ho, hcl⟩ isSubtype_stop ?_)
    exact wpAny_pure ⟨rfl, I.turned (t' := s.toks) (fun b o hb q => eb b o hb q) f0 f1 f3 f4 f5⟩
  self := fun A i s Q E ⟨⟨_, he⟩, _⟩ h => wpAny_pyIter_enum he h
def iEnT (K : PySem.W.Frag) (ta : TA) : TI := fun σ H R => ta σ H fun vs H1 => ∃ a xs, vs = [.ref a] ∧ SqT K H1 a xs ∧ R (IteT K a) H1
theorem pi_enT {X : Cx} {e : Expr} {ta : TA} {p pos tpos : Pos} {elts : List Expr} {kk : Nat} (hg : Gl X "enumerate") (hm : X.mg "enumerate" = none) (ha : PA X [e] ta)
    (hs : starEach [e] X.env = [(false, eval e X.env)] := by rfl) : PI X (.Tuple elts kk tpos) (.Call (.Name "enumerate" p) [e] [] pos) (iEnT X.K ta) := by
  refine ⟨fun pins s σ H R I h => Call_ (ld_blt I hg hm boot_enumerate (PyProof.Rows.callWith_type1 (thn (ha.run pos pins s σ H _ I h) fun us s1 ⟨vs, H1, I1, r1, a, xs, ex, hq, q⟩ => ?_) hs rfl))⟩
  subst ex
  obtain ⟨u, us', rfl⟩ : ∃ u us', us = u :: us' := by
    cases r1 with
    | cons r rr => exact ⟨_, _, rfl⟩
  cases r1 with
  | cons r rr =>
    cases rr
    cases r
    obtain ⟨its, rv, p', hz⟩ := I1.tuple hq
    refine call_enT (show s1.heap.IsTuple a its.toArray from p') fun h' he hit hk => wpAny_pyIter_enum he ?_
    have I2 : Inv X pins σ H1 { s1 with heap := h' } := I1.kept (t' := s1.toks) hk
    refine ⟨s1.heap.objs.size + 1, [s1.heap.objs.size + 1, s1.heap.objs.size], _, _, H1, rfl, I2, turn_enT a _ _, ⟨⟨.none, he⟩, hit, Nat.succ_ne_self _⟩, fun b hb => ?_, q⟩
    have hle : s1.heap.objs.size ≤ b := by
      rcases List.mem_cons.mp hb with rfl | hb
      · exact Nat.le_succ _
      · rw [List.mem_singleton.mp hb]; exact Nat.le_refl _
    exact I1.fpOk hle (I1.hok.fresh hle)
theorem walk_enT {K : PySem.W.Frag} {a : Addr} {xs : List V} : Walk (IteT K a) xs.length (fun H => SqT K H a xs) (YPair (fun i => some (.int (i : Nat))) (fun i => xs[i]?)) := by
  refine ⟨fun i H hi hG => ⟨xs, xs[i], hG, by simp [hi]⟩, fun H hG => ⟨xs, hG, Nat.le_refl _⟩, fun i H x H' hi hG ⟨T, y, h1, h2, h3, h4⟩ => ?_⟩
  exact ⟨T, .int (i : Nat), y, h1, h2, h3, rfl, h4 xs hG⟩
/-- lcm of two numbers below 2 ^ 5000 -/
def rLcmW : List V → Hp → VK → Prop := fun vs H Q => ∃ a b : Nat, vs = [.int a, .int b] ∧ a < 2 ^ 5000 ∧ b < 2 ^ 5000 ∧ Q (.int (Nat.lcm a b : Nat)) H
theorem logLe {n k : Nat} (h : n < 2 ^ (k + 1)) : n.log2 ≤ k := PySem.W.mg_log h
theorem cr_lcmW {X : Cx} : CallR X (.builtin "math.lcm") rLcmW := by
  intro pins s σ H vs us Q I r ⟨a, b, e, ha, hb, q⟩
  subst e
  obtain ⟨t, u, rfl⟩ := Vals.int2 r
  have h1 : (max 1 (a : Int).natAbs).log2 ≤ 4999 := logLe (by rw [Int.natAbs_natCast]; show max 1 a < 2 ^ 5000; have : 1 < 2 ^ 5000 := by decide
                                                              omega)
  have h2 : (max (a : Int).natAbs (b : Int).natAbs).log2 ≤ 4999 := logLe (by rw [Int.natAbs_natCast, Int.natAbs_natCast]; show max a b < 2 ^ 5000; omega)
  have ee : (((Nat.lcm 1 (a : Int).natAbs).lcm (b : Int).natAbs : Nat) : Int) = ((Nat.lcm a b : Nat) : Int) := by
    rw [Int.natAbs_natCast, Int.natAbs_natCast, PySem.W.mc_lcm_one]
  have hm : Nat.lcm a b < 2 ^ 10000 := by
    have h3 : Nat.lcm a b ≤ a * b := Nat.div_le_self _ _
    have h4 : a * b < 2 ^ 5000 * 2 ^ 5000 := Nat.mul_lt_mul'' ha hb
    rw [← Nat.pow_add] at h4
    exact Nat.lt_of_le_of_lt h3 h4
  have hz : ((((Nat.lcm 1 (a : Int).natAbs).lcm (b : Int).natAbs : Nat) : Int)).natAbs.log2 < bitsLine := by
    rw [ee, Int.natAbs_natCast]
    have h5 : (Nat.lcm a b).log2 ≤ 9999 := logLe hm
    rw [PySem.bitsLine_eq]
    omega
  have g := PySem.W.mg_run_lcm a t b u (by omega) (by omega) hz
  rw [ee] at g
  exact PySem.call_function_meets PySem.W.MGF.kind_lcm PySem.W.MGF.plain_lcm PySem.W.MGF.entry_lcm (PySem.W.MGF.args_lcm _ _) g.meets ⟨.int _, H, I.tok _, ⟨_, rfl⟩, q⟩
theorem tyTup {K : PySem.W.Frag} {H : Hp} {a : Addr} {xs : List V} (h : SqT K H a xs) : TyX K H (.ref a) (.type "tuple") := by
  rcases h with (h | ⟨o, h⟩) | ⟨o, its, n, e, c, _⟩
  · exact .base (.tup h)
  · exact .fTuple h
  · exact .kTuple e c

end R
namespace R
open PySem PySem.Spec PyProof.Rows L2
/-! ## an exception that a suite holds -/
def rIsE' (K : PySem.W.Frag) (D a : Addr) (cls : Value) (d : Option Addr) : List V → Hp → VK → Prop := fun xs H Q => cls = .ref D ∧ d = none ∧ rIsE K D a xs H Q
theorem call_isE' {X : Cx} {a D : Addr} {oe : Obj} {pn : List (Addr × Obj)} {cls : Value} {d : Option Addr} (C : ExcC X.K D) (hz : Zc cls d oe) (hf : ∃ vs, oe.data = .fields vs) :
    CallR (X.suite a ((a, oe) :: pn)) (.builtin "isinstance") (rIsE' X.K D a cls d) := by
  intro pins s σ H xs us Q I r h
  obtain ⟨h1, h2, h3⟩ := h
  subst h1 h2
  exact call_isE C hz hf pins s σ H xs us Q I r h3
/-! ## try with several clauses that name the exception -/
abbrev Suites := List (Value × (Addr → Value → Option Addr → TS))
/-- what the clauses wish, one behind the other; the name's slot is i -/
def wAsM (K : PySem.W.Frag) (i : Nat) (Wout : WX) (D : Ends) : Suites → WX
  | [] => Wout
  | p :: r => fun cls d σ H => ∃ b, PySem.W.exmOne K cls p.1 = some b ∧
      (b = true → ∀ a, H a = none → p.2 a cls d ⟨fun τ G => D.nx (τ.set i none) G, D.rt, fun τ G => D.bk (τ.set i none) G, fun τ G => D.ct (τ.set i none) G⟩ (σ.set i (some (.ref a))) H) ∧ (b = false → wAsM K i Wout D r cls d σ H)
/-- the clauses, each «except x as n», with their suites' readings -/
inductive HdsAs (X : Cx) (n : Str) : List ExceptHandler → Suites → Prop
  | nil : HdsAs X n [] []
  | cons {x : Str} {c : Value} {ts : Addr → Value → Option Addr → TS} {b0 : Stmt} {su : List Stmt} {p1 p2 : Pos} {hds : List ExceptHandler} {l : Suites} (hc : Names X x c)
      (hsu : ∀ (a : Addr) (oe : Obj) (cls : Value) (d : Option Addr) (pn : List (Addr × Obj)), Zc cls d oe → (∃ vs, oe.data = .fields vs) → PSs (X.suite a ((a, oe) :: pn)) (b0 :: su) (ts a cls d)) (r : HdsAs X n hds l) :
      HdsAs X n (.ExceptHandler (some (.Name x p1)) (some n) (b0 :: su) p2 :: hds) ((c, ts) :: l)
/-- what is done where the body let an exception out -/
theorem hds_run {X : Cx} {n : Str} {i : Nat} {pins : List (Addr × Obj)} {τ : L2.St} {G : Hp} {D : Ends} {Wout : WX} {e0 : Addr} {B h3 : Heap} {sJ s2 : Shared} {cls : Value} {d : Option Addr} (ok : X.Ok)
    (hst : X.stack = X.env :: X.outer) (hfr : X.env.frame = some X.env.locals) (nod : X.N.Nodup) (hi : X.N[i]? = some n) (hloc : X.env.kindOf n = some .local) (tk : Takes X Wout) (J : Inv X pins τ G sJ)
    (nb : ∀ b o, sJ.heap.get? b = some o → b ∉ frs X.stack → B.get? b = some o) (up : sJ.heap.UpToSlots s2.heap) (up3 : s2.heap.UpToSlots h3) (na : G e0 = none) (os : s2.os = sJ.os) (ag : AllBare s2.gens)
    (fl : HandSPX.FlyingZ B (X.env :: X.outer) e0 (Zc cls d) h3) : ∀ {hds : List ExceptHandler} {l : Suites}, HdsAs X n hds l → wAsM X.K i Wout D l cls d τ G →
      wpAny (model X.prog X.w) X.A (handleBy (.ref e0) X.env hds) (SP X pins D) X.xe { s2 with heap := h3 } := by
  have J3 : Inv X pins τ G { s2 with heap := h3 } := J.landed nb fl.1 (up.trans up3) os ag
  obtain ⟨ob, vb, he3, hz3, hd3⟩ := fl.there
  have out : e0 ∉ frs (X.env :: X.outer) := fun hm => by
    obtain ⟨_, o2, q1, q2⟩ := fl.2.2.1.mem hm
    rw [he3] at q1
    cases q1
    exact q2 _ hd3
  have nL : e0 ≠ X.env.locals := fun z => out (List.mem_filterMap.mpr ⟨_, List.mem_cons_self, z ▸ hfr⟩)
  have nF : e0 ∉ X.fs := fun hm => let ⟨q1, q2, q3⟩ := List.mem_filterMap.mp hm; out (List.mem_filterMap.mpr ⟨q1, List.mem_cons_of_mem _ q2, q3⟩)
  have S3 := J3.suite he3 hd3 na nL nF
  intro hds l hk
  induction hk with
  | nil =>
    intro w
    refine wpAny_handleBy_nil ?_
    obtain ⟨_, _, _, o1, v1, tb, _, _, g1, _, g3, g4, _⟩ := id fl
    unfold PySem.passOn
    refine wpAny_bind (wpAny_field g1 g3 g4 ?_)
    rw [if_neg (by simp : ¬ ((Value.ref tb == Value.none) = true))]
    have last : wpAny (model X.prog X.w) X.A (setFlight (.ref e0) X.env.frame) (fun _ s4 => wpAny (model X.prog X.w) X.A (throw (.ref e0) : Sem Flow) (SP X pins D) X.xe s4) X.xe { s2 with heap := h3 } := by
      rw [hfr]
      refine HandSPX.setFlight_upZ fl fun h4 hh4 up4 => wpAny_throw (tk _ _ ⟨e0, B, sJ, pins, τ, G, cls, d, rfl, J, nb, (up.trans up3).trans up4, .inr (.inr ?_), na, os, ag, w⟩)
      rw [hst]
      exact hh4
    first | exact wpAny_bind (wpAny_pure (wpAny_bind last)) | exact wpAny_bind last
  | @cons x c ts b0 su p1 p2 hds2 l2 hc hsu r ih =>
    rintro ⟨b, hb1, yes, no⟩
    refine wpAny_handleBy_cons (codeAny_handlers_test ?_) (by intro q; cases q)
    have LM := PySem.W.exm_one (M := model X.prog X.w) J3.kIn (fun A Q E s k q => wpAny_typeOf_ref (k _ _ he3) (by rw [hz3.1]; exact q)) hb1
    have named : ∀ {Q E : Value → Shared → Prop}, Q c { s2 with heap := h3 } → wpAny (model X.prog X.w) (X.A.mark (some (.ref e0))) (eval (.Name x p1) X.env) Q E { s2 with heap := h3 } := by
      intro Q E q
      obtain ⟨k1, k2, k3 | ⟨k3, k4, k5⟩⟩ := hc
      · exact ld_glob (X := X.suite e0 ((e0, ob) :: (X.pn ++ pins))) S3 k1 k3 q k2
      · exact ld_blt (X := X.suite e0 ((e0, ob) :: (X.pn ++ pins))) S3 k1 k3 k4 q k5 k2
    refine named (LM.here ?_)
    cases b with
    | false => exact ih (no rfl)
    | true =>
      refine codeAny_handlers_suite_as (HandSPX.lands_againZ fl fun h4 fl4 up4 => ?_)
      have J4 : Inv X pins τ G { s2 with heap := h4 } := J.landed nb fl4.1 ((up.trans up3).trans up4) os ag
      obtain ⟨o4, v4, he4, hz4, hd4⟩ := fl4.there
      refine store_ok (X := X.suite e0 ((e0, o4) :: (X.pn ++ pins))) (v := .ref e0) (J4.suite he4 hd4 na nL nF) nod hi (.inl hloc) rfl (fun s5 S5 => ?_) (.inr hloc)
      refine wpAny_mono ((hsu e0 o4 cls d (X.pn ++ pins) hz4 ⟨_, hd4⟩).run [] s5 _ G _ S5 (yes rfl e0 na)) (fun f s6 sp => ?_) (fun _ _ z => z.elim)
      have close : ∀ {τ6 : L2.St} {G6 : Hp} {Q : Shared → Prop}, Inv (X.suite e0 ((e0, o4) :: (X.pn ++ pins))) [] τ6 G6 s6 → (∀ s7, Inv X pins (τ6.set i none) G6 s7 → Q s7) →
          wpAny (model X.prog X.w) X.A (do bindName X.env n .none; unbindBehindTheSuite X.env n p2) (fun _ s7 => Q s7) X.xe s6 := fun S6 k => gone_ok (S6.unsuite ok) nod hi hloc k
      cases f with
      | ret u => obtain ⟨_, _, _, S6, r6, q6⟩ := sp; exact close S6 fun s7 J7 => ⟨_, _, _, J7, r6, q6⟩
      | next => obtain ⟨_, _, S6, q6⟩ := sp; exact close S6 fun s7 J7 => ⟨_, _, J7, q6⟩
      | brk => obtain ⟨_, _, S6, q6⟩ := sp; exact close S6 fun s7 J7 => ⟨_, _, J7, q6⟩
      | cont => obtain ⟨_, _, S6, q6⟩ := sp; exact close S6 fun s7 J7 => ⟨_, _, J7, q6⟩
theorem ps_try_asM {X : Cx} {n : Str} {i : Nat} {body : List Stmt} {hd : ExceptHandler} {hds : List ExceptHandler} {l : Suites} {pos : Pos} {tb : WX → TS} {Wout : WX} (hst : X.stack = X.env :: X.outer)
    (hfr : X.env.frame = some X.env.locals) (nod : X.N.Nodup) (hi : X.N[i]? = some n) (hloc : X.env.kindOf n = some .local) (tk : Takes X Wout)
    (hb : ∀ (W : WX) (pn : List (Addr × Obj)) (xe : Value → Shared → Prop), Takes (X.tr pn xe) W → PassesOwn (model X.prog X.w) X.A X.env xe → PSs (X.tr pn xe) body (tb W))
    (hh : HdsAs X n (hd :: hds) l) : PS X (.Try body (hd :: hds) [] [] pos) (fun D σ H => tb (wAsM X.K i Wout D l) D σ H) := by
  refine ⟨fun pins s σ H D I h => wpAny_Try_except ?_⟩
  have ok := I.ok
  have fr : X.A.frames = some (X.env :: X.outer) := ok.frames.trans (congrArg some hst)
  let caught : Value → Shared → Prop := fun e s1 => wpAny (model X.prog X.w) X.A (noteFrame e X.env) (fun _ s2 => wpAny (model X.prog X.w) X.A (setFlight e none)
    (fun _ s3 => wpAny (model X.prog X.w) X.A (handleBy e X.env (hd :: hds)) (SP X pins D) X.xe s3) X.xe s2) X.xe s1
  have takes : Takes (X.tr (X.pn ++ pins) caught) (wAsM X.K i Wout D l) := by
    rintro _ s' ⟨a, B, sI, pins', σ', H', cls, d, rfl, J', nb, up, sky, na, os, ag, w⟩
    have sky' : Sky B (X.env :: X.outer) a (Zc cls d) X.env.locals s'.heap := hst ▸ sky
    show wpAny (model X.prog X.w) X.A (noteFrame (.ref a) X.env) _ _ _
    exact Sky.land Zc.steady fr hfr sky' fun h3 fl3 up3 => hds_run ok hst hfr nod hi hloc tk (J'.ofTry ok) nb up up3 na os ag fl3 hh w
  refine wpAny_mono ((hb _ (X.pn ++ pins) caught takes PassesOwn.looking).run [] s σ H D (I.toTry _) h) (fun f s1 sp => ?_) (fun e s1 he => he)
  cases f with
  | ret u => obtain ⟨v, τ, G, J', r, q⟩ := sp; exact ⟨v, τ, G, J'.ofTry ok, r, q⟩
  | next => obtain ⟨τ, G, J', q⟩ := sp; exact wpAny_execs_nil ⟨τ, G, J'.ofTry ok, q⟩
  | brk => obtain ⟨τ, G, J', q⟩ := sp; exact ⟨τ, G, J'.ofTry ok, q⟩
  | cont => obtain ⟨τ, G, J', q⟩ := sp; exact ⟨τ, G, J'.ofTry ok, q⟩

end R
namespace R
open PySem PySem.Spec PyProof.Rows L2
/-! ## the law's draws -/
/-- the row of a law's draws: the script's copy (at L), how far it is read, two numbers -/
structure RowAt (H : Hp) (r L : Addr) : Prop where
  ex : ∃ (ns : List Int) (i : Nat) (b s : Int), H r = some (.lst [.ref L, .int i, .int b, .int s]) ∧ H L = some (.lst (ns.map V.int)) ∧ 0 ≤ b
  ne : L ≠ r
section
variable {H H' : Hp} {r L p : Addr} {o : HO}
theorem RowAt.lst (h : RowAt H r L) : ∃ zs, H r = some (.lst zs) := let ⟨_, _, _, _, e, _⟩ := h.ex; ⟨_, e⟩
theorem RowAt.stay (h : RowAt H r L) (s : Same H H') : RowAt H' r L := by
  obtain ⟨ns, i, b, z, e, q, n⟩ := h.ex
  exact ⟨⟨ns, i, b, z, s _ _ e, s _ _ q, n⟩, h.ne⟩
theorem RowAt.tups {K : PySem.W.Frag} (h : RowAt H r L) (s : Kp r H H') : TupsStay K H H' := let ⟨_, e⟩ := h.lst; .sx s e
theorem RowAt.new (h : RowAt H r L) (hp : H p = none) : p ≠ r ∧ p ≠ L := by
  obtain ⟨ns, i, b, z, e, q, n⟩ := h.ex
  exact ⟨(ne_of_none e hp).symm, (ne_of_none q hp).symm⟩
theorem RowAt.upd (h : RowAt H r L) (n : p ≠ r ∧ p ≠ L) : RowAt (upd H p o) r L := by
  obtain ⟨ns, i, b, z, e, q, h0⟩ := h.ex
  exact ⟨⟨ns, i, b, z, by rw [upd_ne n.1.symm]; exact e, by rw [upd_ne n.2.symm]; exact q, h0⟩, h.ne⟩
end
def sp_l_draws (K : PySem.W.Frag) : Sp := fun vs H Q _ => ∃ (a : Addr) (ns : List Int), vs = [.ref a] ∧ SqL K H a (ns.map V.int) ∧ ∀ r L H', Same H H' → RowAt H' r L → Q (.ref r) H'
def sp_l_pick : Sp := fun vs H Q _ => ∃ (r L : Addr) (m : Int), vs = [.ref r, .int m] ∧ RowAt H r L ∧ 0 < m ∧ m.natAbs < 2 ^ 200 ∧
  ∀ v H', 0 ≤ v → v < m → Kp r H H' → RowAt H' r L → Q (.int v) H'
section
variable {P : Program} [POk P FILE] {w : World} {K : PySem.W.Frag} {mg : Str → Option Value} {base : Heap}
theorem ok_l_draws (T : Txt K mg) : FnOk P w K mg base CX0 2 T.f_l_draws T.fd_l_draws ["_law_script"] (sp_l_draws K) := by
  refine T.F_l_draws.ok sc_l_draws (fun vs H Q E h => ?_) (fun cdv A outer s H vs Q E hr h => ?_)
  · obtain ⟨a, ns, rfl, _⟩ := h
    rfl
  · obtain ⟨a, ns, rfl, hS, q⟩ := h
    refine ⟨_, (pss_one (ps_ret (pe_lst (pa_cons (pe_callTy call_list_of (by rfl) T.z_list (by decide +kernel) (pa_cons (pv 0) pa_nil)) (pa_cons pe_int (pa_cons pe_int (pa_cons pe_int pa_nil))))))), ?_⟩
    refine ⟨_, rfl, a, _, rfl, .inl hS, fun L nL => ⟨sizeOk (by show (4 : Nat) ≤ 100000; decide), fun r nr => ?_⟩⟩
    have n1 : L ≠ r := fun e => by
      subst e
      rw [upd_same] at nr
      cases nr
    refine q r L _ (Same.trans (same_upd nL) (same_upd nr)) ⟨⟨ns, 0, 0, 7, upd_same, ?_, Int.le_refl 0⟩, n1⟩
    rw [upd_ne n1, upd_same]
theorem ok_l_pick (T : Txt K mg) : FnOk P w K mg base CX0 2 T.f_l_pick T.fd_l_pick ["_law_row", "_law_many"] sp_l_pick := by
  refine T.F_l_pick.ok sc_l_pick (fun vs H Q E h => ?_) (fun cdv A outer s H vs Q E hr h => ?_)
  · obtain ⟨r, L, m, rfl, _⟩ := h
    rfl
  · obtain ⟨r, L, m, rfl, ⟨⟨ns, i, b, z, hr0, hL0, hb⟩, hLr⟩, hm, hm2, q⟩ := h
    have hL : SqL K H L (ns.map V.int) := lstOf hL0
    have S : SqL K H r [.ref L, .int i, .int b, .int z] := lstOf hr0
    refine ⟨_, (C8.pss_cut (ps_if (pt_cmpR op_eq (pe_ix ix_list (pv 0) pe_int (fun _ _ => rfl)) pe_int (nomark _)) (pss_one (ps_if (pt_cmpR op_lt (pe_ix ix_list (pv 0) pe_int (fun _ _ => rfl)) (pe_callB call_len_seq (by rfl) T.z_len (by decide +kernel) (pa_cons (pe_ix ix_list (pv 0) pe_int (fun _ _ => rfl)) pa_nil)) (nomark _)) (pss_cons (ps_set (i := 2) sc_l_pick.nd rfl (by first | exact .inl rfl | exact .inr rfl) (pe_ix ix_list (pe_ix ix_list (pv 0) pe_int (fun _ _ => rfl)) (pe_ix ix_list (pv 0) pe_int (fun _ _ => rfl)) (fun _ _ => rfl)))
      (pss_cons (ps_asg (pe_op op_add (pe_ix ix_list (pv 0) pe_int (fun _ _ => rfl)) pe_int) (pg_sub (pv 0) pe_int set_list))
      (pss_one (ps_if (pt_cmpR op_ge (pv 2) (pe_op op_pow pe_int pe_int) (nomark _)) (pss_one (ps_asg (pv 2) (pg_sub (pv 0) pe_int set_list))) (pss_one (ps_asg (pe_op op_mod (pe_callTy call_int1 (by rfl) T.z_int (by decide +kernel) (pa_cons (pe_op op_add (pe_op op_add (pe_op op_mul (pe_ix ix_list (pv 0) pe_int (fun _ _ => rfl)) pe_int) (pe_op op_mul (pv 2) pe_int)) pe_int) pa_nil)) pe_int) (pg_sub (pv 0) pe_int set_list))))))) (pss_one (ps_asg (pe_op op_mod (pe_callTy call_int1 (by rfl) T.z_int (by decide +kernel) (pa_cons (pe_op op_add (pe_op op_mul (pe_ix ix_list (pv 0) pe_int (fun _ _ => rfl)) pe_int) pe_int) pa_nil)) pe_int) (pg_sub (pv 0) pe_int set_list))))) pss_nil)
      (pss_cons (ps_if (pt_cmpR op_gt (pe_ix ix_list (pv 0) pe_int (fun _ _ => rfl)) pe_int (nomark _)) (pss_cons (ps_set (i := 3) sc_l_pick.nd rfl (by first | exact .inl rfl | exact .inr rfl) (pe_op op_mod (pe_callTy call_int1 (by rfl) T.z_int (by decide +kernel) (pa_cons (pe_ix ix_list (pv 0) pe_int (fun _ _ => rfl)) pa_nil)) (pv 1)))
      (pss_cons (ps_asg (pe_op op_fdivW (pe_ix ix_list (pv 0) pe_int (fun _ _ => rfl)) (pv 1)) (pg_sub (pv 0) pe_int set_list))
      (pss_one (ps_ret (pv 3))))) pss_nil)
      (pss_one (ps_ret (pe_op op_mod (pe_op op_mod (pe_callTy call_int1 (by rfl) T.z_int (by decide +kernel) (pa_cons (pe_op op_mul (pe_ix ix_list (pv 0) pe_int (fun _ _ => rfl)) pe_int) pa_nil)) pe_int) (pv 1)))))), ?_⟩
    refine ⟨fun σ H' => ∃ (c : Option V) (i' : Nat) (b' z' : Int), σ = [some (.ref r), some (.int m), c, none] ∧ Kp r H H' ∧ H' r = some (.lst [.ref L, .int i', .int b', .int z']) ∧ 0 ≤ b', ?_, ?_⟩
    · refine ⟨_, rfl, r, _, 2, _, rfl, rfl, S, atI_nat (j := 2) rfl, rfl, _, rfl, ite2 (fun _ => ?_) (fun _ => ?_)⟩
      · refine ⟨_, rfl, r, _, 1, _, rfl, rfl, S, atI_nat (j := 1) rfl, _, rfl, r, _, 0, _, rfl, rfl, S, atI_nat (j := 0) rfl, L, _, rfl, .inl hL, _, _, rfl, rfl, _, rfl, ite2 (fun e => ?_) (fun e => ?_)⟩
        · have hi : i < ns.length := by
            have e' := of_decide_eq_true e
            rw [List.length_map] at e'
            omega
          refine ⟨_, rfl, r, _, 0, _, rfl, rfl, S, atI_nat (j := 0) rfl, _, rfl, r, _, 1, _, rfl, rfl, S, atI_nat (j := 1) rfl, L, _, i, .int ns[i], rfl, rfl, hL, atI_nat (j := i) (getMapInt hi), ?_⟩
          refine ⟨_, rfl, r, _, 1, _, rfl, rfl, S, atI_nat (j := 1) rfl, _, _, rfl, rfl, _, rfl, r, _, 1, 1, rfl, rfl, hr0, rfl, ?_⟩
          have hr1 : (upd H r (.lst [.ref L, .int ((i : Int) + 1), .int b, .int z])) r = some (.lst [.ref L, .int ((i + 1 : Nat) : Int), .int b, .int z]) := upd_same
          have S1 : SqL K (upd H r (.lst [.ref L, .int ((i : Int) + 1), .int b, .int z])) r _ := lstOf hr1
          have x1 : Kp r H (upd H r (.lst [.ref L, .int ((i : Int) + 1), .int b, .int z])) := Kp.at_
          refine ⟨_, rfl, _, _, rfl, rfl, ⟨by decide, by decide, by decide⟩, _, _, rfl, rfl, _, rfl, ite2 (fun e2 => ?_) (fun e2 => ?_)⟩
          · refine ⟨_, rfl, _, rfl, r, _, 2, 2, rfl, rfl, hr1, rfl, ?_⟩
            refine ⟨_, i + 1, ns[i], z, rfl, fun b o n h => ?_, upd_same, ?_⟩
            · rw [upd_ne n]; exact x1 b o n h
            · have := of_decide_eq_true e2
              have : (0 : Int) ≤ 10 ^ (18 : Int).toNat := by decide
              omega
          · refine ⟨_, rfl, r, _, 3, _, rfl, rfl, S1, atI_nat (j := 3) rfl, _, _, rfl, rfl, .inr (by decide), _, rfl, _, _, rfl, rfl, .inr (by decide), _, _, rfl, rfl, _, _, rfl, rfl, .inl ⟨_, rfl, _, _, rfl, rfl, (show (0 : Int) < 2147483647 by decide), ?_⟩⟩
            refine ⟨_, rfl, r, _, 3, 3, rfl, rfl, hr1, rfl, ?_⟩
            refine ⟨_, i + 1, b, _, rfl, fun b o n h => ?_, upd_same, hb⟩
            rw [upd_ne n]; exact x1 b o n h
        · refine ⟨_, rfl, r, _, 3, _, rfl, rfl, S, atI_nat (j := 3) rfl, _, _, rfl, rfl, .inr (by decide), _, _, rfl, rfl, .inl ⟨_, rfl, _, _, rfl, rfl, (show (0 : Int) < 2147483647 by decide), ?_⟩⟩
          refine ⟨_, rfl, r, _, 3, 3, rfl, rfl, hr0, rfl, ?_⟩
          exact ⟨_, i, b, _, rfl, Kp.at_, upd_same, hb⟩
      · exact ⟨_, i, b, z, rfl, Kp.refl r H, hr0, hb⟩
    · rintro σ H' ⟨c, i', b', z', rfl, sx, hr', hb'⟩
      have S' : SqL K H' r [.ref L, .int i', .int b', .int z'] := lstOf hr'
      have hL' : H' L = some (.lst (ns.map V.int)) := sx _ _ hLr hL0
      refine ⟨_, rfl, r, _, 2, _, rfl, rfl, S', atI_nat (j := 2) rfl, _, _, rfl, rfl, _, rfl, ite2 (fun e => ?_) (fun e => ?_)⟩
      · have e' := of_decide_eq_true e
        refine ⟨_, rfl, r, _, 2, _, rfl, rfl, S', atI_nat (j := 2) rfl, .inl ⟨_, rfl, _, rfl, _, _, rfl, rfl, hm, ?_⟩⟩
        refine ⟨_, rfl, r, _, 2, _, rfl, rfl, S', atI_nat (j := 2) rfl, _, rfl, _, _, rfl, rfl, wide_div hm hm2 (by decide) (by decide), _, rfl, r, _, 2, 2, rfl, rfl, hr', rfl, ?_⟩
        refine ⟨_, rfl, q _ _ (Int.emod_nonneg _ (by omega)) (Int.emod_lt_of_pos _ hm) (fun c o n h => ?_) ⟨⟨ns, i', b' / m, z', upd_same, ?_, Int.ediv_nonneg hb' (by omega)⟩, hLr⟩⟩
        · rw [upd_ne n]; exact sx c o n h
        · rw [upd_ne hLr]; exact hL'
      · refine ⟨_, rfl, r, _, 3, _, rfl, rfl, S', atI_nat (j := 3) rfl, _, _, rfl, rfl, .inr (by decide), .inl ⟨_, rfl, _, _, rfl, rfl, (show (0 : Int) < 2147483629 by decide), _, rfl, _, _, rfl, rfl, hm, ?_⟩⟩
        exact q _ _ (Int.emod_nonneg _ (by omega)) (Int.emod_lt_of_pos _ hm) sx ⟨⟨ns, i', b', z', hr', hL', hb'⟩, hLr⟩
end

end R
namespace R
open PySem PySem.Spec PyProof.Rows L2
/-! ## far numbers -/
def sp_l_far : Sp := fun vs H Q _ => ∃ (r L : Addr), vs = [.ref r] ∧ RowAt H r L ∧ ∀ v H', -(10 ^ 17) < v → v < 10 ^ 17 → Kp r H H' → RowAt H' r L → Q (.int v) H'
theorem pick4 {v : Int} (h0 : 0 ≤ v) (h1 : v < 4) : v = 0 ∨ v = 1 ∨ v = 2 ∨ v = 3 := by omega
theorem pick3 {v : Int} (h0 : 0 ≤ v) (h1 : v < 3) : v = 0 ∨ v = 1 ∨ v = 2 := by omega
section
variable {P : Program} [POk P FILE] {w : World} {K : PySem.W.Frag} {mg : Str → Option Value} {base : Heap}
theorem ok_l_far (T : Txt K mg) : FnOk P w K mg base CX0 3 T.f_l_far T.fd_l_far ["_law_row"] sp_l_far := by
  refine T.F_l_far.ok sc_l_far (fun vs H Q E h => ?_) (fun cdv A outer s H vs Q E hr h => ?_)
  · obtain ⟨r, L, rfl, _⟩ := h
    rfl
  · obtain ⟨r, L, rfl, R0, q⟩ := h
    refine ⟨_, (pss_cons (ps_set (i := 1) sc_l_far.nd rfl (by first | exact .inl rfl | exact .inr rfl) (pe_ix ix_list (pe_lst (pa_cons pe_int (pa_cons pe_int (pa_cons pe_int (pa_cons pe_int pa_nil))))) (pe_call (ok_l_pick (P := P) T) (hr.mono (by decide)) (by rfl) T.g_l_pick T.F_l_pick.kp T.b_l_pick .nil pass0 (pa_cons (pv 0) (pa_cons pe_int pa_nil))) (fun _ _ => rfl)))
      (pss_one (ps_ret (pe_op op_mulW (pe_op op_sub (pe_call (ok_l_pick (P := P) T) (hr.mono (by decide)) (by rfl) T.g_l_pick T.F_l_pick.kp T.b_l_pick .nil pass0 (pa_cons (pv 0) (pa_cons (pv 1) pa_nil))) (pe_op op_fdivW (pv 1) pe_int)) (pe_ix ix_list (pe_lst (pa_cons pe_int (pa_cons pe_int (pa_cons pe_int pa_nil)))) (pe_call (ok_l_pick (P := P) T) (hr.mono (by decide)) (by rfl) T.g_l_pick T.F_l_pick.kp T.b_l_pick .nil pass0 (pa_cons (pv 0) (pa_cons pe_int pa_nil))) (fun _ _ => rfl)))))), ?_⟩
    refine ⟨sizeOk (by show (4 : Nat) ≤ 100000; decide), fun p np => ?_⟩
    have k0 : Kp r H (upd H p (.lst [.int 40, .int 3000, .int 1000000, .int 100000000000])) := Kp.new np
    have R1 := R0.stay (same_upd np (o := .lst [.int 40, .int 3000, .int 1000000, .int 100000000000]))
    refine ⟨_, rfl, r, L, 4, rfl, R1, by decide, by decide, fun v H2 v0 v1 k2 R2 => ?_⟩
    have e2 : H2 p = some (.lst [.int 40, .int 3000, .int 1000000, .int 100000000000]) := k2 _ _ (R0.new np).1 upd_same
    obtain ⟨wd, hw0, hw1, hat⟩ : ∃ wd : Int, 40 ≤ wd ∧ wd ≤ 100000000000 ∧ atI [V.int 40, V.int 3000, V.int 1000000, V.int 100000000000] v = some (V.int wd) := by
      rcases pick4 v0 v1 with rfl | rfl | rfl | rfl
      · exact ⟨40, by decide, by decide, atI_nat (j := 0) rfl⟩
      · exact ⟨3000, by decide, by decide, atI_nat (j := 1) rfl⟩
      · exact ⟨1000000, by decide, by decide, atI_nat (j := 2) rfl⟩
      · exact ⟨100000000000, by decide, by decide, atI_nat (j := 3) rfl⟩
    refine ⟨p, _, _, .int wd, rfl, rfl, lstOf e2, hat, ?_⟩
    refine ⟨_, rfl, _, rfl, r, L, wd, rfl, R2, by omega, by omega, fun y H3 y0 y1 k3 R3 => ?_⟩
    refine ⟨_, rfl, _, _, rfl, rfl, wide_div (b := 10) (by decide) (by decide) (by decide) (by decide), _, _, rfl, rfl, ?_⟩
    refine ⟨sizeOk (by show (3 : Nat) ≤ 100000; decide), fun p4 np4 => ?_⟩
    have R4 := R3.stay (same_upd np4 (o := .lst [.int 1, .int 1, .int 1000003]))
    refine ⟨_, rfl, r, L, 3, rfl, R4, by decide, by decide, fun z H5 z0 z1 k5 R5 => ?_⟩
    have e5 : H5 p4 = some (.lst [.int 1, .int 1, .int 1000003]) := k5 _ _ (R3.new np4).1 upd_same
    obtain ⟨f, hf0, hf1, hat2⟩ : ∃ f : Int, (f = 1 ∨ f = 1000003) ∧ True ∧ atI [V.int 1, V.int 1, V.int 1000003] z = some (V.int f) := by
      rcases pick3 z0 z1 with rfl | rfl | rfl
      · exact ⟨1, by omega, trivial, atI_nat (j := 0) rfl⟩
      · exact ⟨1, by omega, trivial, atI_nat (j := 1) rfl⟩
      · exact ⟨1000003, by omega, trivial, atI_nat (j := 2) rfl⟩
    refine ⟨p4, _, _, .int f, rfl, rfl, lstOf e5, hat2, _, _, rfl, rfl, wide_mul (a := 60) (b := 30) (by omega) (by omega) (by decide) (by decide) (by decide), ?_⟩
    refine q _ H5 ?_ ?_ ((k0.trans k2).trans ((k3.trans (Kp.new np4)).trans k5)) R5
    · rcases hf0 with rfl | rfl <;> omega
    · rcases hf0 with rfl | rfl <;> omega
end

end R
namespace R
open PySem PySem.Spec PyProof.Rows L2
/-! ## small facts -/
theorem snocInd {α : Type} {p : List α → Prop} (h0 : p []) (hs : ∀ l x, p l → p (l ++ [x])) : ∀ l, p l := by
  intro l
  rw [← List.reverse_reverse l]
  induction l.reverse with
  | nil => exact h0
  | cons x r ih =>
    rw [List.reverse_cons]
    exact hs _ _ ih
theorem takeSucc {α : Type} {l : List α} {i : Nat} {x : α} (h : l[i]? = some x) : l.take (i + 1) = l.take i ++ [x] := by
  rw [List.take_add_one, h]
  rfl

theorem inVInt (x : Int) (l : List Int) : inV (.int x) (l.map V.int) = decide (x ∈ l) := by
  unfold inV
  rw [List.any_map]
  by_cases h : x ∈ l
  · rw [decide_eq_true h]
    exact List.any_eq_true.mpr ⟨x, h, by show (x == x) = true; exact beq_self_eq_true x⟩
  · rw [decide_eq_false h]
    refine List.any_eq_false.mpr fun y hy e => h ?_
    have e' : (y == x) = true := e
    rw [← beq_iff_eq.mp e']
    exact hy
theorem samePut {H H' : Hp} {p : Addr} {o : HO} (s : Same H H') (h : H p = none) : Same H (upd H' p o) := fun b u e => by
  rw [upd_ne (ne_of_none e h)]
  exact s b u e
theorem freshOf {H H' : Hp} {p : Addr} (s : Same H H') (h : H' p = none) : H p = none := s.free h
def okD (n : Nat) (d : PyData) : Prop := d.canLay0 = true ∧ d.depth ≤ n
theorem okD.shaped {n : Nat} {d : PyData} (h : okD n d) (hn : n ≤ 64) : SeqAt.shaped d = true := by
  unfold SeqAt.shaped
  rw [h.1, decide_eq_true (Nat.le_trans h.2 hn)]
  rfl
theorem okD.eqv {n : Nat} {d : PyData} (h : okD n d) : PyData.eqv d d = true := SeqAt.eqv_refl d h.1
theorem okD.int (i : Int) : okD 0 (.int i) := ⟨rfl, Nat.le_refl _⟩
theorem okD.all {n : Nat} : ∀ {ds : List PyData}, (∀ d ∈ ds, okD n d) → PyData.canLayAll0 ds = true ∧ PyData.depthAll ds ≤ n
  | [], _ => ⟨rfl, Nat.zero_le _⟩
  | d :: ds, h => by
    obtain ⟨a, b⟩ := h d List.mem_cons_self
    obtain ⟨c, e⟩ := okD.all fun x hx => h x (List.mem_cons_of_mem d hx)
    refine ⟨?_, ?_⟩
    · rw [PyData.canLayAll0, a, c]
      rfl
    · rw [PyData.depthAll]
      omega
theorem okD.tup {n : Nat} {ds : List PyData} (h : ∀ d ∈ ds, okD n d) : okD (n + 1) (.tuple ds) := by
  obtain ⟨a, b⟩ := okD.all h
  refine ⟨?_, ?_⟩
  · rw [PyData.canLay0]
    exact a
  · rw [PyData.depth]
    omega
theorem okD.lst {n : Nat} {ds : List PyData} (h : ∀ d ∈ ds, okD n d) : okD (n + 1) (.list ds) := by
  obtain ⟨a, b⟩ := okD.all h
  refine ⟨?_, ?_⟩
  · rw [PyData.canLay0]
    exact a
  · rw [PyData.depth]
    omega
theorem dpInts {K : PySem.W.Frag} {H : Hp} : ∀ l : List Int, DpAll K H (l.map V.int) (l.map PyData.int)
  | [] => .nil
  | i :: l => .cons (.int i) (dpInts l)
theorem dpTup {K : PySem.W.Frag} {H : Hp} {a : Addr} {l : List Int} (h : SqT K H a (l.map V.int)) : Dp K H (.ref a) (.tuple (l.map PyData.int)) := .tup h (dpInts l)
theorem dpLst {K : PySem.W.Frag} {H : Hp} {a : Addr} {l : List Int} (h : SqL K H a (l.map V.int)) : Dp K H (.ref a) (.list (l.map PyData.int)) := .lst h (dpInts l)
theorem okInts (l : List Int) : ∀ d ∈ l.map PyData.int, okD 0 d := fun d h => by
  obtain ⟨i, _, rfl⟩ := List.mem_map.mp h
  exact .int i
theorem eqvNil (l : List Int) : PyData.eqv (.list (l.map PyData.int)) (.list []) = decide (l = []) := by
  rw [PyData.eqv]
  cases l with
  | nil => rfl
  | cons x r => rfl
theorem eqvNilT (l : List Int) : PyData.eqv (.tuple (l.map PyData.int)) (.tuple []) = decide (l = []) := by
  rw [PyData.eqv]
  cases l with
  | nil => rfl
  | cons x r => rfl
theorem lstTups {K : PySem.W.Frag} {H : Hp} {D : Addr} {ys zs : List V} (e : H D = some (.lst ys)) : TupsStay K H (upd H D (.lst zs)) := fun b xs h => by
  rcases h with (h | ⟨o, h⟩) | h
  · exact .inl (.inl (by rw [upd_ne (ne_of h e (by intro z; cases z))]; exact h))
  · exact .inl (.inr ⟨o, by rw [upd_ne (ne_of h e (by intro z; cases z))]; exact h⟩)
  · exact .inr h
/-! ## sum(xs) of a tuple of ints -/
def rSumT (K : PySem.W.Frag) : List V → Hp → VK → Prop := fun vs H Q => ∃ (a : Addr) (ns : List Int), vs = [V.ref a] ∧ SqT K H a (ns.map V.int) ∧ Q (.int ns.sum) H
theorem cr_sumT {X : Cx} (hc : X.calm = true) : CallR X (.builtin "sum") (rSumT X.K) := by
  intro pn st σ H vs us Q I r h
  obtain ⟨a, ns, rfl, ha, q⟩ := h
  rw [Vals.ref1 r]
  obtain ⟨its, rv, p, _⟩ := I.tuple ha
  obtain ⟨o, ga, ec, n, ed⟩ := id p
  have hit : IntsAre its ns := ints_of_vals rv
  have size_ : its.length = ns.length := by
    have := rv.length
    rw [List.length_map] at this
    exact this.symm
  have lt : a < st.heap.objs.size := Heap.lt_size ga
  refine call_sum_walkG (wpAny_pyIter_tuple p ?_)
  have tp : ∀ it : Obj, (st.heap.push it).IsTuple a its.toArray := fun it => ⟨o, Heap.get?_push_of_some _ ga, ec, n, ed⟩
  refine ⟨_, _, _, _, _, _, fun i => ns.getD i 0, rfl, Walks.tuple (A := X.A.in1) (by have := I.ok.hd hc; simpa using this) _ a (Nat.ne_of_lt lt) its.toArray, ⟨⟨_, Heap.get?_push_size _ rfl, rfl, rfl⟩, tp _⟩, fun b hb => ?_, fun i v hv => ?_, fun h' tk t' keep => ?_⟩
  · rw [Heap.size_push]
    rcases List.mem_cons.mp hb with rfl | hb
    · exact Nat.lt_succ_self _
    · rw [List.mem_singleton.mp hb]
      exact Nat.lt_succ_of_lt lt
  · have hi : i < ns.length := by
      have := (Array.getElem?_eq_some_iff.mp hv).1
      rw [List.size_toArray] at this
      omega
    obtain ⟨t, e⟩ := PyProof.Rows.IntsAre.int_at hit i v (by rw [← List.getElem?_toArray]; exact hv)
    exact ⟨t, e⟩
  · have e : preSum (fun i => ns.getD i 0) its.toArray.size = ns.sum := by
      rw [preSum_getD, List.size_toArray, size_, List.take_length]
    refine ⟨.int ns.sum, H, I.kept (t' := tk) fun b u hb => ?_, ⟨t', by rw [e]⟩, q⟩
    have b0 := Heap.lt_size hb
    exact keep b u (by rw [List.mem_singleton]; exact Nat.ne_of_lt b0) (Heap.get?_push_of_some _ hb)
theorem in2u {k : Nat} {A : Around} (hr : Room k A) : A.in1.in1.units < cLine := by
  have := hr.un
  show A.units + 1 + 1 < cLine
  omega
theorem un65 {k : Nat} {A : Around} (hr : Room k A) : A.units + 65 < cLine := by
  have := hr.un
  omega
theorem eqvInts : ∀ xs ys : List Int, PyData.eqvAll (xs.map PyData.int) (ys.map PyData.int) = decide (xs = ys)
  | [], [] => by
    show PyData.eqvAll [] [] = _
    rw [PyData.eqvAll]
    rfl
  | [], y :: ys => by
    show PyData.eqvAll [] (_ :: _) = _
    rw [PyData.eqvAll] <;> first | rfl | simp
  | x :: xs, [] => by
    show PyData.eqvAll (_ :: _) [] = _
    rw [PyData.eqvAll] <;> first | rfl | simp
  | x :: xs, y :: ys => by
    show PyData.eqvAll (PyData.int x :: xs.map PyData.int) (PyData.int y :: ys.map PyData.int) = _
    rw [PyData.eqvAll, eqvInts xs ys, PyData.eqv]
    by_cases h : x = y
    · subst h
      by_cases h2 : xs = ys
      · subst h2
        simp
      · simp [h2]
    · simp [h]
theorem eqvIntsT (xs ys : List Int) : PyData.eqv (.tuple (xs.map PyData.int)) (.tuple (ys.map PyData.int)) = decide (xs = ys) := by
  rw [PyData.eqv]
  exact eqvInts xs ys
theorem eqvIntsL (xs ys : List Int) : PyData.eqv (.list (xs.map PyData.int)) (.list (ys.map PyData.int)) = decide (xs = ys) := by
  rw [PyData.eqv]
  exact eqvInts xs ys

end R
namespace R
open PySem PySem.Spec PyProof.Rows L2
/-! ## what any value is: integers, lots, bars -/
def kOdd (K : PySem.W.Frag) (H : Hp) (x : V) : Prop := (∃ b, x = .bl b) ∨ ∃ t, TyX K H x (.type t) ∧ kitB t "int" = some false
theorem kOdd.ni {K : PySem.W.Frag} {H : Hp} {x : V} (h : kOdd K H x) (i : Int) : x ≠ .int i := by
  rintro rfl
  rcases h with ⟨b, e⟩ | ⟨t, h1, h2⟩
  · cases e
  · cases h1 with
    | base h =>
      cases h
      exact absurd h2 (by decide +kernel)
/-- an integer or something else whose kind is known -/
def Itm (K : PySem.W.Frag) (H : Hp) (x : V) : Prop := (∃ i, x = .int i) ∨ kOdd K H x
def NotTup (K : PySem.W.Frag) (H : Hp) (x : V) : Prop := ∃ t, TyX K H x (.type t) ∧ kitB t "tuple" = some false
def ascV (m : Int) : Int → List V → Bool
  | _, [] => true
  | lo, .int i :: r => (decide (lo ≤ i) && decide (i ≤ m - 1)) && ascV m (i + 1) r
  | _, _ :: _ => false
theorem ascV_ni {m lo : Int} {x : V} {r : List V} (h : ∀ i, x ≠ .int i) : ascV m lo (x :: r) = false := by
  cases x with
  | int i => exact absurd rfl (h i)
  | _ => rfl
theorem ascV_int {m lo i : Int} {r : List V} : ascV m lo (.int i :: r) = ((decide (lo ≤ i) && decide (i ≤ m - 1)) && ascV m (i + 1) r) := rfl
theorem ascV_iff {m : Int} : ∀ {l : List Int} {lo : Int}, ascV m lo (l.map V.int) = true ↔ l.Pairwise (· < ·) ∧ (∀ r ∈ l, lo ≤ r) ∧ ∀ r ∈ l, r < m
  | [], lo => ⟨fun _ => ⟨.nil, fun r h => by simp at h, fun r h => by simp at h⟩, fun _ => rfl⟩
  | x :: l, lo => by
    show ((decide (lo ≤ x) && decide (x ≤ m - 1)) && ascV m (x + 1) (l.map V.int)) = true ↔ _
    rw [Bool.and_eq_true, Bool.and_eq_true, decide_eq_true_iff, decide_eq_true_iff, ascV_iff (l := l) (lo := x + 1)]
    constructor
    · rintro ⟨⟨h1, h2⟩, h3, h4, h5⟩
      refine ⟨List.pairwise_cons.mpr ⟨fun z hz => by have := h4 z hz; omega, h3⟩, fun r hr => ?_, fun r hr => ?_⟩
      · rcases List.mem_cons.mp hr with rfl | hr
        · exact h1
        · have := h4 r hr
          omega
      · rcases List.mem_cons.mp hr with rfl | hr
        · omega
        · exact h5 r hr
    · rintro ⟨h1, h2, h3⟩
      obtain ⟨h4, h5⟩ := List.pairwise_cons.mp h1
      have := h3 x List.mem_cons_self
      exact ⟨⟨h2 x List.mem_cons_self, by omega⟩, h5, fun r hr => by have := h4 r hr; omega, fun r hr => h3 r (List.mem_cons_of_mem _ hr)⟩
theorem LotOk.asc {m : Int} {l : List Int} (h : LotOk m l) : ascV m 0 (l.map V.int) = true := ascV_iff.mpr ⟨h.up, h.ge, h.lt⟩
def barV : V → List V → Bool
  | .int m, zs => (decide (1 ≤ m) && decide (m ≤ 1000000)) && (ascV m 0 zs && decide (zs.length ≤ 60))
  | _, _ => false
theorem barV_ni {x : V} {r : List V} (h : ∀ i, x ≠ .int i) : barV x r = false := by
  cases x with
  | int i => exact absurd rfl (h i)
  | _ => rfl
theorem itmInts {K : PySem.W.Frag} {H : Hp} (l : List Int) : ∀ y ∈ l.map V.int, Itm K H y := fun y h => by
  obtain ⟨i, _, rfl⟩ := List.mem_map.mp h
  exact .inl ⟨i, rfl⟩
def sp_p_is_integer (K : PySem.W.Frag) : Sp := fun vs H Q _ => ∃ x : V, vs = [x] ∧ ((∃ i, x = .int i ∧ Q (.bl true) H) ∨ (kOdd K H x ∧ Q (.bl false) H))
def sp_p_integer_within (K : PySem.W.Frag) : Sp := fun vs H Q _ => ∃ (x : V) (lo hi : Int), vs = [x, .int lo, .int hi] ∧ ((∃ i, x = .int i ∧ Q (.bl (decide (lo ≤ i) && decide (i ≤ hi))) H) ∨ (kOdd K H x ∧ Q (.bl false) H))
def sp_p_is_ascending (K : PySem.W.Frag) : Sp := fun vs H Q _ => ∃ (x : V) (m : Int), vs = [x, .int m] ∧ ((NotTup K H x ∧ Q (.bl false) H) ∨ ∃ a xs, x = .ref a ∧ SqT K H a xs ∧ (∀ y ∈ xs, Itm K H y) ∧ Q (.bl (ascV m 0 xs)) H)
def sp_p_is_lot (K : PySem.W.Frag) : Sp := fun vs H Q _ => ∃ (x : V) (m : Int), vs = [x, .int m] ∧ ((NotTup K H x ∧ Q (.bl false) H) ∨ ∃ a xs, x = .ref a ∧ SqT K H a xs ∧ (∀ y ∈ xs, Itm K H y) ∧ Q (.bl (ascV m 0 xs && decide (xs.length ≤ 60))) H)
def sp_p_is_pair (K : PySem.W.Frag) : Sp := fun vs H Q _ => ∃ x : V, vs = [x] ∧ ((NotTup K H x ∧ Q (.bl false) H) ∨ ∃ a xs, x = .ref a ∧ SqT K H a xs ∧ Q (.bl (decide (xs.length = 2))) H)
def sp_p_is_bar (K : PySem.W.Frag) : Sp := fun vs H Q _ => ∃ x : V, vs = [x] ∧ ((NotTup K H x ∧ Q (.bl false) H) ∨ ∃ a xs, x = .ref a ∧ SqT K H a xs ∧ ((xs.length ≠ 2 ∧ Q (.bl false) H) ∨
  ∃ y z, xs = [y, z] ∧ Itm K H y ∧ ((NotTup K H z ∧ Q (.bl false) H) ∨ ∃ c zs, z = .ref c ∧ SqT K H c zs ∧ (∀ u ∈ zs, Itm K H u) ∧ Q (.bl (barV y zs)) H)))
section
variable {P : Program} [POk P FILE] {w : World} {K : PySem.W.Frag} {mg : Str → Option Value} {base : Heap}
theorem ok_p_is_integer (T : Txt K mg) : FnOk P w K mg base CX0 2 T.f_p_is_integer T.fd_p_is_integer ["value"] (sp_p_is_integer K) := by
  refine T.F_p_is_integer.ok sc_p_is_integer (fun vs H Q E h => ?_) (fun cdv A outer s H vs Q E hr h => ?_)
  · obtain ⟨x, rfl, _⟩ := h
    rfl
  · obtain ⟨x, rfl, h⟩ := h
    refine ⟨_, (pss_one (ps_ret (pe_and (pe_callB call_isi (by rfl) T.z_isinstance (by decide +kernel) (pa_cons (pv 0) (pa_cons (pe_bltn (v := .ty "int") (by rfl) T.z_int (by decide +kernel) rfl) pa_nil))) (pe_one (pe_not (pe_callB call_isi (by rfl) T.z_isinstance (by decide +kernel) (pa_cons (pv 0) (pa_cons (pe_bltn (v := .ty "bool") (by rfl) T.z_bool (by decide +kernel) rfl) pa_nil)))))))), ?_⟩
    rcases h with ⟨x, rfl, q⟩ | ⟨⟨b, rfl⟩ | ⟨t, ht, hk⟩, q⟩
    · refine ⟨_, rfl, _, _, _, _, _, rfl, .ty "int", .base (.int x), kit_ty (r := true) (by decide +kernel), true, rfl, iteT ?_⟩
      exact ⟨_, rfl, _, _, _, _, _, rfl, .ty "bool", .base (.int x), kit_ty (r := false) (by decide +kernel), false, rfl, q⟩
    · refine ⟨_, rfl, _, _, _, _, _, rfl, .ty "int", .base (.bl b), kit_ty (r := true) (by decide +kernel), true, rfl, iteT ?_⟩
      exact ⟨_, rfl, _, _, _, _, _, rfl, .ty "bool", .base (.bl b), kit_ty (r := true) (by decide +kernel), true, rfl, q⟩
    · exact ⟨_, rfl, _, _, _, _, _, rfl, .ty "int", ht, kit_ty (r := false) hk, false, rfl, iteF q⟩
theorem ok_p_integer_within (T : Txt K mg) : FnOk P w K mg base CX0 3 T.f_p_integer_within T.fd_p_integer_within ["value", "least", "greatest"] (sp_p_integer_within K) := by
  refine T.F_p_integer_within.ok sc_p_integer_within (fun vs H Q E h => ?_) (fun cdv A outer s H vs Q E hr h => ?_)
  · obtain ⟨x, lo, hi, rfl, _⟩ := h
    rfl
  · obtain ⟨x, lo, hi, rfl, h⟩ := h
    refine ⟨_, (pss_one (ps_ret (pe_and (pe_call (ok_p_is_integer (P := P) T) (hr.mono (by decide)) (by rfl) T.g_p_is_integer T.F_p_is_integer.kp T.b_p_is_integer .nil pass0 (pa_cons (pv 0) pa_nil)) (pe_one (pe_chain op_le op_le (pv 1) (pv 0) (pv 2)))))), ?_⟩
    rcases h with ⟨x, rfl, q⟩ | ⟨o, q⟩
    · refine ⟨_, rfl, _, rfl, .inl ⟨x, rfl, true, rfl, iteT ⟨_, rfl, _, rfl, _, _, rfl, rfl, _, rfl, ?_⟩⟩⟩
      by_cases h : lo ≤ x
      · rw [decide_eq_true h] at q ⊢
        exact iteT ⟨_, rfl, _, _, rfl, rfl, q⟩
      · rw [decide_eq_false h] at q ⊢
        exact iteF q
    · exact ⟨_, rfl, _, rfl, .inr ⟨o, false, rfl, iteF q⟩⟩
theorem ok_p_is_pair (T : Txt K mg) : FnOk P w K mg base CX0 2 T.f_p_is_pair T.fd_p_is_pair ["value"] (sp_p_is_pair K) := by
  refine T.F_p_is_pair.ok sc_p_is_pair (fun vs H Q E h => ?_) (fun cdv A outer s H vs Q E hr h => ?_)
  · obtain ⟨v, rfl, _⟩ := h
    rfl
  · obtain ⟨v, rfl, h⟩ := h
    refine ⟨_, (pss_one (ps_ret (pe_and (pe_callB call_isi (by rfl) T.z_isinstance (by decide +kernel) (pa_cons (pv 0) (pa_cons (pe_bltn (v := .ty "tuple") (by rfl) T.z_tuple (by decide +kernel) rfl) pa_nil))) (pe_one (pe_cmpR op_eq (pe_callB call_len_seq (by rfl) T.z_len (by decide +kernel) (pa_cons (pv 0) pa_nil)) pe_int (nomark _)))))), ?_⟩
    rcases h with ⟨⟨t, ht, hk⟩, q⟩ | ⟨a, xs, rfl, ta, q⟩
    · exact ⟨_, rfl, _, _, _, _, _, rfl, .ty "tuple", ht, kit_ty (r := false) hk, false, rfl, iteF q⟩
    · refine ⟨_, rfl, _, _, _, _, _, rfl, .ty "tuple", tyTup ta, kit_ty (r := true) (by decide +kernel), true, rfl, iteT ?_⟩
      refine ⟨_, rfl, a, _, rfl, .inr ta, rfl, ?_⟩
      have e2 : decide (V.int (xs.length : Int) = V.int 2) = decide (xs.length = 2) := by
        rw [Bool.eq_iff_iff, decide_eq_true_iff, decide_eq_true_iff]
        exact ⟨fun h => by have := V.int.inj h; omega, fun h => by rw [h]; rfl⟩
      show Q (.bl (decide (V.int (xs.length : Int) = V.int 2))) H
      rw [e2]
      exact q
end

end R
namespace R
open PySem PySem.Spec PyProof.Rows L2
/-! ## values that are no numbers -/
/-- a value that is no number, index or the like: no integer, or one that is too great -/
def OddV (K : PySem.W.Frag) (H : Hp) (x : V) : Prop := kOdd K H x ∨ x = .int (10 ^ 30 + 1) ∨ x = .int (0 - 10 ^ 30 - 1)
theorem tyKeep {K : PySem.W.Frag} {H H' : Hp} {r L : Addr} {x : V} {t : Value} (h : TyX K H x t) (R : RowAt H r L) (s : Kp r H H') (R' : RowAt H' r L) : TyX K H' x t := by
  obtain ⟨ns, i, b, z, e, _⟩ := R.ex
  obtain ⟨ns', i', b', z', e', _⟩ := R'.ex
  have ne : ∀ {a : Addr} {o : HO}, H a = some o → (∀ zs, o ≠ .lst zs) → a ≠ r := fun {a o} h1 h2 w => by
    subst w
    rw [e] at h1
    exact h2 _ (Option.some.inj h1).symm
  cases h with
  | base h => cases h with
    | non => exact .base .non
    | bl b => exact .base (.bl b)
    | int i => exact .base (.int i)
    | str x => exact .base (.str x)
    | flt x => exact .base (.flt x)
    | lst h =>
      rename_i a xs
      by_cases w : a = r
      · subst w
        exact .base (.lst e')
      · exact .base (.lst (s _ _ w h))
    | frz h => exact .base (.frz (s _ _ (ne h (fun _ w => nomatch w)) h))
    | tup h => exact .base (.tup (s _ _ (ne h (fun _ w => nomatch w)) h))
    | dK h => exact .base (.dK (s _ _ (ne h (fun _ w => nomatch w)) h))
    | dT h => exact .base (.dT (s _ _ (ne h (fun _ w => nomatch w)) h))
    | ins h c1 c2 c3 c4 c5 => exact .base (.ins (s _ _ (ne h (fun _ w => nomatch w)) h) c1 c2 c3 c4 c5)
  | byt b => exact .byt b
  | set h => exact .set (s _ _ (ne h (fun _ w => nomatch w)) h)
  | kList e c => exact .kList e c
  | kTuple e c => exact .kTuple e c
  | kDict e c => exact .kDict e c
  | fTuple h => exact .fTuple (s _ _ (ne h (fun _ w => nomatch w)) h)
  | fDict h => exact .fDict (s _ _ (ne h (fun _ w => nomatch w)) h)
theorem tySame {K : PySem.W.Frag} {H H' : Hp} {x : V} {t : Value} (h : TyX K H x t) (s : Same H H') : TyX K H' x t := by
  cases h with
  | base h => cases h with
    | non => exact .base .non
    | bl b => exact .base (.bl b)
    | int i => exact .base (.int i)
    | str x => exact .base (.str x)
    | flt x => exact .base (.flt x)
    | lst h => exact .base (.lst (s _ _ h))
    | frz h => exact .base (.frz (s _ _ h))
    | tup h => exact .base (.tup (s _ _ h))
    | dK h => exact .base (.dK (s _ _ h))
    | dT h => exact .base (.dT (s _ _ h))
    | ins h c1 c2 c3 c4 c5 => exact .base (.ins (s _ _ h) c1 c2 c3 c4 c5)
  | byt b => exact .byt b
  | set h => exact .set (s _ _ h)
  | kList e c => exact .kList e c
  | kTuple e c => exact .kTuple e c
  | kDict e c => exact .kDict e c
  | fTuple h => exact .fTuple (s _ _ h)
  | fDict h => exact .fDict (s _ _ h)
theorem OddV.keep {K : PySem.W.Frag} {H H' : Hp} {r L : Addr} {x : V} (h : OddV K H x) (R : RowAt H r L) (s : Kp r H H') (R' : RowAt H' r L) : OddV K H' x := by
  rcases h with (h | ⟨t, h1, h2⟩) | h
  · exact .inl (.inl h)
  · exact .inl (.inr ⟨t, tyKeep h1 R s R', h2⟩)
  · exact .inr h
theorem OddV.same {K : PySem.W.Frag} {H H' : Hp} {x : V} (h : OddV K H x) (s : Same H H') : OddV K H' x := by
  rcases h with (h | ⟨t, h1, h2⟩) | h
  · exact .inl (.inl h)
  · exact .inl (.inr ⟨t, tySame h1 s, h2⟩)
  · exact .inr h

end R
namespace R
open PySem PySem.Spec PyProof.Rows L2
/-! ## numbers judged -/
def IsNum (x : Int) : Prop := -1000000000000000000000000000000 ≤ x ∧ x ≤ 1000000000000000000000000000000
theorem IsNum.size {x : Int} (h : IsNum x) : x.natAbs < 2 ^ 200 := by
  have : x.natAbs ≤ 1000000000000000000000000000000 := by
    unfold IsNum at h
    omega
  exact Nat.lt_of_le_of_lt this (by decide)
/-- what may be asked of any value: a number, an integer that is none, or something else -/
theorem OddV.cases {K : PySem.W.Frag} {H : Hp} {x : V} (h : OddV K H x) : kOdd K H x ∨ ∃ i, x = .int i ∧ ¬ IsNum i := by
  rcases h with h | rfl | rfl
  · exact .inl h
  · exact .inr ⟨_, rfl, by unfold IsNum; omega⟩
  · exact .inr ⟨_, rfl, by unfold IsNum; omega⟩
def sp_p_is_number (K : PySem.W.Frag) : Sp := fun vs H Q _ => ∃ x : V, vs = [x] ∧ ((∃ i, x = .int i ∧ IsNum i ∧ Q (.bl true) H) ∨ (OddV K H x ∧ Q (.bl false) H))
section
variable {P : Program} [POk P FILE] {w : World} {K : PySem.W.Frag} {mg : Str → Option Value} {base : Heap}
theorem ok_p_is_number (T : Txt K mg) : FnOk P w K mg base CX0 4 T.f_p_is_number T.fd_p_is_number ["value"] (sp_p_is_number K) := by
  refine T.F_p_is_number.ok sc_p_is_number (fun vs H Q E h => ?_) (fun cdv A outer s H vs Q E hr h => ?_)
  · obtain ⟨x, rfl, _⟩ := h
    rfl
  · obtain ⟨x, rfl, h⟩ := h
    refine ⟨_, (pss_one (ps_ret (pe_call (ok_p_integer_within (P := P) T) (hr.mono (by decide)) (by rfl) T.g_p_integer_within T.F_p_integer_within.kp T.b_p_integer_within .nil pass0 (pa_cons (pv 0) (pa_cons (pe_un un_neg (pe_glob (v := .int 1000000000000000000000000000000) (by rfl) T.c_GREATEST_NUMBER.choose_spec ⟨_, rfl⟩)) (pa_cons (pe_glob (v := .int 1000000000000000000000000000000) (by rfl) T.c_GREATEST_NUMBER.choose_spec ⟨_, rfl⟩) pa_nil)))))), ?_⟩
    rcases h with ⟨i, rfl, hi, q⟩ | ⟨o, q⟩
    · refine ⟨_, rfl, _, rfl, _, _, _, rfl, .inl ⟨_, rfl, ?_⟩⟩
      rw [decide_eq_true hi.1, decide_eq_true hi.2]
      exact q
    · rcases o.cases with o | ⟨i, rfl, hi⟩
      · exact ⟨_, rfl, _, rfl, _, _, _, rfl, .inr ⟨o, q⟩⟩
      · refine ⟨_, rfl, _, rfl, _, _, _, rfl, .inl ⟨_, rfl, ?_⟩⟩
        have e : (decide (-1000000000000000000000000000000 ≤ i) && decide (i ≤ 1000000000000000000000000000000)) = false := by
          rw [← Bool.decide_and, decide_eq_false]
          exact hi
        show Q (.bl (decide (-1000000000000000000000000000000 ≤ i) && decide (i ≤ 1000000000000000000000000000000))) H
        rw [e]
        exact q
end

end R
namespace R
open PySem PySem.Spec PyProof.Rows L2
/-! ## walks within a comprehension's block, told over the written part alone -/
theorem pi_tupK {X : Cx} {K : PySem.W.Frag} {tg e : Expr} {te : TE} (hK : X.K = K) (he : PE X e te) : PI X tg e (iTup K te) := by
  subst hK
  exact pi_tup he
theorem pi_listK {X : Cx} {K : PySem.W.Frag} {tg e : Expr} {te : TE} (hK : X.K = K) (he : PE X e te) : PI X tg e (iList K te) := by
  subst hK
  exact pi_list he
def rTupOf (K : PySem.W.Frag) : List V → Hp → VK → Prop := fun vs H Q => ∃ p ys, vs = [.ref p] ∧ ((SqL K H p ys ∧ ∀ l, H l = none → Q (.ref l) (upd H l (.tup ys))) ∨ (SqT K H p ys ∧ Q (.ref p) H))

end R
namespace R
open PySem PySem.Spec PyProof.Rows L2
/-! ## an empty set -/
abbrev noSet (w : World) : Obj := { cls := .type "set", dict := none, data := .set #[] 0 (.fresh 0 0 (!w.params.followText "set-order")) }

end R
namespace R
open PySem PySem.Spec PyProof.Rows L2
/-! ## {e for t in it if ..}, e an int -/
open PpSet in
/-- D the new set; W by the turn and a measure -/
def tScI (w : World) (wi : TI) (g : TG) (tt : TT) (te : TE) (vs : List Nat) : TE := fun σ H Q => wi σ H fun J H1 => ∀ D, H1 D = none →
  ∃ W : Nat → Nat → Hp → Prop, (∃ m, W 0 m (upd H1 D (SetO w D (fun _ => false) 0))) ∧ ∀ i m H, W i m H → (J.stop i H ∧ Q (.ref D) H) ∨
    (J.go i H ∧ ∃ Nx : Hp → Prop, (∀ H', Nx H' → ∃ m', m' < m ∧ W (i + 1) m' H') ∧ ∀ x H', J.yld i H x H' → g x (wipe σ vs) H' fun σ2 H2 => wipe σ2 vs = wipe σ vs ∧ tt σ2 H2 fun b H3 =>
      if b = true then te σ2 H3 fun y H4 => ∃ (c : Int) (S : Int → Bool) (n : Nat), y = .int c ∧ H4 D = some (SetO w D S n) ∧ n + 1 < scanBound ∧ Nx (upd H4 D (SetO w D (fun j => S j || decide (j = c)) (if S c = true then n else n + 1))) else Nx H3)
open PpSet in
theorem addI_ok {X : Cx} {pins : List (Addr × Obj)} {σ : L2.St} {H : Hp} {s : Shared} {E : Value → Shared → Prop} {D : Addr} {S : Int → Bool} {n : Nat} {y : Int} {tk : Tok} {Q : Value → Shared → Prop} (I : Inv X pins σ H s)
    (hD : H D = some (SetO X.w D S n)) (room : n + 1 < scanBound) (h : ∀ s', Inv X pins σ (upd H D (SetO X.w D (fun j => S j || decide (j = y)) (if S y = true then n else n + 1))) s' → Q .none s') :
    wpAny (model X.prog X.w) X.A (call (.builtin "set.add") [.ref D, .int y tk]) Q E s := by
  refine setR_add (setO_get I hD) room fun h' sb new => h _ ?_
  obtain ⟨o, _, _, _, ho, _⟩ := id new
  exact I.write (e := D) (t' := s.toks + 1) (by rw [hD]; trivial) (.inl rfl) (fun b u hb hu => (sb.2 b hb).trans hu) ⟨o, ho⟩ (setO_new new)
open PpSet in
set_option maxHeartbeats 8000000 in
theorem scI_core {X : Cx} {pins : List (Addr × Obj)} {s : Shared} {σ : L2.St} {H : Hp} {Q : VK} {elt tg iter : Expr} {ifs : List Expr} {scope : Scope} {own : List (PySem.Str × Nat)} {pos pos' : Pos} {wi : TI} {g : TG} {tt : TT} {te : TE}
    {use : Option (Value → Sem Unit)} {Qf : Value → Shared → Prop} (hc : X.calm = true) (hN : X.N.Nodup) (I : Inv X pins σ H s) (hi : PI X tg iter wi) (ok : BlkOk X.N X.env.scope scope own)
    (hg : ∀ (s : Shared) (H : Hp) (C : Addr) (cl : List (PySem.Str × Addr)) (fp : List Addr), PG (X.blk s H scope (compEnvC scope cl C X.env) fp) tg g)
    (ht : ∀ (s : Shared) (H : Hp) (C : Addr) (cl : List (PySem.Str × Addr)) (fp : List Addr), PTs (X.blk s H scope (compEnvC scope cl C X.env) fp) ifs tt)
    (he : ∀ (s : Shared) (H : Hp) (C : Addr) (cl : List (PySem.Str × Addr)) (fp : List Addr), PE (X.blk s H scope (compEnvC scope cl C X.env) fp) elt te) (hs : ∀ x, foldedSetIterable iter X.env x = pure x)
    (h : tScI X.w wi g tt te (own.map (·.2)) σ H Q)
    (last : ∀ D C s' m H', Inv X pins σ H' s' → Q (.ref D) H' → s'.heap.Ns C m → FpOk X pins H' C → compPost (model X.prog X.w) X.A X.xe use Qf (.ref D) C (.ok .next) s') :
    wpAny (model X.prog X.w) X.A (comprehension (.SetComp elt [⟨tg, iter, ifs, 0⟩] scope pos) scope X.env pos' (newSet (.type "set")) false (eval iter X.env) use) Qf X.xe s := by
  have cap : ∀ y ∈ scope.names, y.2 = .free → ∃ c, X.env.cells.lookup y.1 = some c := fun y hy e => I.ok.has _ (ok.free y hy e)
  refine wpAny_comprehension_free (use := use) rfl hs (closure_ok cap) ok.kind (fun y hy e => by rw [ok.uniq y hy, e]) (thn (hi.run pins s σ H _ I h) fun xv s1 hx => thn hx fun itv s2 h2 => ?_)
  obtain ⟨it, fp, tn, J, H2, e, I2, T, st2, f2, q⟩ := h2
  subst e
  refine newSet_ok (newEnv_comp ?_)
  generalize hD : s2.heap.objs.size = D
  have fresh := I2.hok.fresh (Nat.le_of_eq hD)
  obtain ⟨W, ⟨m0, w0⟩, turn⟩ := q D fresh
  generalize hs3 : ({ s2 with heap := s2.heap.push (noSet X.w) } : Shared) = s3
  have h3 : s3.heap = s2.heap.push (noSet X.w) := hs3 ▸ rfl
  have I3 : Inv X pins σ (upd H2 D (SetO X.w D (fun _ => false) 0)) s3 := by
    rw [← hs3]
    refine I2.laid (t' := s2.toks) (fun b o e => Heap.get?_push_of_some _ e) (Nat.le_of_eq hD) ?_
    subst hD
    exact setO_new (setR_fresh X.w)
  have old : ∀ b ∈ fp, b < s2.heap.objs.size := fun b hb => let ⟨_, e, _⟩ := T.obj _ _ st2 b hb; Heap.lt_size e
  have f3 : ∀ b ∈ fp, FpOk X pins (upd H2 D (SetO X.w D (fun _ => false) 0)) b ∧ b < s3.heap.objs.size := fun b hb => by
    have lt := old b hb
    refine ⟨⟨?_, (f2 b hb).2⟩, h3 ▸ (by rw [Heap.size_push]; exact Nat.lt_succ_of_lt lt)⟩
    rw [upd_ne (hD ▸ Nat.ne_of_lt lt)]
    exact (f2 b hb).1
  have st3 : tn 0 s3.heap := T.keep _ _ _ st2 fun b _ o e => h3 ▸ Heap.get?_push_of_some _ e
  have I4 := block_start I3 ok hN f3
  have pg := hg s3 (upd H2 D (SetO X.w D (fun _ => false) 0)) s3.heap.objs.size (cellsFrom (s3.heap.objs.size + 1) scope.names (cloFrom X.env.cells scope.names [])) fp
  have pt := ht s3 (upd H2 D (SetO X.w D (fun _ => false) 0)) s3.heap.objs.size (cellsFrom (s3.heap.objs.size + 1) scope.names (cloFrom X.env.cells scope.names [])) fp
  have pe := he s3 (upd H2 D (SetO X.w D (fun _ => false) 0)) s3.heap.objs.size (cellsFrom (s3.heap.objs.size + 1) scope.names (cloFrom X.env.cells scope.names [])) fp
  show codeAny _ _ (.compStart (.SetComp elt [⟨tg, iter, ifs, 0⟩] scope pos) 0 (.ref it) (.ref D) (compEnvC scope (cellsFrom (s3.heap.objs.size + 1) scope.names (cloFrom X.env.cells scope.names [])) s3.heap.objs.size X.env))
    (compPost (model X.prog X.w) X.A X.xe use Qf (.ref D) s3.heap.objs.size) { s3 with heap := pushCells (s3.heap.push { cls := .type "dict", data := .dict #[] }) scope.names }
  have none3 : ∀ b ∈ fp, (upd H2 D (SetO X.w D (fun _ => false) 0)) b = none := fun b hb => (f3 b hb).1.1
  generalize hce : compEnvC scope (cellsFrom (s3.heap.objs.size + 1) scope.names (cloFrom X.env.cells scope.names [])) s3.heap.objs.size X.env = ce at I4 pg pt pe ⊢
  have cL : ce.locals = s3.heap.objs.size := hce ▸ rfl
  generalize hH3 : upd H2 D (SetO X.w D (fun _ => false) 0) = H3 at I3 I4 pg pt pe w0 none3 f3
  generalize hs4 : ({ s3 with heap := pushCells (s3.heap.push { cls := .type "dict", data := .dict #[] }) scope.names } : Shared) = s4 at I4 ⊢
  have st4 : tn 0 s4.heap := T.keep _ _ _ st3 fun b _ o e => hs4 ▸ pushCells_keeps _ _ _ _ (Heap.get?_push_of_some _ e)
  have still : ∀ {σ' : L2.St} {H' : Hp} {s' : Shared}, Inv (X.blk s3 H3 scope ce fp) [] σ' H' s' → (∀ b ∈ fp, H' b = none) → ∀ b ∈ fp, FpOk (X.blk s3 H3 scope ce fp) [] H' b := by
    intro σ' H' s' I' hn b hb
    obtain ⟨x1, x2⟩ := I'.ok.exf b hb
    exact ⟨hn b hb, x1, I'.ok.exfs b hb, .inl hb, x2, fun p hp => absurd (show p ∈ ([] : List (Addr × Obj)) ++ [] from hp) (by simp)⟩
  have loop : codeAny (model X.prog X.w) X.A (.compLoop (.SetComp elt [⟨tg, iter, ifs, 0⟩] scope pos) 0 (.ref it) (.ref D) ce) (compPost (model X.prog X.w) X.A X.xe use Qf (.ref D) s3.heap.objs.size) s4 := by
    refine compLoopS_any (fun n s' => ∃ i H', Inv (X.blk s3 H3 scope ce fp) [] (wipe σ (own.map (·.2))) H' s' ∧ tn i s'.heap ∧ (∀ b ∈ fp, H' b = none) ∧ W i n H') ?_ m0 ⟨0, H3, I4, st4, none3, w0⟩
    rintro n s5 ⟨i, H5, I5, st5, n5, w5⟩
    rcases turn i n H5 w5 with ⟨stop, done⟩ | ⟨go, Nx, hNx, step⟩
    · refine thnF (T.done (X.blk s3 H3 scope ce fp) rfl rfl rfl hc i [] s5 _ H5 (fun _ _ => False) I5 (still I5 n5) st5 stop) fun r s6 ⟨hr, I6⟩ => ?_
      subst hr
      have I7 : Inv X pins σ H5 s6 := I3.call' (ch := fp) I6.os I6.base I6.hok I6.bare fun b hb => let z := (f3 b hb).1.2; ⟨z.2.2.1, z.1, z.2.2.2.1, z.2.2.2.2⟩
      have gone : H5 s3.heap.objs.size = none := cL ▸ (show H5 ce.locals = none from I6.free)
      obtain ⟨m, hm, _⟩ := I6.loc
      have hm' : s6.heap.Ns ce.locals m := hm
      rw [cL] at hm'
      exact last D s3.heap.objs.size s6 m H5 I7 done hm' (I3.fpOk (Nat.le_refl _) gone)
    · refine thnF (T.item (X.blk s3 H3 scope ce fp) rfl rfl rfl hc i [] s5 _ H5 (fun _ _ => False) I5 (still I5 n5) st5 go) fun r s6 ⟨u, hr, h6⟩ => ?_
      subst hr
      refine thnF h6 fun _ s7 ⟨x, H7, I7, r7, y7, st7, n7⟩ => ?_
      have I7' := I7.pinned (still I7 n7) (T.obj _ _ st7)
      refine thnF (pg.run _ s7 _ H7 x u _ I7' r7 (step x H7 y7)) fun _ s8 ⟨σ8, H8, I8, hw8, q8⟩ => ?_
      refine thnF (pt.run _ s8 σ8 H8 _ I8 q8) fun b s9 ⟨H9, I9, q9⟩ => ?_
      have fin : ∀ {s' : Shared} {H' : Hp}, Inv (X.blk s3 H3 scope ce fp) ([] ++ pinsAt fp s7.heap) σ8 H' s' → Nx H' →
          ∃ m, m < n ∧ ∃ i H', Inv (X.blk s3 H3 scope ce fp) [] (wipe σ (own.map (·.2))) H' s' ∧ tn i s'.heap ∧ (∀ b ∈ fp, H' b = none) ∧ W i m H' := by
        intro s' H' I' nx
        obtain ⟨m', hm, w'⟩ := hNx H' nx
        have pinned : ∀ b ∈ fp, ∀ o, s7.heap.get? b = some o → s'.heap.get? b = some o ∧ H' b = none := fun b hb o e => by
          have z := I'.pin (b, o) (List.mem_append_right _ (List.mem_append_right _ (mem_pinsAt hb e)))
          exact ⟨z.1, z.2.1⟩
        have len : (wipe σ (own.map (·.2))).length = σ8.length := by rw [← hw8, wipe_length]
        refine ⟨m', hm, i + 1, H', (I'.unpinned (pins := [])).weak len (fun j v e => (wipe_some (hw8 ▸ e)).1), T.keep _ _ _ st7 fun b hb o e => (pinned b hb o e).1, fun b hb => ?_, w'⟩
        obtain ⟨o, e, _⟩ := T.obj _ _ st7 b hb
        exact (pinned b hb o e).2
      cases b with
      | false =>
        rw [if_neg Bool.false_ne_true] at q9 ⊢
        exact fin I9 q9
      | true =>
        rw [if_pos rfl] at q9 ⊢
        refine thnF (pe.run _ s9 σ8 H9 _ I9 q9) fun z s10 ⟨yv, H10, I10, r10, c, S0, n0, ey, hD10, room, nx⟩ => ?_
        subst ey
        obtain ⟨tk, rfl⟩ : ∃ t, z = Value.int c t := r10
        exact addI_ok (X := X.blk s3 H3 scope ce fp) I10 hD10 room fun s11 I11 => fin I11 nx
  exact codeAny_compStart_set loop (T.self X.A 0 _ _ _ st4 loop)
open PpSet in
theorem pe_scI {X : Cx} {elt tg iter : Expr} {ifs : List Expr} {scope : Scope} {own : List (PySem.Str × Nat)} {pos : Pos} {wi : TI} {g : TG} {tt : TT} {te : TE} (hc : X.calm = true) (hN : X.N.Nodup) (hi : PI X tg iter wi)
    (ok : BlkOk X.N X.env.scope scope own) (hg : ∀ (s : Shared) (H : Hp) (C : Addr) (cl : List (PySem.Str × Addr)) (fp : List Addr), PG (X.blk s H scope (compEnvC scope cl C X.env) fp) tg g)
    (ht : ∀ (s : Shared) (H : Hp) (C : Addr) (cl : List (PySem.Str × Addr)) (fp : List Addr), PTs (X.blk s H scope (compEnvC scope cl C X.env) fp) ifs tt)
    (he : ∀ (s : Shared) (H : Hp) (C : Addr) (cl : List (PySem.Str × Addr)) (fp : List Addr), PE (X.blk s H scope (compEnvC scope cl C X.env) fp) elt te) (hs : ∀ x, foldedSetIterable iter X.env x = pure x := by intro _; rfl) :
    PE X (.SetComp elt [⟨tg, iter, ifs, 0⟩] scope pos) (tScI X.w wi g tt te (own.map (·.2))) := by
  refine ⟨fun pins s σ H Q I h => ?_⟩
  rw [eval_SetComp]
  refine scI_core hc hN I hi ok hg ht he hs h fun D C s' m H' I' q hn f => ⟨m, hn, fun h'' sb => ⟨.ref D, H', ?_, rfl, q⟩⟩
  exact I'.turned (t' := s'.toks) (fun b o hb e => (sb.2 b hb).trans e) f.1 f.2.1 f.2.2.2.1 f.2.2.2.2.1 f.2.2.2.2.2
/-- over a tuple that stands still -/
theorem scI_tup {w : World} {K : PySem.W.Frag} {a : Addr} {xs : List V} {g : TG} {tt : TT} {te : TE} {vs : List Nat} {σ : L2.St} {H1 : Hp} {D : Addr} {Qd : Hp → Prop} (Pv : Nat → Hp → Prop) (h0 : Pv 0 (upd H1 D (SetO w D (fun _ => false) 0)))
    (hl : ∀ i H, i ≤ xs.length → Pv i H → SqT K H a xs)
    (hs : ∀ i x H, xs[i]? = some x → Pv i H → g x (wipe σ vs) H fun σ2 H2 => wipe σ2 vs = wipe σ vs ∧ tt σ2 H2 fun b H3 => if b = true then te σ2 H3 fun y H4 =>
      ∃ (c : Int) (S : Int → Bool) (n : Nat), y = .int c ∧ H4 D = some (SetO w D S n) ∧ n + 1 < scanBound ∧ Pv (i + 1) (upd H4 D (SetO w D (fun j => S j || decide (j = c)) (if S c = true then n else n + 1))) else Pv (i + 1) H3)
    (hd : ∀ H, Pv xs.length H → Qd H) : ∃ W : Nat → Nat → Hp → Prop, (∃ m, W 0 m (upd H1 D (SetO w D (fun _ => false) 0))) ∧ ∀ i m H, W i m H → ((Itt K a).stop i H ∧ Qd H) ∨
      ((Itt K a).go i H ∧ ∃ Nx : Hp → Prop, (∀ H', Nx H' → ∃ m', m' < m ∧ W (i + 1) m' H') ∧ ∀ x H', (Itt K a).yld i H x H' → g x (wipe σ vs) H' fun σ2 H2 => wipe σ2 vs = wipe σ vs ∧ tt σ2 H2 fun b H3 =>
        if b = true then te σ2 H3 fun y H4 => ∃ (c : Int) (S : Int → Bool) (n : Nat), y = .int c ∧ H4 D = some (SetO w D S n) ∧ n + 1 < scanBound ∧ Nx (upd H4 D (SetO w D (fun j => S j || decide (j = c)) (if S c = true then n else n + 1))) else Nx H3) := by
  refine ⟨fun i m H => m = xs.length - i ∧ i ≤ xs.length ∧ Pv i H, ⟨_, rfl, Nat.zero_le _, h0⟩, ?_⟩
  rintro i _ H ⟨rfl, hi, p⟩
  by_cases lt : i < xs.length
  · refine .inr ⟨⟨xs, xs[i], hl i H hi p, by simp [lt]⟩, Pv (i + 1), fun H' p' => ⟨xs.length - (i + 1), by omega, rfl, lt, p'⟩, fun x H' ⟨e, y⟩ => ?_⟩
    subst e
    exact hs i x _ (y xs (hl i _ hi p)) p
  · obtain rfl : i = xs.length := by omega
    exact .inl ⟨⟨xs, hl _ H hi p, Nat.le_refl _⟩, hd H p⟩

end R
namespace R
open PySem PySem.Spec PyProof.Rows L2
/-! ## a set of tuples of ints, one added -/
theorem check_set_add {P : Program} {w : World} {A : Around} {s : Shared} {a : Addr} {o : Obj} {x : Value} (ga : s.heap.get? a = some o) (hc : o.cls = .type "set") (Q : Unit → Shared → Prop) (E : Value → Shared → Prop) (q : Q () s) :
    wpAny (model P w) A (checkBuiltinCall "set.add" { pos := [.ref a, x] }) Q E s := by
  have iv : PySem.W.Looks (model P w) s.heap (isInstance (.ref a) (.type "set")) true := (PySem.W.Looks.andThen ((PySem.W.Looks.ld ga).andThen .now) (PySem.W.Looks.of_pure (by rw [hc]; exact PySem.F.sub_set_set)))
  have bk : builtinKind "set.add" = some Manifest.AttrKind.method := by decide +kernel
  have bs : splitId "set.add" = some ("set", "add") := by decide +kernel
  have ao := PySem.F.args_set_add_2 (.ref a) x
  unfold argsOk at ao
  unfold checkBuiltinCall
  simp only [bk, bs]
  refine wpAny_bind (iv A _ _ s (fun b o e => e) ?_)
  simp only [Bool.not_true, Bool.false_eq_true, if_false]
  cases hs : Manifest.signature? "set.add" with
  | none => exact wpAny_pure q
  | some sig =>
    rw [hs] at ao
    have ao' : Bind.checkArgs "set.add" sig { pos := [.ref a, x] } = pure () := ao
    show wpAny (model P w) A (Bind.checkArgs "set.add" sig { pos := [.ref a, x] }) _ _ _
    rw [ao']
    exact wpAny_pure q
theorem addT_call {P : Program} {w : World} {A : Around} {E : Value → Shared → Prop} {s : Shared} {a : Addr} {L : List (Addr × List Int)} {es : Array (Int × Value)} {ep : Nat} {t : SetTable} {x : Addr} {k : List Int} {Q : Value → Shared → Prop}
    (R : SetTR P w s.heap a L es ep t) (hx : IsT P w s.heap k x) (hu : A.in1.units < cLine) (few : L.length + 1 < 64)
    (h : ∀ (h' : Heap) (tk : Nat) (L' : List (Addr × List Int)) (es' : Array (Int × Value)) (ep' : Nat) (t' : SetTable), Heap.SameBut a s.heap h' → SetTR P w h' a L' es' ep' t' → (k ∈ L.map (·.2) → L' = L) → (k ∉ L.map (·.2) → L'.Perm ((x, k) :: L)) →
      Q .none { heap := h', gens := s.gens, drawn := s.drawn, toks := tk, os := s.os }) :
    wpAny (model P w) A (call (.builtin "set.add") [.ref a, .ref x]) Q E s := by
  obtain ⟨o, ga, ex, eo⟩ := R.ob
  refine wpAny_call (codeAny_call_builtin (by decide +kernel) PySem.F.entry_set_add (check_set_add ga ex.1 _ _ ?_))
  unfold Builtin.«set.add» Builtin.Frozenset.oneOther Builtin.Frozenset.addrOf setAdd
  simp only [List.isEmpty_nil]
  refine wpAny_bind (wpAny_bind (wpAny_pure (wpAny_pure ?_)))
  refine wpAny_bind (wpAny_holding (wpAny_bind (wpAny_pyHash_tuple hu hx ?_)))
  refine add_at (s := { s with toks := s.toks + (k.length + 1) }) R hx hu few fun b h' L' es' ep' t' sb R' m1 m2 => ?_
  exact wpAny_pure (h h' _ L' es' ep' t' sb R' m1 m2)
theorem under_cl (A : Around) (elt : Expr) (gs : List Comprehension) (scope : Scope) (pos : Pos) (d : Nat) (it acc : Value) (env : Env) : A.under (Code.compLoop (.SetComp elt gs scope pos) d it acc env) = A := by
  cases A
  rfl
theorem under_cs (A : Around) (elt : Expr) (gs : List Comprehension) (scope : Scope) (pos : Pos) (d : Nat) (it acc : Value) (env : Env) : A.under (Code.compStart (.SetComp elt gs scope pos) d it acc env) = A := by
  cases A
  rfl
theorem clTurn {prog : Program} {w : World} {A : Around} {R : Result → Shared → Prop} {s : Shared} {elt : Expr} {gs : List Comprehension} {scope : Scope} {pos : Pos} {it acc : Value} {env : Env} {d : Nat}
    (h : wpAny (model prog w) A (compTurn (.SetComp elt gs scope pos) d it acc env) (fun fin s' => match fin with
      | Fin.done f => R (Except.ok f) s'
      | Fin.again c' => c'.quiet = true ∧ codeAny (model prog w) A c' R s') (notedBy (model prog w) A env fun x s' => R (Except.error x) s') s) : codeAny (model prog w) A (Code.compLoop (.SetComp elt gs scope pos) d it acc env) R s := by
  refine codeAny_of_tree ?_
  rw [under_cl]
  exact wpAny_noted h
theorem clTurn1 {prog : Program} {w : World} {A : Around} {R : Result → Shared → Prop} {s : Shared} {elt t0 i0 t1 i1 : Expr} {ifs0 ifs1 : List Expr} {scope : Scope} {pos : Pos} {it acc : Value} {env : Env}
    (h : wpAny (model prog w) A (pyNext it) (fun r s₁ => match r with
      | none => R (Except.ok Flow.next) s₁
      | some v => wpAny (model prog w) A (letOwnedTupleGo t1 it v) (fun x s₁' => wpAny (model prog w) A (assign t1 env v) (fun x s₂ =>
          wpAny (model prog w) A (forIn ifs1 true fun c r => if r = true then do
              let ok ← PySem.isTrue c env (eval c env)
              pure (ForInStep.yield ok)
            else pure (ForInStep.yield r)) (fun ok s₃ => if ok = true then wpAny (model prog w) A (eval elt env) (fun x s₄ => wpAny (model prog w) A (call (Value.builtin "set.add") [acc, x])
                  (fun x s₅ => codeAny (model prog w) A (Code.compLoop (.SetComp elt [⟨t0, i0, ifs0, 0⟩, ⟨t1, i1, ifs1, 0⟩] scope pos) 1 it acc env) R s₅)
                  (notedBy (model prog w) A env fun e s' => R (Except.error e) s') s₄) (notedBy (model prog w) A env fun e s' => R (Except.error e) s') s₃
              else codeAny (model prog w) A (Code.compLoop (.SetComp elt [⟨t0, i0, ifs0, 0⟩, ⟨t1, i1, ifs1, 0⟩] scope pos) 1 it acc env) R s₃)
            (notedBy (model prog w) A env fun e s' => R (Except.error e) s') s₂) (notedBy (model prog w) A env fun e s' => R (Except.error e) s') s₁') (notedBy (model prog w) A env fun e s' => R (Except.error e) s') s₁)
      (notedBy (model prog w) A env fun e s' => R (Except.error e) s') s) :
    codeAny (model prog w) A (Code.compLoop (.SetComp elt [⟨t0, i0, ifs0, 0⟩, ⟨t1, i1, ifs1, 0⟩] scope pos) 1 it acc env) R s := by
  refine clTurn ?_
  unfold compTurn
  refine wpAny_bind (wpAny_standAt ?_)
  refine wpAny_bind (thn h ?_)
  rintro r s1 hr
  cases r with
  | none => exact wpAny_pure hr
  | some v =>
    refine wpAny_bind (thn hr fun _ s2 h2 => ?_)
    refine wpAny_bind (thn h2 fun _ s3 h3 => ?_)
    refine wpAny_bind (thn h3 fun ok s4 h4 => ?_)
    cases ok with
    | false =>
      rw [if_neg Bool.false_ne_true] at h4
      exact wpAny_pure ⟨rfl, h4⟩
    | true =>
      rw [if_pos rfl] at h4
      refine wpAny_bind (wpAny_bind (thn h4 fun x s5 h5 => ?_))
      refine wpAny_bind (wpAny_standAt (wpAny_bind (thn h5 fun _ s6 h6 => wpAny_pure ?_)))
      exact wpAny_pure ⟨rfl, h6⟩
theorem markNone (A : Around) : A.mark none = A := by
  cases A
  rfl
theorem clTurn0 {prog : Program} {w : World} {A : Around} {R : Result → Shared → Prop} {s : Shared} {elt t0 i0 t1 i1 : Expr} {ifs0 ifs1 : List Expr} {scope : Scope} {pos : Pos} {it acc : Value} {env : Env} (hs : ∀ x, foldedSetIterable i1 env x = pure x)
    (h : wpAny (model prog w) A (pyNext it) (fun r s₁ => match r with
      | none => R (Except.ok Flow.next) s₁
      | some v => wpAny (model prog w) A (letOwnedTupleGo t0 it v) (fun _ s₁' => wpAny (model prog w) A (assign t0 env v) (fun _ s₂ =>
          wpAny (model prog w) A (forIn ifs0 true fun c r => if r = true then do
              let ok ← PySem.isTrue c env (eval c env)
              pure (ForInStep.yield ok)
            else pure (ForInStep.yield r)) (fun ok s₃ => if ok = true then wpAny (model prog w) A (eval i1 env) (fun x s₄ => wpAny (model prog w) A (pyIter x)
                  (fun it1 s₅ => codeAny (model prog w) A (Code.compStart (.SetComp elt [⟨t0, i0, ifs0, 0⟩, ⟨t1, i1, ifs1, 0⟩] scope pos) 1 it1 acc env) (fun r s' => match r with
                    | Except.ok _ => codeAny (model prog w) A (Code.compLoop (.SetComp elt [⟨t0, i0, ifs0, 0⟩, ⟨t1, i1, ifs1, 0⟩] scope pos) 0 it acc env) R s'
                    | Except.error _ => False) s₅)
                  (notedBy (model prog w) A env fun e s' => R (Except.error e) s') s₄) (notedBy (model prog w) A env fun e s' => R (Except.error e) s') s₃
              else codeAny (model prog w) A (Code.compLoop (.SetComp elt [⟨t0, i0, ifs0, 0⟩, ⟨t1, i1, ifs1, 0⟩] scope pos) 0 it acc env) R s₃)
            (notedBy (model prog w) A env fun e s' => R (Except.error e) s') s₂) (notedBy (model prog w) A env fun e s' => R (Except.error e) s') s₁') (notedBy (model prog w) A env fun e s' => R (Except.error e) s') s₁)
      (notedBy (model prog w) A env fun e s' => R (Except.error e) s') s) :
    codeAny (model prog w) A (Code.compLoop (.SetComp elt [⟨t0, i0, ifs0, 0⟩, ⟨t1, i1, ifs1, 0⟩] scope pos) 0 it acc env) R s := by
  refine clTurn ?_
  unfold compTurn
  refine wpAny_bind (wpAny_standAt ?_)
  refine wpAny_bind (thn h ?_)
  rintro r s1 hr
  cases r with
  | none => exact wpAny_pure hr
  | some v =>
    refine wpAny_bind (thn hr fun _ s2 h2 => ?_)
    refine wpAny_bind (thn h2 fun _ s3 h3 => ?_)
    refine wpAny_bind (thn h3 fun ok s4 h4 => ?_)
    cases ok with
    | false =>
      rw [if_neg Bool.false_ne_true] at h4
      exact wpAny_pure ⟨rfl, h4⟩
    | true =>
      rw [if_pos rfl] at h4
      refine wpAny_bind (thn h4 fun x s5 h5 => ?_)
      refine wpAny_bind (wpAny_standAt ?_)
      refine wpAny_bind ?_
      show wpAny (model prog w) A (foldedSetIterable i1 env x) _ _ _
      rw [hs x]
      refine wpAny_pure (wpAny_bind (wpAny_holding (thn h5 fun it1 s6 h6 => ?_)))
      refine wpAny_bind (wpAny_runOwn (h := none) ?_ (by intro z; cases z))
      rw [markNone]
      refine codeAny_mono h6 fun r s7 h7 => ?_
      cases r with
      | error e => exact h7.elim
      | ok fl => exact wpAny_pure ⟨rfl, h7⟩
theorem csStart1 {prog : Program} {w : World} {A : Around} {R : Result → Shared → Prop} {s : Shared} {elt t0 i0 t1 i1 : Expr} {ifs0 ifs1 : List Expr} {scope : Scope} {pos : Pos} {it acc : Value} {env : Env}
    (h : codeAny (model prog w) A (Code.compLoop (.SetComp elt [⟨t0, i0, ifs0, 0⟩, ⟨t1, i1, ifs1, 0⟩] scope pos) 1 it acc env) R s)
    (h2 : wpAny (model prog w) A (pyIter it) (fun it' s' => codeAny (model prog w) A (Code.compLoop (.SetComp elt [⟨t0, i0, ifs0, 0⟩, ⟨t1, i1, ifs1, 0⟩] scope pos) 1 it' acc env) R s') (notedBy (model prog w) A env fun x s' => R (Except.error x) s') s) :
    codeAny (model prog w) A (Code.compStart (.SetComp elt [⟨t0, i0, ifs0, 0⟩, ⟨t1, i1, ifs1, 0⟩] scope pos) 1 it acc env) R s := by
  refine codeAny_of_tree ?_
  rw [under_cs]
  refine wpAny_notedAt ?_
  unfold compStart
  rw [if_neg (show ¬ ((clausesOf (.SetComp elt [⟨t0, i0, ifs0, 0⟩, ⟨t1, i1, ifs1, 0⟩] scope pos))[1]?.elim false fun x => x.is_async != 0) = true from fun z => by
    have z' : ((0 : Int) != 0) = true := z
    exact absurd z' (by decide))]
  refine wpAny_bind (wpAny_askSetting ?_)
  split
  · exact wpAny_pure ⟨rfl, h⟩
  · refine wpAny_bind (wpAny_rule ?_)
    refine wpAny_bind (wpAny_standAt ?_)
    exact wpAny_bind (thn h2 fun it' s' h' => wpAny_pure ⟨rfl, h'⟩)
/-- such a set in a state -/
theorem setTR_of {X : Cx} {pins : List (Addr × Obj)} {σ : L2.St} {H : Hp} {s : Shared} {D : Addr} {L : List (Addr × List Int)} (I : Inv X pins σ H s) (hD : H D = some (SetTO X.prog X.w D L)) (tl : ∀ p ∈ L, SqT X.K H p.1 (p.2.map V.int)) :
    ∃ es ep t, SetTR X.prog X.w s.heap D L es ep t := by
  have z : SetT0 X.prog X.w s.heap D L := by
    have z := I.hok _ _ hD
    unfold SetTO at z
    rw [ObjOk] at z
    first | exact z | exact z.1 | exact z.2
  obtain ⟨es, ep, t, o, r, tb, nd, pl, led, room, few⟩ := z.ex
  exact ⟨es, ep, t, o, r, tb, nd, fun p hp => I.isT (tl p hp), pl, led, room, few⟩
theorem addT_ok {X : Cx} {pins : List (Addr × Obj)} {σ : L2.St} {H : Hp} {s : Shared} {E : Value → Shared → Prop} {D c : Addr} {L : List (Addr × List Int)} {k : List Int} {Q : Value → Shared → Prop} (I : Inv X pins σ H s) (hD : H D = some (SetTO X.prog X.w D L))
    (tl : ∀ p ∈ L, SqT X.K H p.1 (p.2.map V.int)) (tc : SqT X.K H c (k.map V.int)) (hu : X.A.in1.in1.units < cLine) (few : L.length + 1 < 64)
    (h : ∀ s' L', (k ∈ L.map (·.2) → L' = L) → (k ∉ L.map (·.2) → L'.Perm ((c, k) :: L)) → Inv X pins σ (upd H D (SetTO X.prog X.w D L')) s' → Q .none s') :
    wpAny (model X.prog X.w) X.A (call (.builtin "set.add") [.ref D, .ref c]) Q E s := by
  obtain ⟨es, ep, t, R⟩ := setTR_of I hD tl
  refine addT_call R (I.isT tc) (Nat.lt_of_succ_lt hu) few fun h' tk L' es' ep' t' sb R' m1 m2 => h _ L' m1 m2 ?_
  obtain ⟨o, ho, _⟩ := R'.ob
  exact I.write (e := D) (t' := tk) (by rw [hD]; trivial) (.inl rfl) (fun b u hb hu => (sb.2 b hb).trans hu) ⟨o, ho⟩ (setTO_new R'.t0)
theorem wipe_keep {i : Nat} {v : V} : ∀ {vs : List Nat} {σ : L2.St}, σ[i]? = some (some v) → i ∉ vs → (wipe σ vs)[i]? = some (some v)
  | [], _, h, _ => h
  | j :: vs, σ, h, n => by
    have ne : j ≠ i := fun z => n (z ▸ List.mem_cons_self)
    show ((wipe σ vs).set j none)[i]? = some (some v)
    rw [List.getElem?_set_ne ne]
    exact wipe_keep h fun z => n (List.mem_cons_of_mem _ z)
/-- D the new set; W by the turn and a measure; within a turn W1 -/
def tScT2 (P : Program) (w : World) (K : PySem.W.Frag) (wi : TI) (g : TG) (tt : TT) (wi1 : TI) (g1 : TG) (tt1 : TT) (te : TE) (vs vs1 : List Nat) : TE := fun σ H Q => wi σ H fun J H1 => ∀ D, H1 D = none →
  ∃ W : Nat → Nat → Hp → Prop, (∃ m, W 0 m (upd H1 D (SetTO P w D []))) ∧ ∀ i m H, W i m H → (J.stop i H ∧ Q (.ref D) H) ∨
    (J.go i H ∧ ∃ Nx : Hp → Prop, (∀ H', Nx H' → ∃ m', m' < m ∧ W (i + 1) m' H') ∧ ∀ x H', J.yld i H x H' → g x (wipe σ vs) H' fun σ2 H2 => wipe σ2 vs = wipe σ vs ∧ tt σ2 H2 fun b H3 =>
      if b = true then wi1 σ2 H3 fun J1 H4 => ∃ W1 : Nat → Nat → Hp → Prop, (∃ m, W1 0 m H4) ∧ ∀ j k H, W1 j k H → (J1.stop j H ∧ Nx H) ∨
        (J1.go j H ∧ ∃ Nx1 : Hp → Prop, (∀ H', Nx1 H' → ∃ k', k' < k ∧ W1 (j + 1) k' H') ∧ ∀ x H', J1.yld j H x H' → g1 x (wipe σ2 vs1) H' fun σ3 H5 => wipe σ3 vs1 = wipe σ2 vs1 ∧ tt1 σ3 H5 fun b H6 =>
          if b = true then te σ3 H6 fun y H7 => ∃ (c : Addr) (k : List Int) (L : List (Addr × List Int)), y = .ref c ∧ SqT K H7 c (k.map V.int) ∧ H7 D = some (SetTO P w D L) ∧ (∀ p ∈ L, SqT K H7 p.1 (p.2.map V.int)) ∧ L.length + 1 < 64 ∧
            ∀ L', (k ∈ L.map (·.2) → L' = L) → (k ∉ L.map (·.2) → L'.Perm ((c, k) :: L)) → Nx1 (upd H7 D (SetTO P w D L')) else Nx1 H6) else Nx H3)
open PpSet in
set_option maxHeartbeats 8000000 in
theorem sc2_core {X : Cx} {pins : List (Addr × Obj)} {s : Shared} {σ : L2.St} {H : Hp} {Q : VK} {elt tg iter tg1 iter1 : Expr} {ifs ifs1 : List Expr} {scope : Scope} {own : List (PySem.Str × Nat)} {vs1 : List Nat} {pos pos' : Pos} {wi wi1 : TI} {g g1 : TG} {tt tt1 : TT} {te : TE}
    {use : Option (Value → Sem Unit)} {Qf : Value → Shared → Prop} (hc : X.calm = true) (hu : X.A.in1.in1.units < cLine) (hN : X.N.Nodup) (I : Inv X pins σ H s) (hi : PI X tg iter wi) (ok : BlkOk X.N X.env.scope scope own) (sub : ∀ i ∈ vs1, i ∈ own.map (·.2))
    (hg : ∀ (s : Shared) (H : Hp) (C : Addr) (cl : List (PySem.Str × Addr)) (fp : List Addr), PG (X.blk s H scope (compEnvC scope cl C X.env) fp) tg g)
    (ht : ∀ (s : Shared) (H : Hp) (C : Addr) (cl : List (PySem.Str × Addr)) (fp : List Addr), PTs (X.blk s H scope (compEnvC scope cl C X.env) fp) ifs tt)
    (hi1 : ∀ (s : Shared) (H : Hp) (C : Addr) (cl : List (PySem.Str × Addr)) (fp : List Addr), PI (X.blk s H scope (compEnvC scope cl C X.env) fp) tg1 iter1 wi1)
    (hg1 : ∀ (s : Shared) (H : Hp) (C : Addr) (cl : List (PySem.Str × Addr)) (fp : List Addr), PG (X.blk s H scope (compEnvC scope cl C X.env) fp) tg1 g1)
    (ht1 : ∀ (s : Shared) (H : Hp) (C : Addr) (cl : List (PySem.Str × Addr)) (fp : List Addr), PTs (X.blk s H scope (compEnvC scope cl C X.env) fp) ifs1 tt1)
    (he : ∀ (s : Shared) (H : Hp) (C : Addr) (cl : List (PySem.Str × Addr)) (fp : List Addr), PE (X.blk s H scope (compEnvC scope cl C X.env) fp) elt te) (hs : ∀ x, foldedSetIterable iter X.env x = pure x) (hs1 : ∀ env x, foldedSetIterable iter1 env x = pure x)
    (h : tScT2 X.prog X.w X.K wi g tt wi1 g1 tt1 te (own.map (·.2)) vs1 σ H Q)
    (last : ∀ D C s' m H', Inv X pins σ H' s' → Q (.ref D) H' → s'.heap.Ns C m → FpOk X pins H' C → compPost (model X.prog X.w) X.A X.xe use Qf (.ref D) C (.ok .next) s') :
    wpAny (model X.prog X.w) X.A (comprehension (.SetComp elt [⟨tg, iter, ifs, 0⟩, ⟨tg1, iter1, ifs1, 0⟩] scope pos) scope X.env pos' (newSet (.type "set")) false (eval iter X.env) use) Qf X.xe s := by
  have cap : ∀ y ∈ scope.names, y.2 = .free → ∃ c, X.env.cells.lookup y.1 = some c := fun y hy e => I.ok.has _ (ok.free y hy e)
  refine wpAny_comprehension_free (use := use) rfl hs (closure_ok cap) ok.kind (fun y hy e => by rw [ok.uniq y hy, e]) (thn (hi.run pins s σ H _ I h) fun xv s1 hx => thn hx fun itv s2 h2 => ?_)
  obtain ⟨it, fp, tn, J, H2, e, I2, T, st2, f2, q⟩ := h2
  subst e
  refine newSet_ok (newEnv_comp ?_)
  generalize hD : s2.heap.objs.size = D
  have fresh := I2.hok.fresh (Nat.le_of_eq hD)
  obtain ⟨W, ⟨m0, w0⟩, turn⟩ := q D fresh
  generalize hs3 : ({ s2 with heap := s2.heap.push (noSet X.w) } : Shared) = s3
  have h3 : s3.heap = s2.heap.push (noSet X.w) := hs3 ▸ rfl
  have I3 : Inv X pins σ (upd H2 D (SetTO X.prog X.w D [])) s3 := by
    rw [← hs3]
    refine I2.laid (t' := s2.toks) (fun b o e => Heap.get?_push_of_some _ e) (Nat.le_of_eq hD) ?_
    subst hD
    exact setTO_new (setTR_fresh (Heap.get?_push_size _ rfl)).t0
  have old : ∀ b ∈ fp, b < s2.heap.objs.size := fun b hb => let ⟨_, e, _⟩ := T.obj _ _ st2 b hb; Heap.lt_size e
  have f3 : ∀ b ∈ fp, FpOk X pins (upd H2 D (SetTO X.prog X.w D [])) b ∧ b < s3.heap.objs.size := fun b hb => by
    have lt := old b hb
    refine ⟨⟨?_, (f2 b hb).2⟩, h3 ▸ (by rw [Heap.size_push]; exact Nat.lt_succ_of_lt lt)⟩
    rw [upd_ne (hD ▸ Nat.ne_of_lt lt)]
    exact (f2 b hb).1
  have st3 : tn 0 s3.heap := T.keep _ _ _ st2 fun b _ o e => h3 ▸ Heap.get?_push_of_some _ e
  have I4 := block_start I3 ok hN f3
  have pg := hg s3 (upd H2 D (SetTO X.prog X.w D [])) s3.heap.objs.size (cellsFrom (s3.heap.objs.size + 1) scope.names (cloFrom X.env.cells scope.names [])) fp
  have pt := ht s3 (upd H2 D (SetTO X.prog X.w D [])) s3.heap.objs.size (cellsFrom (s3.heap.objs.size + 1) scope.names (cloFrom X.env.cells scope.names [])) fp
  have pi1 := hi1 s3 (upd H2 D (SetTO X.prog X.w D [])) s3.heap.objs.size (cellsFrom (s3.heap.objs.size + 1) scope.names (cloFrom X.env.cells scope.names [])) fp
  have pg1 := hg1 s3 (upd H2 D (SetTO X.prog X.w D [])) s3.heap.objs.size (cellsFrom (s3.heap.objs.size + 1) scope.names (cloFrom X.env.cells scope.names [])) fp
  have pt1 := ht1 s3 (upd H2 D (SetTO X.prog X.w D [])) s3.heap.objs.size (cellsFrom (s3.heap.objs.size + 1) scope.names (cloFrom X.env.cells scope.names [])) fp
  have pe := he s3 (upd H2 D (SetTO X.prog X.w D [])) s3.heap.objs.size (cellsFrom (s3.heap.objs.size + 1) scope.names (cloFrom X.env.cells scope.names [])) fp
  show codeAny _ _ (.compStart (.SetComp elt [⟨tg, iter, ifs, 0⟩, ⟨tg1, iter1, ifs1, 0⟩] scope pos) 0 (.ref it) (.ref D) (compEnvC scope (cellsFrom (s3.heap.objs.size + 1) scope.names (cloFrom X.env.cells scope.names [])) s3.heap.objs.size X.env))
    (compPost (model X.prog X.w) X.A X.xe use Qf (.ref D) s3.heap.objs.size) { s3 with heap := pushCells (s3.heap.push { cls := .type "dict", data := .dict #[] }) scope.names }
  have none3 : ∀ b ∈ fp, (upd H2 D (SetTO X.prog X.w D [])) b = none := fun b hb => (f3 b hb).1.1
  generalize hce : compEnvC scope (cellsFrom (s3.heap.objs.size + 1) scope.names (cloFrom X.env.cells scope.names [])) s3.heap.objs.size X.env = ce at I4 pg pt pi1 pg1 pt1 pe ⊢
  have cL : ce.locals = s3.heap.objs.size := hce ▸ rfl
  generalize hH3 : upd H2 D (SetTO X.prog X.w D []) = H3 at I3 I4 pg pt pi1 pg1 pt1 pe w0 none3 f3
  generalize hs4 : ({ s3 with heap := pushCells (s3.heap.push { cls := .type "dict", data := .dict #[] }) scope.names } : Shared) = s4 at I4 ⊢
  have st4 : tn 0 s4.heap := T.keep _ _ _ st3 fun b _ o e => hs4 ▸ pushCells_keeps _ _ _ _ (Heap.get?_push_of_some _ e)
  have still : ∀ {σ' : L2.St} {H' : Hp} {s' : Shared}, Inv (X.blk s3 H3 scope ce fp) [] σ' H' s' → (∀ b ∈ fp, H' b = none) → ∀ b ∈ fp, FpOk (X.blk s3 H3 scope ce fp) [] H' b := by
    intro σ' H' s' I' hn b hb
    obtain ⟨x1, x2⟩ := I'.ok.exf b hb
    exact ⟨hn b hb, x1, I'.ok.exfs b hb, .inl hb, x2, fun p hp => absurd (show p ∈ ([] : List (Addr × Obj)) ++ [] from hp) (by simp)⟩
  have loop : ∀ n s', (∃ i H', Inv (X.blk s3 H3 scope ce fp) [] (wipe σ (own.map (·.2))) H' s' ∧ tn i s'.heap ∧ (∀ b ∈ fp, H' b = none) ∧ W i n H') →
      codeAny (model X.prog X.w) X.A (.compLoop (.SetComp elt [⟨tg, iter, ifs, 0⟩, ⟨tg1, iter1, ifs1, 0⟩] scope pos) 0 (.ref it) (.ref D) ce) (compPost (model X.prog X.w) X.A X.xe use Qf (.ref D) s3.heap.objs.size) s' := by
    intro n
    induction n using Nat.strongRecOn with
    | _ n ih =>
    rintro s5 ⟨i, H5, I5, st5, n5, w5⟩
    refine clTurn0 (hs1 _) ?_
    rcases turn i n H5 w5 with ⟨stop, done⟩ | ⟨go, Nx, hNx, step⟩
    · refine thnF (T.done (X.blk s3 H3 scope ce fp) rfl rfl rfl hc i [] s5 _ H5 (fun _ _ => False) I5 (still I5 n5) st5 stop) fun r s6 ⟨hr, I6⟩ => ?_
      subst hr
      have I7 : Inv X pins σ H5 s6 := I3.call' (ch := fp) I6.os I6.base I6.hok I6.bare fun b hb => let z := (f3 b hb).1.2; ⟨z.2.2.1, z.1, z.2.2.2.1, z.2.2.2.2⟩
      have gone : H5 s3.heap.objs.size = none := cL ▸ (show H5 ce.locals = none from I6.free)
      obtain ⟨m, hm, _⟩ := I6.loc
      have hm' : s6.heap.Ns ce.locals m := hm
      rw [cL] at hm'
      exact last D s3.heap.objs.size s6 m H5 I7 done hm' (I3.fpOk (Nat.le_refl _) gone)
    · refine thnF (T.item (X.blk s3 H3 scope ce fp) rfl rfl rfl hc i [] s5 _ H5 (fun _ _ => False) I5 (still I5 n5) st5 go) fun r s6 ⟨u, hr, h6⟩ => ?_
      subst hr
      refine thnF h6 fun _ s7 ⟨x, H7, I7, r7, y7, st7, n7⟩ => ?_
      have I7' := I7.pinned (still I7 n7) (T.obj _ _ st7)
      refine thnF (pg.run _ s7 _ H7 x u _ I7' r7 (step x H7 y7)) fun _ s8 ⟨σ8, H8, I8, hw8, q8⟩ => ?_
      refine thnF (pt.run _ s8 σ8 H8 _ I8 q8) fun b s9 ⟨H9, I9, q9⟩ => ?_
      have fin : ∀ {s' : Shared} {σ' : L2.St} {H' : Hp}, Inv (X.blk s3 H3 scope ce fp) ([] ++ pinsAt fp s7.heap) σ' H' s' → σ'.length = σ8.length → (∀ (j : Nat) (v : V), (wipe σ (own.map (·.2)))[j]? = some (some v) → σ'[j]? = some (some v)) → Nx H' →
          ∃ m, m < n ∧ ∃ i H', Inv (X.blk s3 H3 scope ce fp) [] (wipe σ (own.map (·.2))) H' s' ∧ tn i s'.heap ∧ (∀ b ∈ fp, H' b = none) ∧ W i m H' := by
        intro s' σ' H' I' len' sm nx
        obtain ⟨m', hm, w'⟩ := hNx H' nx
        have pinned : ∀ b ∈ fp, ∀ o, s7.heap.get? b = some o → s'.heap.get? b = some o ∧ H' b = none := fun b hb o e => by
          have z := I'.pin (b, o) (List.mem_append_right _ (List.mem_append_right _ (mem_pinsAt hb e)))
          exact ⟨z.1, z.2.1⟩
        have len : (wipe σ (own.map (·.2))).length = σ'.length := by rw [len', ← hw8, wipe_length]
        refine ⟨m', hm, i + 1, H', (I'.unpinned (pins := [])).weak len sm, T.keep _ _ _ st7 fun b hb o e => (pinned b hb o e).1, fun b hb => ?_, w'⟩
        obtain ⟨o, e, _⟩ := T.obj _ _ st7 b hb
        exact (pinned b hb o e).2
      have sm8 : ∀ (j : Nat) (v : V), (wipe σ (own.map (·.2)))[j]? = some (some v) → σ8[j]? = some (some v) := fun j v e => (wipe_some (hw8 ▸ e)).1
      cases b with
      | false =>
        rw [if_neg Bool.false_ne_true] at q9 ⊢
        obtain ⟨m, hm, r⟩ := fin I9 rfl sm8 q9
        exact ih m hm _ r
      | true =>
        rw [if_pos rfl] at q9 ⊢
        refine thnF (pi1.run _ s9 σ8 H9 _ I9 q9) fun xv s10 hx => thnF hx fun itv s11 h11 => ?_
        obtain ⟨it1, fp1, tn1, J1, H11, e, I11, T1, st11, f11, W1, ⟨m1, w1⟩, turn1⟩ := h11
        subst e
        have still1 : ∀ {H' : Hp}, (∀ b ∈ fp1, H' b = none) → ∀ b ∈ fp1, FpOk (X.blk s3 H3 scope ce fp) ([] ++ pinsAt fp s7.heap) H' b := fun hn b hb => ⟨hn b hb, (f11 b hb).2⟩
        have wl : (wipe σ8 vs1).length = σ8.length := wipe_length _ _
        have smW : ∀ (j : Nat) (v : V), (wipe σ (own.map (·.2)))[j]? = some (some v) → (wipe σ8 vs1)[j]? = some (some v) := fun j v e => by
          obtain ⟨e1, no⟩ := wipe_some (show (wipe σ8 (own.map (·.2)))[j]? = some (some v) from hw8 ▸ e)
          exact wipe_keep e1 fun hj => no (sub j hj)
        have inner : ∀ k s', (∃ j H', Inv (X.blk s3 H3 scope ce fp) ([] ++ pinsAt fp s7.heap) (wipe σ8 vs1) H' s' ∧ tn1 j s'.heap ∧ (∀ b ∈ fp1, H' b = none) ∧ W1 j k H') →
            codeAny (model X.prog X.w) X.A (.compLoop (.SetComp elt [⟨tg, iter, ifs, 0⟩, ⟨tg1, iter1, ifs1, 0⟩] scope pos) 1 (.ref it1) (.ref D) ce) (fun r s' => match r with
              | Except.ok _ => codeAny (model X.prog X.w) X.A (.compLoop (.SetComp elt [⟨tg, iter, ifs, 0⟩, ⟨tg1, iter1, ifs1, 0⟩] scope pos) 0 (.ref it) (.ref D) ce) (compPost (model X.prog X.w) X.A X.xe use Qf (.ref D) s3.heap.objs.size) s'
              | Except.error _ => False) s' := by
          intro k
          induction k using Nat.strongRecOn with
          | _ k ih1 =>
          rintro s12 ⟨j, H12, I12, st12, n12, w12⟩
          refine clTurn1 ?_
          rcases turn1 j k H12 w12 with ⟨stop1, nx⟩ | ⟨go1, Nx1, hNx1, step1⟩
          · refine thnF (T1.done (X.blk s3 H3 scope ce fp) rfl rfl rfl hc j _ s12 _ H12 (fun _ _ => False) I12 (still1 n12) st12 stop1) fun r s13 ⟨hr, I13⟩ => ?_
            subst hr
            obtain ⟨m, hm, r⟩ := fin I13 wl smW nx
            exact ih m hm _ r
          · refine thnF (T1.item (X.blk s3 H3 scope ce fp) rfl rfl rfl hc j _ s12 _ H12 (fun _ _ => False) I12 (still1 n12) st12 go1) fun r s13 ⟨u1, hr, h13⟩ => ?_
            subst hr
            refine thnF h13 fun _ s14 ⟨x1, H14, I14, r14, y14, st14, n14⟩ => ?_
            have I14' := I14.pinned (still1 n14) (T1.obj _ _ st14)
            refine thnF (pg1.run _ s14 _ H14 x1 u1 _ I14' r14 (step1 x1 H14 y14)) fun _ s15 ⟨σ15, H15, I15, hw15, q15⟩ => ?_
            refine thnF (pt1.run _ s15 σ15 H15 _ I15 q15) fun b s16 ⟨H16, I16, q16⟩ => ?_
            have fin1 : ∀ {s' : Shared} {H' : Hp}, Inv (X.blk s3 H3 scope ce fp) (([] ++ pinsAt fp s7.heap) ++ pinsAt fp1 s14.heap) σ15 H' s' → Nx1 H' →
                ∃ m, m < k ∧ ∃ j H', Inv (X.blk s3 H3 scope ce fp) ([] ++ pinsAt fp s7.heap) (wipe σ8 vs1) H' s' ∧ tn1 j s'.heap ∧ (∀ b ∈ fp1, H' b = none) ∧ W1 j m H' := by
              intro s' H' I' nx
              obtain ⟨m', hm, w'⟩ := hNx1 H' nx
              have pinned : ∀ b ∈ fp1, ∀ o, s14.heap.get? b = some o → s'.heap.get? b = some o ∧ H' b = none := fun b hb o e => by
                have z := I'.pin (b, o) (List.mem_append_right _ (List.mem_append_right _ (mem_pinsAt hb e)))
                exact ⟨z.1, z.2.1⟩
              have len : (wipe σ8 vs1).length = σ15.length := by rw [← hw15, wipe_length]
              refine ⟨m', hm, j + 1, H', (I'.unpinned).weak len (fun j v e => (wipe_some (hw15 ▸ e)).1), T1.keep _ _ _ st14 fun b hb o e => (pinned b hb o e).1, fun b hb => ?_, w'⟩
              obtain ⟨o, e, _⟩ := T1.obj _ _ st14 b hb
              exact (pinned b hb o e).2
            cases b with
            | false =>
              rw [if_neg Bool.false_ne_true] at q16 ⊢
              obtain ⟨m, hm, r⟩ := fin1 I16 q16
              exact ih1 m hm _ r
            | true =>
              rw [if_pos rfl] at q16 ⊢
              refine thnF (pe.run _ s16 σ15 H16 _ I16 q16) fun z s17 ⟨yv, H17, I17, r17, c, kk, L, ey, tc, hD17, tl, few, nx⟩ => ?_
              subst ey
              obtain rfl : z = Value.ref c := r17
              refine addT_ok (X := X.blk s3 H3 scope ce fp) I17 hD17 tl tc hu few fun s18 L' m1 m2 I18 => ?_
              obtain ⟨m, hm, r⟩ := fin1 I18 (nx L' m1 m2)
              exact ih1 m hm _ r
        have start := inner m1 s11 ⟨0, H11, I11.weak wl (fun j v e => (wipe_some e).1), st11, fun b hb => (f11 b hb).1, w1⟩
        exact csStart1 start (T1.self X.A 0 _ _ _ st11 start)
  have first := loop m0 s4 ⟨0, H3, I4, st4, none3, w0⟩
  exact codeAny_compStart_set first (T.self X.A 0 _ _ _ st4 first)
open PpSet in
theorem pe_scT2 {X : Cx} {elt tg iter tg1 iter1 : Expr} {ifs ifs1 : List Expr} {scope : Scope} {own : List (PySem.Str × Nat)} {vs1 : List Nat} {pos : Pos} {wi wi1 : TI} {g g1 : TG} {tt tt1 : TT} {te : TE} (hc : X.calm = true) (hu : X.A.in1.in1.units < cLine) (hN : X.N.Nodup) (hi : PI X tg iter wi)
    (ok : BlkOk X.N X.env.scope scope own) (sub : ∀ i ∈ vs1, i ∈ own.map (·.2)) (hg : ∀ (s : Shared) (H : Hp) (C : Addr) (cl : List (PySem.Str × Addr)) (fp : List Addr), PG (X.blk s H scope (compEnvC scope cl C X.env) fp) tg g)
    (ht : ∀ (s : Shared) (H : Hp) (C : Addr) (cl : List (PySem.Str × Addr)) (fp : List Addr), PTs (X.blk s H scope (compEnvC scope cl C X.env) fp) ifs tt)
    (hi1 : ∀ (s : Shared) (H : Hp) (C : Addr) (cl : List (PySem.Str × Addr)) (fp : List Addr), PI (X.blk s H scope (compEnvC scope cl C X.env) fp) tg1 iter1 wi1)
    (hg1 : ∀ (s : Shared) (H : Hp) (C : Addr) (cl : List (PySem.Str × Addr)) (fp : List Addr), PG (X.blk s H scope (compEnvC scope cl C X.env) fp) tg1 g1)
    (ht1 : ∀ (s : Shared) (H : Hp) (C : Addr) (cl : List (PySem.Str × Addr)) (fp : List Addr), PTs (X.blk s H scope (compEnvC scope cl C X.env) fp) ifs1 tt1)
    (he : ∀ (s : Shared) (H : Hp) (C : Addr) (cl : List (PySem.Str × Addr)) (fp : List Addr), PE (X.blk s H scope (compEnvC scope cl C X.env) fp) elt te) (hs : ∀ x, foldedSetIterable iter X.env x = pure x := by intro _; rfl) (hs1 : ∀ env x, foldedSetIterable iter1 env x = pure x := by intro _ _; rfl) :
    PE X (.SetComp elt [⟨tg, iter, ifs, 0⟩, ⟨tg1, iter1, ifs1, 0⟩] scope pos) (tScT2 X.prog X.w X.K wi g tt wi1 g1 tt1 te (own.map (·.2)) vs1) := by
  refine ⟨fun pins s σ H Q I h => ?_⟩
  rw [eval_SetComp]
  refine sc2_core hc hu hN I hi ok sub hg ht hi1 hg1 ht1 he hs hs1 h fun D C s' m H' I' q hn f => ⟨m, hn, fun h'' sb => ⟨.ref D, H', ?_, rfl, q⟩⟩
  exact I'.turned (t' := s'.toks) (fun b o hb e => (sb.2 b hb).trans e) f.1 f.2.1 f.2.2.2.1 f.2.2.2.2.1 f.2.2.2.2.2

end R
namespace R
open PySem PySem.Spec PyProof.Rows L2
/-! ## lists of tuples of ints -/
/-- a list of tuples of ints -/
structure TupsAt (K : PySem.W.Frag) (H : Hp) (D : Addr) (LL : List (List Int)) : Prop where
  ex : ∃ ts : List Addr, H D = some (.lst (ts.map V.ref)) ∧ ts.length = LL.length ∧ ∀ (i : Nat) t l, ts[i]? = some t → LL[i]? = some l → SqT K H t (l.map V.int)
theorem TupsAt.stay {K : PySem.W.Frag} {H H' : Hp} {D : Addr} {LL : List (List Int)} (h : TupsAt K H D LL) (s : Same H H') : TupsAt K H' D LL :=
  let ⟨ts, e, n, f⟩ := h.ex
  ⟨ts, s _ _ e, n, fun i t l a b => Same.seqTT s (f i t l a b)⟩
theorem TupsAt.nil {K : PySem.W.Frag} {H : Hp} {D : Addr} (h : H D = some (.lst [])) : TupsAt K H D [] := ⟨[], h, rfl, fun i t l a _ => by simp at a⟩
theorem TupsAt.add {K : PySem.W.Frag} {H : Hp} {D t : Addr} {ts : List Addr} {LL : List (List Int)} {l : List Int} (e : H D = some (.lst (ts.map V.ref ++ [V.ref t]))) (n : ts.length = LL.length)
    (f : ∀ (i : Nat) t l, ts[i]? = some t → LL[i]? = some l → SqT K H t (l.map V.int)) (ht : SqT K H t (l.map V.int)) : TupsAt K H D (LL ++ [l]) := by
  refine ⟨ts ++ [t], by rw [e, List.map_append]; rfl, by rw [List.length_append, List.length_append, n]; rfl, fun i u k a b => ?_⟩
  by_cases h : i < ts.length
  · rw [List.getElem?_append_left h] at a
    rw [List.getElem?_append_left (by omega)] at b
    exact f i u k a b
  · rw [List.getElem?_append_right (by omega)] at a
    rw [List.getElem?_append_right (by omega), ← n] at b
    cases z : i - ts.length with
    | zero =>
      rw [z] at a b
      cases Option.some.inj a
      cases Option.some.inj b
      exact ht
    | succ j => rw [z] at a; simp at a
theorem dpTups {K : PySem.W.Frag} {H : Hp} : ∀ {ts : List Addr} {LL : List (List Int)}, ts.length = LL.length → (∀ (i : Nat) t l, ts[i]? = some t → LL[i]? = some l → SqT K H t (l.map V.int)) → DpAll K H (ts.map V.ref) (LL.map fun l => .tuple (l.map PyData.int))
  | [], [], _, _ => .nil
  | [], _ :: _, h, _ => by cases h
  | _ :: _, [], h, _ => by cases h
  | t :: ts, l :: LL, h, f => .cons (dpTup (f 0 t l rfl rfl)) (dpTups (Nat.succ.inj h) fun i u k a b => f (i + 1) u k a b)
theorem TupsAt.dp {K : PySem.W.Frag} {H : Hp} {D : Addr} {LL : List (List Int)} (h : TupsAt K H D LL) : Dp K H (.ref D) (.list (LL.map fun l => .tuple (l.map PyData.int))) := by
  obtain ⟨ts, e, n, f⟩ := h.ex
  exact .lst (lstOf e) (dpTups n f)
theorem okTups (LL : List (List Int)) : okD 2 (.list (LL.map fun l => .tuple (l.map PyData.int))) := okD.lst fun d hd => by
  obtain ⟨l, _, rfl⟩ := List.mem_map.mp hd
  exact okD.tup (okInts l)

end R
namespace R
open PySem PySem.Spec PyProof.Rows L2
/-! ## rows of moduli and what was seen -/
theorem TupsAt.push {K : PySem.W.Frag} {H : Hp} {D t : Addr} {LL : List (List Int)} {l : List Int} (h : TupsAt K H D LL) (ht : SqT K H t (l.map V.int)) :
    ∃ ts : List Addr, H D = some (.lst (ts.map V.ref)) ∧ ts.length = LL.length ∧ TupsAt K (upd H D (.lst (ts.map V.ref ++ [V.ref t]))) D (LL ++ [l]) := by
  obtain ⟨ts, e, n, f⟩ := h.ex
  have up := lstTups (K := K) (zs := ts.map V.ref ++ [V.ref t]) e
  exact ⟨ts, e, n, TupsAt.add upd_same n (fun i u k a b => up _ _ (f i u k a b)) (up _ _ ht)⟩
theorem tupsBut {K : PySem.W.Frag} {H H' : Hp} {g : Addr} {zs : List V} (e : H g = some (.lst zs)) (kp : ∀ b o, b ≠ g → H b = some o → H' b = some o) : TupsStay K H H' := fun a xs q => by
  rcases q with (q | ⟨o, q⟩) | q
  · exact .inl (.inl (kp _ _ (fun z => by rw [z, e] at q; cases q) q))
  · exact .inl (.inr ⟨o, kp _ _ (fun z => by rw [z, e] at q; cases q) q⟩)
  · exact .inr q
theorem takeFilter {α : Type} {p : α → Bool} {xs : List α} {j : Nat} {x : α} (h : xs[j]? = some x) : (xs.take (j + 1)).filter p = (xs.take j).filter p ++ (if p x = true then [x] else []) := by
  rw [takeSucc h, List.filter_append]
  by_cases e : p x = true
  · rw [if_pos e, List.filter_cons_of_pos e]
    rfl
  · rw [if_neg e, List.filter_cons_of_neg e]
    rfl
theorem okTupsS (LL : List (List Int)) : SeqAt.shaped (.list (LL.map fun l => PyData.tuple (l.map PyData.int))) = true := (okTups LL).shaped (by decide)
theorem eqvTupsNil (LL : List (List Int)) : PyData.eqv (.list (LL.map fun l => PyData.tuple (l.map PyData.int))) (.list []) = decide (LL = []) := by
  cases LL with
  | nil => rfl
  | cons a r =>
    rw [decide_eq_false (List.cons_ne_nil _ _)]
    show PyData.eqv (.list (_ :: _)) (.list []) = false
    rw [PyData.eqv, PyData.eqvAll] <;> first | rfl | simp
structure MOk (ms : List Int) : Prop where
  one : 1 ≤ ms.length
  four : ms.length ≤ 4
  mod : ∀ m ∈ ms, 1 ≤ m ∧ m ≤ 30
/-- the marks of a number -/
def marksL (ms : List Int) (x : Int) : List (List Int) := (List.range ms.length).map fun i => [((i : Nat) : Int), x % ms.getD i 1]
def marksTo (ms : List Int) (x : Int) (n : Nat) : List (List Int) := (List.range n).map fun i => [((i : Nat) : Int), x % ms.getD i 1]
theorem marksTo_succ (ms : List Int) (x : Int) (n : Nat) : marksTo ms x (n + 1) = marksTo ms x n ++ [[((n : Nat) : Int), x % ms.getD n 1]] := by
  unfold marksTo
  rw [List.range_succ, List.map_append]
  rfl
theorem marks_nodup (ms : List Int) (x : Int) : (marksL ms x).Nodup := by
  unfold marksL
  rw [List.nodup_iff_pairwise_ne, List.pairwise_map]
  refine List.pairwise_lt_range.imp fun {a b} h e => ?_
  have := (List.cons.inj e).1
  omega
theorem marks_two {ms : List Int} {x : Int} : ∀ z ∈ marksL ms x, ∃ (i : Nat) (r : Int), z = [(i : Int), r] ∧ i < ms.length ∧ r = x % ms.getD i 1 := fun z hz => by
  obtain ⟨i, hi, rfl⟩ := List.mem_map.mp hz
  exact ⟨i, _, rfl, List.mem_range.mp hi, rfl⟩
/-- what was seen -/
structure SeenAt (K : PySem.W.Frag) (H : Hp) (a : Addr) (sl : List (Int × Bool)) : Prop where
  ex : ∃ xs : List V, (H a = some (.lst xs) ∨ SqT K H a xs) ∧ xs.length = sl.length ∧ ∀ (i : Nat) x p, xs[i]? = some x → sl[i]? = some p → ∃ t, x = .ref t ∧ SqT K H t [.int p.1, .bl p.2]
theorem SeenAt.stay {K : PySem.W.Frag} {H H' : Hp} {a : Addr} {sl : List (Int × Bool)} (h : SeenAt K H a sl) (s : Same H H') : SeenAt K H' a sl :=
  let ⟨xs, e, n, f⟩ := h.ex
  ⟨xs, e.imp (fun q => s _ _ q) (fun q => Same.seqTT s q), n, fun i x p a b => let ⟨t, e, q⟩ := f i x p a b; ⟨t, e, Same.seqTT s q⟩⟩
def unfitTo (sl : List (Int × Bool)) (n : Nat) : Nat := ((sl.take n).filter fun p => !p.2).length
structure SOk (sl : List (Int × Bool)) : Prop where
  few : sl.length ≤ 20
  num : ∀ p ∈ sl, IsNum p.1
  unfit : ∀ n, unfitTo sl n ≤ 8
theorem unfit_succ {sl : List (Int × Bool)} {n : Nat} {p : Int × Bool} (h : sl[n]? = some p) : unfitTo sl (n + 1) = unfitTo sl n + (if p.2 = true then 0 else 1) := by
  unfold unfitTo
  rw [takeSucc h, List.filter_append, List.length_append]
  cases e : p.2 with
  | true =>
    rw [List.filter_cons_of_neg (by rw [e]; decide), if_pos rfl]
    rfl
  | false =>
    rw [List.filter_cons_of_pos (by rw [e]; rfl), if_neg Bool.false_ne_true]
    rfl
structure HeldIs (ms : List Int) (sl : List (Int × Bool)) (hl : List (List Int)) : Prop where
  nd : hl.Nodup
  mem : ∀ z, z ∈ hl ↔ ∃ p ∈ sl, p.2 = true ∧ z ∈ marksL ms p.1
/-- the marks of one that does not fit, the held ones left out -/
def leftOf (ms : List Int) (hl : List (List Int)) (x : Int) : List (List Int) := (marksL ms x).filter fun z => decide (z ∉ hl)
def unheldL (ms : List Int) (hl : List (List Int)) (sl : List (Int × Bool)) : List (List (List Int)) := (sl.filter fun p => !p.2).map fun p => leftOf ms hl p.1
/-- a list of lists of tuples -/
structure LLAt (K : PySem.W.Frag) (H : Hp) (D : Addr) (ul : List (List (List Int))) : Prop where
  ex : ∃ as_ : List Addr, H D = some (.lst (as_.map V.ref)) ∧ as_.length = ul.length ∧ ∀ (i : Nat) b u, as_[i]? = some b → ul[i]? = some u → TupsAt K H b u
theorem LLAt.stay {K : PySem.W.Frag} {H H' : Hp} {D : Addr} {ul : List (List (List Int))} (h : LLAt K H D ul) (s : Same H H') : LLAt K H' D ul :=
  let ⟨as_, e, n, f⟩ := h.ex
  ⟨as_, s _ _ e, n, fun i b u x y => (f i b u x y).stay s⟩
/-- the members of a set of tuples -/
structure Mem (K : PySem.W.Frag) (H : Hp) (L : List (Addr × List Int)) (S : List Int → Prop) : Prop where
  at_ : ∀ p ∈ L, SqT K H p.1 (p.2.map V.int)
  nd : (L.map (·.2)).Nodup
  mem : ∀ z, z ∈ L.map (·.2) ↔ S z
theorem Mem.nil {K : PySem.W.Frag} {H : Hp} : Mem K H [] fun _ => False := ⟨fun p h => (by cases h), List.nodup_nil, fun z => ⟨fun h => (by cases h), fun h => h.elim⟩⟩
theorem Mem.stay {K : PySem.W.Frag} {H H' : Hp} {L : List (Addr × List Int)} {S : List Int → Prop} (h : Mem K H L S) (t : TupsStay K H H') : Mem K H' L S := ⟨fun p hp => t _ _ (h.at_ p hp), h.nd, h.mem⟩
theorem Mem.add {K : PySem.W.Frag} {H : Hp} {L L' : List (Addr × List Int)} {S : List Int → Prop} {c : Addr} {k : List Int} (h : Mem K H L S) (tc : SqT K H c (k.map V.int)) (m1 : k ∈ L.map (·.2) → L' = L) (m2 : k ∉ L.map (·.2) → L'.Perm ((c, k) :: L)) : Mem K H L' fun z => S z ∨ z = k := by
  by_cases e : k ∈ L.map (·.2)
  · rw [m1 e]
    refine ⟨h.at_, h.nd, fun z => ⟨fun hz => .inl ((h.mem z).mp hz), fun hz => ?_⟩⟩
    rcases hz with hz | rfl
    · exact (h.mem z).mpr hz
    · exact e
  · have pm := m2 e
    refine ⟨fun p hp => ?_, (pm.map (·.2)).nodup_iff.mpr (List.nodup_cons.mpr ⟨e, h.nd⟩), fun z => ?_⟩
    · rcases List.mem_cons.mp (pm.mem_iff.mp hp) with rfl | hp
      · exact tc
      · exact h.at_ p hp
    · rw [(pm.map (·.2)).mem_iff, List.map_cons, List.mem_cons, h.mem]
      exact ⟨fun z => z.elim .inr .inl, fun z => z.elim .inr .inl⟩
theorem sub_len : ∀ {xs ys : List (List Int)}, xs.Nodup → (∀ x ∈ xs, x ∈ ys) → xs.length ≤ ys.length
  | [], _, _, _ => Nat.zero_le _
  | x :: xs, ys, nd, sub => by
    obtain ⟨n1, n2⟩ := List.nodup_cons.mp nd
    have m := sub x List.mem_cons_self
    have := sub_len (xs := xs) (ys := ys.erase x) n2 fun y hy => by
      exact (List.mem_erase_of_ne (fun e : y = x => n1 (by rw [← e]; exact hy))).mpr (sub y (List.mem_cons_of_mem _ hy))
    rw [List.length_erase_of_mem m] at this
    have : 0 < ys.length := List.length_pos_of_mem m
    rw [List.length_cons]
    omega
theorem Mem.congr {K : PySem.W.Frag} {H : Hp} {L : List (Addr × List Int)} {S S' : List Int → Prop} (h : Mem K H L S) (e : ∀ z, S z ↔ S' z) : Mem K H L S' := ⟨h.at_, h.nd, fun z => (h.mem z).trans (e z)⟩
theorem Mem.few {K : PySem.W.Frag} {H : Hp} {L : List (Addr × List Int)} {S : List Int → Prop} {U : List (List Int)} (h : Mem K H L S) (u : ∀ z, S z → z ∈ U) : L.length ≤ U.length := by
  have := sub_len h.nd (ys := U) fun z hz => u z ((h.mem z).mp hz)
  rw [List.length_map] at this
  exact this
def tD (l : List Int) : PyData := .tuple (l.map PyData.int)
theorem inTup (z : List Int) : ∀ hl : List (List Int), ((hl.map tD).any fun y => PyData.eqv y (tD z)) = decide (z ∈ hl)
  | [] => by simp
  | a :: hl => by
    rw [List.map_cons, List.any_cons, inTup z hl, show PyData.eqv (tD a) (tD z) = decide (a = z) from eqvIntsT a z, ← Bool.decide_or]
    exact decide_eq_decide.mpr (by rw [List.mem_cons]; exact or_congr_left ⟨fun e => e.symm, fun e => e.symm⟩)

end R
namespace R
open PySem PySem.Spec PyProof.Rows L2
/-! ## a walk over a list or a tuple -/
/-- a walk over a list or a tuple -/
def iEither (K : PySem.W.Frag) (te : TE) : TI := fun σ H R => te σ H fun x H1 => ∃ a, x = .ref a ∧ (((∃ xs, SqL K H1 a xs) ∧ R (Itl K a) H1) ∨ ((∃ xs, SqT K H1 a xs) ∧ R (Itt K a) H1))
theorem pi_either {X : Cx} {tg l : Expr} {tl : TE} (hl : PE X l tl) : PI X tg l (iEither X.K tl) := ⟨fun pins s σ H R I h => thn (hl.run pins s σ H _ I h) fun v s1 ⟨x, H1, I1, r1, a, e, q1⟩ => by
  subst e
  cases r1
  have new : ∀ b ∈ [s1.heap.objs.size], FpOk X pins H1 b := fun b hb => by
    rw [List.mem_singleton.mp hb]
    exact I1.fpOk (Nat.le_refl _) (I1.hok.fresh (Nat.le_refl _))
  rcases q1 with ⟨⟨xs, hq⟩, q⟩ | ⟨⟨xs, hq⟩, q⟩
  · obtain ⟨its, rv, pl, hz⟩ := I1.list hq
    exact wpAny_pyIter_list pl.isList ⟨_, _, _, _, _, rfl, I1.kept (t' := s1.toks) fun b o e => Heap.get?_push_of_some _ e, turn_list a _, ⟨_, Heap.get?_push_size _ rfl, rfl, rfl⟩, new, q⟩
  · obtain ⟨its, rv, pl, hz⟩ := I1.tuple hq
    exact wpAny_pyIter_tuple (show s1.heap.IsTuple a its.toArray from pl) ⟨_, _, _, _, _, rfl, I1.kept (t' := s1.toks) fun b o e => Heap.get?_push_of_some _ e, turn_tuple a _, ⟨_, Heap.get?_push_size _ rfl, rfl, rfl⟩, new, q⟩⟩

end R
namespace R
open PySem PySem.Spec PyProof.Rows L2
/-! ## checks of moduli and of what was seen, marks -/
/-- enumerate(xs) of a name that holds a list or a tuple -/
def iEnE (K : PySem.W.Frag) (i : Nat) : TI := fun σ H R => ∃ a, σ[i]? = some (some (.ref a)) ∧ (((∃ xs, SqL K H a xs) ∧ R (Ite K a) H) ∨ ((∃ xs, SqT K H a xs) ∧ R (IteT K a) H))
theorem pi_enumE {X : Cx} {e : Expr} {i : Nat} {p pos tpos : Pos} {elts : List Expr} {kk : Nat} (hg : Gl X "enumerate") (hm : X.mg "enumerate" = none) (ha : PA X [e] (tCons (tVar i) tNil))
    (hs : starEach [e] X.env = [(false, eval e X.env)] := by rfl) : PI X (.Tuple elts kk tpos) (.Call (.Name "enumerate" p) [e] [] pos) (iEnE X.K i) := by
  refine ⟨fun pins s σ H R I h => ?_⟩
  obtain ⟨a, hv, ⟨⟨xs, hq⟩, q⟩ | ⟨⟨xs, hq⟩, q⟩⟩ := h
  · exact (pi_enum hg hm ha hs).run pins s σ H R I ⟨_, hv, a, xs, rfl, hq, q⟩
  · exact (pi_enT hg hm ha hs).run pins s σ H R I ⟨_, hv, a, xs, rfl, hq, q⟩
theorem kit_ls {K : PySem.W.Frag} : PySem.W.kitAny K (.type "list") [.type "list", .type "tuple"] = some true := by
  unfold PySem.W.kitAny
  rw [kit_ty (r := true) (by decide +kernel)]
theorem kit_tp {K : PySem.W.Frag} : PySem.W.kitAny K (.type "tuple") [.type "list", .type "tuple"] = some true := by
  unfold PySem.W.kitAny
  rw [kit_ty (r := false) (by decide +kernel)]
  unfold PySem.W.kitAny
  rw [kit_ty (r := true) (by decide +kernel)]
/-! ### what is refused -/
/-- in K H: an integer that is no modulus, or something else -/
def OutI (K : PySem.W.Frag) (H : Hp) (lo hi : Int) (y : V) : Prop := kOdd K H y ∨ ∃ m : Int, y = .int m ∧ ¬ (lo ≤ m ∧ m ≤ hi)
theorem OutI.same {K : PySem.W.Frag} {H H' : Hp} {lo hi : Int} {y : V} (h : OutI K H lo hi y) (s : Same H H') : OutI K H' lo hi y := by
  rcases h with (h | ⟨t, h1, h2⟩) | h
  · exact .inl (.inl h)
  · exact .inl (.inr ⟨t, tySame h1 s, h2⟩)
  · exact .inr h
theorem NotTup.same {K : PySem.W.Frag} {H H' : Hp} {x : V} (h : NotTup K H x) (s : Same H H') : NotTup K H' x := let ⟨t, h1, h2⟩ := h; ⟨t, tySame h1 s, h2⟩
/-- no row of moduli; w the index that is told -/
def BadMod (K : PySem.W.Frag) (H : Hp) (v w : V) : Prop := (NotTup K H v ∧ w = .non) ∨ ∃ a xs, v = .ref a ∧ SqT K H a xs ∧ ((¬ (1 ≤ xs.length ∧ xs.length ≤ 4) ∧ w = .non) ∨
  (1 ≤ xs.length ∧ xs.length ≤ 4 ∧ ∃ (i : Nat) (y : V), (∀ j, j < i → ∃ m : Int, xs[j]? = some (.int m) ∧ 1 ≤ m ∧ m ≤ 30) ∧ xs[i]? = some y ∧ OutI K H 1 30 y ∧ w = .int (i : Nat)))
/-- no sight -/
def BadS (K : PySem.W.Frag) (H : Hp) (y : V) : Prop := NotTup K H y ∨ ∃ t us, y = .ref t ∧ SqT K H t us ∧ (us.length ≠ 2 ∨ ∃ n d, us = [n, d] ∧ (OddV K H n ∨ ((∃ i, n = .int i ∧ IsNum i) ∧ ∃ tt, TyX K H d (.type tt) ∧ kitB tt "bool" = some false)))
theorem BadS.same {K : PySem.W.Frag} {H H' : Hp} {y : V} (h : BadS K H y) (s : Same H H') : BadS K H' y := by
  rcases h with h | ⟨t, us, e, q, h | ⟨n, d, eu, h | ⟨h1, tt, h2, h3⟩⟩⟩
  · exact .inl (h.same s)
  · exact .inr ⟨t, us, e, Same.seqTT s q, .inl h⟩
  · exact .inr ⟨t, us, e, Same.seqTT s q, .inr ⟨n, d, eu, .inl (h.same s)⟩⟩
  · exact .inr ⟨t, us, e, Same.seqTT s q, .inr ⟨n, d, eu, .inr ⟨h1, tt, tySame h2 s, h3⟩⟩⟩
/-- a walked list or tuple -/
def LT (K : PySem.W.Frag) (H : Hp) (a : Addr) (xs : List V) : Prop := H a = some (.lst xs) ∨ SqT K H a xs
theorem LT.same {K : PySem.W.Frag} {H H' : Hp} {a : Addr} {xs : List V} (h : LT K H a xs) (s : Same H H') : LT K H' a xs := h.imp (fun q => s _ _ q) (fun q => Same.seqTT s q)
/-- the first n are sights -/
def SeenTo (K : PySem.W.Frag) (H : Hp) (xs : List V) (sl : List (Int × Bool)) (n : Nat) : Prop := n ≤ sl.length ∧ ∀ (i : Nat) x p, i < n → xs[i]? = some x → sl[i]? = some p → ∃ t, x = .ref t ∧ SqT K H t [.int p.1, .bl p.2] ∧ IsNum p.1
theorem SeenTo.same {K : PySem.W.Frag} {H H' : Hp} {xs : List V} {sl : List (Int × Bool)} {n : Nat} (h : SeenTo K H xs sl n) (s : Same H H') : SeenTo K H' xs sl n :=
  ⟨h.1, fun i x p l a b => let ⟨t, e, q, m⟩ := h.2 i x p l a b; ⟨t, e, Same.seqTT s q, m⟩⟩
/-- no row of what was seen; w the index that is told -/
def BadSn (K : PySem.W.Frag) (H : Hp) (v w : V) : Prop := ((∃ t, TyX K H v (.type t) ∧ kitB t "list" = some false ∧ kitB t "tuple" = some false) ∧ w = .non) ∨ ∃ a xs, v = .ref a ∧ LT K H a xs ∧ ((20 < xs.length ∧ w = .non) ∨
  (xs.length ≤ 20 ∧ ∃ (i : Nat) (y : V) (sl : List (Int × Bool)), SeenTo K H xs sl i ∧ xs[i]? = some y ∧ (∀ n, n ≤ i → unfitTo sl n ≤ 8) ∧ w = .int (i : Nat) ∧
    (BadS K H y ∨ (unfitTo sl i = 8 ∧ ∃ t x, y = .ref t ∧ SqT K H t [.int x, .bl false] ∧ IsNum x))))
theorem BadSn.same {K : PySem.W.Frag} {H H' : Hp} {v w : V} (h : BadSn K H v w) (s : Same H H') : BadSn K H' v w := by
  rcases h with ⟨⟨t, h1, h2⟩, h3⟩ | ⟨a, xs, e, q, h | ⟨l, i, y, sl, h1, h2, h3, h4, h5 | ⟨h5, t, x, h6, h7, h8⟩⟩⟩
  · exact .inl ⟨⟨t, tySame h1 s, h2⟩, h3⟩
  · exact .inr ⟨a, xs, e, q.same s, .inl h⟩
  · exact .inr ⟨a, xs, e, q.same s, .inr ⟨l, i, y, sl, h1.same s, h2, h3, h4, .inl (h5.same s)⟩⟩
  · exact .inr ⟨a, xs, e, q.same s, .inr ⟨l, i, y, sl, h1.same s, h2, h3, h4, .inr ⟨h5, t, x, h6, Same.seqTT s h7, h8⟩⟩⟩
def tells (H : Hp) (B : Addr) (w : V) (E : XK) : Prop := ∀ d H', Same H H' → H' d = none → E (.ref B) (some d) (upd H' d (.xd [("index", w)]))
theorem tells.same {H H1 : Hp} {B : Addr} {w : V} {E : XK} (h : tells H B w E) (s : Same H H1) : tells H1 B w E := fun d H' s' n => h d H' (s.trans s') n
theorem kit_none {K : PySem.W.Frag} {t : String} (h1 : kitB t "list" = some false) (h2 : kitB t "tuple" = some false) : PySem.W.kitAny K (.type t) [.type "list", .type "tuple"] = some false := by
  unfold PySem.W.kitAny
  rw [kit_ty (r := false) h1]
  unfold PySem.W.kitAny
  rw [kit_ty (r := false) h2]
  rfl
def sp_p_check_moduli (K : PySem.W.Frag) (B : Addr) : Sp := fun vs H Q E => ∃ v : V, vs = [v] ∧ ((∃ (a : Addr) (ms : List Int), v = .ref a ∧ SqT K H a (ms.map V.int) ∧ MOk ms ∧ ∀ H', Same H H' → Q .non H') ∨ ∃ w, BadMod K H v w ∧ tells H B w E)
def sp_p_is_sight (K : PySem.W.Frag) : Sp := fun vs H Q _ => ∃ v : V, vs = [v] ∧ ((∃ (t : Addr) (p : Int × Bool), v = .ref t ∧ SqT K H t [.int p.1, .bl p.2] ∧ IsNum p.1 ∧ Q (.bl true) H) ∨ (BadS K H v ∧ Q (.bl false) H))
def sp_p_check_seen (K : PySem.W.Frag) (B : Addr) : Sp := fun vs H Q E => ∃ v : V, vs = [v] ∧ ((∃ (a : Addr) (sl : List (Int × Bool)), v = .ref a ∧ SeenAt K H a sl ∧ SOk sl ∧ ∀ H', Same H H' → Q .non H') ∨ ∃ w, BadSn K H v w ∧ tells H B w E)
def sp_p_marks_of (K : PySem.W.Frag) : Sp := fun vs H Q _ => ∃ (a : Addr) (ms : List Int) (x : Int), vs = [.ref a, .int x] ∧ SqT K H a (ms.map V.int) ∧ MOk ms ∧ ∀ D H', Same H H' → H D = none → TupsAt K H' D (marksL ms x) → Q (.ref D) H'
section
variable {P : Program} [POk P FILE] {w : World} {K : PySem.W.Frag} {mg : Str → Option Value} {base : Heap}
theorem ok_p_check_moduli (T : Txt K mg) : FnOk P w K mg base (L2.CX P w) 4 T.f_p_check_moduli T.fd_p_check_moduli ["moduli"] (sp_p_check_moduli K T.C_BadModuli) := by
  refine T.F_p_check_moduli.okX sc_p_check_moduli (fun vs H Q E h => ?_) (fun cdv A outer s H vs Q E hr h => ?_)
  · obtain ⟨v, rfl, _⟩ := h
    rfl
  · obtain ⟨v, rfl, h⟩ := h
    refine ⟨_, (pss_cons (ps_if (PW.pt (pw_or (pt_not (pt_val (pe_callB call_isi (by rfl) T.z_isinstance (by decide +kernel) (pa_cons (pv 0) (pa_cons (pe_bltn (v := .ty "tuple") (by rfl) T.z_tuple (by decide +kernel) rfl) pa_nil))))) (pw_or1 (pt_not (pt_chain op_le op_le pe_int (pe_callB call_len_seq (by rfl) T.z_len (by decide +kernel) (pa_cons (pv 0) pa_nil)) (pe_glob (v := .int 4) (by rfl) T.c_MOST_MODULI.choose_spec ⟨_, rfl⟩)))))) (pss_one (ps_raise rfl (takes_of rfl rfl rfl rfl) (pmk_1 (file := FILE) (show POk P FILE from inferInstance) T.oc_BadModuli T.of_BadModuli hr T.z_super (pa_cons pe_non pa_nil) (by rfl) T.g_BadModuli))) pss_nil)
      (pss_one (ps_for (passes_of rfl) rfl (pi_enT (by rfl) T.z_enumerate (pa_cons (pv 0) pa_nil)) (pg_tup (by rfl) (pgs_cons (pg_name (i := 1) sc_p_check_moduli.nd rfl (by first | exact .inl rfl | exact .inr rfl)) (pgs_cons (pg_name (i := 2) sc_p_check_moduli.nd rfl (by first | exact .inl rfl | exact .inr rfl)) pgs_nil))) (pss_one (ps_if (pt_not (pt_val (pe_call (ok_p_integer_within (P := P) T) (hr.mono (by decide)) (by rfl) T.g_p_integer_within T.F_p_integer_within.kp T.b_p_integer_within .nil pass0 (pa_cons (pv 2) (pa_cons pe_int (pa_cons (pe_glob (v := .int 30) (by rfl) T.c_GREATEST_TOLD_BY.choose_spec ⟨_, rfl⟩) pa_nil)))))) (pss_one (ps_raise rfl (takes_of rfl rfl rfl rfl) (pmk_1 (file := FILE) (show POk P FILE from inferInstance) T.oc_BadModuli T.of_BadModuli hr T.z_super (pa_cons (pv 1) pa_nil) (by rfl) T.g_BadModuli))) pss_nil))))), ?_⟩
    rcases h with ⟨a, ms, rfl, ta, M, q⟩ | ⟨w, ⟨⟨t, ht, hk⟩, rfl⟩ | ⟨a, xs, rfl, ta, ⟨l, rfl⟩ | ⟨l1, l2, i0, y0, hj, hi, o, rfl⟩⟩, q⟩
    · have h1 := M.one
      have h4 := M.four
      refine ⟨_, rfl, _, _, _, _, _, rfl, .ty "tuple", tyTup ta, kit_ty (r := true) (by decide +kernel), true, rfl, iteF ?_⟩
      refine ⟨_, rfl, a, _, rfl, .inr ta, _, _, rfl, rfl, _, rfl, ?_⟩
      rw [List.length_map, decide_eq_true (by omega)]
      refine iteT ⟨_, _, rfl, rfl, _, rfl, ?_⟩
      rw [decide_eq_true (by omega)]
      refine iteF ⟨_, rfl, a, _, rfl, ta, for_it (walk_enT (K := K) (a := a) (xs := ms.map V.int)) (fun i σ H2 => ∃ (x y : Option V), σ = [some (.ref a), x, y] ∧ Same H H2) ⟨none, none, rfl, Same.refl _⟩ (fun i σ H2 _ ⟨_, _, _, s2⟩ => Same.seqTT s2 ta) ?_ ?_⟩
      · rintro i y σ H2 H3 hi ⟨x1, x2, rfl, s2⟩ ⟨p, z1, z2, rfl, np, rfl, e1, e2⟩
        have s3 := s2.trans (same_upd np (o := .tup [z1, z2]))
        obtain ⟨m, hm, rfl⟩ := getMapInt' e2
        have mm := M.mod m (List.mem_of_getElem? hm)
        refine ⟨p, _, rfl, tupOf upd_same, rfl, _, _, rfl, _, _, rfl, rfl, ?_⟩
        refine ⟨_, rfl, _, _, _, rfl, .inl ⟨m, rfl, _, rfl, ?_⟩⟩
        rw [decide_eq_true mm.1, decide_eq_true mm.2]
        exact iteF ⟨_, _, rfl, s3⟩
      · rintro σ H2 ⟨x1, x2, rfl, s2⟩
        exact q _ s2
    · refine ⟨_, rfl, _, _, _, _, _, rfl, .ty "tuple", ht, kit_ty (r := false) hk, false, rfl, iteT ?_⟩
      exact ⟨.non, rfl, .inl rfl, fun d nd => q d H (Same.refl _) nd⟩
    · refine ⟨_, rfl, _, _, _, _, _, rfl, .ty "tuple", tyTup ta, kit_ty (r := true) (by decide +kernel), true, rfl, iteF ?_⟩
      refine ⟨_, rfl, a, _, rfl, .inr ta, _, _, rfl, rfl, _, rfl, ite2 (fun e => ?_) (fun e => ?_)⟩
      · have e' := of_decide_eq_true e
        refine ⟨_, _, rfl, rfl, _, rfl, ?_⟩
        rw [decide_eq_false (by omega)]
        exact iteT ⟨.non, rfl, .inl rfl, fun d nd => q d H (Same.refl _) nd⟩
      · exact ⟨false, rfl, iteT ⟨.non, rfl, .inl rfl, fun d nd => q d H (Same.refl _) nd⟩⟩
    · refine ⟨_, rfl, _, _, _, _, _, rfl, .ty "tuple", tyTup ta, kit_ty (r := true) (by decide +kernel), true, rfl, iteF ?_⟩
      refine ⟨_, rfl, a, _, rfl, .inr ta, _, _, rfl, rfl, _, rfl, ?_⟩
      rw [decide_eq_true (by omega)]
      refine iteT ⟨_, _, rfl, rfl, _, rfl, ?_⟩
      rw [decide_eq_true (by omega)]
      have il := (List.getElem?_eq_some_iff.mp hi).1
      refine iteF ⟨_, rfl, a, _, rfl, ta, for_it (walk_enT (K := K) (a := a) (xs := xs)) (fun i σ H2 => ∃ (x y : Option V), σ = [some (.ref a), x, y] ∧ Same H H2 ∧ i ≤ i0) ⟨none, none, rfl, Same.refl _, Nat.zero_le _⟩ (fun i σ H2 _ ⟨_, _, _, s2, _⟩ => Same.seqTT s2 ta) ?_ ?_⟩
      · rintro i y σ H2 H3 hk ⟨x1, x2, rfl, s2, ki⟩ ⟨p, z1, z2, rfl, np, rfl, e1, e2⟩
        have s3 := s2.trans (same_upd np (o := .tup [z1, z2]))
        cases Option.some.inj e1
        refine ⟨p, _, rfl, tupOf upd_same, rfl, _, _, rfl, _, _, rfl, rfl, ?_⟩
        by_cases c : i = i0
        · subst c
          cases Option.some.inj (e2.symm.trans hi)
          refine ⟨_, rfl, _, _, _, rfl, ?_⟩
          rcases o.same s3 with o | ⟨m, rfl, hm⟩
          · exact .inr ⟨o, false, rfl, iteT ⟨_, rfl, _, rfl, .inr ⟨i, rfl, by omega⟩, fun d nd => q d _ s3 nd⟩⟩
          · refine .inl ⟨m, rfl, _, rfl, ?_⟩
            rw [← Bool.decide_and, decide_eq_false hm]
            exact iteT ⟨_, rfl, _, rfl, .inr ⟨i, rfl, by omega⟩, fun d nd => q d _ s3 nd⟩
        · obtain ⟨m, hm, m1, m2⟩ := hj i (by omega)
          cases Option.some.inj (e2.symm.trans hm)
          refine ⟨_, rfl, _, _, _, rfl, .inl ⟨m, rfl, _, rfl, ?_⟩⟩
          rw [decide_eq_true m1, decide_eq_true m2]
          exact iteF ⟨_, _, rfl, s3, by omega⟩
      · rintro σ H2 ⟨x1, x2, rfl, s2, ki⟩
        omega
theorem ok_p_is_sight (T : Txt K mg) : FnOk P w K mg base CX0 5 T.f_p_is_sight T.fd_p_is_sight ["value"] (sp_p_is_sight K) := by
  refine T.F_p_is_sight.ok sc_p_is_sight (fun vs H Q E h => ?_) (fun cdv A outer s H vs Q E hr h => ?_)
  · obtain ⟨v, rfl, _⟩ := h
    rfl
  · obtain ⟨v, rfl, h⟩ := h
    refine ⟨_, (pss_one (ps_ret (pe_and (pe_call (ok_p_is_pair (P := P) T) (hr.mono (by decide)) (by rfl) T.g_p_is_pair T.F_p_is_pair.kp T.b_p_is_pair .nil pass0 (pa_cons (pv 0) pa_nil)) (pe_and (pe_call (ok_p_is_number (P := P) T) (hr.mono (by decide)) (by rfl) T.g_p_is_number T.F_p_is_number.kp T.b_p_is_number .nil pass0 (pa_cons (pe_ix ix_tup (pv 0) pe_int (fun _ _ => rfl)) pa_nil)) (pe_one (pe_callB call_isi (by rfl) T.z_isinstance (by decide +kernel) (pa_cons (pe_ix ix_tup (pv 0) pe_int (fun _ _ => rfl)) (pa_cons (pe_bltn (v := .ty "bool") (by rfl) T.z_bool (by decide +kernel) rfl) pa_nil)))))))), ?_⟩
    rcases h with ⟨t, p, rfl, tt, hn, q⟩ | ⟨nt | ⟨t, us, rfl, tt, l | ⟨n, d, rfl, o | ⟨⟨i, rfl, hn⟩, ty, h1, h2⟩⟩⟩, q⟩
    · refine ⟨_, rfl, _, rfl, .inr ⟨t, _, rfl, tt, true, rfl, iteT ?_⟩⟩
      refine ⟨_, rfl, t, _, _, _, rfl, rfl, tt, atI_nat (j := 0) rfl, _, rfl, .inl ⟨p.1, rfl, hn, true, rfl, iteT ?_⟩⟩
      exact ⟨_, rfl, t, _, _, _, rfl, rfl, tt, atI_nat (j := 1) rfl, _, _, _, _, _, rfl, .ty "bool", .base (.bl p.2), kit_ty (r := true) (by decide +kernel), q⟩
    · exact ⟨_, rfl, _, rfl, .inl ⟨nt, false, rfl, iteF q⟩⟩
    · refine ⟨_, rfl, _, rfl, .inr ⟨t, _, rfl, tt, _, rfl, ?_⟩⟩
      rw [decide_eq_false l]
      exact iteF q
    · refine ⟨_, rfl, _, rfl, .inr ⟨t, _, rfl, tt, true, rfl, iteT ?_⟩⟩
      exact ⟨_, rfl, t, _, _, _, rfl, rfl, tt, atI_nat (j := 0) rfl, _, rfl, .inr ⟨o, false, rfl, iteF q⟩⟩
    · refine ⟨_, rfl, _, rfl, .inr ⟨t, _, rfl, tt, true, rfl, iteT ?_⟩⟩
      refine ⟨_, rfl, t, _, _, _, rfl, rfl, tt, atI_nat (j := 0) rfl, _, rfl, .inl ⟨i, rfl, hn, true, rfl, iteT ?_⟩⟩
      exact ⟨_, rfl, t, _, _, _, rfl, rfl, tt, atI_nat (j := 1) rfl, _, _, _, _, _, rfl, .ty "bool", h1, kit_ty (r := false) h2, q⟩
theorem ok_p_check_seen (T : Txt K mg) : FnOk P w K mg base (L2.CX P w) 6 T.f_p_check_seen T.fd_p_check_seen ["seen"] (sp_p_check_seen K T.C_BadSeen) := by
  refine T.F_p_check_seen.okX sc_p_check_seen (fun vs H Q E h => ?_) (fun cdv A outer s H vs Q E hr h => ?_)
  · obtain ⟨v, rfl, _⟩ := h
    rfl
  · obtain ⟨v, rfl, h⟩ := h
    refine ⟨_, (pss_cons (ps_if (PW.pt (pw_or (pt_not (pt_val (pe_callB call_isiT (by rfl) T.z_isinstance (by decide +kernel) (pa_cons (pv 0) (pa_cons (pe_tup (pa_cons (pe_bltn (v := .ty "list") (by rfl) T.z_list (by decide +kernel) rfl) (pa_cons (pe_bltn (v := .ty "tuple") (by rfl) T.z_tuple (by decide +kernel) rfl) pa_nil))) pa_nil))))) (pw_or1 (pt_cmpR op_gt (pe_callB call_len_seq (by rfl) T.z_len (by decide +kernel) (pa_cons (pv 0) pa_nil)) (pe_glob (v := .int 20) (by rfl) T.c_MOST_SEEN.choose_spec ⟨_, rfl⟩) (nomark _))))) (pss_one (ps_raise rfl (takes_of rfl rfl rfl rfl) (pmk_1 (file := FILE) (show POk P FILE from inferInstance) T.oc_BadSeen T.of_BadSeen hr T.z_super (pa_cons pe_non pa_nil) (by rfl) T.g_BadSeen))) pss_nil)
      (pss_cons (ps_set (i := 1) sc_p_check_seen.nd rfl (by first | exact .inl rfl | exact .inr rfl) pe_int)
      (pss_one (ps_for (passes_of rfl) rfl (pi_enumE (i := 0) (by rfl) T.z_enumerate (pa_cons (pv 0) pa_nil)) (pg_tup (by rfl) (pgs_cons (pg_name (i := 2) sc_p_check_seen.nd rfl (by first | exact .inl rfl | exact .inr rfl)) (pgs_cons (pg_name (i := 3) sc_p_check_seen.nd rfl (by first | exact .inl rfl | exact .inr rfl)) pgs_nil))) (pss_cons (ps_if (pt_not (pt_val (pe_call (ok_p_is_sight (P := P) T) (hr.mono (by decide)) (by rfl) T.g_p_is_sight T.F_p_is_sight.kp T.b_p_is_sight .nil pass0 (pa_cons (pv 3) pa_nil)))) (pss_one (ps_raise rfl (takes_of rfl rfl rfl rfl) (pmk_1 (file := FILE) (show POk P FILE from inferInstance) T.oc_BadSeen T.of_BadSeen hr T.z_super (pa_cons (pv 2) pa_nil) (by rfl) T.g_BadSeen))) pss_nil)
      (C8.pss_cut (ps_if (pt_not (pt_val (pe_ix ix_tup (pv 3) pe_int (fun _ _ => rfl)))) (pss_one (ps_aug (i := 1) sc_p_check_seen.nd rfl (.inl rfl) pe_int ip_add)) pss_nil)
      (pss_one (ps_if (pt_cmpR op_gt (pv 1) (pe_glob (v := .int 8) (by rfl) T.c_MOST_UNFIT.choose_spec ⟨_, rfl⟩) (nomark _)) (pss_one (ps_raise rfl (takes_of rfl rfl rfl rfl) (pmk_1 (file := FILE) (show POk P FILE from inferInstance) T.oc_BadSeen T.of_BadSeen hr T.z_super (pa_cons (pv 2) pa_nil) (by rfl) T.g_BadSeen))) pss_nil)))))))), ?_⟩
    rcases h with ⟨a, sl, rfl, S, O, q⟩ | ⟨w, ⟨⟨t, ht, hk1, hk2⟩, rfl⟩ | ⟨a, xs, rfl, hx, ⟨l, rfl⟩ | ⟨l, i0, y0, sl, hS, hi, hu, rfl, bad⟩⟩, tl⟩
    · obtain ⟨xs, hx, nx, fx⟩ := S.ex
      have f20 := O.few
      refine ⟨_, rfl, sizeOk (by show (2 : Nat) ≤ 100000; decide), fun tp ntp => ?_⟩
      have s1 := same_upd ntp (o := .tup [.ty "list", .ty "tuple"])
      have e1 := upd_same (H := H) (a := tp) (o := .tup [.ty "list", .ty "tuple"])
      generalize upd H tp (.tup [.ty "list", .ty "tuple"]) = H1 at s1 e1 ⊢
      have hx1 : H1 a = some (.lst xs) ∨ SqT K H1 a xs := hx.imp (fun q => s1 _ _ q) (fun q => Same.seqTT s1 q)
      obtain ⟨tt, ht, hk⟩ : ∃ tt, TyX K H1 (.ref a) tt ∧ PySem.W.kitAny K tt [.type "list", .type "tuple"] = some true := by
        rcases hx1 with hl | ht
        · exact ⟨.type "list", .base (.lst hl), kit_ls⟩
        · exact ⟨.type "tuple", tyTup ht, kit_tp⟩
      refine ⟨_, tp, _, tt, _, true, rfl, e1, .cons (.ty "list") (.cons (.ty "tuple") .nil), ht, hk, true, rfl, iteF ?_⟩
      refine ⟨_, rfl, a, xs, rfl, hx1.imp lstOf id, _, _, rfl, rfl, _, rfl, ite2 (fun e => ?_) (fun e => ?_)⟩
      · have := of_decide_eq_true e
        omega
      refine ⟨a, rfl, ?_⟩
      rcases hx1 with hl | ht
      · refine .inl ⟨⟨_, lstOf hl⟩, for_it (walk_enum (K := K) (a := a) (xs := xs)) (fun i σ H2 => ∃ x2 x3 : Option V, σ = [some (.ref a), some (.int (unfitTo sl i : Nat)), x2, x3] ∧ Same H1 H2) ⟨_, _, rfl, Same.refl _⟩ (fun i σ H2 _ ⟨_, _, _, s2⟩ => lstOf (s2 _ _ hl)) ?_ ?_⟩
        · rintro i y σ H2 H3 hi ⟨x2, x3, rfl, s2⟩ ⟨p, z1, z2, rfl, np, rfl, e1', e2⟩
          have s3 := s2.trans (same_upd np (o := .tup [z1, z2]))
          have il : i < sl.length := by omega
          have hsl : sl[i]? = some sl[i] := List.getElem?_eq_getElem il
          obtain ⟨t, rfl, qt⟩ := fx i z2 _ e2 hsl
          have qt3 := Same.seqTT (s1.trans s3) qt
          refine ⟨p, _, rfl, tupOf upd_same, rfl, _, _, rfl, _, _, rfl, rfl, ?_⟩
          refine ⟨_, rfl, _, rfl, .inl ⟨t, sl[i], rfl, qt3, O.num _ (List.getElem_mem il), true, rfl, iteF ?_⟩⟩
          have u8 := O.unfit (i + 1)
          have us := unfit_succ hsl
          refine ⟨fun σ H' => ∃ x2 x3 : Option V, σ = [some (.ref a), some (.int (unfitTo sl (i + 1) : Nat)), x2, x3] ∧ Same H1 H', ?_, ?_⟩
          · refine ⟨_, rfl, t, _, _, _, rfl, rfl, qt3, atI_nat (j := 1) rfl, _, rfl, ?_⟩
            cases e : sl[i].2 with
            | true =>
              rw [e, if_pos rfl] at us
              exact iteF ⟨some z1, some (.ref t), by rw [us]; rfl, s3⟩
            | false =>
              rw [e, if_neg Bool.false_ne_true] at us
              exact iteT ⟨_, rfl, _, _, rfl, rfl, some z1, some (.ref t), by rw [us]; rfl, s3⟩
          · rintro σ H4 ⟨x2, x3, rfl, s4⟩
            refine ⟨_, rfl, _, _, rfl, rfl, _, rfl, ite2 (fun e => ?_) (fun e => ?_)⟩
            · have := of_decide_eq_true e
              omega
            · exact ⟨_, _, rfl, s4⟩
        · rintro σ H2 ⟨x2, x3, rfl, s2⟩
          exact q _ (s1.trans s2)
      · refine .inr ⟨⟨_, ht⟩, for_it (walk_enT (K := K) (a := a) (xs := xs)) (fun i σ H2 => ∃ x2 x3 : Option V, σ = [some (.ref a), some (.int (unfitTo sl i : Nat)), x2, x3] ∧ Same H1 H2) ⟨_, _, rfl, Same.refl _⟩ (fun i σ H2 _ ⟨_, _, _, s2⟩ => Same.seqTT s2 ht) ?_ ?_⟩
        · rintro i y σ H2 H3 hi ⟨x2, x3, rfl, s2⟩ ⟨p, z1, z2, rfl, np, rfl, e1', e2⟩
          have s3 := s2.trans (same_upd np (o := .tup [z1, z2]))
          have il : i < sl.length := by omega
          have hsl : sl[i]? = some sl[i] := List.getElem?_eq_getElem il
          obtain ⟨t, rfl, qt⟩ := fx i z2 _ e2 hsl
          have qt3 := Same.seqTT (s1.trans s3) qt
          refine ⟨p, _, rfl, tupOf upd_same, rfl, _, _, rfl, _, _, rfl, rfl, ?_⟩
          refine ⟨_, rfl, _, rfl, .inl ⟨t, sl[i], rfl, qt3, O.num _ (List.getElem_mem il), true, rfl, iteF ?_⟩⟩
          have u8 := O.unfit (i + 1)
          have us := unfit_succ hsl
          refine ⟨fun σ H' => ∃ x2 x3 : Option V, σ = [some (.ref a), some (.int (unfitTo sl (i + 1) : Nat)), x2, x3] ∧ Same H1 H', ?_, ?_⟩
          · refine ⟨_, rfl, t, _, _, _, rfl, rfl, qt3, atI_nat (j := 1) rfl, _, rfl, ?_⟩
            cases e : sl[i].2 with
            | true =>
              rw [e, if_pos rfl] at us
              exact iteF ⟨some z1, some (.ref t), by rw [us]; rfl, s3⟩
            | false =>
              rw [e, if_neg Bool.false_ne_true] at us
              exact iteT ⟨_, rfl, _, _, rfl, rfl, some z1, some (.ref t), by rw [us]; rfl, s3⟩
          · rintro σ H4 ⟨x2, x3, rfl, s4⟩
            refine ⟨_, rfl, _, _, rfl, rfl, _, rfl, ite2 (fun e => ?_) (fun e => ?_)⟩
            · have := of_decide_eq_true e
              omega
            · exact ⟨_, _, rfl, s4⟩
        · rintro σ H2 ⟨x2, x3, rfl, s2⟩
          exact q _ (s1.trans s2)
    · refine ⟨_, rfl, sizeOk (by show (2 : Nat) ≤ 100000; decide), fun tp ntp => ?_⟩
      have s1 := same_upd ntp (o := .tup [.ty "list", .ty "tuple"])
      have e1 := upd_same (H := H) (a := tp) (o := .tup [.ty "list", .ty "tuple"])
      refine ⟨_, tp, _, .type t, _, false, rfl, e1, .cons (.ty "list") (.cons (.ty "tuple") .nil), tySame ht s1, kit_none hk1 hk2, false, rfl, iteT ?_⟩
      exact ⟨.non, rfl, .inl rfl, fun d nd => tl d _ s1 nd⟩
    · refine ⟨_, rfl, sizeOk (by show (2 : Nat) ≤ 100000; decide), fun tp ntp => ?_⟩
      have s1 := same_upd ntp (o := .tup [.ty "list", .ty "tuple"])
      have e1 := upd_same (H := H) (a := tp) (o := .tup [.ty "list", .ty "tuple"])
      generalize upd H tp (.tup [.ty "list", .ty "tuple"]) = H1 at s1 e1 ⊢
      have hx1 := hx.same s1
      obtain ⟨tt, ht, hk⟩ : ∃ tt, TyX K H1 (.ref a) tt ∧ PySem.W.kitAny K tt [.type "list", .type "tuple"] = some true := by
        rcases hx1 with hl | ht
        · exact ⟨.type "list", .base (.lst hl), kit_ls⟩
        · exact ⟨.type "tuple", tyTup ht, kit_tp⟩
      refine ⟨_, tp, _, tt, _, true, rfl, e1, .cons (.ty "list") (.cons (.ty "tuple") .nil), ht, hk, true, rfl, iteF ?_⟩
      refine ⟨_, rfl, a, xs, rfl, hx1.imp lstOf id, _, _, rfl, rfl, _, rfl, ?_⟩
      rw [decide_eq_true (by omega)]
      exact iteT ⟨.non, rfl, .inl rfl, fun d nd => tl d _ s1 nd⟩
    · refine ⟨_, rfl, sizeOk (by show (2 : Nat) ≤ 100000; decide), fun tp ntp => ?_⟩
      have s1 := same_upd ntp (o := .tup [.ty "list", .ty "tuple"])
      have e1 := upd_same (H := H) (a := tp) (o := .tup [.ty "list", .ty "tuple"])
      generalize upd H tp (.tup [.ty "list", .ty "tuple"]) = H1 at s1 e1 ⊢
      have hx1 := hx.same s1
      obtain ⟨tt, ht, hk⟩ : ∃ tt, TyX K H1 (.ref a) tt ∧ PySem.W.kitAny K tt [.type "list", .type "tuple"] = some true := by
        rcases hx1 with hl | ht
        · exact ⟨.type "list", .base (.lst hl), kit_ls⟩
        · exact ⟨.type "tuple", tyTup ht, kit_tp⟩
      refine ⟨_, tp, _, tt, _, true, rfl, e1, .cons (.ty "list") (.cons (.ty "tuple") .nil), ht, hk, true, rfl, iteF ?_⟩
      refine ⟨_, rfl, a, xs, rfl, hx1.imp lstOf id, _, _, rfl, rfl, _, rfl, ?_⟩
      rw [decide_eq_false (by omega)]
      have il0 := (List.getElem?_eq_some_iff.mp hi).1
      refine iteF ⟨a, rfl, ?_⟩
      rcases hx1 with hl | ht
      · refine .inl ⟨⟨_, lstOf hl⟩, for_it (walk_enum (K := K) (a := a) (xs := xs)) (fun i σ H2 => ∃ x2 x3 : Option V, σ = [some (.ref a), some (.int (unfitTo sl i : Nat)), x2, x3] ∧ Same H1 H2 ∧ i ≤ i0) ⟨_, _, rfl, Same.refl _, Nat.zero_le _⟩ (fun i σ H2 _ ⟨_, _, _, s2, _⟩ => lstOf (s2 _ _ hl)) ?_ ?_⟩
        · rintro i y σ H2 H3 hk ⟨x2, x3, rfl, s2, ki⟩ ⟨p, z1, z2, rfl, np, rfl, e1', e2⟩
          have s3 := s2.trans (same_upd np (o := .tup [z1, z2]))
          have s13 := s1.trans s3
          cases Option.some.inj e1'
          refine ⟨p, _, rfl, tupOf upd_same, rfl, _, _, rfl, _, _, rfl, rfl, ?_⟩
          by_cases c : i = i0
          · subst c
            cases Option.some.inj (e2.symm.trans hi)
            rcases bad with bad | ⟨hu8, t, x, rfl, qt, hn⟩
            · exact ⟨_, rfl, _, rfl, .inr ⟨bad.same s13, false, rfl, iteT ⟨_, rfl, _, rfl, .inr ⟨i, rfl, by omega⟩, fun d nd => tl d _ s13 nd⟩⟩⟩
            · have qt3 := Same.seqTT s13 qt
              refine ⟨_, rfl, _, rfl, .inl ⟨t, (x, false), rfl, qt3, hn, true, rfl, iteF ?_⟩⟩
              refine ⟨fun σ H' => ∃ x2 x3 : Option V, σ = [some (.ref a), some (.int ((8 : Nat) + 1 : Nat)), some (.int (i : Nat)), x3] ∧ Same H1 H', ?_, ?_⟩
              · refine ⟨_, rfl, t, _, _, _, rfl, rfl, qt3, atI_nat (j := 1) rfl, _, rfl, iteT ⟨_, rfl, _, _, rfl, rfl, none, some (.ref t), by rw [hu8]; rfl, s3⟩⟩
              · rintro σ H4 ⟨x2, x3, rfl, s4⟩
                refine ⟨_, rfl, _, _, rfl, rfl, _, rfl, iteT ⟨_, rfl, _, rfl, .inr ⟨i, rfl, by omega⟩, fun d nd => tl d _ (s1.trans s4) nd⟩⟩
          · have il : i < i0 := by omega
            have hsl : sl[i]? = some (sl[i]'(by have := hS.1; omega)) := List.getElem?_eq_getElem _
            obtain ⟨t, rfl, qt, hn⟩ := hS.2 i z2 _ il e2 hsl
            have qt3 := Same.seqTT s13 qt
            refine ⟨_, rfl, _, rfl, .inl ⟨t, _, rfl, qt3, hn, true, rfl, iteF ?_⟩⟩
            have u8 := hu (i + 1) (by omega)
            have us := unfit_succ hsl
            refine ⟨fun σ H' => ∃ x2 x3 : Option V, σ = [some (.ref a), some (.int (unfitTo sl (i + 1) : Nat)), x2, x3] ∧ Same H1 H', ?_, ?_⟩
            · refine ⟨_, rfl, t, _, _, _, rfl, rfl, qt3, atI_nat (j := 1) rfl, _, rfl, ?_⟩
              cases e : (sl[i]'(by have := hS.1; omega)).2 with
              | true =>
                rw [e, if_pos rfl] at us
                exact iteF ⟨some (.int (i : Nat)), some (.ref t), by rw [us]; rfl, s3⟩
              | false =>
                rw [e, if_neg Bool.false_ne_true] at us
                exact iteT ⟨_, rfl, _, _, rfl, rfl, some (.int (i : Nat)), some (.ref t), by rw [us]; rfl, s3⟩
            · rintro σ H4 ⟨x2, x3, rfl, s4⟩
              refine ⟨_, rfl, _, _, rfl, rfl, _, rfl, ite2 (fun e => ?_) (fun e => ?_)⟩
              · have := of_decide_eq_true e
                omega
              · exact ⟨_, _, rfl, s4, by omega⟩
        · rintro σ H2 ⟨x2, x3, rfl, s2, ki⟩
          omega
      · refine .inr ⟨⟨_, ht⟩, for_it (walk_enT (K := K) (a := a) (xs := xs)) (fun i σ H2 => ∃ x2 x3 : Option V, σ = [some (.ref a), some (.int (unfitTo sl i : Nat)), x2, x3] ∧ Same H1 H2 ∧ i ≤ i0) ⟨_, _, rfl, Same.refl _, Nat.zero_le _⟩ (fun i σ H2 _ ⟨_, _, _, s2, _⟩ => Same.seqTT s2 ht) ?_ ?_⟩
        · rintro i y σ H2 H3 hk ⟨x2, x3, rfl, s2, ki⟩ ⟨p, z1, z2, rfl, np, rfl, e1', e2⟩
          have s3 := s2.trans (same_upd np (o := .tup [z1, z2]))
          have s13 := s1.trans s3
          cases Option.some.inj e1'
          refine ⟨p, _, rfl, tupOf upd_same, rfl, _, _, rfl, _, _, rfl, rfl, ?_⟩
          by_cases c : i = i0
          · subst c
            cases Option.some.inj (e2.symm.trans hi)
            rcases bad with bad | ⟨hu8, t, x, rfl, qt, hn⟩
            · exact ⟨_, rfl, _, rfl, .inr ⟨bad.same s13, false, rfl, iteT ⟨_, rfl, _, rfl, .inr ⟨i, rfl, by omega⟩, fun d nd => tl d _ s13 nd⟩⟩⟩
            · have qt3 := Same.seqTT s13 qt
              refine ⟨_, rfl, _, rfl, .inl ⟨t, (x, false), rfl, qt3, hn, true, rfl, iteF ?_⟩⟩
              refine ⟨fun σ H' => ∃ x2 x3 : Option V, σ = [some (.ref a), some (.int ((8 : Nat) + 1 : Nat)), some (.int (i : Nat)), x3] ∧ Same H1 H', ?_, ?_⟩
              · refine ⟨_, rfl, t, _, _, _, rfl, rfl, qt3, atI_nat (j := 1) rfl, _, rfl, iteT ⟨_, rfl, _, _, rfl, rfl, none, some (.ref t), by rw [hu8]; rfl, s3⟩⟩
              · rintro σ H4 ⟨x2, x3, rfl, s4⟩
                refine ⟨_, rfl, _, _, rfl, rfl, _, rfl, iteT ⟨_, rfl, _, rfl, .inr ⟨i, rfl, by omega⟩, fun d nd => tl d _ (s1.trans s4) nd⟩⟩
          · have il : i < i0 := by omega
            have hsl : sl[i]? = some (sl[i]'(by have := hS.1; omega)) := List.getElem?_eq_getElem _
            obtain ⟨t, rfl, qt, hn⟩ := hS.2 i z2 _ il e2 hsl
            have qt3 := Same.seqTT s13 qt
            refine ⟨_, rfl, _, rfl, .inl ⟨t, _, rfl, qt3, hn, true, rfl, iteF ?_⟩⟩
            have u8 := hu (i + 1) (by omega)
            have us := unfit_succ hsl
            refine ⟨fun σ H' => ∃ x2 x3 : Option V, σ = [some (.ref a), some (.int (unfitTo sl (i + 1) : Nat)), x2, x3] ∧ Same H1 H', ?_, ?_⟩
            · refine ⟨_, rfl, t, _, _, _, rfl, rfl, qt3, atI_nat (j := 1) rfl, _, rfl, ?_⟩
              cases e : (sl[i]'(by have := hS.1; omega)).2 with
              | true =>
                rw [e, if_pos rfl] at us
                exact iteF ⟨some (.int (i : Nat)), some (.ref t), by rw [us]; rfl, s3⟩
              | false =>
                rw [e, if_neg Bool.false_ne_true] at us
                exact iteT ⟨_, rfl, _, _, rfl, rfl, some (.int (i : Nat)), some (.ref t), by rw [us]; rfl, s3⟩
            · rintro σ H4 ⟨x2, x3, rfl, s4⟩
              refine ⟨_, rfl, _, _, rfl, rfl, _, rfl, ite2 (fun e => ?_) (fun e => ?_)⟩
              · have := of_decide_eq_true e
                omega
              · exact ⟨_, _, rfl, s4, by omega⟩
        · rintro σ H2 ⟨x2, x3, rfl, s2, ki⟩
          omega
theorem ok_p_marks_of (T : Txt K mg) : FnOk P w K mg base CX0 2 T.f_p_marks_of T.fd_p_marks_of ["moduli", "number"] (sp_p_marks_of K) := by
  refine T.F_p_marks_of.ok sc_p_marks_of (fun vs H Q E h => ?_) (fun cdv A outer s H vs Q E hr h => ?_)
  · obtain ⟨a, ms, x, rfl, _⟩ := h
    rfl
  · obtain ⟨a, ms, x, rfl, ta, M, q⟩ := h
    refine ⟨_, (pss_one (ps_ret (pe_lc (own := [("index", 2), ("modulus", 3)]) (g := gTup K 2 (gCons (gName 2) (gCons (gName 3) (gNil)))) rfl sc_p_marks_of.nd (pi_enT (by rfl) T.z_enumerate (pa_cons (pv 0) pa_nil)) (blkOk_by (N := ["moduli", "number", "index", "modulus"]) (sc := defScope s_p_marks_of) (by decide +kernel)) (fun _ _ _ _ _ => (pg_tup (by rfl) (pgs_cons (pg_name (i := 2) sc_p_marks_of.nd rfl (by first | exact .inl rfl | exact .inr rfl)) (pgs_cons (pg_name (i := 3) sc_p_marks_of.nd rfl (by first | exact .inl rfl | exact .inr rfl)) pgs_nil)))) (fun _ _ _ _ _ => pts_nil) (fun _ _ _ _ _ => (pe_tup (pa_cons (pv 2) (pa_cons (pe_op op_mod (pv 1) (pv 3)) pa_nil))))))), ?_⟩
    refine ⟨_, rfl, a, _, rfl, ta, fun D nD => ?_⟩
    have l4 := M.four
    refine lc_it (walk_enT (K := K) (a := a) (xs := ms.map V.int)) (fun j Hj => TupsAt K Hj D (marksTo ms x j) ∧ Same H Hj) ⟨TupsAt.nil upd_same, same_upd nD⟩ (fun j Hj _ ⟨_, sj⟩ => Same.seqTT sj ta) ?_ ?_
    · rintro j y Hj H2 hj ⟨TD, sj⟩ ⟨p, z1, z2, rfl, np, rfl, e1, e2⟩
      obtain ⟨m, hm, rfl⟩ := getMapInt' e2
      have mm := M.mod m (List.mem_of_getElem? hm)
      cases Option.some.inj e1
      have sp := same_upd np (o := .tup [.int (j : Nat), .int m])
      have TD2 := TD.stay sp
      refine ⟨p, _, rfl, tupOf upd_same, rfl, _, _, rfl, _, _, rfl, rfl, rfl, _, rfl, _, rfl, _, rfl, _, _, rfl, rfl, by show (0 : Int) < m; omega, sizeOk (by show (2 : Nat) ≤ 100000; decide), fun u nu => ?_⟩
      have su := same_upd nu (o := .tup [.int (j : Nat), .int (x % m)])
      obtain ⟨us, eu, lu, Tn⟩ := (TD2.stay su).push (t := u) (l := [((j : Nat) : Int), x % m]) (tupOf upd_same)
      refine ⟨_, eu, ?_, ?_, samePut (sj.trans (sp.trans su)) nD⟩
      · rw [List.length_map, lu]
        unfold marksTo
        rw [List.length_map, List.length_range]
        rw [List.length_map] at hj
        exact sizeLt (by omega)
      · rw [marksTo_succ, show ms.getD j 1 = m by rw [List.getD_eq_getElem?_getD, hm]; rfl]
        exact Tn
    · rintro H2 ⟨TD, s2⟩
      rw [List.length_map] at TD
      exact q D _ s2 nD TD
end

end R
namespace R
open PySem PySem.Spec PyProof.Rows L2
/-! ## walks of a set comprehension of two fors -/
section
variable {P : Program} {w : World} {K : PySem.W.Frag}
/-- the inner walk -/
def Inner (P : Program) (w : World) (K : PySem.W.Frag) (g1 : TG) (tt1 : TT) (te : TE) (vs1 : List Nat) (σ2 : L2.St) (D : Addr) (J1 : It) (H4 : Hp) (Nx : Hp → Prop) : Prop :=
  ∃ W1 : Nat → Nat → Hp → Prop, (∃ m, W1 0 m H4) ∧ ∀ j k H, W1 j k H → (J1.stop j H ∧ Nx H) ∨
        (J1.go j H ∧ ∃ Nx1 : Hp → Prop, (∀ H', Nx1 H' → ∃ k', k' < k ∧ W1 (j + 1) k' H') ∧ ∀ x H', J1.yld j H x H' → g1 x (wipe σ2 vs1) H' fun σ3 H5 => wipe σ3 vs1 = wipe σ2 vs1 ∧ tt1 σ3 H5 fun b H6 =>
          if b = true then te σ3 H6 fun y H7 => ∃ (c : Addr) (k : List Int) (L : List (Addr × List Int)), y = .ref c ∧ SqT K H7 c (k.map V.int) ∧ H7 D = some (SetTO P w D L) ∧ (∀ p ∈ L, SqT K H7 p.1 (p.2.map V.int)) ∧ L.length + 1 < 64 ∧
            ∀ L', (k ∈ L.map (·.2) → L' = L) → (k ∉ L.map (·.2) → L'.Perm ((c, k) :: L)) → Nx1 (upd H7 D (SetTO P w D L')) else Nx1 H6)
theorem inner_list {g1 : TG} {tt1 : TT} {te : TE} {vs1 : List Nat} {σ2 : L2.St} {D a : Addr} {xs : List V} {H4 : Hp} {Nx : Hp → Prop} (Pv : Nat → Hp → Prop) (h0 : Pv 0 H4) (hl : ∀ j H, j ≤ xs.length → Pv j H → SqL K H a xs)
    (hs : ∀ j x H, xs[j]? = some x → Pv j H → g1 x (wipe σ2 vs1) H fun σ3 H5 => wipe σ3 vs1 = wipe σ2 vs1 ∧ tt1 σ3 H5 fun b H6 =>
          if b = true then te σ3 H6 fun y H7 => ∃ (c : Addr) (k : List Int) (L : List (Addr × List Int)), y = .ref c ∧ SqT K H7 c (k.map V.int) ∧ H7 D = some (SetTO P w D L) ∧ (∀ p ∈ L, SqT K H7 p.1 (p.2.map V.int)) ∧ L.length + 1 < 64 ∧
            ∀ L', (k ∈ L.map (·.2) → L' = L) → (k ∉ L.map (·.2) → L'.Perm ((c, k) :: L)) → Pv (j + 1) (upd H7 D (SetTO P w D L')) else Pv (j + 1) H6)
    (hd : ∀ H, Pv xs.length H → Nx H) : Inner P w K g1 tt1 te vs1 σ2 D (Itl K a) H4 Nx := by
  refine ⟨fun j m H => m = xs.length - j ∧ j ≤ xs.length ∧ Pv j H, ⟨_, rfl, Nat.zero_le _, h0⟩, ?_⟩
  rintro j _ H ⟨rfl, hj, p⟩
  by_cases lt : j < xs.length
  · refine .inr ⟨⟨xs, xs[j], hl j H hj p, by simp [lt]⟩, Pv (j + 1), fun H' p' => ⟨xs.length - (j + 1), by omega, rfl, lt, p'⟩, fun x H' ⟨e, y⟩ => ?_⟩
    subst e
    exact hs j x _ (y xs (hl j _ hj p)) p
  · obtain rfl : j = xs.length := by omega
    exact .inl ⟨⟨xs, hl _ H hj p, Nat.le_refl _⟩, hd H p⟩
theorem scT2_run {wi1 : TI} {g g1 : TG} {tt tt1 : TT} {te : TE} {vs vs1 : List Nat} {σ : L2.St} {H1 : Hp} {D : Addr} {Qd : Hp → Prop} {J : It} {xs : List V} (Pv : Nat → Hp → Prop) (h0 : Pv 0 (upd H1 D (SetTO P w D [])))
    (go : ∀ i H, i < xs.length → Pv i H → J.go i H) (stop : ∀ H, Pv xs.length H → J.stop xs.length H) (yld : ∀ i H x H', i < xs.length → Pv i H → J.yld i H x H' → H' = H ∧ xs[i]? = some x)
    (hs : ∀ i x H, xs[i]? = some x → Pv i H → g x (wipe σ vs) H fun σ2 H2 => wipe σ2 vs = wipe σ vs ∧ tt σ2 H2 fun b H3 => if b = true then wi1 σ2 H3 fun J1 H4 => Inner P w K g1 tt1 te vs1 σ2 D J1 H4 (Pv (i + 1)) else Pv (i + 1) H3)
    (hd : ∀ H, Pv xs.length H → Qd H) : ∃ W : Nat → Nat → Hp → Prop, (∃ m, W 0 m (upd H1 D (SetTO P w D []))) ∧ ∀ i m H, W i m H → (J.stop i H ∧ Qd H) ∨
    (J.go i H ∧ ∃ Nx : Hp → Prop, (∀ H', Nx H' → ∃ m', m' < m ∧ W (i + 1) m' H') ∧ ∀ x H', J.yld i H x H' → g x (wipe σ vs) H' fun σ2 H2 => wipe σ2 vs = wipe σ vs ∧ tt σ2 H2 fun b H3 =>
      if b = true then wi1 σ2 H3 fun J1 H4 => ∃ W1 : Nat → Nat → Hp → Prop, (∃ m, W1 0 m H4) ∧ ∀ j k H, W1 j k H → (J1.stop j H ∧ Nx H) ∨
        (J1.go j H ∧ ∃ Nx1 : Hp → Prop, (∀ H', Nx1 H' → ∃ k', k' < k ∧ W1 (j + 1) k' H') ∧ ∀ x H', J1.yld j H x H' → g1 x (wipe σ2 vs1) H' fun σ3 H5 => wipe σ3 vs1 = wipe σ2 vs1 ∧ tt1 σ3 H5 fun b H6 =>
          if b = true then te σ3 H6 fun y H7 => ∃ (c : Addr) (k : List Int) (L : List (Addr × List Int)), y = .ref c ∧ SqT K H7 c (k.map V.int) ∧ H7 D = some (SetTO P w D L) ∧ (∀ p ∈ L, SqT K H7 p.1 (p.2.map V.int)) ∧ L.length + 1 < 64 ∧
            ∀ L', (k ∈ L.map (·.2) → L' = L) → (k ∉ L.map (·.2) → L'.Perm ((c, k) :: L)) → Nx1 (upd H7 D (SetTO P w D L')) else Nx1 H6) else Nx H3) := by
  refine ⟨fun i m H => m = xs.length - i ∧ i ≤ xs.length ∧ Pv i H, ⟨_, rfl, Nat.zero_le _, h0⟩, ?_⟩
  rintro i _ H ⟨rfl, hi, p⟩
  by_cases lt : i < xs.length
  · refine .inr ⟨go i H lt p, Pv (i + 1), fun H' p' => ⟨xs.length - (i + 1), by omega, rfl, lt, p'⟩, fun x H' y => ?_⟩
    obtain ⟨rfl, hx⟩ := yld i H x H' lt p y
    exact hs i x _ hx p
  · obtain rfl : i = xs.length := by omega
    exact .inl ⟨stop H p, hd H p⟩
end

end R
namespace R
open PySem PySem.Spec PyProof.Rows L2
/-! ## held marks -/
def sp_p_held_marks (K : PySem.W.Frag) : Sp := fun vs H Q _ => ∃ (a b : Addr) (ms : List Int) (sl : List (Int × Bool)) (U : List (List Int)), vs = [.ref a, .ref b] ∧ SqT K H a (ms.map V.int) ∧ MOk ms ∧ SeenAt K H b sl ∧ U.length ≤ 60 ∧ (∀ p ∈ sl, p.2 = true → ∀ z ∈ marksL ms p.1, z ∈ U) ∧
  ∀ D hl H', Same H H' → H D = none → TupsAt K H' D hl → HeldIs ms sl hl → Q (.ref D) H'
/-- the marks of the first i that fit, and the first j marks of the next -/
def InHeld (ms : List Int) (sl : List (Int × Bool)) (i : Nat) (z : List Int) : Prop := ∃ p ∈ sl.take i, p.2 = true ∧ z ∈ marksL ms p.1
theorem marksL_at {ms : List Int} {x : Int} {j : Nat} {z : List Int} (h : (marksL ms x)[j]? = some z) : (marksL ms x).take (j + 1) = (marksL ms x).take j ++ [z] := takeSucc h
section
variable {P : Program} [POk P FILE] {w : World} {K : PySem.W.Frag} {mg : Str → Option Value} {base : Heap}
set_option maxHeartbeats 1600000 in
theorem ok_p_held_marks (T : Txt K mg) : FnOk P w K mg base CX0 3 T.f_p_held_marks T.fd_p_held_marks ["moduli", "seen"] (sp_p_held_marks K) := by
  refine T.F_p_held_marks.ok sc_p_held_marks (fun vs H Q E h => ?_) (fun cdv A outer s H vs Q E hr h => ?_)
  · obtain ⟨a, b, ms, sl, U, rfl, _⟩ := h
    rfl
  · obtain ⟨a, b, ms, sl, U, rfl, ta, M, S, u60, hU, q⟩ := h
    refine ⟨_, (pss_one (ps_ret (pe_callB (cr_sortedT rfl) (by rfl) T.z_sorted (by decide +kernel) (pa_cons (pe_scT2 (own := [("number", 2), ("does", 3), ("mark", 4)]) (vs1 := [4]) (g := gTup K 2 (gCons (gName 2) (gCons (gName 3) (gNil)))) rfl (in2u hr) sc_p_held_marks.nd (pi_either (pv 1)) (blkOk_by (N := ["moduli", "seen", "number", "does", "mark"]) (sc := defScope s_p_held_marks) (by decide +kernel)) (by decide) (fun _ _ _ _ _ => (pg_tup (by rfl) (pgs_cons (pg_name (i := 2) sc_p_held_marks.nd rfl (by first | exact .inl rfl | exact .inr rfl)) (pgs_cons (pg_name (i := 3) sc_p_held_marks.nd rfl (by first | exact .inl rfl | exact .inr rfl)) pgs_nil)))) (fun _ _ _ _ _ => (pts_one (pt_val (pv 3)))) (fun _ _ _ _ _ => (pi_listK (K := K) rfl (pe_call (ok_p_marks_of (P := P) T) (hr.mono (by decide)) (by rfl) T.g_p_marks_of T.F_p_marks_of.kp T.b_p_marks_of .nil pass0 (pa_cons (pv 0) (pa_cons (pv 2) pa_nil))))) (fun _ _ _ _ _ => (pg_name (i := 4) sc_p_held_marks.nd rfl (by first | exact .inl rfl | exact .inr rfl))) (fun _ _ _ _ _ => pts_nil) (fun _ _ _ _ _ => (pv 4))) pa_nil)))), ?_⟩
    obtain ⟨xs, hx, nx, fx⟩ := S.ex
    refine ⟨_, rfl, b, rfl, ?_⟩
    have tail : ∀ (D : Addr) (H2 : Hp) (L : List (Addr × List Int)), H D = none → H2 D = some (SetTO P w D L) → Mem K H2 L (InHeld ms sl sl.length) → (∀ c o, c ≠ D → H c = some o → H2 c = some o) →
        rSortedT K P w [.ref D] H2 Q := fun D H2 L nD eD mm kp => by
      refine ⟨D, L, 2, 64, rfl, eD, mm.at_, by decide, fun p hp => ?_, fun L' p' pm nd lt up np => ?_⟩
      · obtain ⟨s0, hs0, d0, hz⟩ := (mm.mem p.2).mp (List.mem_map.mpr ⟨p, hp, rfl⟩)
        obtain ⟨i, r, e, il, er⟩ := marks_two _ hz
        rw [e]
        have mi := M.mod (ms.getD i 1) (by rw [List.getD_eq_getElem?_getD, List.getElem?_eq_getElem il]; exact List.getElem_mem il)
        have r0 := Int.emod_nonneg s0.1 (show ms.getD i 1 ≠ 0 by omega)
        have r1 := Int.emod_lt_of_pos s0.1 (show (0 : Int) < ms.getD i 1 by omega)
        have h4 := M.four
        refine ⟨rfl, fun m hm => ?_⟩
        rcases List.mem_cons.mp hm with rfl | hm
        · omega
        · rw [List.mem_singleton.mp hm, er]
          omega
      · have sp := same_upd np (o := .lst (L'.map fun q => V.ref q.1))
        have hD : ∀ c o, H c = some o → c ≠ D := fun c o e z => by rw [z, nD] at e; cases e
        refine q p' (L'.map (·.2)) _ (fun c o e => sp _ _ (kp c o (hD c o e) e)) ?_ ⟨L'.map (·.1), by rw [upd_same, List.map_map]; rfl, by rw [List.length_map, List.length_map], fun i t l h1 h2 => ?_⟩ ⟨nd, fun z => ?_⟩
        · cases e : H p' with
          | none => rfl
          | some o =>
            have := kp p' o (hD p' o e) e
            rw [np] at this
            cases this
        · rw [List.getElem?_map] at h1 h2
          obtain ⟨z1, g1, rfl⟩ := Option.map_eq_some_iff.mp h1
          rw [g1] at h2
          cases h2
          exact Same.seqTT sp (mm.at_ z1 (pm.mem_iff.mp (List.mem_of_getElem? g1)))
        · rw [(pm.map (·.2)).mem_iff, mm.mem]
          unfold InHeld
          rw [List.take_length]
    rcases hx with hl | ht
    · refine .inl ⟨⟨_, lstOf hl⟩, fun D nD => ?_⟩
      have bD : b ≠ D := fun z => by rw [z, nD] at hl; cases hl
      refine scT2_run (K := K) (xs := xs) (fun i Hi => ∃ L, Hi D = some (SetTO P w D L) ∧ Mem K Hi L (InHeld ms sl i) ∧ ∀ c o, c ≠ D → H c = some o → Hi c = some o) ⟨[], upd_same, Mem.nil.congr fun z => ⟨fun h => h.elim, fun ⟨p, hp, _⟩ => by rw [List.take_zero] at hp; cases hp⟩, fun c o n e => by rw [upd_ne n]; exact e⟩ ?_ ?_ ?_ ?_ ?_
      · intro i Hi hi ⟨L, eD, mm, kp⟩
        exact ⟨xs, xs[i], lstOf (kp _ _ bD hl), by simp [hi]⟩
      · intro Hi ⟨L, eD, mm, kp⟩
        exact ⟨xs, lstOf (kp _ _ bD hl), Nat.le_refl _⟩
      · rintro i Hi x H' hi ⟨L, eD, mm, kp⟩ ⟨e, y⟩
        exact ⟨e, y xs (lstOf (kp _ _ bD hl))⟩
      · rintro i x Hi hx ⟨L, eD, mm, kp⟩
        have il : i < sl.length := by
          have := (List.getElem?_eq_some_iff.mp hx).1
          omega
        have hsl : sl[i]? = some sl[i] := List.getElem?_eq_getElem il
        obtain ⟨t, rfl, qt⟩ := fx i x _ hx hsl
        have keepT : ∀ {Hj : Hp}, (∀ c o, c ≠ D → H c = some o → Hj c = some o) → TupsStay K H Hj := fun kj c ys h => by
          rcases h with (h | ⟨o, h⟩) | h
          · exact .inl (.inl (kj _ _ (fun z => by rw [z, nD] at h; cases h) h))
          · exact .inl (.inr ⟨o, kj _ _ (fun z => by rw [z, nD] at h; cases h) h⟩)
          · exact .inr h
        refine ⟨t, [_, _], rfl, keepT kp _ _ qt, rfl, _, _, rfl, _, _, rfl, rfl, rfl, _, rfl, _, rfl, ?_⟩
        have hm := List.getElem_mem il
        have tk := takeSucc hsl
        generalize sl[i] = p at hsl qt hm tk
        obtain ⟨x, d⟩ := p
        cases d with
        | false =>
          refine iteF ⟨L, eD, mm.congr fun z => ?_, kp⟩
          unfold InHeld
          rw [tk]
          constructor
          · rintro ⟨p, hp, h⟩
            exact ⟨p, List.mem_append_left _ hp, h⟩
          · rintro ⟨p, hp, h1, h2⟩
            rcases List.mem_append.mp hp with hp | hp
            · exact ⟨p, hp, h1, h2⟩
            · rw [List.mem_singleton.mp hp] at h1
              cases h1
        | true =>
          refine iteT ⟨_, rfl, _, rfl, a, ms, x, rfl, keepT kp _ _ ta, M, fun D1 H5 s5 n5 T5 => ?_⟩
          obtain ⟨ts, e5, lt5, at5⟩ := T5.ex
          have DD : D1 ≠ D := fun z => by rw [z, eD] at n5; cases n5
          refine ⟨D1, rfl, ⟨_, lstOf e5⟩, inner_list (K := K) (xs := ts.map V.ref) (fun j Hj => ∃ L, Hj D = some (SetTO P w D L) ∧ Mem K Hj L (fun z => InHeld ms sl i z ∨ z ∈ (marksL ms x).take j) ∧ ∀ c o, c ≠ D → H5 c = some o → Hj c = some o)
            ⟨L, s5 _ _ eD, (mm.stay (.same s5)).congr fun z => ⟨.inl, fun h => h.elim id fun h => by rw [List.take_zero] at h; cases h⟩, fun c o _ e => e⟩ ?_ ?_ ?_⟩
          · rintro j Hj hj ⟨L, eD, mm, kj⟩
            exact lstOf (kj _ _ DD e5)
          · rintro j y Hj hj ⟨L, eDj, mj, kj⟩
            rw [List.getElem?_map] at hj
            obtain ⟨tz, htz, rfl⟩ := Option.map_eq_some_iff.mp hj
            have jl := (List.getElem?_eq_some_iff.mp htz).1
            obtain ⟨z, hz⟩ : ∃ z, (marksL ms x)[j]? = some z := ⟨_, List.getElem?_eq_getElem (by omega)⟩
            have keep5 : ∀ {Hk : Hp}, (∀ c o, c ≠ D → H5 c = some o → Hk c = some o) → TupsStay K H5 Hk := fun kj c ys h => by
              have e5D := s5 _ _ eD
              rcases h with (h | ⟨o, h⟩) | h
              · exact .inl (.inl (kj _ _ (fun z => by rw [z, e5D] at h; cases h) h))
              · exact .inl (.inr ⟨o, kj _ _ (fun z => by rw [z, e5D] at h; cases h) h⟩)
              · exact .inr h
            have sq := keep5 kj _ _ (at5 j tz z htz hz)
            have few := mj.few (U := U) fun z hz => by
              rcases hz with ⟨p, hp, h1, h2⟩ | hz
              · exact hU p (List.mem_of_mem_take hp) h1 z h2
              · exact hU _ hm rfl z (List.mem_of_mem_take hz)
            refine ⟨rfl, _, rfl, tz, z, L, rfl, sq, eDj, mj.at_, by omega, fun L' m1 m2 => ⟨L', upd_same, ?_, fun c o n e => by rw [upd_ne n]; exact kj c o n e⟩⟩
            have stay : TupsStay K Hj (upd Hj D (SetTO P w D L')) := fun c ys h => by
              rcases h with (h | ⟨o, h⟩) | h
              · exact .inl (.inl (by rw [upd_ne (fun z => by rw [z, eDj] at h; cases h)]; exact h))
              · exact .inl (.inr ⟨o, by rw [upd_ne (fun z => by rw [z, eDj] at h; cases h)]; exact h⟩)
              · exact .inr h
            refine ((mj.add sq m1 m2).stay stay).congr fun y => ?_
            rw [takeSucc hz, List.mem_append, List.mem_singleton, or_assoc]
          · rintro Hj ⟨L, eDj, mj, kj⟩
            rw [List.length_map, lt5, List.take_length] at mj
            refine ⟨L, eDj, mj.congr fun z => ?_, fun c o n e => kj c o n (s5 _ _ (kp c o n e))⟩
            unfold InHeld
            rw [tk]
            constructor
            · rintro (⟨p, hp, h⟩ | h)
              · exact ⟨p, List.mem_append_left _ hp, h⟩
              · exact ⟨_, List.mem_append_right _ (List.mem_singleton.mpr rfl), rfl, h⟩
            · rintro ⟨p, hp, h1, h2⟩
              rcases List.mem_append.mp hp with hp | hp
              · exact .inl ⟨p, hp, h1, h2⟩
              · rw [List.mem_singleton.mp hp] at h2
                exact .inr h2
      · rintro Hi ⟨L, eD, mm, kp⟩
        rw [nx] at mm
        exact tail D Hi L nD eD mm kp
    · refine .inr ⟨⟨_, ht⟩, fun D nD => ?_⟩
      have kT : ∀ {Hj : Hp}, (∀ c o, c ≠ D → H c = some o → Hj c = some o) → SqT K Hj b xs := fun kj => by
        rcases ht with (h | ⟨o, h⟩) | h
        · exact .inl (.inl (kj _ _ (fun z => by rw [z, nD] at h; cases h) h))
        · exact .inl (.inr ⟨o, kj _ _ (fun z => by rw [z, nD] at h; cases h) h⟩)
        · exact .inr h
      refine scT2_run (K := K) (xs := xs) (fun i Hi => ∃ L, Hi D = some (SetTO P w D L) ∧ Mem K Hi L (InHeld ms sl i) ∧ ∀ c o, c ≠ D → H c = some o → Hi c = some o) ⟨[], upd_same, Mem.nil.congr fun z => ⟨fun h => h.elim, fun ⟨p, hp, _⟩ => by rw [List.take_zero] at hp; cases hp⟩, fun c o n e => by rw [upd_ne n]; exact e⟩ ?_ ?_ ?_ ?_ ?_
      · intro i Hi hi ⟨L, eD, mm, kp⟩
        exact ⟨xs, xs[i], kT kp, by simp [hi]⟩
      · intro Hi ⟨L, eD, mm, kp⟩
        exact ⟨xs, kT kp, Nat.le_refl _⟩
      · rintro i Hi x H' hi ⟨L, eD, mm, kp⟩ ⟨e, y⟩
        exact ⟨e, y xs (kT kp)⟩
      · rintro i x Hi hx ⟨L, eD, mm, kp⟩
        have il : i < sl.length := by
          have := (List.getElem?_eq_some_iff.mp hx).1
          omega
        have hsl : sl[i]? = some sl[i] := List.getElem?_eq_getElem il
        obtain ⟨t, rfl, qt⟩ := fx i x _ hx hsl
        have keepT : ∀ {Hj : Hp}, (∀ c o, c ≠ D → H c = some o → Hj c = some o) → TupsStay K H Hj := fun kj c ys h => by
          rcases h with (h | ⟨o, h⟩) | h
          · exact .inl (.inl (kj _ _ (fun z => by rw [z, nD] at h; cases h) h))
          · exact .inl (.inr ⟨o, kj _ _ (fun z => by rw [z, nD] at h; cases h) h⟩)
          · exact .inr h
        refine ⟨t, [_, _], rfl, keepT kp _ _ qt, rfl, _, _, rfl, _, _, rfl, rfl, rfl, _, rfl, _, rfl, ?_⟩
        have hm := List.getElem_mem il
        have tk := takeSucc hsl
        generalize sl[i] = p at hsl qt hm tk
        obtain ⟨x, d⟩ := p
        cases d with
        | false =>
          refine iteF ⟨L, eD, mm.congr fun z => ?_, kp⟩
          unfold InHeld
          rw [tk]
          constructor
          · rintro ⟨p, hp, h⟩
            exact ⟨p, List.mem_append_left _ hp, h⟩
          · rintro ⟨p, hp, h1, h2⟩
            rcases List.mem_append.mp hp with hp | hp
            · exact ⟨p, hp, h1, h2⟩
            · rw [List.mem_singleton.mp hp] at h1
              cases h1
        | true =>
          refine iteT ⟨_, rfl, _, rfl, a, ms, x, rfl, keepT kp _ _ ta, M, fun D1 H5 s5 n5 T5 => ?_⟩
          obtain ⟨ts, e5, lt5, at5⟩ := T5.ex
          have DD : D1 ≠ D := fun z => by rw [z, eD] at n5; cases n5
          refine ⟨D1, rfl, ⟨_, lstOf e5⟩, inner_list (K := K) (xs := ts.map V.ref) (fun j Hj => ∃ L, Hj D = some (SetTO P w D L) ∧ Mem K Hj L (fun z => InHeld ms sl i z ∨ z ∈ (marksL ms x).take j) ∧ ∀ c o, c ≠ D → H5 c = some o → Hj c = some o)
            ⟨L, s5 _ _ eD, (mm.stay (.same s5)).congr fun z => ⟨.inl, fun h => h.elim id fun h => by rw [List.take_zero] at h; cases h⟩, fun c o _ e => e⟩ ?_ ?_ ?_⟩
          · rintro j Hj hj ⟨L, eD, mm, kj⟩
            exact lstOf (kj _ _ DD e5)
          · rintro j y Hj hj ⟨L, eDj, mj, kj⟩
            rw [List.getElem?_map] at hj
            obtain ⟨tz, htz, rfl⟩ := Option.map_eq_some_iff.mp hj
            have jl := (List.getElem?_eq_some_iff.mp htz).1
            obtain ⟨z, hz⟩ : ∃ z, (marksL ms x)[j]? = some z := ⟨_, List.getElem?_eq_getElem (by omega)⟩
            have keep5 : ∀ {Hk : Hp}, (∀ c o, c ≠ D → H5 c = some o → Hk c = some o) → TupsStay K H5 Hk := fun kj c ys h => by
              have e5D := s5 _ _ eD
              rcases h with (h | ⟨o, h⟩) | h
              · exact .inl (.inl (kj _ _ (fun z => by rw [z, e5D] at h; cases h) h))
              · exact .inl (.inr ⟨o, kj _ _ (fun z => by rw [z, e5D] at h; cases h) h⟩)
              · exact .inr h
            have sq := keep5 kj _ _ (at5 j tz z htz hz)
            have few := mj.few (U := U) fun z hz => by
              rcases hz with ⟨p, hp, h1, h2⟩ | hz
              · exact hU p (List.mem_of_mem_take hp) h1 z h2
              · exact hU _ hm rfl z (List.mem_of_mem_take hz)
            refine ⟨rfl, _, rfl, tz, z, L, rfl, sq, eDj, mj.at_, by omega, fun L' m1 m2 => ⟨L', upd_same, ?_, fun c o n e => by rw [upd_ne n]; exact kj c o n e⟩⟩
            have stay : TupsStay K Hj (upd Hj D (SetTO P w D L')) := fun c ys h => by
              rcases h with (h | ⟨o, h⟩) | h
              · exact .inl (.inl (by rw [upd_ne (fun z => by rw [z, eDj] at h; cases h)]; exact h))
              · exact .inl (.inr ⟨o, by rw [upd_ne (fun z => by rw [z, eDj] at h; cases h)]; exact h⟩)
              · exact .inr h
            refine ((mj.add sq m1 m2).stay stay).congr fun y => ?_
            rw [takeSucc hz, List.mem_append, List.mem_singleton, or_assoc]
          · rintro Hj ⟨L, eDj, mj, kj⟩
            rw [List.length_map, lt5, List.take_length] at mj
            refine ⟨L, eDj, mj.congr fun z => ?_, fun c o n e => kj c o n (s5 _ _ (kp c o n e))⟩
            unfold InHeld
            rw [tk]
            constructor
            · rintro (⟨p, hp, h⟩ | h)
              · exact ⟨p, List.mem_append_left _ hp, h⟩
              · exact ⟨_, List.mem_append_right _ (List.mem_singleton.mpr rfl), rfl, h⟩
            · rintro ⟨p, hp, h1, h2⟩
              rcases List.mem_append.mp hp with hp | hp
              · exact .inl ⟨p, hp, h1, h2⟩
              · rw [List.mem_singleton.mp hp] at h2
                exact .inr h2
      · rintro Hi ⟨L, eD, mm, kp⟩
        rw [nx] at mm
        exact tail D Hi L nD eD mm kp
end

end R
namespace R
open PySem PySem.Spec PyProof.Rows L2
/-! ## unheld marks -/
def sp_p_unheld_marks (K : PySem.W.Frag) : Sp := fun vs H Q _ => ∃ (a b : Addr) (ms : List Int) (sl : List (Int × Bool)) (U : List (List Int)), vs = [.ref a, .ref b] ∧ SqT K H a (ms.map V.int) ∧ MOk ms ∧ SeenAt K H b sl ∧ sl.length ≤ 20 ∧ U.length ≤ 60 ∧ (∀ p ∈ sl, p.2 = true → ∀ z ∈ marksL ms p.1, z ∈ U) ∧
  ∀ D hl H', Same H H' → H D = none → LLAt K H' D (unheldL ms hl sl) → HeldIs ms sl hl → Q (.ref D) H'
def unheldTo (ms : List Int) (hl : List (List Int)) (sl : List (Int × Bool)) (n : Nat) : List (List (List Int)) := unheldL ms hl (sl.take n)
theorem unheldTo_succ {ms : List Int} {hl : List (List Int)} {sl : List (Int × Bool)} {n : Nat} {p : Int × Bool} (h : sl[n]? = some p) : unheldTo ms hl sl (n + 1) = unheldTo ms hl sl n ++ (if p.2 = true then [] else [leftOf ms hl p.1]) := by
  unfold unheldTo unheldL
  rw [takeSucc h, List.filter_append, List.map_append]
  cases e : p.2 with
  | true =>
    rw [List.filter_cons_of_neg (by rw [e]; decide), if_pos rfl]
    rfl
  | false =>
    rw [List.filter_cons_of_pos (by rw [e]; rfl), if_neg Bool.false_ne_true]
    rfl
theorem LLAt.nil {K : PySem.W.Frag} {H : Hp} {D : Addr} (h : H D = some (.lst [])) : LLAt K H D [] := ⟨[], h, rfl, fun i b u a _ => by simp at a⟩
theorem LLAt.push {K : PySem.W.Frag} {H : Hp} {D t : Addr} {LL : List (List (List Int))} {l : List (List Int)} (h : LLAt K H D LL) (ht : TupsAt K H t l) (ne : t ≠ D) (old : ∀ (as_ : List Addr), H D = some (.lst (as_.map V.ref)) → D ∉ as_) :
    ∃ as_ : List Addr, H D = some (.lst (as_.map V.ref)) ∧ as_.length = LL.length ∧ LLAt K (upd H D (.lst (as_.map V.ref ++ [V.ref t]))) D (LL ++ [l]) := by
  obtain ⟨as_, e, n, f⟩ := h.ex
  have no := old as_ e
  have other : ∀ {b : Addr} {u : List (List Int)}, b ≠ D → TupsAt K H b u → TupsAt K (upd H D (.lst (as_.map V.ref ++ [V.ref t]))) b u := fun {b u} nb hb => by
    obtain ⟨ts, e1, n1, f1⟩ := hb.ex
    exact ⟨ts, by rw [upd_ne nb]; exact e1, n1, fun i t' l' x y => lstTups e _ _ (f1 i t' l' x y)⟩
  refine ⟨as_, e, n, as_ ++ [t], by rw [upd_same, List.map_append]; rfl, by rw [List.length_append, List.length_append, n]; rfl, fun i b u a c => ?_⟩
  by_cases hi : i < as_.length
  · rw [List.getElem?_append_left hi] at a
    rw [List.getElem?_append_left (by omega)] at c
    exact other (fun z => no (z ▸ List.mem_of_getElem? a)) (f i b u a c)
  · rw [List.getElem?_append_right (by omega)] at a
    rw [List.getElem?_append_right (by omega), ← n] at c
    cases z : i - as_.length with
    | zero =>
      rw [z] at a c
      cases Option.some.inj a
      cases Option.some.inj c
      exact other ne ht
    | succ j => rw [z] at a; simp at a
theorem nilNot {H : Hp} {D : Addr} {as_ : List Addr} (e : upd H D (.lst []) D = some (.lst (as_.map V.ref))) : D ∉ as_ := fun hm => by
  rw [upd_same] at e
  have e0 : ([] : List V) = as_.map V.ref := HO.lst.inj (Option.some.inj e)
  rw [List.map_eq_nil_iff.mp e0.symm] at hm
  cases hm
section
variable {P : Program} [POk P FILE] {w : World} {K : PySem.W.Frag} {mg : Str → Option Value} {base : Heap}
set_option maxHeartbeats 1600000 in
theorem ok_p_unheld_marks (T : Txt K mg) : FnOk P w K mg base CX0 4 T.f_p_unheld_marks T.fd_p_unheld_marks ["moduli", "seen"] (sp_p_unheld_marks K) := by
  refine T.F_p_unheld_marks.ok sc_p_unheld_marks (fun vs H Q E h => ?_) (fun cdv A outer s H vs Q E hr h => ?_)
  · obtain ⟨a, b, ms, sl, U, rfl, _⟩ := h
    rfl
  · obtain ⟨a, b, ms, sl, U, rfl, ta, M, S, s20, u60, hU, q⟩ := h
    refine ⟨_, (pss_cons (ps_set (i := 2) sc_p_unheld_marks.nd rfl (by first | exact .inl rfl | exact .inr rfl) (pe_call (ok_p_held_marks (P := P) T) (hr.mono (by decide)) (by rfl) T.g_p_held_marks T.F_p_held_marks.kp T.b_p_held_marks .nil pass0 (pa_cons (pv 0) (pa_cons (pv 1) pa_nil))))
      (pss_one (ps_ret (pe_lc (own := [("number", 3), ("does", 4)]) (g := gTup K 2 (gCons (gName 3) (gCons (gName 4) (gNil)))) rfl sc_p_unheld_marks.nd (pi_either (pv 1)) (blkOk_by (N := ["moduli", "seen", "held", "number", "does", "mark"]) (sc := defScope s_p_unheld_marks) (by decide +kernel)) (fun _ _ _ _ _ => (pg_tup (by rfl) (pgs_cons (pg_name (i := 3) sc_p_unheld_marks.nd rfl (by first | exact .inl rfl | exact .inr rfl)) (pgs_cons (pg_name (i := 4) sc_p_unheld_marks.nd rfl (by first | exact .inl rfl | exact .inr rfl)) pgs_nil)))) (fun _ _ _ _ _ => (pts_one (pt_not (pt_val (pv 4))))) (fun _ _ _ _ _ => (by exact (pe_lc (own := [("mark", 5)]) rfl sc_p_unheld_marks.nd (pi_listK (K := K) rfl (pe_call (ok_p_marks_of (P := P) T) (hr.mono (by decide)) (by rfl) T.g_p_marks_of T.F_p_marks_of.kp T.b_p_marks_of .nil pass0 (pa_cons (pv 0) (pa_cons (pv 3) pa_nil)))) (blkOk_by (N := ["moduli", "seen", "held", "number", "does", "mark"]) (by kernel_rfl)) (fun _ _ _ _ _ => (pg_name (i := 5) sc_p_unheld_marks.nd rfl (by first | exact .inl rfl | exact .inr rfl))) (fun _ _ _ _ _ => (pts_one (pt_cmpR (r := rNotInD K) (op_notInD (un65 hr)) (pv 5) (pv 2) (by rfl)))) (fun _ _ _ _ _ => (pv 5))))))))), ?_⟩
    refine ⟨_, rfl, _, rfl, a, b, ms, sl, U, rfl, ta, M, S, u60, hU, fun D0 hl H1 s1 n1 T1 HI => ?_⟩
    have ta1 := Same.seqTT s1 ta
    obtain ⟨xs, hx, nx, fx⟩ := (S.stay s1).ex
    refine ⟨_, rfl, b, rfl, ?_⟩
    rcases hx with hb | hb
    · refine .inl ⟨⟨_, lstOf hb⟩, fun D nD => ?_⟩
      refine lc_list (K := K) (a := b) (xs := xs) (fun i Hi => LLAt K Hi D (unheldTo ms hl sl i) ∧ (∀ (as_ : List Addr), Hi D = some (.lst (as_.map V.ref)) → D ∉ as_) ∧ Same H1 Hi) ⟨LLAt.nil upd_same, fun as_ e => nilNot e, same_upd nD⟩ (fun i Hi _ ⟨_, _, si⟩ => lstOf (si _ _ hb)) ?_ ?_
      · rintro i x Hi hx' ⟨LD, nD', si⟩
        have il : i < sl.length := by
          have := (List.getElem?_eq_some_iff.mp hx').1
          omega
        have hsl : sl[i]? = some sl[i] := List.getElem?_eq_getElem il
        obtain ⟨t, rfl, qt⟩ := fx i x _ hx' hsl
        refine ⟨t, [_, _], rfl, Same.seqTT si qt, rfl, _, _, rfl, _, _, rfl, rfl, rfl, _, rfl, _, rfl, ?_⟩
        have us := unheldTo_succ (ms := ms) (hl := hl) hsl
        have ul : (unheldTo ms hl sl i).length ≤ 20 := by
          unfold unheldTo unheldL
          rw [List.length_map]
          have := List.length_filter_le (fun p : Int × Bool => !p.2) (sl.take i)
          rw [List.length_take] at this
          omega
        generalize sl[i] = p at us qt
        obtain ⟨x, d⟩ := p
        cases d with
        | true =>
          refine iteF ⟨?_, nD', si⟩
          rw [us, if_pos rfl, List.append_nil]
          exact LD
        | false =>
          refine iteT ⟨_, rfl, _, rfl, a, ms, x, rfl, Same.seqTT si ta1, M, fun D2 H5 s5 n5 T5 => ⟨D2, rfl, ?_⟩⟩
          obtain ⟨ts, e5, lt5, at5⟩ := T5.ex
          refine ⟨⟨_, lstOf e5⟩, fun G nG => ?_⟩
          refine lc_list (K := K) (a := D2) (xs := ts.map V.ref) (fun j Hj => TupsAt K Hj G (((marksL ms x).take j).filter fun z => decide (z ∉ hl)) ∧ Same H5 Hj) ⟨TupsAt.nil upd_same, same_upd nG⟩ (fun j Hj _ ⟨_, sj⟩ => lstOf (sj _ _ e5)) ?_ ?_
          · rintro j y Hj hj ⟨TG, sj⟩
            rw [List.getElem?_map] at hj
            obtain ⟨tz, htz, rfl⟩ := Option.map_eq_some_iff.mp hj
            have jl := (List.getElem?_eq_some_iff.mp htz).1
            obtain ⟨z, hz⟩ : ∃ z, (marksL ms x)[j]? = some z := ⟨_, List.getElem?_eq_getElem (by omega)⟩
            have sq := Same.seqTT sj (at5 j tz z htz hz)
            have T1j := ((T1.stay (si.trans s5)).stay sj)
            refine ⟨rfl, _, rfl, _, rfl, tD z, hl.map tD, dpTup sq, T1j.dp, (okD.tup (okInts _)).shaped (by decide), okTupsS _, _, rfl, ?_⟩
            show if (!((hl.map tD).any fun y => PyData.eqv y (tD z))) = true then _ else _
            rw [inTup, ← decide_not]
            refine ite2 (fun e => ?_) (fun e => ?_)
            · obtain ⟨us', eu, lu, Tn⟩ := TG.push sq
              refine ⟨_, rfl, _, eu, ?_, ?_, samePut sj nG⟩
              · have := List.length_filter_le (fun z => decide (z ∉ hl)) ((marksL ms x).take j)
                rw [List.length_take] at this
                have m4 := M.four
                have ml : (marksL ms x).length = ms.length := by
                  unfold marksL
                  rw [List.length_map, List.length_range]
                rw [List.length_map, lu]
                exact sizeLt (by omega)
              · rw [takeFilter hz, if_pos e]
                exact Tn
            · refine ⟨?_, sj⟩
              rw [takeFilter hz, if_neg e, List.append_nil]
              exact TG
          · rintro Hj ⟨TG, sj⟩
            rw [List.length_map, lt5, List.take_length] at TG
            have s5j := s5.trans sj
            have LDj := LD.stay s5j
            have GD : G ≠ D := fun z => by
              obtain ⟨as_, e, _⟩ := LD.ex
              have := s5 _ _ e
              rw [z, this] at nG
              cases nG
            obtain ⟨as_, ea, la, LN⟩ := LDj.push TG GD fun as' e hm => nD' as' (by
              obtain ⟨as2, e2, _⟩ := LD.ex
              have e3 := s5j _ _ e2
              rw [e] at e3
              have : as'.map V.ref = as2.map V.ref := HO.lst.inj (Option.some.inj e3)
              rw [e2, this]) hm
            refine ⟨_, ea, ?_, ?_, ?_, samePut (si.trans s5j) nD⟩
            · rw [List.length_map, la]
              exact sizeLt (by omega)
            · rw [us, if_neg Bool.false_ne_true]
              exact LN
            · intro as' e hm
              rw [upd_same] at e
              have e4 : as_.map V.ref ++ [V.ref G] = as'.map V.ref := HO.lst.inj (Option.some.inj e)
              have hm' : V.ref D ∈ as'.map V.ref := List.mem_map.mpr ⟨D, hm, rfl⟩
              rw [← e4] at hm'
              rcases List.mem_append.mp hm' with h | h
              · obtain ⟨c, hc, ec⟩ := List.mem_map.mp h
                cases ec
                obtain ⟨as2, e2, _⟩ := LD.ex
                have e3 := s5j _ _ e2
                rw [ea] at e3
                have : as_.map V.ref = as2.map V.ref := HO.lst.inj (Option.some.inj e3)
                rw [(List.map_inj_right (fun x y h => V.ref.inj h)).mp this] at hc
                exact nD' as2 e2 hc
              · rw [List.mem_singleton] at h
                cases h
                exact GD rfl
      · rintro Hi ⟨LD, nD', si⟩
        rw [nx] at LD
        refine q D hl Hi (s1.trans si) ?_ ?_ HI
        · exact s1.free (by exact nD)
        · have : unheldTo ms hl sl sl.length = unheldL ms hl sl := by
            unfold unheldTo
            rw [List.take_length]
          rw [← this]
          exact LD
    · refine .inr ⟨⟨_, hb⟩, fun D nD => ?_⟩
      refine lc_tup (K := K) (a := b) (xs := xs) (fun i Hi => LLAt K Hi D (unheldTo ms hl sl i) ∧ (∀ (as_ : List Addr), Hi D = some (.lst (as_.map V.ref)) → D ∉ as_) ∧ Same H1 Hi) ⟨LLAt.nil upd_same, fun as_ e => nilNot e, same_upd nD⟩ (fun i Hi _ ⟨_, _, si⟩ => Same.seqTT si hb) ?_ ?_
      · rintro i x Hi hx' ⟨LD, nD', si⟩
        have il : i < sl.length := by
          have := (List.getElem?_eq_some_iff.mp hx').1
          omega
        have hsl : sl[i]? = some sl[i] := List.getElem?_eq_getElem il
        obtain ⟨t, rfl, qt⟩ := fx i x _ hx' hsl
        refine ⟨t, [_, _], rfl, Same.seqTT si qt, rfl, _, _, rfl, _, _, rfl, rfl, rfl, _, rfl, _, rfl, ?_⟩
        have us := unheldTo_succ (ms := ms) (hl := hl) hsl
        have ul : (unheldTo ms hl sl i).length ≤ 20 := by
          unfold unheldTo unheldL
          rw [List.length_map]
          have := List.length_filter_le (fun p : Int × Bool => !p.2) (sl.take i)
          rw [List.length_take] at this
          omega
        generalize sl[i] = p at us qt
        obtain ⟨x, d⟩ := p
        cases d with
        | true =>
          refine iteF ⟨?_, nD', si⟩
          rw [us, if_pos rfl, List.append_nil]
          exact LD
        | false =>
          refine iteT ⟨_, rfl, _, rfl, a, ms, x, rfl, Same.seqTT si ta1, M, fun D2 H5 s5 n5 T5 => ⟨D2, rfl, ?_⟩⟩
          obtain ⟨ts, e5, lt5, at5⟩ := T5.ex
          refine ⟨⟨_, lstOf e5⟩, fun G nG => ?_⟩
          refine lc_list (K := K) (a := D2) (xs := ts.map V.ref) (fun j Hj => TupsAt K Hj G (((marksL ms x).take j).filter fun z => decide (z ∉ hl)) ∧ Same H5 Hj) ⟨TupsAt.nil upd_same, same_upd nG⟩ (fun j Hj _ ⟨_, sj⟩ => lstOf (sj _ _ e5)) ?_ ?_
          · rintro j y Hj hj ⟨TG, sj⟩
            rw [List.getElem?_map] at hj
            obtain ⟨tz, htz, rfl⟩ := Option.map_eq_some_iff.mp hj
            have jl := (List.getElem?_eq_some_iff.mp htz).1
            obtain ⟨z, hz⟩ : ∃ z, (marksL ms x)[j]? = some z := ⟨_, List.getElem?_eq_getElem (by omega)⟩
            have sq := Same.seqTT sj (at5 j tz z htz hz)
            have T1j := ((T1.stay (si.trans s5)).stay sj)
            refine ⟨rfl, _, rfl, _, rfl, tD z, hl.map tD, dpTup sq, T1j.dp, (okD.tup (okInts _)).shaped (by decide), okTupsS _, _, rfl, ?_⟩
            show if (!((hl.map tD).any fun y => PyData.eqv y (tD z))) = true then _ else _
            rw [inTup, ← decide_not]
            refine ite2 (fun e => ?_) (fun e => ?_)
            · obtain ⟨us', eu, lu, Tn⟩ := TG.push sq
              refine ⟨_, rfl, _, eu, ?_, ?_, samePut sj nG⟩
              · have := List.length_filter_le (fun z => decide (z ∉ hl)) ((marksL ms x).take j)
                rw [List.length_take] at this
                have m4 := M.four
                have ml : (marksL ms x).length = ms.length := by
                  unfold marksL
                  rw [List.length_map, List.length_range]
                rw [List.length_map, lu]
                exact sizeLt (by omega)
              · rw [takeFilter hz, if_pos e]
                exact Tn
            · refine ⟨?_, sj⟩
              rw [takeFilter hz, if_neg e, List.append_nil]
              exact TG
          · rintro Hj ⟨TG, sj⟩
            rw [List.length_map, lt5, List.take_length] at TG
            have s5j := s5.trans sj
            have LDj := LD.stay s5j
            have GD : G ≠ D := fun z => by
              obtain ⟨as_, e, _⟩ := LD.ex
              have := s5 _ _ e
              rw [z, this] at nG
              cases nG
            obtain ⟨as_, ea, la, LN⟩ := LDj.push TG GD fun as' e hm => nD' as' (by
              obtain ⟨as2, e2, _⟩ := LD.ex
              have e3 := s5j _ _ e2
              rw [e] at e3
              have : as'.map V.ref = as2.map V.ref := HO.lst.inj (Option.some.inj e3)
              rw [e2, this]) hm
            refine ⟨_, ea, ?_, ?_, ?_, samePut (si.trans s5j) nD⟩
            · rw [List.length_map, la]
              exact sizeLt (by omega)
            · rw [us, if_neg Bool.false_ne_true]
              exact LN
            · intro as' e hm
              rw [upd_same] at e
              have e4 : as_.map V.ref ++ [V.ref G] = as'.map V.ref := HO.lst.inj (Option.some.inj e)
              have hm' : V.ref D ∈ as'.map V.ref := List.mem_map.mpr ⟨D, hm, rfl⟩
              rw [← e4] at hm'
              rcases List.mem_append.mp hm' with h | h
              · obtain ⟨c, hc, ec⟩ := List.mem_map.mp h
                cases ec
                obtain ⟨as2, e2, _⟩ := LD.ex
                have e3 := s5j _ _ e2
                rw [ea] at e3
                have : as_.map V.ref = as2.map V.ref := HO.lst.inj (Option.some.inj e3)
                rw [(List.map_inj_right (fun x y h => V.ref.inj h)).mp this] at hc
                exact nD' as2 e2 hc
              · rw [List.mem_singleton] at h
                cases h
                exact GD rfl
      · rintro Hi ⟨LD, nD', si⟩
        rw [nx] at LD
        refine q D hl Hi (s1.trans si) ?_ ?_ HI
        · exact s1.free (by exact nD)
        · have : unheldTo ms hl sl sl.length = unheldL ms hl sl := by
            unfold unheldTo
            rw [List.take_length]
          rw [← this]
          exact LD
end

end R
namespace R
open PySem PySem.Spec PyProof.Rows L2
/-! ## rows, and all marks -/
/-- how many rows of T places hold all of hl and none of the others whole -/
def rowsW (T : Nat) (hl : List (List Int)) : List (List (List Int)) → Int
  | [] => 2 ^ (T - hl.length)
  | u :: us => rowsW T hl us - rowsW T (hl ++ u.filter fun z => decide (z ∉ hl)) us
structure RowsIn (U : List (List Int)) (hl : List (List Int)) (ul : List (List (List Int))) : Prop where
  nd : hl.Nodup
  sub : ∀ z ∈ hl, z ∈ U
  each : ∀ u ∈ ul, u.Nodup ∧ ∀ z ∈ u, z ∈ U
theorem RowsIn.len {U hl : List (List Int)} {ul : List (List (List Int))} (h : RowsIn U hl ul) : hl.length ≤ U.length := sub_len h.nd h.sub
theorem RowsIn.tail {U hl : List (List Int)} {u : List (List Int)} {ul : List (List (List Int))} (h : RowsIn U hl (u :: ul)) : RowsIn U hl ul := ⟨h.nd, h.sub, fun v hv => h.each v (List.mem_cons_of_mem _ hv)⟩
theorem RowsIn.more {U hl : List (List Int)} {u : List (List Int)} {ul : List (List (List Int))} (h : RowsIn U hl (u :: ul)) : RowsIn U (hl ++ u.filter fun z => decide (z ∉ hl)) ul := by
  obtain ⟨u1, u2⟩ := h.each u List.mem_cons_self
  refine ⟨?_, fun z hz => ?_, h.tail.each⟩
  · rw [List.nodup_append]
    refine ⟨h.nd, u1.filter _, fun a ha b hb e => ?_⟩
    subst e
    exact of_decide_eq_true (List.mem_filter.mp hb).2 ha
  · rcases List.mem_append.mp hz with hz | hz
    · exact h.sub z hz
    · exact u2 z (List.mem_filter.mp hz).1
def uniL (ms : List Int) : List (List Int) := (List.range ms.length).flatMap fun i => (List.range (ms.getD i 1).toNat).map fun r => [((i : Nat) : Int), ((r : Nat) : Int)]
def uniTo (ms : List Int) (n : Nat) : List (List Int) := (List.range n).flatMap fun i => (List.range (ms.getD i 1).toNat).map fun r => [((i : Nat) : Int), ((r : Nat) : Int)]
theorem uniTo_succ (ms : List Int) (n : Nat) : uniTo ms (n + 1) = uniTo ms n ++ (List.range (ms.getD n 1).toNat).map fun r => [((n : Nat) : Int), ((r : Nat) : Int)] := by
  unfold uniTo
  rw [List.range_succ, List.flatMap_append]
  simp
theorem uniTo_len {ms : List Int} (h : ∀ m ∈ ms, 1 ≤ m ∧ m ≤ 30) : ∀ n, n ≤ ms.length → ((uniTo ms n).length : Int) = (ms.take n).sum ∧ (uniTo ms n).length ≤ 30 * n
  | 0, _ => ⟨rfl, Nat.zero_le _⟩
  | n + 1, hn => by
    obtain ⟨h1, h2⟩ := uniTo_len h n (by omega)
    have hm : ms[n]? = some ms[n] := List.getElem?_eq_getElem (by omega)
    have mm := h _ (List.getElem_mem (show n < ms.length by omega))
    have e : ms.getD n 1 = ms[n] := by rw [List.getD_eq_getElem?_getD, hm]; rfl
    rw [uniTo_succ, List.length_append, List.length_map, List.length_range, takeSucc hm, List.sum_append, e]
    refine ⟨?_, by omega⟩
    rw [Int.natCast_add, h1]
    simp
    omega
theorem uni_len {ms : List Int} (M : MOk ms) : ((uniL ms).length : Int) = ms.sum ∧ (uniL ms).length ≤ 120 := by
  obtain ⟨h1, h2⟩ := uniTo_len M.mod ms.length (Nat.le_refl _)
  rw [List.take_length] at h1
  have := M.four
  exact ⟨h1, Nat.le_trans h2 (by omega)⟩
theorem mem_uni {ms : List Int} {z : List Int} : z ∈ uniL ms ↔ ∃ (i : Nat) (r : Nat), z = [(i : Int), (r : Int)] ∧ i < ms.length ∧ r < (ms.getD i 1).toNat := by
  unfold uniL
  rw [List.mem_flatMap]
  constructor
  · rintro ⟨i, hi, h⟩
    obtain ⟨r, hr, rfl⟩ := List.mem_map.mp h
    exact ⟨i, r, rfl, List.mem_range.mp hi, List.mem_range.mp hr⟩
  · rintro ⟨i, r, rfl, hi, hr⟩
    exact ⟨i, List.mem_range.mpr hi, List.mem_map.mpr ⟨r, List.mem_range.mpr hr, rfl⟩⟩
theorem marks_uni {ms : List Int} (M : MOk ms) {x : Int} {z : List Int} (h : z ∈ marksL ms x) : z ∈ uniL ms := by
  obtain ⟨i, r, rfl, il, er⟩ := marks_two z h
  have mi := M.mod (ms.getD i 1) (by rw [List.getD_eq_getElem?_getD, List.getElem?_eq_getElem il]; exact List.getElem_mem il)
  have r0 := Int.emod_nonneg x (show ms.getD i 1 ≠ 0 by omega)
  have r1 := Int.emod_lt_of_pos x (show (0 : Int) < ms.getD i 1 by omega)
  exact mem_uni.mpr ⟨i, r.toNat, by rw [Int.toNat_of_nonneg (by omega)], il, by omega⟩
theorem uni_nodup (ms : List Int) : (uniL ms).Nodup := by
  unfold uniL
  rw [List.nodup_iff_pairwise_ne, List.pairwise_flatMap]
  refine ⟨fun i _ => ?_, List.pairwise_lt_range.imp fun {i j} h x hx y hy e => ?_⟩
  · rw [List.pairwise_map]
    refine List.pairwise_lt_range.imp fun {a b} h e => ?_
    have := (List.cons.inj (List.cons.inj e).2).1
    omega
  · obtain ⟨a, _, rfl⟩ := List.mem_map.mp hx
    obtain ⟨b, _, rfl⟩ := List.mem_map.mp hy
    have := (List.cons.inj e).1
    omega
theorem rows_in {ms : List Int} (M : MOk ms) {sl : List (Int × Bool)} {hl hl2 : List (List Int)} (h : HeldIs ms sl hl) : RowsIn (uniL ms) hl (unheldL ms hl2 sl) := by
  refine ⟨h.nd, fun z hz => ?_, fun u hu => ?_⟩
  · obtain ⟨p, _, _, hz⟩ := (h.mem z).mp hz
    exact marks_uni M hz
  · obtain ⟨p, _, rfl⟩ := List.mem_map.mp hu
    exact ⟨(marks_nodup ms p.1).filter _, fun z hz => marks_uni M (List.mem_filter.mp hz).1⟩
theorem eqvLLnil (d : PyData) (ds : List PyData) : PyData.eqv (.list (d :: ds)) (.list []) = false := by
  rw [PyData.eqv, PyData.eqvAll]
theorem dpLL {K : PySem.W.Frag} {H : Hp} : ∀ {as_ : List Addr} {ul : List (List (List Int))}, as_.length = ul.length → (∀ (i : Nat) b u, as_[i]? = some b → ul[i]? = some u → TupsAt K H b u) → DpAll K H (as_.map V.ref) (ul.map fun u => .list (u.map tD))
  | [], [], _, _ => .nil
  | [], _ :: _, h, _ => by cases h
  | _ :: _, [], h, _ => by cases h
  | b :: as_, u :: ul, h, f => .cons (f 0 b u rfl rfl).dp (dpLL (Nat.succ.inj h) fun i c v x y => f (i + 1) c v x y)
theorem LLAt.dp {K : PySem.W.Frag} {H : Hp} {D : Addr} {ul : List (List (List Int))} (h : LLAt K H D ul) : Dp K H (.ref D) (.list (ul.map fun u => .list (u.map tD))) := by
  obtain ⟨as_, e, n, f⟩ := h.ex
  exact .lst (lstOf e) (dpLL n f)
theorem okLL (ul : List (List (List Int))) : okD 3 (.list (ul.map fun u => .list (u.map tD))) := okD.lst fun d hd => by
  obtain ⟨u, _, rfl⟩ := List.mem_map.mp hd
  exact okTups u
theorem upN (p : Nat → Bool) (m : Nat) : (((List.range m).filter p).map fun (r : Nat) => (r : Int)).Pairwise (· < ·) := by
  rw [List.pairwise_map]
  exact (List.pairwise_lt_range.filter p).imp fun h => by omega
theorem asc_same : ∀ {xs ys : List Int}, xs.Pairwise (· < ·) → ys.Pairwise (· < ·) → (∀ r, r ∈ xs ↔ r ∈ ys) → xs = ys
  | [], [], _, _, _ => rfl
  | [], y :: ys, _, _, h => nomatch (h y).mpr List.mem_cons_self
  | x :: xs, [], _, _, h => nomatch (h x).mp List.mem_cons_self
  | x :: xs, y :: ys, hx, hy, h => by
    obtain ⟨x1, x2⟩ := List.pairwise_cons.mp hx
    obtain ⟨y1, y2⟩ := List.pairwise_cons.mp hy
    have e : x = y := by
      rcases List.mem_cons.mp ((h x).mp List.mem_cons_self) with e | hm
      · exact e
      · rcases List.mem_cons.mp ((h y).mpr List.mem_cons_self) with e | hn
        · exact e.symm
        · have := y1 x hm
          have := x1 y hn
          omega
    subst e
    refine congrArg _ (asc_same x2 y2 fun r => ⟨fun hr => ?_, fun hr => ?_⟩)
    · rcases List.mem_cons.mp ((h r).mp (List.mem_cons_of_mem _ hr)) with rfl | q
      · exact absurd (x1 _ hr) (Int.lt_irrefl _)
      · exact q
    · rcases List.mem_cons.mp ((h r).mpr (List.mem_cons_of_mem _ hr)) with rfl | q
      · exact absurd (y1 _ hr) (Int.lt_irrefl _)
      · exact q

end R
namespace R
open PySem PySem.Spec PyProof.Rows L2
/-! ## rows with -/
def sp_rows (K : PySem.W.Frag) (k : Nat) : Sp := fun vs H Q _ => ∃ (a b : Addr) (U hl : List (List Int)) (ul : List (List (List Int))), vs = [.int (U.length : Nat), .ref a, .ref b] ∧ TupsAt K H a hl ∧ LLAt K H b ul ∧ ul.length < k ∧ U.length ≤ 120 ∧ RowsIn U hl ul ∧ ∀ H', Same H H' → Q (.int (rowsW U.length hl ul)) H'
theorem cutDrop1 (x : V) (xs : List V) : cutV (x :: xs) (some (1 : Int)) none = xs := by
  unfold cutV
  rw [HT.sIx_none, show (some (1 : Int)) = some ((1 : Nat) : Int) from rfl, HT.sIx_nat, Nat.min_eq_left (by rw [List.length_cons]; omega), List.take_of_length_le (by rw [List.length_drop]; exact Nat.le_refl _)]
  rfl
section
variable {P : Program} [POk P FILE] {w : World} {K : PySem.W.Frag} {mg : Str → Option Value} {base : Heap}
set_option maxHeartbeats 1600000 in
theorem ok_rows (T : Txt K mg) : ∀ k, FnOk P w K mg base CX0 (2 + k) T.f_p_rows_with T.fd_p_rows_with ["total", "held", "unheld"] (sp_rows K k)
  | 0 => by
    refine T.F_p_rows_with.ok sc_p_rows_with (fun vs H Q E h => ?_) (fun cdv A outer s H vs Q E hr h => ?_)
    · obtain ⟨a, b, U, hl, ul, rfl, _⟩ := h
      rfl
    · obtain ⟨a, b, U, hl, ul, rfl, _, _, h, _⟩ := h
      exact absurd h (Nat.not_lt_zero _)
  | k + 1 => by
    have ih := ok_rows T k
    refine T.F_p_rows_with.ok sc_p_rows_with (fun vs H Q E h => ?_) (fun cdv A outer s H vs Q E hr h => ?_)
    · obtain ⟨a, b, U, hl, ul, rfl, _⟩ := h
      rfl
    · obtain ⟨a, b, U, hl, ul, rfl, ta, tb, lk, u120, R, q⟩ := h
      refine ⟨_, (pss_cons (ps_if (pt_cmpR (op_eqD hr.units) (pv 2) (pe_lst pa_nil) (nomark _)) (pss_one (ps_ret (pe_op op_oneShl pe_int (pe_op op_sub (pv 0) (pe_callB call_len_seq (by rfl) T.z_len (by decide +kernel) (pa_cons (pv 1) pa_nil)))))) pss_nil)
      (pss_cons (ps_set (i := 3) sc_p_rows_with.nd rfl (by first | exact .inl rfl | exact .inr rfl) (pe_op op_cat (pv 1) (pe_lc (own := [("mark", 4)]) rfl sc_p_rows_with.nd (pi_list (pe_ix (r := rIxL K) ix_list (pv 2) pe_int (fun _ _ => rfl))) (blkOk_by (N := ["total", "held", "unheld", "more", "mark"]) (sc := defScope s_p_rows_with) (by decide +kernel)) (fun _ _ _ _ _ => (pg_name (i := 4) sc_p_rows_with.nd rfl (by first | exact .inl rfl | exact .inr rfl))) (fun _ _ _ _ _ => (pts_one (pt_cmpR (r := rNotInD K) (op_notInD (un65 hr)) (pv 4) (pv 1) (by rfl)))) (fun _ _ _ _ _ => (pv 4)))))
      (pss_one (ps_ret (pe_op op_sub (pe_call ih (hr.mono (Nat.le_refl _)) (by rfl) T.g_p_rows_with T.F_p_rows_with.kp T.b_p_rows_with .nil pass0 (pa_cons (pv 0) (pa_cons (pv 1) (pa_cons (pe_slice sl_list (pv 2) (po_some pe_int) po_none) pa_nil)))) (pe_call ih (hr.mono (Nat.le_refl _)) (by rfl) T.g_p_rows_with T.F_p_rows_with.kp T.b_p_rows_with .nil pass0 (pa_cons (pv 0) (pa_cons (pv 3) (pa_cons (pe_slice sl_list (pv 2) (po_some pe_int) po_none) pa_nil))))))))), ?_⟩
      have hlen := R.len
      refine ⟨_, rfl, Nat.zero_le _, fun e0 ne0 => ?_⟩
      have s1 := same_upd ne0 (o := .lst [])
      refine ⟨_, _, (tb.stay s1).dp, .lst (lstOf upd_same) .nil, (okLL ul).shaped (by decide), by decide, _, rfl, ?_⟩
      have ta1 := ta.stay s1
      have tb1 := tb.stay s1
      generalize upd H e0 (.lst []) = H1 at s1 ta1 tb1 ⊢
      cases ul with
      | nil =>
        obtain ⟨ts, ea, la, _⟩ := ta1.ex
        refine iteT ⟨_, rfl, _, rfl, a, _, rfl, .inl (lstOf ea), _, _, rfl, rfl, U.length - hl.length, rfl, ?_, by omega, ?_⟩
        · rw [List.length_map, la]
          exact congrArg V.int (by omega)
        · exact q _ s1
      | cons u us =>
        rw [show PyData.eqv (.list ((u :: us).map fun u => PyData.list (u.map tD))) (.list []) = false from eqvLLnil _ _]
        obtain ⟨as_, eb, lb, fb⟩ := tb1.ex
        obtain ⟨ts, ea, la, fa⟩ := ta1.ex
        obtain ⟨b0, as', rfl⟩ : ∃ b0 as', as_ = b0 :: as' := by
          cases as_ with
          | nil => cases lb
          | cons x y => exact ⟨x, y, rfl⟩
        have tu := fb 0 b0 u rfl rfl
        obtain ⟨us', eu, lu, fu⟩ := tu.ex
        obtain ⟨u1, u2⟩ := R.each u List.mem_cons_self
        have ul := sub_len u1 u2
        refine iteF ⟨_, rfl, _, rfl, b, _, _, _, rfl, rfl, lstOf eb, atI_nat (j := 0) rfl, b0, rfl, ⟨_, lstOf eu⟩, fun G nG => ?_⟩
        refine lc_list (K := K) (a := b0) (xs := us'.map V.ref) (fun j Hj => TupsAt K Hj G ((u.take j).filter fun z => decide (z ∉ hl)) ∧ Same H1 Hj) ⟨TupsAt.nil upd_same, same_upd nG⟩ (fun j Hj _ ⟨_, sj⟩ => lstOf (sj _ _ eu)) ?_ ?_
        · rintro j y Hj hj ⟨TG, sj⟩
          rw [List.getElem?_map] at hj
          obtain ⟨tz, htz, rfl⟩ := Option.map_eq_some_iff.mp hj
          have jl := (List.getElem?_eq_some_iff.mp htz).1
          obtain ⟨z, hz⟩ : ∃ z, u[j]? = some z := ⟨_, List.getElem?_eq_getElem (by omega)⟩
          have sq := Same.seqTT sj (fu j tz z htz hz)
          refine ⟨rfl, _, rfl, _, rfl, tD z, hl.map tD, dpTup sq, (ta1.stay sj).dp, (okD.tup (okInts _)).shaped (by decide), okTupsS _, _, rfl, ?_⟩
          show if (!((hl.map tD).any fun y => PyData.eqv y (tD z))) = true then _ else _
          rw [inTup, ← decide_not]
          refine ite2 (fun e => ?_) (fun e => ?_)
          · obtain ⟨us2, eu2, lu2, Tn⟩ := TG.push sq
            refine ⟨_, rfl, _, eu2, ?_, ?_, samePut sj nG⟩
            · have := List.length_filter_le (fun z => decide (z ∉ hl)) (u.take j)
              rw [List.length_take] at this
              rw [List.length_map, lu2]
              exact sizeLt (by omega)
            · rw [takeFilter hz, if_pos e]
              exact Tn
          · refine ⟨?_, sj⟩
            rw [takeFilter hz, if_neg e, List.append_nil]
            exact TG
        · rintro H2 ⟨TG, s2⟩
          rw [List.length_map, lu, List.take_length] at TG
          obtain ⟨gs, eg, lg, fg⟩ := TG.ex
          have ea2 := s2 _ _ ea
          refine ⟨a, G, _, _, rfl, rfl, ea2, eg, ?_, fun l2 nl2 => ?_⟩
          · have := List.length_filter_le (fun z => decide (z ∉ hl)) u
            rw [List.length_map, List.length_map, la, lg]
            exact sizeOk (by omega)
          have s3 := same_upd nl2 (o := .lst (ts.map V.ref ++ gs.map V.ref))
          have TM : TupsAt K (upd H2 l2 (.lst (ts.map V.ref ++ gs.map V.ref))) l2 (hl ++ u.filter fun z => decide (z ∉ hl)) := by
            refine ⟨ts ++ gs, by rw [upd_same, List.map_append], by rw [List.length_append, List.length_append, la, lg], fun i t l h1 h2 => ?_⟩
            by_cases hi : i < ts.length
            · rw [List.getElem?_append_left hi] at h1
              rw [List.getElem?_append_left (by omega)] at h2
              exact Same.seqTT (s2.trans s3) (fa i t l h1 h2)
            · rw [List.getElem?_append_right (by omega)] at h1
              rw [List.getElem?_append_right (by omega), ← la] at h2
              exact Same.seqTT s3 (fg _ t l h1 h2)
          generalize upd H2 l2 (.lst (ts.map V.ref ++ gs.map V.ref)) = H3 at s3 TM ⊢
          have s13 := s2.trans s3
          have cut : ∀ {Hk : Hp} {p1 : Addr}, Same H1 Hk → Hk p1 = none → LLAt K (upd Hk p1 (.lst (cutV ((b0 :: as').map V.ref) (some (1 : Int)) none))) p1 us := fun {Hk p1} sk n1 => by
            refine ⟨as', by rw [upd_same, List.map_cons, cutDrop1], Nat.succ.inj lb, fun i c v x y => ?_⟩
            exact (fb (i + 1) c v x y).stay (sk.trans (same_upd n1))
          refine ⟨_, rfl, _, rfl, _, rfl, (1 : Int), rfl, ?_⟩
          simp only [tNoPart]
          refine ⟨b, _, rfl, lstOf (s13 _ _ eb), fun p1 n1 => ?_⟩
          have L1 := cut s13 n1
          have sp1 := same_upd n1 (o := .lst (cutV ((b0 :: as').map V.ref) (some (1 : Int)) none))
          have lk' : us.length < k := by
            rw [List.length_cons] at lk
            omega
          refine ⟨a, p1, U, hl, us, rfl, (ta1.stay s13).stay sp1, L1, lk', u120, R.tail, fun H4 s4 => ?_⟩
          have s14 := (s13.trans sp1).trans s4
          refine ⟨_, rfl, _, rfl, _, rfl, (1 : Int), rfl, ?_⟩
          simp only [tNoPart]
          refine ⟨b, _, rfl, lstOf (s14 _ _ eb), fun p2 n2 => ?_⟩
          have L2' := cut s14 n2
          have sp2 := same_upd n2 (o := .lst (cutV ((b0 :: as').map V.ref) (some (1 : Int)) none))
          refine ⟨l2, p2, U, _, us, rfl, ((TM.stay sp1).stay s4).stay sp2, L2', lk', u120, R.more, fun H5 s5 => ?_⟩
          exact ⟨_, _, rfl, rfl, q _ ((s1.trans s14).trans (sp2.trans s5))⟩
theorem ok_p_rows_with (T : Txt K mg) : FnOk P w K mg base CX0 12 T.f_p_rows_with T.fd_p_rows_with ["total", "held", "unheld"] (sp_rows K 10) := ok_rows T 10
end

end R
namespace R
open PySem PySem.Spec PyProof.Rows L2
/-! ## many_lots of any values -/
def sp_p_many_lots (K : PySem.W.Frag) (B1 B2 : Addr) : Sp := fun vs H Q E => ∃ v u : V, vs = [v, u] ∧ ((∃ w, BadMod K H v w ∧ tells H B1 w E) ∨ ∃ (a : Addr) (ms : List Int), v = .ref a ∧ SqT K H a (ms.map V.int) ∧ MOk ms ∧ ((∃ w, BadSn K H u w ∧ tells H B2 w E) ∨
  ∃ (b : Addr) (sl : List (Int × Bool)) (U : List (List Int)), u = .ref b ∧ SeenAt K H b sl ∧ SOk sl ∧ U.length ≤ 60 ∧ (∀ p ∈ sl, p.2 = true → ∀ z ∈ marksL ms p.1, z ∈ U) ∧
    ∀ hl hl2 H', Same H H' → HeldIs ms sl hl → HeldIs ms sl hl2 → Q (.int (rowsW (uniL ms).length hl (unheldL ms hl2 sl))) H'))
section
variable {P : Program} [POk P FILE] {w : World} {K : PySem.W.Frag} {mg : Str → Option Value} {base : Heap}
theorem ok_p_many_lots (T : Txt K mg) : FnOk P w K mg base (L2.CX P w) 13 T.f_p_many_lots T.fd_p_many_lots ["moduli", "seen"] (sp_p_many_lots K T.C_BadModuli T.C_BadSeen) := by
  refine T.F_p_many_lots.okX sc_p_many_lots (fun vs H Q E h => ?_) (fun cdv A outer s H vs Q E hr h => ?_)
  · obtain ⟨v, u, rfl, _⟩ := h
    rfl
  · obtain ⟨v, u, rfl, h⟩ := h
    refine ⟨_, (pss_cons (ps_expr (pe_call (ok_p_check_moduli (P := P) T) (hr.mono (by decide)) (by rfl) T.g_p_check_moduli T.F_p_check_moduli.kp T.b_p_check_moduli .nil (passes_call (takes_of rfl rfl rfl rfl) (fun _ _ _ _ h => h)) (pa_cons (pv 0) pa_nil)))
      (pss_cons (ps_expr (pe_call (ok_p_check_seen (P := P) T) (hr.mono (by decide)) (by rfl) T.g_p_check_seen T.F_p_check_seen.kp T.b_p_check_seen .nil (passes_call (takes_of rfl rfl rfl rfl) (fun _ _ _ _ h => h)) (pa_cons (pv 1) pa_nil)))
      (pss_one (ps_ret (pe_call (ok_p_rows_with (P := P) T) (hr.mono (by decide)) (by rfl) T.g_p_rows_with T.F_p_rows_with.kp T.b_p_rows_with .nil pass0 (pa_cons (pe_callB (cr_sumT rfl) (by rfl) T.z_sum (by decide +kernel) (pa_cons (pv 0) pa_nil)) (pa_cons (pe_call (ok_p_held_marks (P := P) T) (hr.mono (by decide)) (by rfl) T.g_p_held_marks T.F_p_held_marks.kp T.b_p_held_marks .nil pass0 (pa_cons (pv 0) (pa_cons (pv 1) pa_nil))) (pa_cons (pe_call (ok_p_unheld_marks (P := P) T) (hr.mono (by decide)) (by rfl) T.g_p_unheld_marks T.F_p_unheld_marks.kp T.b_p_unheld_marks .nil pass0 (pa_cons (pv 0) (pa_cons (pv 1) pa_nil))) pa_nil)))))))), ?_⟩
    rcases h with ⟨w, bad, tl⟩ | ⟨a, ms, rfl, ta, M, ⟨w, bad, tl⟩ | ⟨b, sl, U, rfl, S, O, u60, hU, q⟩⟩
    · exact ⟨_, rfl, _, rfl, .inr ⟨w, bad, tl⟩⟩
    · refine ⟨_, rfl, _, rfl, .inl ⟨a, ms, rfl, ta, M, fun H1 s1 => ?_⟩⟩
      exact ⟨_, rfl, _, rfl, .inr ⟨w, bad.same s1, tl.same s1⟩⟩
    · have ul := uni_len M
      refine ⟨_, rfl, _, rfl, .inl ⟨a, ms, rfl, ta, M, fun H1 s1 => ?_⟩⟩
      refine ⟨_, rfl, _, rfl, .inl ⟨b, sl, rfl, S.stay s1, O, fun H2 s2 => ?_⟩⟩
      have s12 := s1.trans s2
      refine ⟨_, rfl, a, ms, rfl, Same.seqTT s12 ta, _, rfl, _, rfl, a, b, ms, sl, U, rfl, Same.seqTT s12 ta, M, S.stay s12, u60, hU, fun D hl H3 s3 n3 T3 h3 => ?_⟩
      have s13 := s12.trans s3
      refine ⟨_, rfl, _, rfl, a, b, ms, sl, U, rfl, Same.seqTT s13 ta, M, S.stay s13, O.few, u60, hU, fun D2 hl2 H4 s4 n4 L4 h4 => ?_⟩
      have ulen : (unheldL ms hl2 sl).length < 10 := by
        have := O.unfit sl.length
        unfold unfitTo at this
        rw [List.take_length] at this
        unfold unheldL
        rw [List.length_map]
        omega
      refine ⟨D, D2, uniL ms, hl, unheldL ms hl2 sl, by rw [← ul.1]; rfl, T3.stay s4, L4, ulen, ul.2, rows_in M h3, fun H5 s5 => q hl hl2 _ (s13.trans (s4.trans s5)) h3 h4⟩
end

end R
namespace R
open PySem PySem.Spec PyProof.Rows L2
/-! ## set(xs) of a list of ints, sorted(set(xs)) -/
/-- how many members such a set may have -/
def Capped (w : World) (ns : List Int) (cap : Nat) : Prop := ∀ (i : Nat) (h : Heap) (a : Addr) (c : Nat), SetR w h a (fun j => decide (j ∈ ns.take i)) c → c ≤ cap
theorem nodup_le : ∀ {xs ys : List Int}, xs.Nodup → (∀ x ∈ xs, x ∈ ys) → xs.length ≤ ys.length
  | [], _, _, _ => Nat.zero_le _
  | x :: xs, ys, nd, sub => by
    obtain ⟨n1, n2⟩ := List.nodup_cons.mp nd
    have hx : x ∈ ys := sub x List.mem_cons_self
    have e := nodup_le (ys := ys.erase x) n2 fun z hz => (List.mem_erase_of_ne fun q => n1 (by rw [← q]; exact hz)).mpr (sub z (List.mem_cons_of_mem _ hz))
    rw [List.length_erase_of_mem hx] at e
    have := List.length_pos_of_mem hx
    show xs.length + 1 ≤ ys.length
    omega
theorem capBy {w : World} {ns ys : List Int} (sub : ∀ x ∈ ns, x ∈ ys) : Capped w ns ys.length := by
  rintro i h a c ⟨o, es, ep, t, _, _, _, _, nd, mem, _, _, cnt, _⟩
  have e := nodup_le nd fun x hx => sub x (List.mem_of_mem_take (of_decide_eq_true ((mem x).mpr hx)))
  rw [List.length_map, Array.length_toList, cnt] at e
  exact e
theorem capRange {w : World} {ns : List Int} {m : Nat} (h : ∀ x ∈ ns, 0 ≤ x ∧ x < (m : Int)) : Capped w ns m := by
  have e := capBy (w := w) (ns := ns) (ys := (List.range m).map fun i : Nat => (i : Int)) fun x hx => by
    obtain ⟨h1, h2⟩ := h x hx
    exact List.mem_map.mpr ⟨x.toNat, List.mem_range.mpr (by omega), by omega⟩
  rw [List.length_map, List.length_range] at e
  exact e
theorem capLen {w : World} (ns : List Int) : Capped w ns ns.length := capBy fun _ h => h
/-- the walk of set.update over ints -/
theorem upd_ints {P : Program} {w : World} {A : Around} {I : Addr} {fp wr : List Addr} {G : Array GenState → Array GenState → Prop} {n : Nat} {Pv : Nat → Value → Prop} {St : Nat → Shared → Prop} {R : Result → Shared → Prop}
    (W : WalksS P w A.in1 I fp wr G n Pv St) (S : Addr) (far : S ∉ fp) (ns : List Int) (hn : n = ns.length) (cap : Nat) (few : cap + 1 < scanBound) (cp : Capped w ns cap) (val : ∀ i v, Pv i v → ∃ k t, ns[i]? = some k ∧ v = .int k t) :
    ∀ (k i : Nat) (s : Shared), n - i = k → i ≤ n → St i s → (∃ c, SetR w s.heap S (fun j => decide (j ∈ ns.take i)) c) →
      (∀ s' c, Moved (S :: wr) G s s' → c ≤ cap → SetR w s'.heap S (fun j => decide (j ∈ ns)) c → R (.ok (.ret .none)) s') →
      codeAny (model P w) A (.builtin "set.update.loop" ⟨[.ref S, .ref I], []⟩) R s := by
  have farW : S ∉ wr := fun z => far (W.sub _ z)
  have more : ∀ b ∈ wr, b ∈ S :: wr := fun b z => List.mem_cons_of_mem _ z
  intro k
  induction k with
  | zero =>
    rintro i s ek le st ⟨c, hS⟩ hR
    obtain rfl : i = n := by omega
    refine codeAny_builtin F.entry_set_update_loop ?_
    rw [Around.under_plainId F.plain_set_update_loop _]
    show wpAny _ A.in1 (pyNext (.ref I) >>= _) _ _ s
    refine wpAny_bind (W.done s _ _ st fun s' mv => ?_)
    show wpAny _ A.in1 (ret Value.none) _ _ s'
    rw [List.take_of_length_le (by omega)] at hS
    have hS' := hS.at (h' := s'.heap) fun o e => mv.heap S o farW e
    exact wpAny_pure (hR s' c (mv.mono more) (cp ns.length _ S c (by rw [List.take_length]; exact hS')) hS')
  | succ k ih =>
    rintro i s ek le st ⟨c, hS⟩ hR
    have lt : i < n := by omega
    refine codeAny_builtin F.entry_set_update_loop ?_
    rw [Around.under_plainId F.plain_set_update_loop _]
    show wpAny _ A.in1 (pyNext (.ref I) >>= _) _ _ s
    refine wpAny_bind (W.item i s _ _ lt st fun v s' pv st' mv => ?_)
    obtain ⟨z, t, hz, rfl⟩ := val i v pv
    have hS1 : SetR w s'.heap S (fun j => decide (j ∈ ns.take i)) c := hS.at fun o e => mv.heap S o farW e
    have hc := cp i _ S c hS1
    show wpAny _ A.in1 (holding [Value.int z t] (setAdd S (.int z t)) >>= _) _ _ s'
    refine wpAny_bind (wpAny_holding ?_)
    unfold setAdd
    refine wpAny_holding (wpAny_bind ((intKind P w).pyHash (k := z) (intKind_is _ _ _ _) ?_))
    refine setR_add_hashed (s := { s' with toks := s'.toks + 1 }) hS1 (by omega) fun h' sb hS2 => ?_
    have hS3 := hS2.congr (S' := fun j => decide (j ∈ ns.take (i + 1))) fun j => by
      rw [List.take_add_one, hz]
      simp [List.mem_append]
    refine wpAny_pure ⟨plainId_quiet F.plain_set_update_loop _, ih (i + 1) _ (by omega) lt (W.frame _ s' _ _ st' (Nat.le_succ _) fun b hb o e => ?_) ⟨_, hS3⟩ fun s2 c2 mv2 hc2 hS4 => ?_⟩
    · rw [sb.2 b (fun q : b = S => far (by rw [← q]; exact hb))]; exact e
    · refine hR s2 c2 (Moved.trans W.gtrans ((mv.mono more).then_heap (Nat.le_succ _) fun b o hb e => ?_) mv2) hc2 hS4
      rw [sb.2 b (fun q : b = S => hb (by rw [q]; exact List.mem_cons_self))]; exact e
set_option maxHeartbeats 8000000 in
theorem call_setG {P : Program} {w : World} {A : Around} {E : Value → Shared → Prop} {s : Shared} {l : Addr} {items : Array Value} (ns : List Int) {Q : Value → Shared → Prop} (hh : A.handled = none) (hl : s.heap.IsList l items)
    (hit : IntsAre items.toList ns) (cap : Nat) (few : cap + 1 < scanBound) (cp : Capped w ns cap)
    (h : ∀ (h' : Heap) (tk c : Nat), c ≤ cap → SetR w h' s.heap.objs.size (fun j => decide (j ∈ ns)) c → (∀ b o, s.heap.get? b = some o → h'.get? b = some o) → Q (.ref s.heap.objs.size) { s with heap := h', toks := tk }) :
    wpAny (model P w) A (call (.type "set") [.ref l]) Q E s := by
  have size_ : items.size = ns.length := Array.length_toList.symm.trans (IntsAre.length hit)
  obtain ⟨c, tl, hmro⟩ := F.called_set.mro
  have m1 := F.called_set.made
  have m2 := F.called_set.sub
  refine wpAny_call (codeAny_of_tree (show wpAny _ _ (callAny (.type "set") _) _ _ _ from wpAny_pure ⟨Code.quiet_builtin _ (by decide +kernel), codeAny_builtin F.entry_type_call ?_⟩))
  rw [Around.under_plain (weight_type_call_type "set" [.ref l] []) rfl]
  have m3 := F.called_set.notType
  have m4 := F.called_set.canCreate
  have m5 := F.typeCall_set_1 (.ref l)
  repeat (any_goals (first | assumption | wp_step))
  refine codeAny_mono (code_set_led1 (.ref l) (E := E) (Q₁ := fun ob s1 => ob = .ref s.heap.objs.size ∧ s1 = { s with heap := s.heap.push (noSet w) }) ⟨rfl, rfl⟩) fun r s1 hr => ?_
  cases r with
  | error e => exact hr
  | ok fl =>
    cases fl with
    | ret ob =>
      obtain ⟨rfl, rfl⟩ := hr
      have gS : (s.heap.push (noSet w)).get? s.heap.objs.size = some (noSet w) := Heap.get?_push_size _ rfl
      have tS : Shared.TypeIs { s with heap := s.heap.push (noSet w) } (.ref s.heap.objs.size) "set" := ⟨_, gS, rfl⟩
      have m6 := F.called_set.init.lookup
      have m7 := F.called_set.init.bind (.ref s.heap.objs.size)
      repeat (any_goals (first | assumption | wp_step))
      refine codeAny_mono (codeAny_call_builtin (R := wants (fun r s2 => r = .none ∧ ∃ h' tk c, s2 = { s with heap := h', toks := tk } ∧ c ≤ cap ∧ SetR w h' s.heap.objs.size (fun j => decide (j ∈ ns)) c ∧ (∀ b o, s.heap.get? b = some o → h'.get? b = some o)) E)
        F.called_set.init.plain F.entry_set_init (check_set_init_1 tS ?_)) fun r2 s2 hr2 => ?_
      · obtain ⟨⟨oc, od, odt, osl⟩, gL, e1, nl, e2⟩ := hl
        dsimp only at e1 e2
        subst e1 e2
        have gL' : (s.heap.push (noSet w)).get? l = some { cls := .type "list", dict := od, data := .seq items nl, slots := osl } := Heap.get?_push_of_some _ gL
        have n1 := F.sub_list_set
        have n2 := F.sub_list_frozenset
        have n3 : (Value.type "list" == Value.type "dict") = false := by decide
        have lL : (s.heap.push (noSet w)).IsList l items := ⟨_, gL', rfl, nl, rfl⟩
        unfold Builtin.«set.__init__» noKeywords Builtin.Frozenset.updateFrom
        generalize iter_ : pyIter = PI
        wp_walk
        subst iter_
        refine wpAny_pyIter_list lL (wpAny_bind (wpAny_runValue ?_))
        have lt : l < s.heap.objs.size := Heap.lt_size gL
        have sz : (s.heap.push (noSet w)).objs.size = s.heap.objs.size + 1 := Heap.size_push ..
        have far : l ≠ (s.heap.push (noSet w)).objs.size := by rw [sz]; exact Nat.ne_of_lt (Nat.lt_succ_of_lt lt)
        have out : s.heap.objs.size ∉ [(s.heap.push (noSet w)).objs.size, l] := by
          rw [sz]
          simp only [List.mem_cons, List.not_mem_nil, or_false, not_or]
          exact ⟨Nat.ne_of_lt (Nat.lt_succ_self _), Nat.ne_of_gt lt⟩
        have val : ∀ (i : Nat) (v : Value), items[i]? = some v → ∃ k t, ns[i]? = some k ∧ v = .int k t := fun i v hv => by
          have hi : i < ns.length := size_ ▸ (Array.getElem?_eq_some_iff.mp hv).1
          obtain ⟨t, e⟩ := PyProof.Rows.IntsAre.int_at hit i v (by rw [Array.getElem?_toList]; exact hv)
          exact ⟨ns[i], t, List.getElem?_eq_getElem hi, by rw [e, List.getD_eq_getElem?_getD, List.getElem?_eq_getElem hi]; rfl⟩
        refine upd_ints ((Walks.list (A := A.in1.in1.in1) (by simp [hh]) _ l far items).toS) s.heap.objs.size out ns size_ cap few cp val (items.size - 0) 0 _ (by omega) (Nat.zero_le _)
          ⟨⟨_, Heap.get?_push_size _ rfl, rfl, rfl⟩, lL.push _⟩ ⟨0, setR_new_at (Heap.get?_push_of_some _ gS)⟩ fun s' c' mv hc' hS' => ?_
        obtain ⟨h', g2, d', tk', os'⟩ := s'
        obtain rfl : g2 = s.gens := mv.gens
        obtain rfl : d' = s.drawn := mv.drawn
        obtain rfl : os' = s.os := mv.os
        refine wpAny_pure (show wpAny _ _ (ret Value.none) _ _ _ from wpAny_pure ⟨rfl, h', tk', c', rfl, hc', hS', fun b o e => ?_⟩)
        have b0 : b < s.heap.objs.size := Heap.lt_size e
        refine mv.heap b o ?_ (Heap.get?_push_of_some _ (Heap.get?_push_of_some _ e))
        rw [sz]
        simp only [List.mem_cons, List.not_mem_nil, or_false, not_or]
        exact ⟨Nat.ne_of_lt b0, Nat.ne_of_lt (Nat.lt_succ_of_lt b0)⟩
      · cases r2 with
        | error e => exact hr2
        | ok fl2 =>
          cases fl2 with
          | ret r =>
            obtain ⟨rfl, h', tk, c', rfl, hc', hS', hk'⟩ := hr2
            repeat (any_goals (first | assumption | wp_step))
            exact h _ _ _ hc' hS' hk'
          | _ => exact hr2.elim
    | _ => exact hr.elim
/-- set(xs), xs a list of ints -/
def rSetG (K : PySem.W.Frag) (w : World) : List V → Hp → VK → Prop := fun vs H Q => ∃ (a : Addr) (ns : List Int) (cap : Nat), vs = [.ref a] ∧ SqL K H a (ns.map V.int) ∧ Capped w ns cap ∧ cap ≤ 4000 ∧
  ∀ p c, c ≤ cap → H p = none → Q (.ref p) (upd H p (SetO w p (fun j => decide (j ∈ ns)) c))
theorem cr_setG {X : Cx} (hc : X.calm = true) : CallR X (.type "set") (rSetG X.K X.w) := by
  intro pn st σ H vs us Q I r h
  obtain ⟨a, ns, cap, rfl, ha, cp, few, q⟩ := h
  rw [Vals.ref1 r]
  obtain ⟨its, rv, p, _⟩ := I.list ha
  have new : H st.heap.objs.size = none := I.hok.fresh (Nat.le_refl _)
  have b4 : (4001 : Nat) < scanBound := by decide
  refine call_setG ns (I.ok.hd hc) p.isList (by simpa using ints_of_vals rv) cap (by omega) cp fun h' tk c hc R k => ?_
  exact ⟨.ref _, _, I.laid (t' := tk) k (Nat.le_refl _) (setO_new R), rfl, q _ _ hc new⟩

end R
namespace R
open PySem PySem.Spec PyProof.Rows L2
/-! ## sorted of a set of ints, any number of them -/
theorem run_sortedS {P : Program} {w : World} {A : Around} {E : Value → Shared → Prop} {st : Shared} {a : Addr} {S : Int → Bool} {n : Nat} {Q : Value → Shared → Prop} (R : SetR w st.heap a S n) (nh : A.handled = none)
    (fin : ∀ s' p (out : Array Value) (c : Nat) (ns : List Int), (∀ b o, st.heap.get? b = some o → s'.heap.get? b = some o) → s'.gens = st.gens → s'.os = st.os → st.heap.objs.size ≤ p →
      s'.heap.get? p = some (seqObj "list" out c) → IntsAre out.toList ns → ns.Pairwise (· < ·) ∧ (∀ k, k ∈ ns ↔ S k = true) ∧ ns.length = n → Q (.ref p) s') :
    wpAny (model P w) A (call (.builtin "sorted") [.ref a]) Q E st := by
  obtain ⟨o, es, ep, t, ho, hex, hd, g, nd, mem, bound, fit, cnt, ris, led⟩ := R
  refine Calls.call_function_entry PyProof.Rows.kind_sorted PyProof.Rows.plain_sorted PyProof.Rows.entry_sorted (PyProof.Rows.args_sorted1 _) ?_
  unfold Builtin.«sorted»
  refine wpAny_bind (m := checkCount "sorted" 1 1 _) <| wpAny_pure ?_
  refine wpAny_bind (collect_set (A := A.in1) nh ⟨o, ho, hex.1, hd⟩ fit bound ris led fun s1 vs kp sz gn os pm => ?_)
  have lv : vs.length = n := by rw [pm.length_eq, List.length_map, Array.length_toList, cnt]
  have iv : IntsAre vs (vs.map Builtin.Re.reRawOf) := L2.ints_of vs fun v hv => by
    obtain ⟨e, he, ev⟩ := List.mem_map.mp (pm.mem_iff.mp hv)
    obtain ⟨k, tk, ek, _⟩ := g e he
    exact ⟨k, tk, ev ▸ ek⟩
  have kk : (vs.map Builtin.Re.reRawOf).Perm (es.toList.map keyOf) := by
    have q := pm.map Builtin.Re.reRawOf
    rw [List.map_map] at q
    exact q
  have small : vs.length ≤ sizeLine := by
    rw [lv, ← cnt]
    exact fits_of_scanBound bound
  refine wpAny_bind (wpAny_newList ?_ small)
  have at1 : (s1.heap.push (seqObj "list" vs.toArray 0)).get? s1.heap.objs.size = some (seqObj "list" vs.toArray 0) := Heap.get?_push_size _ rfl
  refine wpAny_bind (wpAny_holding (wpAny_call_entry PyProof.Rows.slot_list_sort ⟨_, at1, rfl⟩ PyProof.Rows.entry_list_sort
    (SrtO.list_sort_ord SrtO.swo_int at1 small (fun two => SrtO.ints_sortable iv two) fun out o1 o2 => ⟨_, rfl, ?_⟩) (PyProof.Rows.args_list_sort _)))
  obtain ⟨c, hc⟩ := PyProof.Rows.sortedHeap_at (vs := vs) (out := out.toArray) at1
  obtain ⟨k1, k2, k3⟩ := SrtO.ints_out iv o1 o2
  have pn := k2.trans kk
  refine wpAny_pure ⟨_, rfl, fin _ s1.heap.objs.size out.toArray c (out.map SrtO.iv) (fun b u e => ?_) gn os sz hc k1 ⟨L2.lt_of_le_nodup _ k3 (pn.nodup_iff.mpr nd), fun k => by rw [pn.mem_iff, ← mem k], ?_⟩⟩
  · have q := kp b u e
    have lt := Heap.lt_size q
    show (PyProof.Rows.sortedHeap (s1.heap.push (seqObj "list" vs.toArray 0)) s1.heap.objs.size vs out.toArray).get? b = some u
    rw [PyProof.Rows.sortedHeap_old (Nat.ne_of_lt lt) (by rw [size_push']; exact Nat.lt_succ_of_lt lt)]
    exact Heap.get?_push_of_some _ q
  · rw [pn.length_eq, List.length_map, Array.length_toList]; exact cnt
def rSortedSL (w : World) : List V → Hp → VK → Prop := fun vs H Q => ∃ (a : Addr) (S : Int → Bool) (n : Nat), vs = [V.ref a] ∧ H a = some (SetO w a S n) ∧ n ≤ 100000 ∧
  ∀ (ns : List Int) (p : Addr), ns.Pairwise (· < ·) → (∀ k : Int, k ∈ ns ↔ S k = true) → ns.length = n → H p = none → Q (.ref p) (upd H p (.lst (ns.map V.int)))
theorem cr_sortedSL {X : Cx} (hc : X.calm = true) : CallR X (.builtin "sorted") (rSortedSL X.w) := by
  intro pn st σ H vs us Q I r h
  obtain ⟨a, S, n, rfl, ha, few, q⟩ := h
  rw [Vals.ref1 r]
  refine run_sortedS (setO_get I ha) (I.ok.hd hc) fun s' p out c ns k g o hp hg hi ⟨h1, h2, h3⟩ => ?_
  have new : H p = none := I.hok.fresh hp
  have small : (ns.map V.int).length ≤ sizeLine := by rw [List.length_map, h3]; exact sizeOk few
  have J : Inv X pn σ (upd H p (.lst (ns.map V.int))) { st with heap := s'.heap, gens := s'.gens, drawn := s'.drawn, toks := s'.toks } :=
    I.call (ch := []) (Un.laid k hp new) (I.hok.laid k hp ⟨small, out.toList, c, vals_of_ints hi, hg⟩) (by rw [g]; exact I.bare) fun _ z => nomatch z
  have e : s' = { st with heap := s'.heap, gens := s'.gens, drawn := s'.drawn, toks := s'.toks } := by
    cases s'
    cases st
    cases o
    rfl
  rw [e]
  exact ⟨.ref p, _, J, rfl, q ns p h1 h2 h3 new⟩

end R
namespace R
open PySem PySem.Spec PyProof.Rows L2
/-! ## rests_at -/
theorem scI_list {w : World} {K : PySem.W.Frag} {a : Addr} {xs : List V} {g : TG} {tt : TT} {te : TE} {vs : List Nat} {σ : L2.St} {H1 : Hp} {D : Addr} {Qd : Hp → Prop} (Pv : Nat → Hp → Prop) (h0 : Pv 0 (upd H1 D (SetO w D (fun _ => false) 0)))
    (hl : ∀ i H, i ≤ xs.length → Pv i H → SqL K H a xs)
    (hs : ∀ i x H, xs[i]? = some x → Pv i H → g x (wipe σ vs) H fun σ2 H2 => wipe σ2 vs = wipe σ vs ∧ tt σ2 H2 fun b H3 => if b = true then te σ2 H3 fun y H4 =>
      ∃ (c : Int) (S : Int → Bool) (n : Nat), y = .int c ∧ H4 D = some (SetO w D S n) ∧ n + 1 < scanBound ∧ Pv (i + 1) (upd H4 D (SetO w D (fun j => S j || decide (j = c)) (if S c = true then n else n + 1))) else Pv (i + 1) H3)
    (hd : ∀ H, Pv xs.length H → Qd H) : ∃ W : Nat → Nat → Hp → Prop, (∃ m, W 0 m (upd H1 D (SetO w D (fun _ => false) 0))) ∧ ∀ i m H, W i m H → ((Itl K a).stop i H ∧ Qd H) ∨
      ((Itl K a).go i H ∧ ∃ Nx : Hp → Prop, (∀ H', Nx H' → ∃ m', m' < m ∧ W (i + 1) m' H') ∧ ∀ x H', (Itl K a).yld i H x H' → g x (wipe σ vs) H' fun σ2 H2 => wipe σ2 vs = wipe σ vs ∧ tt σ2 H2 fun b H3 =>
        if b = true then te σ2 H3 fun y H4 => ∃ (c : Int) (S : Int → Bool) (n : Nat), y = .int c ∧ H4 D = some (SetO w D S n) ∧ n + 1 < scanBound ∧ Nx (upd H4 D (SetO w D (fun j => S j || decide (j = c)) (if S c = true then n else n + 1))) else Nx H3) := by
  refine ⟨fun i m H => m = xs.length - i ∧ i ≤ xs.length ∧ Pv i H, ⟨_, rfl, Nat.zero_le _, h0⟩, ?_⟩
  rintro i _ H ⟨rfl, hi, p⟩
  by_cases lt : i < xs.length
  · refine .inr ⟨⟨xs, xs[i], hl i H hi p, by simp [lt]⟩, Pv (i + 1), fun H' p' => ⟨xs.length - (i + 1), by omega, rfl, lt, p'⟩, fun x H' ⟨e, y⟩ => ?_⟩
    subst e
    exact hs i x _ (y xs (hl i _ hi p)) p
  · obtain rfl : i = xs.length := by omega
    exact .inl ⟨⟨xs, hl _ H hi p, Nat.le_refl _⟩, hd H p⟩
/-- the rests at a place, of some marks -/
def rAt (hl : List (List Int)) (i : Int) : List Int := (hl.filter fun z => decide (z.getD 0 0 = i)).map fun z => z.getD 1 0
def sp_p_rests_at (K : PySem.W.Frag) : Sp := fun vs H Q _ => ∃ (a : Addr) (hl : List (List Int)) (i : Int), vs = [.ref a, .int i] ∧ TupsAt K H a hl ∧ (∀ z ∈ hl, z.length = 2) ∧ hl.length ≤ 100 ∧
  ∀ (D : Addr) (rl : List Int) (H' : Hp), Same H H' → H D = none → H' D = some (.lst (rl.map V.int)) → rl.Pairwise (· < ·) → (∀ r, r ∈ rl ↔ r ∈ rAt hl i) → Q (.ref D) H'
section
variable {P : Program} [POk P FILE] {w : World} {K : PySem.W.Frag} {mg : Str → Option Value} {base : Heap}
theorem ok_p_rests_at (T : Txt K mg) : FnOk P w K mg base CX0 2 T.f_p_rests_at T.fd_p_rests_at ["marks", "index"] (sp_p_rests_at K) := by
  refine T.F_p_rests_at.ok sc_p_rests_at (fun vs H Q E h => ?_) (fun cdv A outer s H vs Q E hr h => ?_)
  · obtain ⟨a, hl, i, rfl, _⟩ := h
    rfl
  · obtain ⟨a, hl, idx, rfl, ta, two, few, q⟩ := h
    refine ⟨_, (pss_one (ps_ret (pe_callB (cr_sortedSL rfl) (by rfl) T.z_sorted (by decide +kernel) (pa_cons (pe_scI (own := [("place", 2), ("rest", 3)]) (g := gTup K 2 (gCons (gName 2) (gCons (gName 3) (gNil)))) rfl sc_p_rests_at.nd (pi_list (pv 0)) (blkOk_by (N := ["marks", "index", "place", "rest"]) (sc := defScope s_p_rests_at) (by decide +kernel)) (fun _ _ _ _ _ => (pg_tup (by rfl) (pgs_cons (pg_name (i := 2) sc_p_rests_at.nd rfl (by first | exact .inl rfl | exact .inr rfl)) (pgs_cons (pg_name (i := 3) sc_p_rests_at.nd rfl (by first | exact .inl rfl | exact .inr rfl)) pgs_nil)))) (fun _ _ _ _ _ => (pts_one (pt_cmpR op_eq (pv 2) (pv 1) (nomark _)))) (fun _ _ _ _ _ => (pv 3))) pa_nil)))), ?_⟩
    obtain ⟨ts, ea, la, fa⟩ := ta.ex
    refine ⟨_, rfl, a, rfl, ⟨_, lstOf ea⟩, fun D nD => ?_⟩
    refine scI_list (K := K) (a := a) (xs := ts.map V.ref) (fun i Hi => ∃ n, n ≤ i ∧ Hi D = some (SetO w D (fun j => decide (j ∈ rAt (hl.take i) idx)) n) ∧ Same H Hi)
      ⟨0, Nat.le_refl _, by rw [upd_same]; exact congrArg some (congrArg (SetO w D · 0) (funext fun j => (decide_eq_false (by unfold rAt; simp)).symm)), same_upd nD⟩ (fun i Hi _ ⟨_, _, _, si⟩ => lstOf (si _ _ ea)) ?_ ?_
    · rintro i y Hi hi ⟨n, ni, ei, si⟩
      rw [List.getElem?_map] at hi
      obtain ⟨t, ht, rfl⟩ := Option.map_eq_some_iff.mp hi
      have il := (List.getElem?_eq_some_iff.mp ht).1
      obtain ⟨z, hz⟩ : ∃ z, hl[i]? = some z := ⟨_, List.getElem?_eq_getElem (by omega)⟩
      have sq := Same.seqTT si (fa i t z ht hz)
      have l2 := two z (List.mem_of_getElem? hz)
      obtain ⟨x0, x1, rfl⟩ : ∃ x0 x1, z = [x0, x1] := by
        match z, l2 with
        | [x0, x1], _ => exact ⟨x0, x1, rfl⟩
      refine ⟨t, [_, _], rfl, sq, rfl, _, _, rfl, _, _, rfl, rfl, rfl, _, rfl, _, rfl, rfl, _, rfl, ite2 (fun e => ?_) (fun e => ?_)⟩
      · have e' : x0 = idx := V.int.inj (of_decide_eq_true e)
        refine ⟨_, rfl, x1, _, n, rfl, ei, Nat.lt_of_le_of_lt (show n + 1 ≤ 2001 by omega) (by decide), (if decide (x1 ∈ rAt (hl.take i) idx) = true then n else n + 1), ?_, ?_, samePut si nD⟩
        · split <;> omega
        · rw [upd_same, takeSucc hz]
          refine congrArg some (congrArg (SetO w D · _) (funext fun j => ?_))
          unfold rAt
          rw [← Bool.decide_or, List.filter_append, List.map_append, show List.filter (fun z : List Int => decide (z.getD 0 0 = idx)) [[x0, x1]] = [[x0, x1]] from List.filter_cons_of_pos (decide_eq_true e')]
          exact decide_eq_decide.mpr (by rw [List.mem_append]; exact or_congr_right ⟨fun h => List.mem_singleton.mpr h, fun h => List.mem_singleton.mp h⟩)
      · have e' : ¬ x0 = idx := fun h => e (decide_eq_true (congrArg V.int h))
        refine ⟨n, by omega, ?_, si⟩
        rw [ei, takeSucc hz]
        refine congrArg some (congrArg (SetO w D · _) (funext fun j => ?_))
        unfold rAt
        rw [List.filter_append, show List.filter (fun z : List Int => decide (z.getD 0 0 = idx)) [[x0, x1]] = [] from List.filter_cons_of_neg (by rw [decide_eq_true_iff]; exact e'), List.append_nil]
    · rintro H1 ⟨n, nn, e1, s1⟩
      rw [List.length_map, la, List.take_length] at e1
      rw [List.length_map] at nn
      refine ⟨D, _, n, rfl, e1, by omega, fun ns p up mem len np => ?_⟩
      have sp := same_upd np (o := .lst (ns.map V.int))
      exact q p ns _ (s1.trans sp) (s1.free np) upd_same up fun r => ⟨fun h => of_decide_eq_true ((mem r).mp h), fun h => (mem r).mpr (decide_eq_true h)⟩
end

end R
namespace R
open PySem PySem.Spec PyProof.Rows L2
/-! ## sure_rests of values that it refuses -/
def sp_p_sure_rests (K : PySem.W.Frag) (B1 B2 : Addr) : Sp := fun vs H Q E => ∃ v u : V, vs = [v, u] ∧ ((∃ w, BadMod K H v w ∧ tells H B1 w E) ∨ ∃ (a : Addr) (ms : List Int), v = .ref a ∧ SqT K H a (ms.map V.int) ∧ MOk ms ∧ ∃ w, BadSn K H u w ∧ tells H B2 w E)
section
variable {P : Program} [POk P FILE] {w : World} {K : PySem.W.Frag} {mg : Str → Option Value} {base : Heap}
theorem ok_p_sure_rests (T : Txt K mg) : FnOk P w K mg base (L2.CX P w) 7 T.f_p_sure_rests T.fd_p_sure_rests ["moduli", "seen"] (sp_p_sure_rests K T.C_BadModuli T.C_BadSeen) := by
  refine T.F_p_sure_rests.okX sc_p_sure_rests (fun vs H Q E h => ?_) (fun cdv A outer s H vs Q E hr h => ?_)
  · obtain ⟨v, u, rfl, _⟩ := h
    rfl
  · obtain ⟨v, u, rfl, h⟩ := h
    refine ⟨_, (pss_cons (ps_expr (pe_call (ok_p_check_moduli (P := P) T) (hr.mono (by decide)) (by rfl) T.g_p_check_moduli T.F_p_check_moduli.kp T.b_p_check_moduli .nil (passes_call (takes_of rfl rfl rfl rfl) (fun _ _ _ _ h => h)) (pa_cons (pv 0) pa_nil)))
      (pss_cons (ps_expr (pe_call (ok_p_check_seen (P := P) T) (hr.mono (by decide)) (by rfl) T.g_p_check_seen T.F_p_check_seen.kp T.b_p_check_seen .nil (passes_call (takes_of rfl rfl rfl rfl) (fun _ _ _ _ h => h)) (pa_cons (pv 1) pa_nil)))
      (pss_cons (ps_set (i := 2) sc_p_sure_rests.nd rfl (by first | exact .inl rfl | exact .inr rfl) (pe_call (ok_p_held_marks (P := P) T) (hr.mono (by decide)) (by rfl) T.g_p_held_marks T.F_p_held_marks.kp T.b_p_held_marks .nil pass0 (pa_cons (pv 0) (pa_cons (pv 1) pa_nil))))
      (pss_cons (ps_set (i := 3) sc_p_sure_rests.nd rfl (by first | exact .inl rfl | exact .inr rfl) (pe_call (ok_p_unheld_marks (P := P) T) (hr.mono (by decide)) (by rfl) T.g_p_unheld_marks T.F_p_unheld_marks.kp T.b_p_unheld_marks .nil pass0 (pa_cons (pv 0) (pa_cons (pv 1) pa_nil))))
      (pss_cons (ps_if (pt_cmpR (op_inD (un65 hr)) (pe_lst pa_nil) (pv 3) (by rfl)) (pss_one (ps_raise rfl (takes_of rfl rfl rfl rfl) (pmk_own PySem.F.excBase_ValueError T.x_Nothing T.g_Nothing T.k_Nothing (raises_own T.b_Nothing T.t_Nothing) (by rfl)))) pss_nil)
      (pss_cons (ps_set (i := 4) sc_p_sure_rests.nd rfl (by first | exact .inl rfl | exact .inr rfl) (pe_lc (own := [("marks", 5)]) rfl sc_p_sure_rests.nd (pi_list (pv 3)) (blkOk_by (N := ["moduli", "seen", "held", "unheld", "barred", "marks", "index"]) (sc := defScope s_p_sure_rests) (by decide +kernel)) (fun _ _ _ _ _ => (pg_name (i := 5) sc_p_sure_rests.nd rfl (by first | exact .inl rfl | exact .inr rfl))) (fun _ _ _ _ _ => (pts_one (pt_cmpR op_eq (pe_callB (r := rLenK K) call_len_seq (by rfl) T.z_len (by decide +kernel) (pa_cons (pv 5) pa_nil)) pe_int (nomark _)))) (fun _ _ _ _ _ => (pe_ix (r := rIxL K) ix_list (pv 5) pe_int (fun _ _ => rfl)))))
      (pss_one (ps_ret (pe_lc (own := [("index", 6)]) rfl sc_p_sure_rests.nd (pi_range1 (by rfl) T.z_range (pa_cons (pe_callB (r := rLenK K) call_len_seq (by rfl) T.z_len (by decide +kernel) (pa_cons (pv 0) pa_nil)) pa_nil)) (blkOk_by (N := ["moduli", "seen", "held", "unheld", "barred", "marks", "index"]) (sc := defScope s_p_sure_rests) (by decide +kernel)) (fun _ _ _ _ _ => (pg_name (i := 6) sc_p_sure_rests.nd rfl (by first | exact .inl rfl | exact .inr rfl))) (fun _ _ _ _ _ => pts_nil) (fun _ _ _ _ _ => (pe_tup (pa_cons (pe_call (ok_p_rests_at (P := P) T) (hr.mono (by decide)) (by rfl) T.g_p_rests_at T.F_p_rests_at.kp T.b_p_rests_at .nil pass0 (pa_cons (pv 2) (pa_cons (pv 6) pa_nil))) (pa_cons (pe_call (ok_p_rests_at (P := P) T) (hr.mono (by decide)) (by rfl) T.g_p_rests_at T.F_p_rests_at.kp T.b_p_rests_at .nil pass0 (pa_cons (pv 4) (pa_cons (pv 6) pa_nil))) pa_nil))))))))))))), ?_⟩
    rcases h with ⟨w, bad, tl⟩ | ⟨a, ms, rfl, ta, M, w, bad, tl⟩
    · exact ⟨_, rfl, _, rfl, .inr ⟨w, bad, tl⟩⟩
    · refine ⟨_, rfl, _, rfl, .inl ⟨a, ms, rfl, ta, M, fun H1 s1 => ?_⟩⟩
      exact ⟨_, rfl, _, rfl, .inr ⟨w, bad.same s1, tl.same s1⟩⟩
end

end R
namespace R
open PySem PySem.Spec PyProof.Rows L2
/-! ## what is refused, as the law tells it -/
def tellsQ (H : Hp) (m : Str) (w : V) (Q : VK) : Prop := ∀ l H', Same H H' → H' l = some (.lst [.str m, w]) → Q (.ref l) H'
theorem tellsQ.same {H H1 : Hp} {m : Str} {w : V} {Q : VK} (h : tellsQ H m w Q) (s : Same H H1) : tellsQ H1 m w Q := fun l H' s' e => h l H' (s.trans s') e
def sp_l_told_there (K : PySem.W.Frag) : Sp := fun vs H Q _ => ∃ (v u : V) (b : Bool), vs = [v, u, .bl b] ∧ ((∃ w, BadMod K H v w ∧ tellsQ H "moduli" w Q) ∨ ∃ (a : Addr) (ms : List Int), v = .ref a ∧ SqT K H a (ms.map V.int) ∧ MOk ms ∧ ∃ w, BadSn K H u w ∧ tellsQ H "seen" w Q)
section
variable {P : Program} [POk P FILE] {w : World} {K : PySem.W.Frag} {mg : Str → Option Value} {base : Heap}
theorem ok_l_told_there (T : Txt K mg) : FnOk P w K mg base CX0 14 T.f_l_told_there T.fd_l_told_there ["_law_moduli", "_law_seen", "_law_is_many"] (sp_l_told_there K) := by
  refine T.F_l_told_there.ok sc_l_told_there (fun vs H Q E h => ?_) (fun cdv A outer s H vs Q E hr h => ?_)
  · obtain ⟨v, u, b, rfl, _⟩ := h
    rfl
  · obtain ⟨v, u, b, rfl, h⟩ := h
    refine ⟨_, (pss_cons (ps_set (i := 3) sc_l_told_there.nd rfl (by first | exact .inl rfl | exact .inr rfl) pe_non)
      (pss_cons (ps_try_asM (i := 4) rfl rfl sc_l_told_there.nd rfl rfl takes0 (fun W pn xe tk po => (pss_one (ps_set (i := 3) sc_l_told_there.nd rfl (by first | exact .inl rfl | exact .inr rfl) (pe_ifExp (pt_val (pv 2)) (pe_callS (ok_p_many_lots (P := P) T) (hr.mono (by decide)) (by rfl) T.g_p_many_lots T.F_p_many_lots.kp T.b_p_many_lots (fun σ => passAt tk σ) (pa_cons (pv 0) (pa_cons (pv 1) pa_nil))) (pe_callS (ok_p_sure_rests (P := P) T) (hr.mono (by decide)) (by rfl) T.g_p_sure_rests T.F_p_sure_rests.kp T.b_p_sure_rests (fun σ => passAt tk σ) (pa_cons (pv 0) (pa_cons (pv 1) pa_nil)))))))
      (.cons ⟨by rfl, by decide, .inl T.g_BadModuli⟩ (fun a oe cls d pn hz hf => (pss_one (ps_set (i := 3) sc_l_told_there.nd rfl (by first | exact .inl rfl | exact .inr rfl) (pe_ifExp (pt_val (pe_callB (call_isD T.E_BadModuli hz hf) (by rfl) T.z_isinstance (by decide +kernel) (pa_cons (pv 4) (pa_cons (pe_glob (v := .ref T.C_RestError) (by rfl) T.g_RestError rfl) pa_nil)))) (pe_lst (pa_cons pe_str (pa_cons (pe_xf T.xf_BadModuli T.oc_BadModuli.no hz hf (pv 4)) pa_nil))) pe_str)))) (.cons ⟨by rfl, by decide, .inl T.g_BadSeen⟩ (fun a oe cls d pn hz hf => (pss_one (ps_set (i := 3) sc_l_told_there.nd rfl (by first | exact .inl rfl | exact .inr rfl) (pe_ifExp (pt_val (pe_callB (call_isD T.E_BadSeen hz hf) (by rfl) T.z_isinstance (by decide +kernel) (pa_cons (pv 4) (pa_cons (pe_glob (v := .ref T.C_RestError) (by rfl) T.g_RestError rfl) pa_nil)))) (pe_lst (pa_cons pe_str (pa_cons (pe_xf T.xf_BadSeen T.oc_BadSeen.no hz hf (pv 4)) pa_nil))) pe_str)))) .nil)))
      (pss_one (ps_ret (pv 3))))), ?_⟩
    refine ⟨_, rfl, ?_⟩
    cases b with
    | true =>
      refine ⟨_, rfl, iteT ⟨_, rfl, _, rfl, v, u, rfl, ?_⟩⟩
      rcases h with ⟨w, bad, tl⟩ | ⟨a, ms, rfl, ta, M, w, bad, tl⟩
      · refine .inl ⟨w, bad, fun d H1 s1 nd => ⟨true, T.e_BadModuli, fun _ a na => ?_, fun z => nomatch z⟩⟩
        have s2 := s1.trans (same_upd nd (o := .xd [("index", w)]))
        refine ⟨_, rfl, rfl, d, _, rfl, upd_same, .ref T.C_RestError, _, true, rfl, fun u r => r, T.r_BadModuli, true, rfl, iteT ?_⟩
        refine ⟨_, rfl, rfl, rfl, d, _, w, rfl, upd_same, by simp [List.lookup], sizeOk (by show (2 : Nat) ≤ 100000; decide), fun l nl => ?_⟩
        exact ⟨_, rfl, tl l _ (s2.trans (same_upd nl)) upd_same⟩
      · refine .inr ⟨a, ms, rfl, ta, M, .inl ⟨w, bad, fun d H1 s1 nd => ⟨false, T.e_BadSeen_BadModuli, fun z => (nomatch z), fun _ => ⟨true, T.e_BadSeen, fun _ a na => ?_, fun z => nomatch z⟩⟩⟩⟩
        have s2 := s1.trans (same_upd nd (o := .xd [("index", w)]))
        refine ⟨_, rfl, rfl, d, _, rfl, upd_same, .ref T.C_RestError, _, true, rfl, fun u r => r, T.r_BadSeen, true, rfl, iteT ?_⟩
        refine ⟨_, rfl, rfl, rfl, d, _, w, rfl, upd_same, by simp [List.lookup], sizeOk (by show (2 : Nat) ≤ 100000; decide), fun l nl => ?_⟩
        exact ⟨_, rfl, tl l _ (s2.trans (same_upd nl)) upd_same⟩
    | false =>
      refine ⟨_, rfl, iteF ⟨_, rfl, _, rfl, v, u, rfl, ?_⟩⟩
      rcases h with ⟨w, bad, tl⟩ | ⟨a, ms, rfl, ta, M, w, bad, tl⟩
      · refine .inl ⟨w, bad, fun d H1 s1 nd => ⟨true, T.e_BadModuli, fun _ a na => ?_, fun z => nomatch z⟩⟩
        have s2 := s1.trans (same_upd nd (o := .xd [("index", w)]))
        refine ⟨_, rfl, rfl, d, _, rfl, upd_same, .ref T.C_RestError, _, true, rfl, fun u r => r, T.r_BadModuli, true, rfl, iteT ?_⟩
        refine ⟨_, rfl, rfl, rfl, d, _, w, rfl, upd_same, by simp [List.lookup], sizeOk (by show (2 : Nat) ≤ 100000; decide), fun l nl => ?_⟩
        exact ⟨_, rfl, tl l _ (s2.trans (same_upd nl)) upd_same⟩
      · refine .inr ⟨a, ms, rfl, ta, M, ⟨w, bad, fun d H1 s1 nd => ⟨false, T.e_BadSeen_BadModuli, fun z => (nomatch z), fun _ => ⟨true, T.e_BadSeen, fun _ a na => ?_, fun z => nomatch z⟩⟩⟩⟩
        have s2 := s1.trans (same_upd nd (o := .xd [("index", w)]))
        refine ⟨_, rfl, rfl, d, _, rfl, upd_same, .ref T.C_RestError, _, true, rfl, fun u r => r, T.r_BadSeen, true, rfl, iteT ?_⟩
        refine ⟨_, rfl, rfl, rfl, d, _, w, rfl, upd_same, by simp [List.lookup], sizeOk (by show (2 : Nat) ≤ 100000; decide), fun l nl => ?_⟩
        exact ⟨_, rfl, tl l _ (s2.trans (same_upd nl)) upd_same⟩
end

end R
namespace R
open PySem PySem.Spec PyProof.Rows L2
/-! ## tuples cut and joined -/
theorem tcTake (xs : List V) (i : Nat) : cutV xs none (some (i : Int)) = xs.take i := by
  unfold cutV
  rw [HT.sIx_none, HT.sIx_nat, List.drop_zero, Nat.sub_zero, ← List.take_take, List.take_length]
theorem tcDrop (xs : List V) {i : Nat} (h : i ≤ xs.length) : cutV xs (some (i : Int)) none = xs.drop i := by
  unfold cutV
  rw [HT.sIx_none, HT.sIx_nat, Nat.min_eq_left h, List.take_of_length_le (by rw [List.length_drop]; exact Nat.le_refl _)]
theorem tupTake {K : PySem.W.Frag} {H : Hp} {a : Addr} {xs : List V} {i : Nat} {Q : V → Hp → Prop} (B : SqT K H a xs) (q : ∀ y H', Same H H' → SqT K H' y (xs.take i) → Q (.ref y) H') : rSlA K (.ref a) none (some (i : Int)) H Q := by
  refine ⟨a, xs, rfl, B, fun h => ?_, fun _ p np => ?_⟩
  · have h2 := h.2
    rw [HT.sIx_nat] at h2
    refine q _ _ (Same.refl _) ?_
    rw [List.take_of_length_le (by omega)]
    exact B
  · refine q _ _ (same_upd np) (tupOf ?_)
    rw [upd_same, tcTake]
theorem tupDrop {K : PySem.W.Frag} {H : Hp} {a : Addr} {xs : List V} {i : Nat} {Q : V → Hp → Prop} (B : SqT K H a xs) (hi : i ≤ xs.length) (q : ∀ y H', Same H H' → SqT K H' y (xs.drop i) → Q (.ref y) H') : rSlA K (.ref a) (some (i : Int)) none H Q := by
  refine ⟨a, xs, rfl, B, fun h => ?_, fun _ p np => ?_⟩
  · have h1 := h.1
    rw [HT.sIx_nat] at h1
    refine q _ _ (Same.refl _) ?_
    by_cases z : i = 0
    · subst z
      exact B
    · have e : xs = [] := List.length_eq_zero_iff.mp (by omega)
      subst e
      rw [List.drop_nil]
      exact B
  · refine q _ _ (same_upd np) (tupOf ?_)
    rw [upd_same, tcDrop xs hi]
theorem tupCat {K : PySem.W.Frag} {H : Hp} {a b : Addr} {xs ys : List V} {Q : V → Hp → Prop} (B : SqT K H a xs) (C : SqT K H b ys) (few : xs.length + ys.length ≤ 1000) (q : ∀ y H', Same H H' → SqT K H' y (xs ++ ys) → Q (.ref y) H') : rCatA K (.ref a) (.ref b) H Q := by
  refine ⟨a, b, xs, ys, rfl, rfl, B, C, sizeOk (by omega), fun e => ?_, fun _ e => ?_, fun _ _ p np => ?_⟩
  · subst e
    exact q _ _ (Same.refl _) C
  · subst e
    refine q _ _ (Same.refl _) ?_
    rw [List.append_nil]
    exact B
  · exact q _ _ (same_upd np) (tupOf upd_same)

end R
namespace R
open PySem PySem.Spec PyProof.Rows L2
/-! ## moduli and sights as they are drawn -/
structure MG (i : Nat) (ms : List Int) : Prop where
  len : ms.length ≤ i
  one : 1 ≤ i → 1 ≤ ms.length
  mod : ∀ m ∈ ms, 1 ≤ m ∧ m ≤ 4
  sum : ms.sum ≤ 9
  nil : i = 0 → ms = []
theorem RowAt.tupK {H H' : Hp} {r L : Addr} (R : RowAt H r L) (k : Kp r H H') : ∀ q u, H q = some (.tup u) → H' q = some (.tup u) := fun q u e => k _ _ (fun z => by
  subst z
  obtain ⟨zs, e'⟩ := R.lst
  rw [e] at e'
  cases e') e
/-- sights as they are drawn -/
structure Drn (H : Hp) (xs : List V) (sl : List (Int × Bool)) : Prop where
  len : xs.length = sl.length
  at_ : ∀ (i : Nat) x p, xs[i]? = some x → sl[i]? = some p → ∃ t, x = .ref t ∧ H t = some (.tup [.int p.1, .bl p.2])
  num : ∀ p ∈ sl, IsNum p.1
theorem Drn.stay {H H' : Hp} {xs : List V} {sl : List (Int × Bool)} (h : Drn H xs sl) (s : ∀ q u, H q = some (.tup u) → H' q = some (.tup u)) : Drn H' xs sl :=
  ⟨h.len, fun i x p a b => let ⟨t, e, q⟩ := h.at_ i x p a b; ⟨t, e, s _ _ q⟩, h.num⟩
theorem Drn.add {H : Hp} {xs : List V} {sl : List (Int × Bool)} {t : Addr} {p : Int × Bool} (h : Drn H xs sl) (ht : H t = some (.tup [.int p.1, .bl p.2])) (hn : IsNum p.1) : Drn H (xs ++ [.ref t]) (sl ++ [p]) := by
  refine ⟨by rw [List.length_append, List.length_append, h.len]; rfl, fun i x q a b => ?_, fun q hq => ?_⟩
  · by_cases l : i < xs.length
    · rw [List.getElem?_append_left l] at a
      rw [List.getElem?_append_left (by rw [← h.len]; exact l)] at b
      exact h.at_ i x q a b
    · rw [List.getElem?_append_right (by omega)] at a
      rw [List.getElem?_append_right (by rw [← h.len]; omega), ← h.len] at b
      cases z : i - xs.length with
      | zero =>
        rw [z] at a b
        cases Option.some.inj a
        cases Option.some.inj b
        exact ⟨t, rfl, ht⟩
      | succ j => rw [z] at a; simp at a
  · rcases List.mem_append.mp hq with hq | hq
    · exact h.num q hq
    · rw [List.mem_singleton.mp hq]
      exact hn
def sp_law (K : PySem.W.Frag) : Sp := fun vs H Q _ => ∃ (a : Addr) (ns : List Int), vs = [.ref a] ∧ SqL K H a (ns.map V.int) ∧ ns.length ≤ 63 ∧ ∀ H', Q (.bl true) H'

end R
namespace R
open PySem PySem.Spec PyProof.Rows L2
/-! ## the law -/
def fitS (ns : List Int) : List (Int × Bool) := ns.map fun x => (x, true)
theorem fitS_snoc (ns : List Int) (x : Int) : fitS (ns ++ [x]) = fitS ns ++ [(x, true)] := by
  unfold fitS
  rw [List.map_append]
  rfl
theorem fitS_len (ns : List Int) : (fitS ns).length = ns.length := by
  unfold fitS
  rw [List.length_map]
/-- [m, w] as data -/
theorem okTold {m : Str} {d : PyData} (hm : okD 0 (.str m)) (hd : okD 0 d) : okD 1 (.list [.str m, d]) := okD.lst fun x hx => by
  rcases List.mem_cons.mp hx with rfl | hx
  · exact hm
  · rw [List.mem_singleton.mp hx]
    exact hd
theorem okM : okD 0 (.str "moduli") := ⟨by rw [PyData.canLay0] <;> decide +kernel, by rw [PyData.depth]; exact Nat.le_refl _⟩
theorem okS : okD 0 (.str "seen") := ⟨by rw [PyData.canLay0] <;> decide +kernel, by rw [PyData.depth]; exact Nat.le_refl _⟩
theorem okN : okD 0 .none := ⟨by rw [PyData.canLay0] <;> decide +kernel, by rw [PyData.depth]; exact Nat.le_refl _⟩
theorem dpTold {K : PySem.W.Frag} {H : Hp} {l : Addr} {m : Str} {w : V} {d : PyData} (e : H l = some (.lst [.str m, w])) (hd : Dp K H w d) : Dp K H (.ref l) (.list [.str m, d]) := .lst (lstOf e) (.cons (.str m) (.cons hd .nil))
/-- a row of moduli with one spoilt -/
theorem badMod_at {K : PySem.W.Frag} {H : Hp} {c : Addr} {ms : List Int} (M : MOk ms) {i : Nat} {y : V} (hi : i < ms.length) (o : OutI K H 1 30 y) (h : SqT K H c ((ms.map V.int).take i ++ [y] ++ (ms.map V.int).drop (i + 1))) : BadMod K H (.ref c) (.int (i : Nat)) := by
  have l1 := M.one
  have l4 := M.four
  have len : ((ms.map V.int).take i ++ [y] ++ (ms.map V.int).drop (i + 1)).length = ms.length := by
    simp only [List.length_append, List.length_take, List.length_drop, List.length_map, List.length_singleton]
    omega
  refine .inr ⟨c, _, rfl, h, .inr ⟨by omega, by omega, i, y, fun j hj => ?_, ?_, o, rfl⟩⟩
  · refine ⟨ms[j]'(by omega), ?_, M.mod _ (List.getElem_mem _)⟩
    rw [List.append_assoc, List.getElem?_append_left (by rw [List.length_take, List.length_map]; omega), List.getElem?_take, if_pos hj, List.getElem?_map, List.getElem?_eq_getElem (by omega)]
    rfl
  · rw [List.append_assoc, List.getElem?_append_right (by rw [List.length_take, List.length_map]; omega), List.length_take, List.length_map, Nat.min_eq_left (by omega), Nat.sub_self]
    rfl
theorem unfit_fit (l : List Int) (n : Nat) : unfitTo (fitS l) n = 0 := by
  unfold unfitTo
  rw [List.length_eq_zero_iff, List.filter_eq_nil_iff]
  intro p hp
  obtain ⟨x, _, rfl⟩ := List.mem_map.mp (List.mem_of_mem_take hp)
  exact Bool.false_ne_true
theorem seenTo_app {K : PySem.W.Frag} {H : Hp} {xs ys : List V} {l : List Int} {tl : List (Int × Bool)} (d : Drn H xs (fitS l)) {n : Nat} (hn : n ≤ xs.length) : SeenTo K H (xs ++ ys) (fitS l ++ tl) n := by
  refine ⟨by rw [List.length_append, ← d.len]; omega, fun i x p hi a b => ?_⟩
  rw [List.getElem?_append_left (by omega)] at a
  rw [List.getElem?_append_left (by rw [← d.len]; omega)] at b
  obtain ⟨t, e, q⟩ := d.at_ i x p a b
  exact ⟨t, e, tupOf q, d.num p (List.mem_of_getElem? b)⟩
theorem badSn_odd {K : PySem.W.Frag} {H : Hp} {c : Addr} {xs : List V} {l : List Int} {y : V} (d : Drn H xs (fitS l)) (few : xs.length ≤ 4) (h : LT K H c (xs ++ [y, .non])) (b : BadS K H y) : BadSn K H (.ref c) (.int (xs.length : Nat)) := by
  refine .inr ⟨c, _, rfl, h, .inr ⟨by rw [List.length_append]; show xs.length + 2 ≤ 20; omega, xs.length, y, fitS l, ?_, ?_, fun n _ => by rw [unfit_fit]; exact Nat.zero_le _, rfl, .inl b⟩⟩
  · have := seenTo_app (K := K) (ys := [y, .non]) (tl := []) d (Nat.le_refl _)
    rwa [List.append_nil] at this
  · rw [List.getElem?_append_right (Nat.le_refl _), Nat.sub_self]
    rfl
theorem badSn_nine {K : PySem.W.Frag} {H : Hp} {c t : Addr} {xs : List V} {l : List Int} (d : Drn H xs (fitS l)) (few : xs.length ≤ 4) (ht : SqT K H t [.int 0, .bl false]) (h : SqT K H c (xs ++ (List.replicate (Int.toNat 9) [V.ref t]).flatten)) : BadSn K H (.ref c) (.int ((xs.length : Nat) + 8)) := by
  have len : (fitS l).length = xs.length := d.len.symm
  have r9 : (List.replicate (Int.toNat 9) [V.ref t]).flatten = List.replicate 9 (V.ref t) := rfl
  have un : ∀ n, unfitTo (fitS l ++ List.replicate 9 ((0 : Int), false)) n = ((List.replicate 9 ((0 : Int), false)).take (n - xs.length)).length := fun n => by
    have z := unfit_fit l n
    unfold unfitTo at z ⊢
    rw [List.take_append, List.filter_append, List.length_append, z, Nat.zero_add, len, List.filter_eq_self.mpr]
    intro p hp
    rw [List.eq_of_mem_replicate (List.mem_of_mem_take hp)]
    rfl
  rw [r9] at h
  refine .inr ⟨c, _, rfl, .inr h, .inr ⟨by rw [List.length_append, List.length_replicate]; omega, xs.length + 8, .ref t, fitS l ++ List.replicate 9 (0, false), ⟨by rw [List.length_append, List.length_replicate]; omega, fun i x p hi a b => ?_⟩, ?_, fun n hn => ?_, rfl, .inr ⟨?_, t, 0, rfl, ht, ⟨by omega, by omega⟩⟩⟩⟩
  · by_cases c : i < xs.length
    · rw [List.getElem?_append_left c] at a
      rw [List.getElem?_append_left (by omega)] at b
      obtain ⟨u, e, q⟩ := d.at_ i x p a b
      exact ⟨u, e, tupOf q, d.num p (List.mem_of_getElem? b)⟩
    · rw [List.getElem?_append_right (by omega), List.getElem?_replicate, if_pos (by omega)] at a
      rw [List.getElem?_append_right (by omega), List.getElem?_replicate, if_pos (by omega)] at b
      cases Option.some.inj a
      cases Option.some.inj b
      exact ⟨t, rfl, ht, ⟨by omega, by omega⟩⟩
  · rw [List.getElem?_append_right (by omega), List.getElem?_replicate, if_pos (by omega)]
  · rw [un, List.length_take, List.length_replicate]
    omega
  · rw [un, List.length_take, List.length_replicate]
    omega
section
variable {P : Program} [POk P FILE] {w : World} {K : PySem.W.Frag} {mg : Str → Option Value} {base : Heap}
set_option maxHeartbeats 3200000 in
theorem ok_law (T : Txt K mg) : FnOk P w K mg base CX0 15 T.f_law T.fd_law ["_law_script"] (sp_law K) := by
  refine T.F_law.ok sc_law (fun vs H Q E h => ?_) (fun cdv A outer s H vs Q E hr h => ?_)
  · obtain ⟨a, ns, rfl, _⟩ := h
    rfl
  · obtain ⟨a, ns, rfl, hS, hl, q⟩ := h
    refine ⟨_, (pss_cons (ps_set (i := 1) sc_law.nd rfl (by first | exact .inl rfl | exact .inr rfl) (pe_call (ok_l_draws (P := P) T) (hr.mono (by decide)) (by rfl) T.g_l_draws T.F_l_draws.kp T.b_l_draws .nil pass0 (pa_cons (pv 0) pa_nil)))
      (pss_cons (ps_for PassesOwn.never rfl (pi_range1 (by rfl) T.z_range (pa_cons pe_int pa_nil)) (pg_name (i := 2) sc_law.nd rfl (by first | exact .inl rfl | exact .inr rfl)) (pss_cons (ps_set (i := 3) sc_law.nd rfl (by first | exact .inl rfl | exact .inr rfl) (pe_callTy call_tuple_of (by rfl) T.z_tuple (by decide +kernel) (pa_cons (pe_lc (own := [("_law_k", 9)]) rfl sc_law.nd (pi_range1 (by rfl) T.z_range (pa_cons (pe_op op_add pe_int (pe_call (ok_l_pick (P := P) T) (hr.mono (by decide)) (by rfl) T.g_l_pick T.F_l_pick.kp T.b_l_pick .nil pass0 (pa_cons (pv 1) (pa_cons pe_int pa_nil)))) pa_nil)) (blkOk_by (N := ["_law_script", "_law_row", "_law_turn", "_law_moduli", "_law_seen", "_law_is_many", "_law_at", "_law_wrong", "_law_odd", "_law_k"]) (sc := defScope s_law) (by decide +kernel)) (fun _ _ _ _ _ => (pg_name (i := 9) sc_law.nd rfl (by first | exact .inl rfl | exact .inr rfl))) (fun _ _ _ _ _ => pts_nil) (fun _ _ _ _ _ => (pe_op op_add pe_int (pe_call (ok_l_pick (P := P) T) (hr.mono (by decide)) (by rfl) T.g_l_pick T.F_l_pick.kp T.b_l_pick .nil pass0 (pa_cons (pv 1) (pa_cons pe_int pa_nil)))))) pa_nil)))
      (pss_cons (ps_par (i := 4) (j := 5) (by rfl) sc_law.nd rfl rfl (by decide) rfl rfl (pa_cons (pe_lc (own := [("_law_k", 9)]) rfl sc_law.nd (pi_range1 (by rfl) T.z_range (pa_cons (pe_call (ok_l_pick (P := P) T) (hr.mono (by decide)) (by rfl) T.g_l_pick T.F_l_pick.kp T.b_l_pick .nil pass0 (pa_cons (pv 1) (pa_cons pe_int pa_nil))) pa_nil)) (blkOk_by (N := ["_law_script", "_law_row", "_law_turn", "_law_moduli", "_law_seen", "_law_is_many", "_law_at", "_law_wrong", "_law_odd", "_law_k"]) (sc := defScope s_law) (by decide +kernel)) (fun _ _ _ _ _ => (pg_name (i := 9) sc_law.nd rfl (by first | exact .inl rfl | exact .inr rfl))) (fun _ _ _ _ _ => pts_nil) (fun _ _ _ _ _ => (pe_tup (pa_cons (pe_call (ok_l_far (P := P) T) (hr.mono (by decide)) (by rfl) T.g_l_far T.F_l_far.kp T.b_l_far .nil pass0 (pa_cons (pv 1) pa_nil)) (pa_cons pe_bl pa_nil))))) (pa_cons (pe_cmpR op_eq (pe_call (ok_l_pick (P := P) T) (hr.mono (by decide)) (by rfl) T.g_l_pick T.F_l_pick.kp T.b_l_pick .nil pass0 (pa_cons (pv 1) (pa_cons pe_int pa_nil))) pe_int (nomark _)) pa_nil)) (by rfl))
      (pss_cons (ps_set (i := 6) sc_law.nd rfl (by first | exact .inl rfl | exact .inr rfl) (pe_call (ok_l_pick (P := P) T) (hr.mono (by decide)) (by rfl) T.g_l_pick T.F_l_pick.kp T.b_l_pick .nil pass0 (pa_cons (pv 1) (pa_cons (pe_callB call_len_seq (by rfl) T.z_len (by decide +kernel) (pa_cons (pv 3) pa_nil)) pa_nil))))
      (pss_cons (ps_set (i := 7) sc_law.nd rfl (by first | exact .inl rfl | exact .inr rfl) (pe_op op_catA (pe_op op_catA (pe_slice sl_tupA (pv 3) po_none (po_some (pv 6))) (pe_tup (pa_cons (pe_ix ix_list (pe_lst (pa_cons pe_int (pa_cons pe_int (pa_cons (pe_un un_neg pe_int) (pa_cons pe_bl (pa_cons pe_non (pa_cons pe_str pa_nil))))))) (pe_call (ok_l_pick (P := P) T) (hr.mono (by decide)) (by rfl) T.g_l_pick T.F_l_pick.kp T.b_l_pick .nil pass0 (pa_cons (pv 1) (pa_cons pe_int pa_nil))) (fun _ _ => rfl)) pa_nil))) (pe_slice sl_tupA (pv 3) (po_some (pe_op op_add (pv 6) pe_int)) po_none)))
      (pss_cons (ps_if (pt_cmpR (op_neD hr.units) (pe_call (ok_l_told_there (P := P) T) (hr.mono (by decide)) (by rfl) T.g_l_told_there T.F_l_told_there.kp T.b_l_told_there .nil pass0 (pa_cons (pv 7) (pa_cons pe_non (pa_cons (pv 5) pa_nil)))) (pe_lst (pa_cons pe_str (pa_cons (pv 6) pa_nil))) (nomark _)) (pss_one (ps_ret pe_bl)) pss_nil)
      (pss_cons (ps_if (pt_cmpR (op_neD hr.units) (pe_call (ok_l_told_there (P := P) T) (hr.mono (by decide)) (by rfl) T.g_l_told_there T.F_l_told_there.kp T.b_l_told_there .nil pass0 (pa_cons (pe_ix ix_list (pe_lst (pa_cons pe_non (pa_cons (pe_tup pa_nil) (pa_cons (pe_callTy call_list_of (by rfl) T.z_list (by decide +kernel) (pa_cons (pv 3) pa_nil)) (pa_cons (pe_op op_repT (pe_tup (pa_cons pe_int pa_nil)) pe_int) (pa_cons pe_int pa_nil)))))) (pe_call (ok_l_pick (P := P) T) (hr.mono (by decide)) (by rfl) T.g_l_pick T.F_l_pick.kp T.b_l_pick .nil pass0 (pa_cons (pv 1) (pa_cons pe_int pa_nil))) (fun _ _ => rfl)) (pa_cons pe_non (pa_cons (pv 5) pa_nil)))) (pe_lst (pa_cons pe_str (pa_cons pe_non pa_nil))) (nomark _)) (pss_one (ps_ret pe_bl)) pss_nil)
      (pss_cons (ps_set (i := 8) sc_law.nd rfl (by first | exact .inl rfl | exact .inr rfl) (pe_lst (pa_cons pe_non (pa_cons (pe_tup (pa_cons pe_int pa_nil)) (pa_cons (pe_lst (pa_cons pe_int (pa_cons pe_bl pa_nil))) (pa_cons (pe_tup (pa_cons pe_int (pa_cons pe_int pa_nil))) (pa_cons (pe_tup (pa_cons pe_bl (pa_cons pe_bl pa_nil))) (pa_cons (pe_tup (pa_cons pe_str (pa_cons pe_bl pa_nil))) (pa_cons (pe_tup (pa_cons (pe_op op_add (pe_op op_pow pe_int pe_int) pe_int) (pa_cons pe_bl pa_nil))) (pa_cons (pe_tup (pa_cons pe_int (pa_cons pe_non pa_nil))) pa_nil))))))))))
      (pss_cons (ps_expr (pe_bm PySem.F.plainAttrs_list PySem.F.slot_list_append PySem.F.type_list_append mt_append (pv 8) (pa_cons (pe_tup (pa_cons pe_int (pa_cons pe_bl (pa_cons pe_bl pa_nil)))) pa_nil)))
      (pss_cons (ps_set (i := 7) sc_law.nd rfl (by first | exact .inl rfl | exact .inr rfl) (pe_op op_cat (pv 4) (pe_lst (pa_cons (pe_ix ix_list (pv 8) (pe_call (ok_l_pick (P := P) T) (hr.mono (by decide)) (by rfl) T.g_l_pick T.F_l_pick.kp T.b_l_pick .nil pass0 (pa_cons (pv 1) (pa_cons pe_int pa_nil))) (fun _ _ => rfl)) (pa_cons pe_non pa_nil)))))
      (pss_cons (ps_if (pt_cmpR (op_neD hr.units) (pe_call (ok_l_told_there (P := P) T) (hr.mono (by decide)) (by rfl) T.g_l_told_there T.F_l_told_there.kp T.b_l_told_there .nil pass0 (pa_cons (pv 3) (pa_cons (pv 7) (pa_cons (pv 5) pa_nil)))) (pe_lst (pa_cons pe_str (pa_cons (pe_callB call_len_seq (by rfl) T.z_len (by decide +kernel) (pa_cons (pv 4) pa_nil)) pa_nil))) (nomark _)) (pss_one (ps_ret pe_bl)) pss_nil)
      (pss_cons (ps_if (pt_cmpR (op_neD hr.units) (pe_call (ok_l_told_there (P := P) T) (hr.mono (by decide)) (by rfl) T.g_l_told_there T.F_l_told_there.kp T.b_l_told_there .nil pass0 (pa_cons (pv 3) (pa_cons (pe_ix ix_list (pe_lst (pa_cons pe_non (pa_cons pe_str (pa_cons pe_dnewK (pa_cons (pe_op op_rep (pe_lst (pa_cons (pe_tup (pa_cons pe_int (pa_cons pe_bl pa_nil))) pa_nil)) pe_int) pa_nil))))) (pe_call (ok_l_pick (P := P) T) (hr.mono (by decide)) (by rfl) T.g_l_pick T.F_l_pick.kp T.b_l_pick .nil pass0 (pa_cons (pv 1) (pa_cons pe_int pa_nil))) (fun _ _ => rfl)) (pa_cons (pv 5) pa_nil)))) (pe_lst (pa_cons pe_str (pa_cons pe_non pa_nil))) (nomark _)) (pss_one (ps_ret pe_bl)) pss_nil)
      (pss_one (ps_if (pt_cmpR (op_neD hr.units) (pe_call (ok_l_told_there (P := P) T) (hr.mono (by decide)) (by rfl) T.g_l_told_there T.F_l_told_there.kp T.b_l_told_there .nil pass0 (pa_cons (pv 3) (pa_cons (pe_op op_catA (pe_callTy call_tuple_of (by rfl) T.z_tuple (by decide +kernel) (pa_cons (pv 4) pa_nil)) (pe_op op_repT (pe_tup (pa_cons (pe_tup (pa_cons pe_int (pa_cons pe_bl pa_nil))) pa_nil)) pe_int)) (pa_cons (pv 5) pa_nil)))) (pe_lst (pa_cons pe_str (pa_cons (pe_op op_add (pe_callB call_len_seq (by rfl) T.z_len (by decide +kernel) (pa_cons (pv 4) pa_nil)) pe_int) pa_nil))) (nomark _)) (pss_one (ps_ret pe_bl)) pss_nil))))))))))))))
      (pss_one (ps_ret (pe_cmpR op_eq (pe_call (ok_p_many_lots (P := P) T) (hr.mono (by decide)) (by rfl) T.g_p_many_lots T.F_p_many_lots.kp T.b_p_many_lots .nil passL (pa_cons (pe_tup (pa_cons pe_int (pa_cons pe_int (pa_cons pe_int (pa_cons pe_int pa_nil))))) (pa_cons (pe_op op_rep (pe_lst (pa_cons (pe_tup (pa_cons pe_int (pa_cons pe_bl pa_nil))) pa_nil)) pe_int) pa_nil))) (pe_op op_mulW (pe_op op_pow pe_int pe_int) (pe_op op_pow pe_int pe_int)) (nomark _)))))), ?_⟩
    refine ⟨_, rfl, a, ns, rfl, hS, fun r L H1 s1 R1 => ?_⟩
    refine ⟨4, rfl, by decide, by decide, for_range (lo := 0) (n := 4) (fun i σ H2 => ∃ x2 x3 x4 x5 x6 x7 x8 x9 : Option V, σ = [some (.ref a), some (.ref r), x2, x3, x4, x5, x6, x7, x8, x9] ∧ RowAt H2 r L) ⟨none, none, none, none, none, none, none, none, rfl, R1⟩ ?_ ?_⟩
    · rintro i σ H2 hi ⟨x2, x3, x4, x5, x6, x7, x8, x9, rfl, R2⟩
      refine ⟨_, rfl, r, L, 4, rfl, R2, by decide, by decide, fun n H2 n0 n1 k2 R2 => ⟨_, _, rfl, rfl, 1 + n, rfl, by omega, by omega, fun D nD => ?_⟩⟩
      have nDr := R2.new nD
      refine lc_range (lo := 0) (n := (1 + n).toNat) (fun j Hj => ∃ l : List Int, Hj D = some (.lst (l.map V.int)) ∧ l.length = j ∧ (∀ x ∈ l, 1 ≤ x ∧ x ≤ 30) ∧ Kp r H2 Hj ∧ RowAt Hj r L)
        ⟨[], upd_same, rfl, fun x h => by simp at h, Kp.new nD, R2.upd nDr⟩ ?_ ?_
      · rintro j Hj hj ⟨l, ej, lj, gj, kj, Rj⟩
        refine ⟨rfl, _, rfl, r, L, 30, rfl, Rj, by decide, by decide, fun z H5 z0 z1 k5 R5 => ⟨_, _, rfl, rfl, ?_⟩⟩
        refine ⟨_, k5 _ _ nDr.1 ej, ?_, l ++ [1 + z], ?_, by rw [List.length_append, lj]; rfl, fun x h => ?_, (kj.trans k5).add nD, R5.upd nDr⟩
        · rw [List.length_map]
          exact sizeLt (by omega)
        · rw [upd_same, List.map_append]
          rfl
        · rcases List.mem_append.mp h with h | h
          · exact gj x h
          · rw [List.mem_singleton.mp h]
            exact ⟨by omega, by omega⟩
      · rintro H3 ⟨ms, e3, l3, g3, k3, R3⟩
        have M : MOk ms := ⟨by omega, by omega, g3⟩
        refine ⟨D, _, rfl, .inl ⟨lstOf e3, fun p np => ?_⟩⟩
        have tp := tupOf (K := K) (upd_same (H := H3) (a := p) (o := .tup (ms.map V.int)))
        have R4 := R3.upd (o := .tup (ms.map V.int)) (R3.new np)
        generalize upd H3 p (.tup (ms.map V.int)) = H4 at tp R4 ⊢
        clear R3 k3 e3 nDr nD R2 k2
        refine ⟨_, rfl, r, L, 5, rfl, R4, by decide, by decide, fun m H5 m0 m1 k5 R5 => ⟨m, rfl, by omega, by omega, fun G nG => ?_⟩⟩
        have nGr := R5.new nG
        have tp5 := R4.tups k5 _ _ tp
        refine lc_range (lo := 0) (n := m.toNat) (fun j Hj => ∃ (xs : List V) (l : List Int), Hj G = some (.lst xs) ∧ Drn Hj xs (fitS l) ∧ l.length = j ∧ Kp r H5 Hj ∧ RowAt Hj r L)
          ⟨[], [], upd_same, ⟨rfl, fun i x p h _ => by simp at h, fun p hp => (by cases hp)⟩, rfl, Kp.new nG, R5.upd nGr⟩ ?_ ?_
        · rintro j Hj hj ⟨xs, l, ej, dj, lj, kj, Rj⟩
          refine ⟨rfl, _, rfl, r, L, rfl, Rj, fun z H6 z0 z1 k6 R6 => ⟨sizeOk (by show (2 : Nat) ≤ 100000; decide), fun t nt => ?_⟩⟩
          have st := same_upd nt (o := .tup [.int z, .bl true])
          have eG := st _ _ (k6 _ _ nGr.1 ej)
          have tG : t ≠ G := fun w => by rw [w, k6 _ _ nGr.1 ej] at nt; cases nt
          refine ⟨_, eG, ?_, xs ++ [.ref t], l ++ [z], upd_same, ?_, by rw [List.length_append, lj]; rfl, ?_, (R6.stay st).upd nGr⟩
          · rw [dj.len, fitS_len]
            exact sizeLt (by omega)
          · rw [fitS_snoc]
            refine (dj.stay fun a u q => ?_).add (p := (z, true)) ?_ ⟨by have := z0; omega, by have := z1; omega⟩
            · rw [upd_ne (fun z => by rw [z, ej] at q; cases q)]
              exact st _ _ (Rj.tupK k6 _ _ q)
            · rw [upd_ne tG, upd_same]
          · exact ((kj.trans k6).trans (Kp.of st)).add nG
        · rintro H6 ⟨xs, l, eG, dr, ll, k6, R6⟩
          have tp6 := R5.tups k6 _ _ tp5
          refine ⟨_, rfl, r, L, 2, rfl, R6, by decide, by decide, fun bb H7 b0 b1 k7 R7 => ⟨rfl, _, _, rfl, ?_⟩⟩
          generalize decide (V.int bb = V.int 0) = many
          have tp7 := R6.tups k7 _ _ tp6
          have eG7 := k7 _ _ nGr.1 eG
          have dr7 := dr.stay fun q u e => R6.tupK k7 q u e
          have l3' : (1 : Int) ≤ ((ms.map V.int).length : Int) := by rw [List.length_map]; omega
          refine ⟨_, rfl, _, rfl, p, _, rfl, .inr tp7, r, L, _, rfl, R7, by omega, by rw [List.length_map, Int.natAbs_natCast]; exact Nat.lt_of_le_of_lt (show ms.length ≤ 4 by omega) (by decide), fun at0 H8 a0 a1 k8 R8 => ?_⟩
          rw [List.length_map] at a1
          have lx : xs.length ≤ 4 := by
            have := dr.len
            rw [fitS_len] at this
            omega
          obtain ⟨at_, rfl⟩ : ∃ k : Nat, at0 = (k : Int) := ⟨at0.toNat, by omega⟩
          have hat : at_ < ms.length := by omega
          have tp8 := R7.tups k8 _ _ tp7
          have eG8 := k8 _ _ nGr.1 eG7
          have dr8 := dr7.stay fun q u e => R7.tupK k8 q u e
          clear k7 k8 tp7 eG7 dr7 R7 k6 R6 dr eG tp6 tp5 nG k5 R5
          refine ⟨_, rfl, _, rfl, _, rfl, tupTake (K := K) tp8 fun y1 H9 s9 t9 => ?_⟩
          -- the spoilt one
          refine ⟨_, rfl, sizeOk (by show (6 : Nat) ≤ 100000; decide), fun w1 nw1 => ?_⟩
          have q1 := same_upd nw1 (o := .lst [.int 0, .int 31, .int (-1), .bl true, .non, .str "2"])
          have e1 := upd_same (H := H9) (a := w1) (o := .lst [.int 0, .int 31, .int (-1), .bl true, .non, .str "2"])
          have R10 := (R8.stay s9).stay q1
          have nwr := (R8.stay s9).new nw1
          generalize upd H9 w1 (.lst [.int 0, .int 31, .int (-1), .bl true, .non, .str "2"]) = HA at q1 e1 R10 ⊢
          refine ⟨_, rfl, r, L, 6, rfl, R10, by decide, by decide, fun z HB z0 z1 kB RB => ?_⟩
          obtain ⟨y, hy, oy⟩ : ∃ y, atI [V.int 0, .int 31, .int (-1), .bl true, .non, .str "2"] z = some y ∧ ∀ H, OutI K H 1 30 y := by
            rcases (by omega : z = 0 ∨ z = 1 ∨ z = 2 ∨ z = 3 ∨ z = 4 ∨ z = 5) with rfl | rfl | rfl | rfl | rfl | rfl
            · exact ⟨_, atI_nat (j := 0) rfl, fun H => .inr ⟨_, rfl, by omega⟩⟩
            · exact ⟨_, atI_nat (j := 1) rfl, fun H => .inr ⟨_, rfl, by omega⟩⟩
            · exact ⟨_, atI_nat (j := 2) rfl, fun H => .inr ⟨_, rfl, by omega⟩⟩
            · exact ⟨_, atI_nat (j := 3) rfl, fun H => .inl (.inl ⟨_, rfl⟩)⟩
            · exact ⟨_, atI_nat (j := 4) rfl, fun H => .inl (.inr ⟨"NoneType", .base .non, by decide +kernel⟩)⟩
            · exact ⟨_, atI_nat (j := 5) rfl, fun H => .inl (.inr ⟨"str", .base (.str _), by decide +kernel⟩)⟩
          refine ⟨w1, _, _, _, rfl, rfl, lstOf (kB _ _ nwr.1 e1), hy, sizeOk (by show (1 : Nat) ≤ 100000; decide), fun t1 nt1 => ?_⟩
          have qt := same_upd nt1 (o := .tup [y])
          have kC : Kp r H8 (upd HB t1 (.tup [y])) := (((Kp.of s9).trans (Kp.of q1)).trans kB).trans (Kp.of qt)
          have RC := RB.stay qt
          have t9' := Same.seqTT qt (R10.tups kB _ _ (Same.seqTT q1 t9))
          have ty1 := tupOf (K := K) (upd_same (H := HB) (a := t1) (o := .tup [y]))
          generalize upd HB t1 (.tup [y]) = HC at kC RC t9' ty1 ⊢
          refine tupCat (K := K) t9' ty1 (by rw [List.length_take, List.length_map]; show min at_ ms.length + 1 ≤ 1000; omega) fun y2 HD sD tD => ?_
          have tpD := Same.seqTT sD (R8.tups kC _ _ tp8)
          refine ⟨_, rfl, _, rfl, _, _, rfl, rfl, ((at_ + 1 : Nat) : Int), rfl, ?_⟩
          simp only [tNoPart]
          refine tupDrop (K := K) (i := at_ + 1) tpD (by rw [List.length_map]; omega) fun y3 HE sE tE => ?_
          refine tupCat (K := K) (Same.seqTT sE tD) tE (by simp only [List.length_append, List.length_take, List.length_drop, List.length_map, List.length_singleton]; omega) fun y4 HF sF tF => ?_
          have bad := badMod_at M hat (oy HF) tF
          have kF : Kp r H8 HF := kC.trans ((Kp.of sD).trans ((Kp.of sE).trans (Kp.of sF)))
          have RF := RC.stay (sD.trans (sE.trans sF))
          have tpF := R8.tups kF _ _ tp8
          have eGF := kF _ _ nGr.1 eG8
          have drF := dr8.stay fun q u e => R8.tupK kF q u e
          clear kF kC tF tE tD tpD t9' ty1 qt q1 e1 t9 s9 sD sE sF kB R10 RB RC dr8 eG8 tp8 R8 nwr nw1 nt1
          refine ⟨_, rfl, _, rfl, _, _, many, rfl, .inl ⟨_, bad, fun u1 HG sG eu1 => ?_⟩⟩
          refine ⟨_, rfl, sizeOk (by show (2 : Nat) ≤ 100000; decide), fun u2 nu2 => ?_⟩
          have qu2 := same_upd nu2 (o := .lst [.str "moduli", .int (at_ : Nat)])
          refine ⟨_, _, dpTold (qu2 _ _ eu1) (.int _), dpTold upd_same (.int _), (okTold okM (okD.int _)).shaped (by decide), (okTold okM (okD.int _)).shaped (by decide), _, rfl, ?_⟩
          rw [(okTold okM (okD.int _)).eqv]
          refine iteF ?_
          have sH := sG.trans qu2
          have RH := RF.stay sH
          have tpH := Same.seqTT sH tpF
          have eGH := sH _ _ eGF
          have drH := drF.stay fun q u e => sH _ _ e
          generalize upd HG u2 (.lst [.str "moduli", .int (at_ : Nat)]) = H0 at RH tpH eGH drH ⊢
          clear sH qu2 nu2 sG drF eGF tpF RF bad eu1
          -- no rows of moduli
          refine ⟨sizeOk (by show (0 : Nat) ≤ 100000; decide), fun p0 np0 => ⟨_, rfl, p, _, rfl, .inr (Same.seqTT (same_upd np0) tpH), fun l1 nl1 => ⟨sizeOk (by show (1 : Nat) ≤ 100000; decide), fun t2 nt2 => ?_⟩⟩⟩
          refine ⟨t2, 5, _, rfl, rfl, tupOf upd_same, List.cons_ne_nil _ _, by decide, by decide, by decide, fun t3 nt3 => ⟨sizeOk (by show (5 : Nat) ≤ 100000; decide), fun l2 nl2 => ?_⟩⟩
          have r0 := same_upd np0 (o := .tup [])
          have r1 := same_upd nl1 (o := .lst (ms.map V.int))
          have r2 := same_upd nt2 (o := .tup [.int 2])
          have r3 := same_upd nt3 (o := .tup (List.replicate (Int.toNat 5) [V.int 2]).flatten)
          have r4 := same_upd nl2 (o := .lst [.non, .ref p0, .ref l1, .ref t3, .int 4])
          have f0 := ((r1.trans r2).trans (r3.trans r4)) _ _ (upd_same (H := H0) (a := p0) (o := .tup []))
          have f1 := (r2.trans (r3.trans r4)) _ _ (upd_same (H := upd H0 p0 (.tup [])) (a := l1) (o := .lst (ms.map V.int)))
          have f3 := r4 _ _ (upd_same (H := upd (upd (upd H0 p0 (.tup [])) l1 (.lst (ms.map V.int))) t2 (.tup [.int 2])) (a := t3) (o := .tup (List.replicate (Int.toNat 5) [V.int 2]).flatten))
          have f4 := upd_same (H := upd (upd (upd (upd H0 p0 (.tup [])) l1 (.lst (ms.map V.int))) t2 (.tup [.int 2])) t3 (.tup (List.replicate (Int.toNat 5) [V.int 2]).flatten)) (a := l2) (o := .lst [.non, .ref p0, .ref l1, .ref t3, .int 4])
          have sJ := r0.trans ((r1.trans r2).trans (r3.trans r4))
          have RJ0 := RH.stay (r0.trans ((r1.trans r2).trans r3))
          have nlr := RJ0.new nl2
          generalize upd (upd (upd (upd (upd H0 p0 (.tup [])) l1 (.lst (ms.map V.int))) t2 (.tup [.int 2])) t3 (.tup (List.replicate (Int.toNat 5) [V.int 2]).flatten)) l2 (.lst [.non, .ref p0, .ref l1, .ref t3, .int 4]) = HJ at f0 f1 f3 f4 sJ ⊢
          have RJ := RH.stay sJ
          have n0r : ∀ {c : Addr} {o : HO}, HJ c = some o → (∀ zs, o ≠ .lst zs) → c ≠ r := fun {c o} e ne z => by
            obtain ⟨zs, e'⟩ := RJ.lst
            rw [z, e'] at e
            exact ne _ (Option.some.inj e).symm
          have nl1r : l1 ≠ r := fun z => by
            obtain ⟨zs, e'⟩ := RH.lst
            rw [z, (same_upd np0 (o := .tup [])) _ _ e'] at nl1
            cases nl1
          refine ⟨_, rfl, r, L, 5, rfl, RJ, by decide, by decide, fun z HK z0 z1 kK RK => ?_⟩
          obtain ⟨y, hy, by_⟩ : ∃ y, atI [V.non, .ref p0, .ref l1, .ref t3, .int 4] z = some y ∧ BadMod K HK y .non := by
            rcases (by omega : z = 0 ∨ z = 1 ∨ z = 2 ∨ z = 3 ∨ z = 4) with rfl | rfl | rfl | rfl | rfl
            · exact ⟨_, atI_nat (j := 0) rfl, .inl ⟨⟨"NoneType", .base .non, by decide +kernel⟩, rfl⟩⟩
            · exact ⟨_, atI_nat (j := 1) rfl, .inr ⟨p0, [], rfl, tupOf (kK _ _ (n0r f0 fun _ z => nomatch z) f0), .inl ⟨fun h => absurd h.1 (by decide), rfl⟩⟩⟩
            · exact ⟨_, atI_nat (j := 2) rfl, .inl ⟨⟨"list", .base (.lst (kK _ _ nl1r f1)), by decide +kernel⟩, rfl⟩⟩
            · exact ⟨_, atI_nat (j := 3) rfl, .inr ⟨t3, _, rfl, tupOf (kK _ _ (n0r f3 fun _ z => nomatch z) f3), .inl ⟨fun h => absurd h.2 (by decide), rfl⟩⟩⟩
            · exact ⟨_, atI_nat (j := 4) rfl, .inl ⟨⟨"int", .base (.int 4), by decide +kernel⟩, rfl⟩⟩
          refine ⟨l2, _, _, _, rfl, rfl, lstOf (kK _ _ nlr.1 f4), hy, _, rfl, _, _, many, rfl, .inl ⟨_, by_, fun u1 HG sG eu1 => ?_⟩⟩
          refine ⟨sizeOk (by show (2 : Nat) ≤ 100000; decide), fun u2 nu2 => ?_⟩
          have qu2 := same_upd nu2 (o := .lst [.str "moduli", .non])
          refine ⟨_, _, dpTold (qu2 _ _ eu1) .non, dpTold upd_same .non, (okTold okM okN).shaped (by decide), (okTold okM okN).shaped (by decide), _, rfl, ?_⟩
          rw [(okTold okM okN).eqv]
          refine iteF ?_
          have kL : Kp r H0 (upd HG u2 (.lst [.str "moduli", .non])) := (((Kp.of sJ).trans kK).trans (Kp.of sG)).trans (Kp.of qu2)
          have RL := (RK.stay sG).stay qu2
          have tpL := RH.tups kL _ _ tpH
          have eGL := kL _ _ nGr.1 eGH
          have drL := drH.stay fun q u e => RH.tupK kL q u e
          generalize upd HG u2 (.lst [.str "moduli", .non]) = HL at RL tpL eGL drL ⊢
          clear kL qu2 nu2 sG eu1 by_ hy RK kK RJ n0r nl1r sJ nlr RJ0 f4 f3 f1 f0 r4 r3 r2 r1 r0 nl2 nt3 nt2 nl1 np0 drH eGH tpH RH
          -- what is no sight
          refine ⟨sizeOk (by show (1 : Nat) ≤ 100000; decide), fun a1 na1 => ?_⟩
          have qa1 := same_upd na1 (o := .tup [.int 1])
          have ea1 := upd_same (H := HL) (a := a1) (o := .tup [.int 1])
          have sg1 := qa1
          generalize upd HL a1 (.tup [.int 1]) = G1 at qa1 sg1 ea1 ⊢
          clear qa1 na1
          refine ⟨sizeOk (by show (2 : Nat) ≤ 100000; decide), fun a2 na2 => ?_⟩
          have qa2 := same_upd na2 (o := .lst [.int 1, .bl true])
          have ea2 := upd_same (H := G1) (a := a2) (o := .lst [.int 1, .bl true])
          have sg2 := sg1.trans qa2
          replace ea1 := qa2 _ _ ea1
          generalize upd G1 a2 (.lst [.int 1, .bl true]) = G2 at qa2 sg2 ea1 ea2 ⊢
          clear qa2 na2 sg1
          refine ⟨sizeOk (by show (2 : Nat) ≤ 100000; decide), fun a3 na3 => ?_⟩
          have qa3 := same_upd na3 (o := .tup [.int 1, .int 1])
          have ea3 := upd_same (H := G2) (a := a3) (o := .tup [.int 1, .int 1])
          have sg3 := sg2.trans qa3
          replace ea1 := qa3 _ _ ea1
          replace ea2 := qa3 _ _ ea2
          generalize upd G2 a3 (.tup [.int 1, .int 1]) = G3 at qa3 sg3 ea1 ea2 ea3 ⊢
          clear qa3 na3 sg2
          refine ⟨sizeOk (by show (2 : Nat) ≤ 100000; decide), fun a4 na4 => ?_⟩
          have qa4 := same_upd na4 (o := .tup [.bl true, .bl true])
          have ea4 := upd_same (H := G3) (a := a4) (o := .tup [.bl true, .bl true])
          have sg4 := sg3.trans qa4
          replace ea1 := qa4 _ _ ea1
          replace ea2 := qa4 _ _ ea2
          replace ea3 := qa4 _ _ ea3
          generalize upd G3 a4 (.tup [.bl true, .bl true]) = G4 at qa4 sg4 ea1 ea2 ea3 ea4 ⊢
          clear qa4 na4 sg3
          refine ⟨sizeOk (by show (2 : Nat) ≤ 100000; decide), fun a5 na5 => ?_⟩
          have qa5 := same_upd na5 (o := .tup [.str "1", .bl true])
          have ea5 := upd_same (H := G4) (a := a5) (o := .tup [.str "1", .bl true])
          have sg5 := sg4.trans qa5
          replace ea1 := qa5 _ _ ea1
          replace ea2 := qa5 _ _ ea2
          replace ea3 := qa5 _ _ ea3
          replace ea4 := qa5 _ _ ea4
          generalize upd G4 a5 (.tup [.str "1", .bl true]) = G5 at qa5 sg5 ea1 ea2 ea3 ea4 ea5 ⊢
          clear qa5 na5 sg4
          refine ⟨_, _, rfl, rfl, ⟨by decide, by decide, by decide⟩, _, _, rfl, rfl, sizeOk (by show (2 : Nat) ≤ 100000; decide), fun a6 na6 => ?_⟩
          have qa6 := same_upd na6 (o := .tup [.int (10 ^ (30 : Int).toNat + 1), .bl true])
          have ea6 := upd_same (H := G5) (a := a6) (o := .tup [.int (10 ^ (30 : Int).toNat + 1), .bl true])
          have sg6 := sg5.trans qa6
          replace ea1 := qa6 _ _ ea1
          replace ea2 := qa6 _ _ ea2
          replace ea3 := qa6 _ _ ea3
          replace ea4 := qa6 _ _ ea4
          replace ea5 := qa6 _ _ ea5
          generalize upd G5 a6 (.tup [.int (10 ^ (30 : Int).toNat + 1), .bl true]) = G6 at qa6 sg6 ea1 ea2 ea3 ea4 ea5 ea6 ⊢
          clear qa6 na6 sg5
          refine ⟨sizeOk (by show (2 : Nat) ≤ 100000; decide), fun a7 na7 => ?_⟩
          have qa7 := same_upd na7 (o := .tup [.int 1, .non])
          have ea7 := upd_same (H := G6) (a := a7) (o := .tup [.int 1, .non])
          have sg7 := sg6.trans qa7
          replace ea1 := qa7 _ _ ea1
          replace ea2 := qa7 _ _ ea2
          replace ea3 := qa7 _ _ ea3
          replace ea4 := qa7 _ _ ea4
          replace ea5 := qa7 _ _ ea5
          replace ea6 := qa7 _ _ ea6
          generalize upd G6 a7 (.tup [.int 1, .non]) = G7 at qa7 sg7 ea1 ea2 ea3 ea4 ea5 ea6 ea7 ⊢
          clear qa7 na7 sg6
          refine ⟨sizeOk (by show (8 : Nat) ≤ 100000; decide), fun l8 nl8 => ?_⟩
          have q8 := same_upd nl8 (o := .lst [.non, .ref a1, .ref a2, .ref a3, .ref a4, .ref a5, .ref a6, .ref a7])
          have e8 := upd_same (H := G7) (a := l8) (o := .lst [.non, .ref a1, .ref a2, .ref a3, .ref a4, .ref a5, .ref a6, .ref a7])
          have R8 := RL.stay (sg7.trans q8)
          have n8 := (RL.stay sg7).new nl8
          replace ea1 := q8 _ _ ea1
          replace ea2 := q8 _ _ ea2
          replace ea3 := q8 _ _ ea3
          replace ea4 := q8 _ _ ea4
          replace ea5 := q8 _ _ ea5
          replace ea6 := q8 _ _ ea6
          replace ea7 := q8 _ _ ea7
          have sg8 := sg7.trans q8
          generalize upd G7 l8 (.lst [.non, .ref a1, .ref a2, .ref a3, .ref a4, .ref a5, .ref a6, .ref a7]) = G8 at q8 sg8 R8 e8 ea1 ea2 ea3 ea4 ea5 ea6 ea7 ⊢
          have nG8 : G ≠ l8 := fun z => by rw [← z, sg7 _ _ eGL] at nl8; cases nl8
          refine ⟨_, rfl, .inl ⟨rfl, _, lstOf e8⟩, sizeOk (by show (3 : Nat) ≤ 100000; decide), fun a9 n9 => ?_⟩
          have q9 := same_upd n9 (o := .tup [.int 1, .bl true, .bl true])
          have e9 := upd_same (H := G8) (a := a9) (o := .tup [.int 1, .bl true, .bl true])
          have R9 := R8.stay q9
          replace e8 := q9 _ _ e8
          replace ea1 := q9 _ _ ea1
          replace ea2 := q9 _ _ ea2
          replace ea3 := q9 _ _ ea3
          replace ea4 := q9 _ _ ea4
          replace ea5 := q9 _ _ ea5
          replace ea6 := q9 _ _ ea6
          replace ea7 := q9 _ _ ea7
          have sg9 := sg8.trans q9
          generalize upd G8 a9 (.tup [.int 1, .bl true, .bl true]) = G9 at q9 sg9 R9 e8 e9 ea1 ea2 ea3 ea4 ea5 ea6 ea7 ⊢
          refine ⟨l8, _, _, rfl, rfl, e8, sizeLt (by show (8 : Nat) ≤ 100000; decide), ?_⟩
          have of8 : ∀ {c : Addr} {o : HO}, G9 c = some o → c ≠ l8 → ∀ zs, upd G9 l8 (.lst zs) c = some o := fun e n zs => by rw [upd_ne n]; exact e
          have ne8 : ∀ {c : Addr} {us : List V}, G9 c = some (.tup us) → c ≠ l8 := fun {c us} e z => by rw [z, e8] at e; cases e
          have ne82 : a2 ≠ l8 := fun z => by rw [z, e8] at ea2; have := congrArg List.length (HO.lst.inj (Option.some.inj ea2)); simp at this
          have eM := upd_same (H := G9) (a := l8) (o := .lst ([.non, .ref a1, .ref a2, .ref a3, .ref a4, .ref a5, .ref a6, .ref a7] ++ [.ref a9]))
          have RM := R9.upd (o := .lst ([.non, .ref a1, .ref a2, .ref a3, .ref a4, .ref a5, .ref a6, .ref a7] ++ [.ref a9])) n8
          replace ea1 := of8 ea1 (ne8 ea1) ([.non, .ref a1, .ref a2, .ref a3, .ref a4, .ref a5, .ref a6, .ref a7] ++ [.ref a9])
          replace ea2 := of8 ea2 ne82 ([.non, .ref a1, .ref a2, .ref a3, .ref a4, .ref a5, .ref a6, .ref a7] ++ [.ref a9])
          replace ea3 := of8 ea3 (ne8 ea3) ([.non, .ref a1, .ref a2, .ref a3, .ref a4, .ref a5, .ref a6, .ref a7] ++ [.ref a9])
          replace ea4 := of8 ea4 (ne8 ea4) ([.non, .ref a1, .ref a2, .ref a3, .ref a4, .ref a5, .ref a6, .ref a7] ++ [.ref a9])
          replace ea5 := of8 ea5 (ne8 ea5) ([.non, .ref a1, .ref a2, .ref a3, .ref a4, .ref a5, .ref a6, .ref a7] ++ [.ref a9])
          replace ea6 := of8 ea6 (ne8 ea6) ([.non, .ref a1, .ref a2, .ref a3, .ref a4, .ref a5, .ref a6, .ref a7] ++ [.ref a9])
          replace ea7 := of8 ea7 (ne8 ea7) ([.non, .ref a1, .ref a2, .ref a3, .ref a4, .ref a5, .ref a6, .ref a7] ++ [.ref a9])
          replace e9 := of8 e9 (ne8 e9) ([.non, .ref a1, .ref a2, .ref a3, .ref a4, .ref a5, .ref a6, .ref a7] ++ [.ref a9])
          have eGM := of8 (sg9 _ _ eGL) nG8 ([.non, .ref a1, .ref a2, .ref a3, .ref a4, .ref a5, .ref a6, .ref a7] ++ [.ref a9])
          have tpM : SqT K (upd G9 l8 (.lst ([.non, .ref a1, .ref a2, .ref a3, .ref a4, .ref a5, .ref a6, .ref a7] ++ [.ref a9]))) p (ms.map V.int) := lstTups e8 _ _ (Same.seqTT sg9 tpL)
          have drM : Drn (upd G9 l8 (.lst ([.non, .ref a1, .ref a2, .ref a3, .ref a4, .ref a5, .ref a6, .ref a7] ++ [.ref a9]))) xs (fitS l) := drL.stay fun q u e => of8 (sg9 _ _ e) (ne8 (sg9 _ _ e)) _
          generalize upd G9 l8 (.lst ([.non, .ref a1, .ref a2, .ref a3, .ref a4, .ref a5, .ref a6, .ref a7] ++ [.ref a9])) = HM at RM eM eGM tpM drM e9 ea1 ea2 ea3 ea4 ea5 ea6 ea7 ⊢
          clear of8 ne8 ne82 R9 q9 n9 nG8 R8 q8 nl8 sg7 sg8 sg9 e8 eGL tpL drL RL
          refine ⟨_, rfl, _, rfl, _, rfl, r, L, 9, rfl, RM, by decide, by decide, fun z HN z0 z1 kN RN => ?_⟩
          have nr : ∀ {c : Addr} {us : List V}, HM c = some (.tup us) → c ≠ r := fun {c us} e z => by
            obtain ⟨zs, e'⟩ := RM.lst
            rw [z, e'] at e
            cases e
          have n2r : a2 ≠ r := fun z => by
            obtain ⟨ns, i, b, s, e', _⟩ := RM.ex
            rw [z, e'] at ea2
            have := congrArg List.length (HO.lst.inj (Option.some.inj ea2))
            simp at this
          have num1 : IsNum 1 := ⟨by omega, by omega⟩
          obtain ⟨y, hy, by_⟩ : ∃ y, atI ([V.non, .ref a1, .ref a2, .ref a3, .ref a4, .ref a5, .ref a6, .ref a7] ++ [.ref a9]) z = some y ∧ BadS K HN y := by
            rcases (by omega : z = 0 ∨ z = 1 ∨ z = 2 ∨ z = 3 ∨ z = 4 ∨ z = 5 ∨ z = 6 ∨ z = 7 ∨ z = 8) with rfl | rfl | rfl | rfl | rfl | rfl | rfl | rfl | rfl
            · exact ⟨_, atI_nat (j := 0) rfl, .inl ⟨"NoneType", .base .non, by decide +kernel⟩⟩
            · exact ⟨_, atI_nat (j := 1) rfl, .inr ⟨a1, _, rfl, tupOf (kN _ _ (nr ea1) ea1), .inl (by decide)⟩⟩
            · exact ⟨_, atI_nat (j := 2) rfl, .inl ⟨"list", .base (.lst (kN _ _ n2r ea2)), by decide +kernel⟩⟩
            · exact ⟨_, atI_nat (j := 3) rfl, .inr ⟨a3, _, rfl, tupOf (kN _ _ (nr ea3) ea3), .inr ⟨_, _, rfl, .inr ⟨⟨1, rfl, num1⟩, "int", .base (.int 1), by decide +kernel⟩⟩⟩⟩
            · exact ⟨_, atI_nat (j := 4) rfl, .inr ⟨a4, _, rfl, tupOf (kN _ _ (nr ea4) ea4), .inr ⟨_, _, rfl, .inl (.inl (.inl ⟨true, rfl⟩))⟩⟩⟩
            · exact ⟨_, atI_nat (j := 5) rfl, .inr ⟨a5, _, rfl, tupOf (kN _ _ (nr ea5) ea5), .inr ⟨_, _, rfl, .inl (.inl (.inr ⟨"str", .base (.str _), by decide +kernel⟩))⟩⟩⟩
            · exact ⟨_, atI_nat (j := 6) rfl, .inr ⟨a6, _, rfl, tupOf (kN _ _ (nr ea6) ea6), .inr ⟨_, _, rfl, .inl (.inr (.inl rfl))⟩⟩⟩
            · exact ⟨_, atI_nat (j := 7) rfl, .inr ⟨a7, _, rfl, tupOf (kN _ _ (nr ea7) ea7), .inr ⟨_, _, rfl, .inr ⟨⟨1, rfl, num1⟩, "NoneType", .base .non, by decide +kernel⟩⟩⟩⟩
            · exact ⟨_, atI_nat (j := 8) rfl, .inr ⟨a9, _, rfl, tupOf (kN _ _ (nr e9) e9), .inl (by decide)⟩⟩
          have eGN := kN _ _ nGr.1 eGM
          have tpN := RM.tups kN _ _ tpM
          have drN := drM.stay fun q u e => RM.tupK kN q u e
          have eN := kN _ _ n8.1 eM
          clear eGM tpM drM eM ea1 ea2 ea3 ea4 ea5 ea6 ea7 e9 nr n2r kN RM
          refine ⟨l8, _, _, _, rfl, rfl, lstOf eN, hy, sizeOk (by show (2 : Nat) ≤ 100000; decide), fun w2 nw2 => ?_⟩
          have p2 := same_upd nw2 (o := .lst [y, .non])
          refine ⟨G, w2, _, _, rfl, rfl, p2 _ _ eGN, upd_same, sizeOk (by show xs.length + 2 ≤ 100000; omega), fun w3 nw3 => ?_⟩
          have p3 := same_upd nw3 (o := .lst (xs ++ [y, .non]))
          have e3 := upd_same (H := upd HN w2 (.lst [y, .non])) (a := w3) (o := .lst (xs ++ [y, .non]))
          have sO := p2.trans p3
          generalize upd (upd HN w2 (.lst [y, .non])) w3 (.lst (xs ++ [y, .non])) = HO_ at sO e3 ⊢
          have bad3 := badSn_odd (K := K) (H := HO_) (c := w3) (drN.stay fun q u e => sO _ _ e) (by omega) (.inl e3) (by_.same sO)
          refine ⟨_, rfl, _, rfl, _, rfl, _, _, many, rfl, .inr ⟨p, ms, rfl, Same.seqTT sO tpN, M, _, bad3, fun u1 HG sG eu1 => ?_⟩⟩
          have eGG := sG _ _ (sO _ _ eGN)
          refine ⟨_, rfl, G, _, rfl, .inl (lstOf eGG), sizeOk (by show (2 : Nat) ≤ 100000; decide), fun u2 nu2 => ?_⟩
          have qu2 := same_upd nu2 (o := .lst [.str "seen", .int (xs.length : Nat)])
          refine ⟨_, _, dpTold (qu2 _ _ eu1) (.int _), dpTold upd_same (.int _), (okTold okS (okD.int _)).shaped (by decide), (okTold okS (okD.int _)).shaped (by decide), _, rfl, ?_⟩
          rw [(okTold okS (okD.int _)).eqv]
          refine iteF ?_
          have sP := (sO.trans sG).trans qu2
          have RP := RN.stay sP
          have eGP := sP _ _ eGN
          have tpP := Same.seqTT sP tpN
          have drP := drN.stay fun q u e => sP _ _ e
          generalize upd HG u2 (.lst [.str "seen", .int (xs.length : Nat)]) = HP at RP eGP tpP drP ⊢
          clear sP qu2 nu2 eGG sG eu1 bad3 sO e3 p3 nw3 p2 nw2 eN drN tpN eGN by_ hy RN n8
          -- no row of sights
          refine ⟨_, rfl, fun d nd => ⟨sizeOk (by show (2 : Nat) ≤ 100000; decide), fun t nt => ⟨sizeOk (by show (1 : Nat) ≤ 100000; decide), fun w nw => ⟨w, 21, _, rfl, rfl, upd_same, by decide, by decide, sizeOk (by show (21 : Nat) ≤ 100000; decide), fun v nv => ⟨sizeOk (by show (4 : Nat) ≤ 100000; decide), fun l4 nl4 => ?_⟩⟩⟩⟩⟩
          have r1 := same_upd nd (o := .dK [])
          have r2 := same_upd nt (o := .tup [.int 1, .bl true])
          have r3 := same_upd nw (o := .lst [.ref t])
          have r4 := same_upd nv (o := .lst (List.replicate (Int.toNat 21) [V.ref t]).flatten)
          have r5 := same_upd nl4 (o := .lst [.non, .str "seen", .ref d, .ref v])
          have f1 := ((r2.trans r3).trans (r4.trans r5)) _ _ (upd_same (H := HP) (a := d) (o := .dK []))
          have f4 := r5 _ _ (upd_same (H := upd (upd (upd HP d (.dK [])) t (.tup [.int 1, .bl true])) w (.lst [.ref t])) (a := v) (o := .lst (List.replicate (Int.toNat 21) [V.ref t]).flatten))
          have f5 := upd_same (H := upd (upd (upd (upd HP d (.dK [])) t (.tup [.int 1, .bl true])) w (.lst [.ref t])) v (.lst (List.replicate (Int.toNat 21) [V.ref t]).flatten)) (a := l4) (o := .lst [.non, .str "seen", .ref d, .ref v])
          have sJ := (r1.trans ((r2.trans r3).trans r4)).trans r5
          have nlr := (RP.stay (r1.trans ((r2.trans r3).trans r4))).new nl4
          have nvr := (RP.stay (r1.trans (r2.trans r3))).new nv
          have ndr := RP.new nd
          generalize upd (upd (upd (upd (upd HP d (.dK [])) t (.tup [.int 1, .bl true])) w (.lst [.ref t])) v (.lst (List.replicate (Int.toNat 21) [V.ref t]).flatten)) l4 (.lst [.non, .str "seen", .ref d, .ref v]) = HJ at f1 f4 f5 sJ ⊢
          have RJ := RP.stay sJ
          refine ⟨_, rfl, r, L, 4, rfl, RJ, by decide, by decide, fun z HK z0 z1 kK RK => ?_⟩
          obtain ⟨y, hy, by_⟩ : ∃ y, atI [V.non, .str "seen", .ref d, .ref v] z = some y ∧ BadSn K HK y .non := by
            rcases (by omega : z = 0 ∨ z = 1 ∨ z = 2 ∨ z = 3) with rfl | rfl | rfl | rfl
            · exact ⟨_, atI_nat (j := 0) rfl, .inl ⟨⟨"NoneType", .base .non, by decide +kernel, by decide +kernel⟩, rfl⟩⟩
            · exact ⟨_, atI_nat (j := 1) rfl, .inl ⟨⟨"str", .base (.str _), by decide +kernel, by decide +kernel⟩, rfl⟩⟩
            · exact ⟨_, atI_nat (j := 2) rfl, .inl ⟨⟨"dict", .base (.dK (kK _ _ ndr.1 f1)), by decide +kernel, by decide +kernel⟩, rfl⟩⟩
            · exact ⟨_, atI_nat (j := 3) rfl, .inr ⟨v, _, rfl, .inl (kK _ _ nvr.1 f4), .inl ⟨by show 20 < (21 : Nat); decide, rfl⟩⟩⟩
          have tpK := RJ.tups kK _ _ (Same.seqTT sJ tpP)
          refine ⟨l4, _, _, _, rfl, rfl, lstOf (kK _ _ nlr.1 f5), hy, _, rfl, _, _, many, rfl, .inr ⟨p, ms, rfl, tpK, M, _, by_, fun u1 HG sG eu1 => ?_⟩⟩
          refine ⟨sizeOk (by show (2 : Nat) ≤ 100000; decide), fun u2 nu2 => ?_⟩
          have qu2 := same_upd nu2 (o := .lst [.str "seen", .non])
          refine ⟨_, _, dpTold (qu2 _ _ eu1) .non, dpTold upd_same .non, (okTold okS okN).shaped (by decide), (okTold okS okN).shaped (by decide), _, rfl, ?_⟩
          rw [(okTold okS okN).eqv]
          refine iteF ?_
          have kL : Kp r HP (upd HG u2 (.lst [.str "seen", .non])) := (((Kp.of sJ).trans kK).trans (Kp.of sG)).trans (Kp.of qu2)
          have RQ := (RK.stay sG).stay qu2
          have tpQ := RP.tups kL _ _ tpP
          have eGQ := kL _ _ nGr.1 eGP
          have drQ := drP.stay fun q u e => RP.tupK kL q u e
          generalize upd HG u2 (.lst [.str "seen", .non]) = HQ at RQ tpQ eGQ drQ ⊢
          clear kL qu2 nu2 sG eu1 tpK by_ hy RK kK RJ ndr nvr nlr sJ f5 f4 f1 r5 r4 r3 r2 r1 nl4 nv nw nt nd drP eGP tpP RP
          -- nine that do not fit
          refine ⟨_, rfl, _, rfl, G, _, rfl, .inl ⟨lstOf eGQ, fun c nc => ⟨sizeOk (by show (2 : Nat) ≤ 100000; decide), fun t nt => ⟨sizeOk (by show (1 : Nat) ≤ 100000; decide), fun t2 nt2 => ?_⟩⟩⟩⟩
          refine ⟨t2, 9, _, rfl, rfl, tupOf upd_same, List.cons_ne_nil _ _, by decide, by decide, (by show (1 : Nat) ≤ 1000; decide), fun t3 nt3 => ?_⟩
          have r1 := same_upd nc (o := .tup xs)
          have r2 := same_upd nt (o := .tup [.int 0, .bl false])
          have r3 := same_upd nt2 (o := .tup [.ref t])
          have r4 := same_upd nt3 (o := .tup (List.replicate (Int.toNat 9) [V.ref t]).flatten)
          have f1 := (r2.trans (r3.trans r4)) _ _ (upd_same (H := HQ) (a := c) (o := .tup xs))
          have f2 := (r3.trans r4) _ _ (upd_same (H := upd HQ c (.tup xs)) (a := t) (o := .tup [.int 0, .bl false]))
          have f4 := upd_same (H := upd (upd (upd HQ c (.tup xs)) t (.tup [.int 0, .bl false])) t2 (.tup [.ref t])) (a := t3) (o := .tup (List.replicate (Int.toNat 9) [V.ref t]).flatten)
          have sJ := (r1.trans (r2.trans (r3.trans r4)))
          generalize upd (upd (upd (upd HQ c (.tup xs)) t (.tup [.int 0, .bl false])) t2 (.tup [.ref t])) t3 (.tup (List.replicate (Int.toNat 9) [V.ref t]).flatten) = HJ at f1 f2 f4 sJ ⊢
          refine tupCat (K := K) (tupOf f1) (tupOf f4) (by show xs.length + 9 ≤ 1000; omega) fun y5 HK sK tK => ?_
          have sQ := sJ.trans sK
          have bad5 := badSn_nine (K := K) (H := HK) (c := y5) (t := t) (drQ.stay fun q u e => sQ _ _ e) lx (tupOf (sK _ _ f2)) tK
          refine ⟨_, rfl, _, _, many, rfl, .inr ⟨p, ms, rfl, Same.seqTT sQ tpQ, M, _, bad5, fun u1 HG sG eu1 => ?_⟩⟩
          have eGG := sG _ _ (sQ _ _ eGQ)
          refine ⟨_, rfl, G, _, rfl, .inl (lstOf eGG), _, _, rfl, rfl, sizeOk (by show (2 : Nat) ≤ 100000; decide), fun u2 nu2 => ?_⟩
          have qu2 := same_upd nu2 (o := .lst [.str "seen", .int ((xs.length : Nat) + 8)])
          refine ⟨_, _, dpTold (qu2 _ _ eu1) (.int _), dpTold upd_same (.int _), (okTold okS (okD.int _)).shaped (by decide), (okTold okS (okD.int _)).shaped (by decide), _, rfl, ?_⟩
          rw [(okTold okS (okD.int _)).eqv]
          refine iteF ?_
          exact ⟨_, _, _, _, _, _, _, _, rfl, ((RQ.stay sQ).stay sG).stay qu2⟩
    · rintro σ H2 ⟨x2, x3, x4, x5, x6, x7, x8, x9, rfl, R2⟩
      refine ⟨sizeOk (by show (4 : Nat) ≤ 100000; decide), fun p np => ⟨sizeOk (by show (2 : Nat) ≤ 100000; decide), fun t nt => ⟨sizeOk (by show (1 : Nat) ≤ 100000; decide), fun w nw => ⟨w, 20, _, rfl, rfl, upd_same, by decide, by decide, sizeOk (by show (20 : Nat) ≤ 100000; decide), fun v nv => ?_⟩⟩⟩⟩
      have r2 := same_upd nt (o := .tup [.int 5, .bl true])
      have r3 := same_upd nw (o := .lst [.ref t])
      have r4 := same_upd nv (o := .lst (List.replicate (Int.toNat 20) [V.ref t]).flatten)
      have f1 := (r2.trans (r3.trans r4)) _ _ (upd_same (H := H2) (a := p) (o := .tup [.int 30, .int 30, .int 30, .int 30]))
      have f2 := (r3.trans r4) _ _ (upd_same (H := upd H2 p (.tup [.int 30, .int 30, .int 30, .int 30])) (a := t) (o := .tup [.int 5, .bl true]))
      have f4 := upd_same (H := upd (upd (upd H2 p (.tup [.int 30, .int 30, .int 30, .int 30])) t (.tup [.int 5, .bl true])) w (.lst [.ref t])) (a := v) (o := .lst (List.replicate (Int.toNat 20) [V.ref t]).flatten)
      generalize upd (upd (upd (upd H2 p (.tup [.int 30, .int 30, .int 30, .int 30])) t (.tup [.int 5, .bl true])) w (.lst [.ref t])) v (.lst (List.replicate (Int.toNat 20) [V.ref t]).flatten) = HZ at f1 f2 f4 ⊢
      have M : MOk [30, 30, 30, 30] := ⟨by decide, by decide, by decide⟩
      have r20 : (List.replicate (Int.toNat 20) [V.ref t]).flatten = List.replicate 20 (V.ref t) := rfl
      rw [r20] at f4
      have n5 : IsNum 5 := ⟨by omega, by omega⟩
      refine ⟨_, _, rfl, .inr ⟨p, [30, 30, 30, 30], rfl, tupOf f1, M, .inr ⟨v, List.replicate 20 (5, true), marksL [30, 30, 30, 30] 5, rfl, ⟨_, .inl f4, rfl, fun i x p a b => ?_⟩, ⟨by decide, fun p hp => ?_, fun n => ?_⟩, by decide, fun p hp _ z hz => ?_, fun hl hl2 H' s' h1 h2 => ?_⟩⟩⟩
      · rw [List.getElem?_replicate] at a b
        split at a
        · rename_i c
          rw [if_pos c] at b
          cases Option.some.inj a
          cases Option.some.inj b
          exact ⟨t, rfl, tupOf f2⟩
        · cases a
      · rw [List.eq_of_mem_replicate hp]
        exact n5
      · unfold unfitTo
        rw [List.filter_eq_nil_iff.mpr fun p hp => by rw [List.eq_of_mem_replicate (List.mem_of_mem_take hp)]; exact Bool.false_ne_true]
        exact Nat.zero_le _
      · rw [List.eq_of_mem_replicate hp] at hz
        exact hz
      · have un : unheldL [30, 30, 30, 30] hl2 (List.replicate 20 (5, true)) = [] := by
          unfold unheldL
          rw [List.map_eq_nil_iff, List.filter_eq_nil_iff]
          intro p hp
          rw [List.eq_of_mem_replicate hp]
          exact Bool.false_ne_true
        have m4 : hl.length = 4 := by
          have e : ∀ z, z ∈ hl ↔ z ∈ marksL [30, 30, 30, 30] 5 := fun z => by
            rw [h1.mem]
            exact ⟨fun ⟨p, hp, _, hz⟩ => by rw [List.eq_of_mem_replicate hp] at hz; exact hz, fun hz => ⟨(5, true), List.mem_replicate.mpr ⟨by decide, rfl⟩, rfl, hz⟩⟩
          exact Nat.le_antisymm (sub_len (ys := marksL [30, 30, 30, 30] 5) h1.nd fun z hz => (e z).mp hz) (sub_len (marks_nodup [30, 30, 30, 30] 5) fun z hz => (e z).mpr hz)
        have u120 : (uniL [30, 30, 30, 30]).length = 120 := by
          have := (uni_len M).1
          have z : ([30, 30, 30, 30] : List Int).sum = 120 := by decide
          rw [z] at this
          omega
        rw [un]
        unfold rowsW
        rw [m4, u120]
        refine ⟨_, _, rfl, rfl, ⟨by decide, by decide, by decide⟩, _, _, rfl, rfl, ⟨by decide, by decide, by decide⟩, _, _, rfl, rfl, (by unfold CMulW; decide +kernel), rfl, ?_⟩
        rw [decide_eq_true (congrArg V.int (show (2 : Int) ^ (120 - 4) = 2 ^ (58 : Int).toNat * 2 ^ (58 : Int).toNat by decide +kernel))]
        exact q _
end

end R
namespace R
open PySem PySem.Spec PyProof.Rows L2
theorem kit_ref {K : PySem.W.Frag} {C : Addr} {t : Value} (h1 : PySem.W.hasDictIn K C = true) (h2 : PySem.W.typeIn K (.ref C) = some (.type "type")) (h3 : PySem.W.subIn K t (.ref C) = some true) : PySem.W.kitOne K t (.ref C) = some true := by
  obtain ⟨cd, hc, _⟩ := PySem.W.any_some h1
  unfold PySem.W.kitOne
  split
  · rfl
  · show (if ((PySem.W.clsIn K C).isSome && PySem.W.typeIn K (.ref C) == some (.type "type")) = true then PySem.W.subIn K t (.ref C) else none) = some true
    rw [hc, h2]
    exact h3
theorem all_mk {l : PySem.W.OpenLaw} [POk l.prog FILE] {w : World} {K : PySem.W.Frag} {h : Heap} {mg : Str → Option Value} {fa : Addr} (X : K.In h) (G : h.Ns mainGlobals mg) (hfa : mg "law" = some (.ref fa))
    {f0 : Addr} {oc0 kV0 dc0 pm0 cd0 ct0 : Value} {od0 an0 : Option Addr} {sl0 : Array (Option Value)}
    (a0 : PySem.W.nsIn K mainGlobals "is_integer" = some (some (.ref f0)))
    {f1 : Addr} {oc1 kV1 dc1 pm1 cd1 ct1 : Value} {od1 an1 : Option Addr} {sl1 : Array (Option Value)}
    (a1 : PySem.W.nsIn K mainGlobals "integer_within" = some (some (.ref f1)))
    {f2 : Addr} {oc2 kV2 dc2 pm2 cd2 ct2 : Value} {od2 an2 : Option Addr} {sl2 : Array (Option Value)}
    (a2 : PySem.W.nsIn K mainGlobals "is_number" = some (some (.ref f2)))
    {f3 : Addr} {oc3 kV3 dc3 pm3 cd3 ct3 : Value} {od3 an3 : Option Addr} {sl3 : Array (Option Value)}
    (a3 : PySem.W.nsIn K mainGlobals "is_pair" = some (some (.ref f3)))
    {f4 : Addr} {oc4 kV4 dc4 pm4 cd4 ct4 : Value} {od4 an4 : Option Addr} {sl4 : Array (Option Value)}
    (a4 : PySem.W.nsIn K mainGlobals "check_moduli" = some (some (.ref f4)))
    {f5 : Addr} {oc5 kV5 dc5 pm5 cd5 ct5 : Value} {od5 an5 : Option Addr} {sl5 : Array (Option Value)}
    (a5 : PySem.W.nsIn K mainGlobals "is_sight" = some (some (.ref f5)))
    {f6 : Addr} {oc6 kV6 dc6 pm6 cd6 ct6 : Value} {od6 an6 : Option Addr} {sl6 : Array (Option Value)}
    (a6 : PySem.W.nsIn K mainGlobals "check_seen" = some (some (.ref f6)))
    {f7 : Addr} {oc7 kV7 dc7 pm7 cd7 ct7 : Value} {od7 an7 : Option Addr} {sl7 : Array (Option Value)}
    (a7 : PySem.W.nsIn K mainGlobals "marks_of" = some (some (.ref f7)))
    {f8 : Addr} {oc8 kV8 dc8 pm8 cd8 ct8 : Value} {od8 an8 : Option Addr} {sl8 : Array (Option Value)}
    (a8 : PySem.W.nsIn K mainGlobals "held_marks" = some (some (.ref f8)))
    {f9 : Addr} {oc9 kV9 dc9 pm9 cd9 ct9 : Value} {od9 an9 : Option Addr} {sl9 : Array (Option Value)}
    (a9 : PySem.W.nsIn K mainGlobals "unheld_marks" = some (some (.ref f9)))
    {f10 : Addr} {oc10 kV10 dc10 pm10 cd10 ct10 : Value} {od10 an10 : Option Addr} {sl10 : Array (Option Value)}
    (a10 : PySem.W.nsIn K mainGlobals "rows_with" = some (some (.ref f10)))
    {f11 : Addr} {oc11 kV11 dc11 pm11 cd11 ct11 : Value} {od11 an11 : Option Addr} {sl11 : Array (Option Value)}
    (a11 : PySem.W.nsIn K mainGlobals "many_lots" = some (some (.ref f11)))
    {f12 : Addr} {oc12 kV12 dc12 pm12 cd12 ct12 : Value} {od12 an12 : Option Addr} {sl12 : Array (Option Value)}
    (a12 : PySem.W.nsIn K mainGlobals "rests_at" = some (some (.ref f12)))
    {f13 : Addr} {oc13 kV13 dc13 pm13 cd13 ct13 : Value} {od13 an13 : Option Addr} {sl13 : Array (Option Value)}
    (a13 : PySem.W.nsIn K mainGlobals "sure_rests" = some (some (.ref f13)))
    {f14 : Addr} {oc14 kV14 dc14 pm14 cd14 ct14 : Value} {od14 an14 : Option Addr} {sl14 : Array (Option Value)}
    (a14 : PySem.W.nsIn K mainGlobals "_law_draws" = some (some (.ref f14)))
    {f15 : Addr} {oc15 kV15 dc15 pm15 cd15 ct15 : Value} {od15 an15 : Option Addr} {sl15 : Array (Option Value)}
    (a15 : PySem.W.nsIn K mainGlobals "_law_pick" = some (some (.ref f15)))
    {f16 : Addr} {oc16 kV16 dc16 pm16 cd16 ct16 : Value} {od16 an16 : Option Addr} {sl16 : Array (Option Value)}
    (a16 : PySem.W.nsIn K mainGlobals "_law_far" = some (some (.ref f16)))
    {f17 : Addr} {oc17 kV17 dc17 pm17 cd17 ct17 : Value} {od17 an17 : Option Addr} {sl17 : Array (Option Value)}
    (a17 : PySem.W.nsIn K mainGlobals "_law_told_there" = some (some (.ref f17)))
    {f18 : Addr} {oc18 kV18 dc18 pm18 cd18 ct18 : Value} {od18 an18 : Option Addr} {sl18 : Array (Option Value)}
    (a18 : PySem.W.nsIn K mainGlobals "law" = some (some (.ref f18)))
    (l0 : K.lookup f0 = some ⟨oc0, od0, .func (PySem.W.fnOf "is_integer" "is_integer" (defArgs s_p_is_integer) (defBody s_p_is_integer) (defScope s_p_is_integer) .none kV0 dc0 pm0 an0 cd0 ct0), sl0⟩)
    (d0 : PySem.W.codeIn K cd0 "is_integer" = true)
    (k0 : PySem.W.keepIn K (.ref f0) = true)
    (l1 : K.lookup f1 = some ⟨oc1, od1, .func (PySem.W.fnOf "integer_within" "integer_within" (defArgs s_p_integer_within) (defBody s_p_integer_within) (defScope s_p_integer_within) .none kV1 dc1 pm1 an1 cd1 ct1), sl1⟩)
    (d1 : PySem.W.codeIn K cd1 "integer_within" = true)
    (k1 : PySem.W.keepIn K (.ref f1) = true)
    (l2 : K.lookup f2 = some ⟨oc2, od2, .func (PySem.W.fnOf "is_number" "is_number" (defArgs s_p_is_number) (defBody s_p_is_number) (defScope s_p_is_number) .none kV2 dc2 pm2 an2 cd2 ct2), sl2⟩)
    (d2 : PySem.W.codeIn K cd2 "is_number" = true)
    (k2 : PySem.W.keepIn K (.ref f2) = true)
    (l3 : K.lookup f3 = some ⟨oc3, od3, .func (PySem.W.fnOf "is_pair" "is_pair" (defArgs s_p_is_pair) (defBody s_p_is_pair) (defScope s_p_is_pair) .none kV3 dc3 pm3 an3 cd3 ct3), sl3⟩)
    (d3 : PySem.W.codeIn K cd3 "is_pair" = true)
    (k3 : PySem.W.keepIn K (.ref f3) = true)
    (l4 : K.lookup f4 = some ⟨oc4, od4, .func (PySem.W.fnOf "check_moduli" "check_moduli" (defArgs s_p_check_moduli) (defBody s_p_check_moduli) (defScope s_p_check_moduli) .none kV4 dc4 pm4 an4 cd4 ct4), sl4⟩)
    (d4 : PySem.W.codeIn K cd4 "check_moduli" = true)
    (k4 : PySem.W.keepIn K (.ref f4) = true)
    (l5 : K.lookup f5 = some ⟨oc5, od5, .func (PySem.W.fnOf "is_sight" "is_sight" (defArgs s_p_is_sight) (defBody s_p_is_sight) (defScope s_p_is_sight) .none kV5 dc5 pm5 an5 cd5 ct5), sl5⟩)
    (d5 : PySem.W.codeIn K cd5 "is_sight" = true)
    (k5 : PySem.W.keepIn K (.ref f5) = true)
    (l6 : K.lookup f6 = some ⟨oc6, od6, .func (PySem.W.fnOf "check_seen" "check_seen" (defArgs s_p_check_seen) (defBody s_p_check_seen) (defScope s_p_check_seen) .none kV6 dc6 pm6 an6 cd6 ct6), sl6⟩)
    (d6 : PySem.W.codeIn K cd6 "check_seen" = true)
    (k6 : PySem.W.keepIn K (.ref f6) = true)
    (l7 : K.lookup f7 = some ⟨oc7, od7, .func (PySem.W.fnOf "marks_of" "marks_of" (defArgs s_p_marks_of) (defBody s_p_marks_of) (defScope s_p_marks_of) .none kV7 dc7 pm7 an7 cd7 ct7), sl7⟩)
    (d7 : PySem.W.codeIn K cd7 "marks_of" = true)
    (k7 : PySem.W.keepIn K (.ref f7) = true)
    (l8 : K.lookup f8 = some ⟨oc8, od8, .func (PySem.W.fnOf "held_marks" "held_marks" (defArgs s_p_held_marks) (defBody s_p_held_marks) (defScope s_p_held_marks) .none kV8 dc8 pm8 an8 cd8 ct8), sl8⟩)
    (d8 : PySem.W.codeIn K cd8 "held_marks" = true)
    (k8 : PySem.W.keepIn K (.ref f8) = true)
    (l9 : K.lookup f9 = some ⟨oc9, od9, .func (PySem.W.fnOf "unheld_marks" "unheld_marks" (defArgs s_p_unheld_marks) (defBody s_p_unheld_marks) (defScope s_p_unheld_marks) .none kV9 dc9 pm9 an9 cd9 ct9), sl9⟩)
    (d9 : PySem.W.codeIn K cd9 "unheld_marks" = true)
    (k9 : PySem.W.keepIn K (.ref f9) = true)
    (l10 : K.lookup f10 = some ⟨oc10, od10, .func (PySem.W.fnOf "rows_with" "rows_with" (defArgs s_p_rows_with) (defBody s_p_rows_with) (defScope s_p_rows_with) .none kV10 dc10 pm10 an10 cd10 ct10), sl10⟩)
    (d10 : PySem.W.codeIn K cd10 "rows_with" = true)
    (k10 : PySem.W.keepIn K (.ref f10) = true)
    (l11 : K.lookup f11 = some ⟨oc11, od11, .func (PySem.W.fnOf "many_lots" "many_lots" (defArgs s_p_many_lots) (defBody s_p_many_lots) (defScope s_p_many_lots) .none kV11 dc11 pm11 an11 cd11 ct11), sl11⟩)
    (d11 : PySem.W.codeIn K cd11 "many_lots" = true)
    (k11 : PySem.W.keepIn K (.ref f11) = true)
    (l12 : K.lookup f12 = some ⟨oc12, od12, .func (PySem.W.fnOf "rests_at" "rests_at" (defArgs s_p_rests_at) (defBody s_p_rests_at) (defScope s_p_rests_at) .none kV12 dc12 pm12 an12 cd12 ct12), sl12⟩)
    (d12 : PySem.W.codeIn K cd12 "rests_at" = true)
    (k12 : PySem.W.keepIn K (.ref f12) = true)
    (l13 : K.lookup f13 = some ⟨oc13, od13, .func (PySem.W.fnOf "sure_rests" "sure_rests" (defArgs s_p_sure_rests) (defBody s_p_sure_rests) (defScope s_p_sure_rests) .none kV13 dc13 pm13 an13 cd13 ct13), sl13⟩)
    (d13 : PySem.W.codeIn K cd13 "sure_rests" = true)
    (k13 : PySem.W.keepIn K (.ref f13) = true)
    (l14 : K.lookup f14 = some ⟨oc14, od14, .func (PySem.W.fnOf "_law_draws" "_law_draws" (defArgs s_l_draws) (defBody s_l_draws) (defScope s_l_draws) .none kV14 dc14 pm14 an14 cd14 ct14), sl14⟩)
    (d14 : PySem.W.codeIn K cd14 "_law_draws" = true)
    (k14 : PySem.W.keepIn K (.ref f14) = true)
    (l15 : K.lookup f15 = some ⟨oc15, od15, .func (PySem.W.fnOf "_law_pick" "_law_pick" (defArgs s_l_pick) (defBody s_l_pick) (defScope s_l_pick) .none kV15 dc15 pm15 an15 cd15 ct15), sl15⟩)
    (d15 : PySem.W.codeIn K cd15 "_law_pick" = true)
    (k15 : PySem.W.keepIn K (.ref f15) = true)
    (l16 : K.lookup f16 = some ⟨oc16, od16, .func (PySem.W.fnOf "_law_far" "_law_far" (defArgs s_l_far) (defBody s_l_far) (defScope s_l_far) .none kV16 dc16 pm16 an16 cd16 ct16), sl16⟩)
    (d16 : PySem.W.codeIn K cd16 "_law_far" = true)
    (k16 : PySem.W.keepIn K (.ref f16) = true)
    (l17 : K.lookup f17 = some ⟨oc17, od17, .func (PySem.W.fnOf "_law_told_there" "_law_told_there" (defArgs s_l_told_there) (defBody s_l_told_there) (defScope s_l_told_there) .none kV17 dc17 pm17 an17 cd17 ct17), sl17⟩)
    (d17 : PySem.W.codeIn K cd17 "_law_told_there" = true)
    (k17 : PySem.W.keepIn K (.ref f17) = true)
    (l18 : K.lookup f18 = some ⟨oc18, od18, .func (PySem.W.fnOf "law" "law" (defArgs s_law) (defBody s_law) (defScope s_law) .none kV18 dc18 pm18 an18 cd18 ct18), sl18⟩)
    (d18 : PySem.W.codeIn K cd18 "law" = true)
    (k18 : PySem.W.keepIn K (.ref f18) = true)
    (z_len : PySem.W.nsIn K mainGlobals "len" = some none)
    (z_sum : PySem.W.nsIn K mainGlobals "sum" = some none)
    (z_range : PySem.W.nsIn K mainGlobals "range" = some none)
    (z_int : PySem.W.nsIn K mainGlobals "int" = some none)
    (z_list : PySem.W.nsIn K mainGlobals "list" = some none)
    (z_tuple : PySem.W.nsIn K mainGlobals "tuple" = some none)
    (z_sorted : PySem.W.nsIn K mainGlobals "sorted" = some none)
    (z_isinstance : PySem.W.nsIn K mainGlobals "isinstance" = some none)
    (z_enumerate : PySem.W.nsIn K mainGlobals "enumerate" = some none)
    (z_bool : PySem.W.nsIn K mainGlobals "bool" = some none)
    {t_GREATEST_NUMBER : Tok}
    (c_GREATEST_NUMBER : PySem.W.nsIn K mainGlobals "GREATEST_NUMBER" = some (some (.int 1000000000000000000000000000000 t_GREATEST_NUMBER)))
    {t_MOST_MODULI : Tok}
    (c_MOST_MODULI : PySem.W.nsIn K mainGlobals "MOST_MODULI" = some (some (.int 4 t_MOST_MODULI)))
    {t_GREATEST_TOLD_BY : Tok}
    (c_GREATEST_TOLD_BY : PySem.W.nsIn K mainGlobals "GREATEST_TOLD_BY" = some (some (.int 30 t_GREATEST_TOLD_BY)))
    {t_MOST_SEEN : Tok}
    (c_MOST_SEEN : PySem.W.nsIn K mainGlobals "MOST_SEEN" = some (some (.int 20 t_MOST_SEEN)))
    {t_MOST_UNFIT : Tok}
    (c_MOST_UNFIT : PySem.W.nsIn K mainGlobals "MOST_UNFIT" = some (some (.int 8 t_MOST_UNFIT)))
    {C_RestError : Addr}
    (g_RestError : PySem.W.nsIn K mainGlobals "RestError" = some (some (.ref C_RestError)))
    (hR : PySem.W.hasDictIn K C_RestError = true)
    (tR : PySem.W.typeIn K (.ref C_RestError) = some (.type "type"))
    {C_Nothing : Addr}
    (g_Nothing : PySem.W.nsIn K mainGlobals "Nothing" = some (some (.ref C_Nothing)))
    (x_Nothing : PySem.W.excIn K C_Nothing [.type "ValueError", .type "Exception", .type "BaseException", .type "object"] "ValueError.__new__" = true)
    (k_Nothing : PySem.W.keepIn K (.ref C_Nothing) = true)
    (b_Nothing : PySem.W.subIn K (.ref C_Nothing) (.type "BaseException") = some true)
    (t_Nothing : PySem.W.typeIn K (.ref C_Nothing) = some (.type "type"))
    (e_Nothing : PySem.W.subIn K (.ref C_Nothing) (.ref C_Nothing) = some true)
    (E1_Nothing : PySem.W.findIn K (.ref C_Nothing) "__getattribute__" = some (some (.builtin "BaseException.__getattribute__")))
    (E2_Nothing : PySem.W.findIn K (.ref C_Nothing) "__getattr__" = some none)
    (E3_Nothing : PySem.W.hasDictIn K C_Nothing = true)
    (E4_Nothing : PySem.W.findIn K (.ref C_Nothing) "__class__" = some (some (.builtin "object.__class__")))
    (E5_Nothing : PySem.W.specialIn K (.builtin "object.__class__") "__get__" = some (some (.builtin "getset_descriptor.__get__")))
    (E6_Nothing : PySem.W.takesIn K (.builtin "object.__class__") = some true)
    (E7_Nothing : PySem.W.mroIn K C_Nothing (.type "object") = some true)
    (r_Nothing : PySem.W.subIn K (.ref C_Nothing) (.ref C_RestError) = some true)
    (z_super : PySem.W.nsIn K mainGlobals "super" = some none)
    {C_BadModuli i_BadModuli : Addr}
    (g_BadModuli : PySem.W.nsIn K mainGlobals "BadModuli" = some (some (.ref C_BadModuli)))
    {nm_BadModuli q_BadModuli : Str} {N_BadModuli : Addr} {bs_BadModuli bm_BadModuli sub_BadModuli : List Value} {sn_BadModuli : List Str} {ab_BadModuli : Bool} {col_BadModuli : Option Bool} {dd_BadModuli : Option Addr} {k0_BadModuli k1_BadModuli k2_BadModuli k3_BadModuli k5_BadModuli : Option Value}
    (oc1_BadModuli : K.lookup C_BadModuli = some (excClassObj nm_BadModuli q_BadModuli C_BadModuli N_BadModuli bs_BadModuli bm_BadModuli true sn_BadModuli sub_BadModuli ab_BadModuli col_BadModuli dd_BadModuli k0_BadModuli k1_BadModuli k2_BadModuli k3_BadModuli k5_BadModuli "ValueError.__new__"))
    (oc2_BadModuli : PySem.HandSPX.refsVE bm_BadModuli = true)
    (oc3_BadModuli : PySem.W.ks_superIn K C_BadModuli C_BadModuli "__init__" = some (some (.builtin "ValueError.__init__")))
    (oc4_BadModuli : PySem.W.subIn K (.ref C_BadModuli) (.type "ValueError") = some true)
    (oc5_BadModuli : PySem.W.mroIn K C_BadModuli (.ref C_BadModuli) = some true)
    (oc6_BadModuli : PySem.W.nsIn K cStatics "thirdparty.any" = some none)
    (oc7_BadModuli : PySem.W.findIn K (.ref C_BadModuli) "__setattr__" = some (some (.builtin "object.__setattr__")))
    (oc8a_BadModuli : PySem.W.findIn K (.ref C_BadModuli) "index" = some none)
    (oc9_BadModuli : PySem.W.findIn K (.ref C_BadModuli) "__init__" = some (some (.ref i_BadModuli)))
    (oc10_BadModuli : PySem.W.typeIn K (.ref i_BadModuli) = some (.type "function"))
    (oc11_BadModuli : PySem.W.keepIn K (.ref C_BadModuli) = true)
    (oc12_BadModuli : PySem.W.subIn K (.ref C_BadModuli) (.type "BaseException") = some true)
    (oc13_BadModuli : PySem.W.typeIn K (.ref C_BadModuli) = some (.type "type"))
    {ocv_BadModuli : Value} {ocd_BadModuli : Option Addr} {ocs_BadModuli : Array (Option Value)} {fq_BadModuli : Str} {doc_BadModuli pm_BadModuli ct_BadModuli : Value} {an_BadModuli : Option Addr} {cda_BadModuli cc_BadModuli : Addr} {m1_BadModuli m2_BadModuli : Str} {p1_BadModuli p2_BadModuli q1_BadModuli q2_BadModuli q3_BadModuli q4_BadModuli q5_BadModuli r1_BadModuli r2_BadModuli r3_BadModuli r4_BadModuli r5_BadModuli q6_BadModuli q7_BadModuli q8_BadModuli q9_BadModuli : Pos}
    (of1_BadModuli : K.lookup i_BadModuli = some ⟨ocv_BadModuli, ocd_BadModuli, .func (PySem.W.ksFn "__init__" fq_BadModuli (XI.oneArgs p1_BadModuli p2_BadModuli) [.Expr (XI.oneCall m1_BadModuli m2_BadModuli q1_BadModuli q2_BadModuli q3_BadModuli q4_BadModuli r1_BadModuli r2_BadModuli r3_BadModuli r4_BadModuli r5_BadModuli) q5_BadModuli, XI.oneSet q6_BadModuli q7_BadModuli q8_BadModuli q9_BadModuli] XI.oneScope .none .none doc_BadModuli pm_BadModuli an_BadModuli (.ref cda_BadModuli) ct_BadModuli cc_BadModuli), ocs_BadModuli⟩)
    (of2_BadModuli : PySem.W.codeIn K (.ref cda_BadModuli) fq_BadModuli = true)
    (of3_BadModuli : (q3_BadModuli.endLine == q4_BadModuli.line) = true)
    (of4m1_BadModuli : m1_BadModuli.length ≤ 1000)
    (of4m2_BadModuli : m2_BadModuli.length ≤ 1000)
    {ccl_BadModuli : Value} {cdd_BadModuli : Option Addr} {cvs_BadModuli : Array Value} {ccs_BadModuli : Array (Option Value)} {tf_BadModuli : Tok} {cel_BadModuli : Value} {ced_BadModuli : Option Addr} {ces_BadModuli : Array (Option Value)}
    (of5_BadModuli : K.lookup cda_BadModuli = some ⟨ccl_BadModuli, cdd_BadModuli, .fields cvs_BadModuli, ccs_BadModuli⟩)
    (of6_BadModuli : cvs_BadModuli[2]? = some (.str FILE tf_BadModuli))
    (of7_BadModuli : K.lookup cc_BadModuli = some ⟨cel_BadModuli, ced_BadModuli, .cell (some (.ref C_BadModuli)), ces_BadModuli⟩)
    (xf1_BadModuli : PySem.W.findIn K (.ref C_BadModuli) "__getattribute__" = some (some (.builtin "BaseException.__getattribute__")))
    (xf2_BadModuli : PySem.W.findIn K (.ref C_BadModuli) "__getattr__" = some none)
    (xf3_BadModuli : PySem.W.hasDictIn K C_BadModuli = true)
    (xe_BadModuli : PySem.W.subIn K (.ref C_BadModuli) (.ref C_BadModuli) = some true)
    (E4_BadModuli : PySem.W.findIn K (.ref C_BadModuli) "__class__" = some (some (.builtin "object.__class__")))
    (E5_BadModuli : PySem.W.specialIn K (.builtin "object.__class__") "__get__" = some (some (.builtin "getset_descriptor.__get__")))
    (E6_BadModuli : PySem.W.takesIn K (.builtin "object.__class__") = some true)
    (E7_BadModuli : PySem.W.mroIn K C_BadModuli (.type "object") = some true)
    (r_BadModuli : PySem.W.subIn K (.ref C_BadModuli) (.ref C_RestError) = some true)
    {C_BadSeen i_BadSeen : Addr}
    (g_BadSeen : PySem.W.nsIn K mainGlobals "BadSeen" = some (some (.ref C_BadSeen)))
    {nm_BadSeen q_BadSeen : Str} {N_BadSeen : Addr} {bs_BadSeen bm_BadSeen sub_BadSeen : List Value} {sn_BadSeen : List Str} {ab_BadSeen : Bool} {col_BadSeen : Option Bool} {dd_BadSeen : Option Addr} {k0_BadSeen k1_BadSeen k2_BadSeen k3_BadSeen k5_BadSeen : Option Value}
    (oc1_BadSeen : K.lookup C_BadSeen = some (excClassObj nm_BadSeen q_BadSeen C_BadSeen N_BadSeen bs_BadSeen bm_BadSeen true sn_BadSeen sub_BadSeen ab_BadSeen col_BadSeen dd_BadSeen k0_BadSeen k1_BadSeen k2_BadSeen k3_BadSeen k5_BadSeen "ValueError.__new__"))
    (oc2_BadSeen : PySem.HandSPX.refsVE bm_BadSeen = true)
    (oc3_BadSeen : PySem.W.ks_superIn K C_BadSeen C_BadSeen "__init__" = some (some (.builtin "ValueError.__init__")))
    (oc4_BadSeen : PySem.W.subIn K (.ref C_BadSeen) (.type "ValueError") = some true)
    (oc5_BadSeen : PySem.W.mroIn K C_BadSeen (.ref C_BadSeen) = some true)
    (oc6_BadSeen : PySem.W.nsIn K cStatics "thirdparty.any" = some none)
    (oc7_BadSeen : PySem.W.findIn K (.ref C_BadSeen) "__setattr__" = some (some (.builtin "object.__setattr__")))
    (oc8a_BadSeen : PySem.W.findIn K (.ref C_BadSeen) "index" = some none)
    (oc9_BadSeen : PySem.W.findIn K (.ref C_BadSeen) "__init__" = some (some (.ref i_BadSeen)))
    (oc10_BadSeen : PySem.W.typeIn K (.ref i_BadSeen) = some (.type "function"))
    (oc11_BadSeen : PySem.W.keepIn K (.ref C_BadSeen) = true)
    (oc12_BadSeen : PySem.W.subIn K (.ref C_BadSeen) (.type "BaseException") = some true)
    (oc13_BadSeen : PySem.W.typeIn K (.ref C_BadSeen) = some (.type "type"))
    {ocv_BadSeen : Value} {ocd_BadSeen : Option Addr} {ocs_BadSeen : Array (Option Value)} {fq_BadSeen : Str} {doc_BadSeen pm_BadSeen ct_BadSeen : Value} {an_BadSeen : Option Addr} {cda_BadSeen cc_BadSeen : Addr} {m1_BadSeen m2_BadSeen : Str} {p1_BadSeen p2_BadSeen q1_BadSeen q2_BadSeen q3_BadSeen q4_BadSeen q5_BadSeen r1_BadSeen r2_BadSeen r3_BadSeen r4_BadSeen r5_BadSeen q6_BadSeen q7_BadSeen q8_BadSeen q9_BadSeen : Pos}
    (of1_BadSeen : K.lookup i_BadSeen = some ⟨ocv_BadSeen, ocd_BadSeen, .func (PySem.W.ksFn "__init__" fq_BadSeen (XI.oneArgs p1_BadSeen p2_BadSeen) [.Expr (XI.oneCall m1_BadSeen m2_BadSeen q1_BadSeen q2_BadSeen q3_BadSeen q4_BadSeen r1_BadSeen r2_BadSeen r3_BadSeen r4_BadSeen r5_BadSeen) q5_BadSeen, XI.oneSet q6_BadSeen q7_BadSeen q8_BadSeen q9_BadSeen] XI.oneScope .none .none doc_BadSeen pm_BadSeen an_BadSeen (.ref cda_BadSeen) ct_BadSeen cc_BadSeen), ocs_BadSeen⟩)
    (of2_BadSeen : PySem.W.codeIn K (.ref cda_BadSeen) fq_BadSeen = true)
    (of3_BadSeen : (q3_BadSeen.endLine == q4_BadSeen.line) = true)
    (of4m1_BadSeen : m1_BadSeen.length ≤ 1000)
    (of4m2_BadSeen : m2_BadSeen.length ≤ 1000)
    {ccl_BadSeen : Value} {cdd_BadSeen : Option Addr} {cvs_BadSeen : Array Value} {ccs_BadSeen : Array (Option Value)} {tf_BadSeen : Tok} {cel_BadSeen : Value} {ced_BadSeen : Option Addr} {ces_BadSeen : Array (Option Value)}
    (of5_BadSeen : K.lookup cda_BadSeen = some ⟨ccl_BadSeen, cdd_BadSeen, .fields cvs_BadSeen, ccs_BadSeen⟩)
    (of6_BadSeen : cvs_BadSeen[2]? = some (.str FILE tf_BadSeen))
    (of7_BadSeen : K.lookup cc_BadSeen = some ⟨cel_BadSeen, ced_BadSeen, .cell (some (.ref C_BadSeen)), ces_BadSeen⟩)
    (xf1_BadSeen : PySem.W.findIn K (.ref C_BadSeen) "__getattribute__" = some (some (.builtin "BaseException.__getattribute__")))
    (xf2_BadSeen : PySem.W.findIn K (.ref C_BadSeen) "__getattr__" = some none)
    (xf3_BadSeen : PySem.W.hasDictIn K C_BadSeen = true)
    (xe_BadSeen : PySem.W.subIn K (.ref C_BadSeen) (.ref C_BadSeen) = some true)
    (E4_BadSeen : PySem.W.findIn K (.ref C_BadSeen) "__class__" = some (some (.builtin "object.__class__")))
    (E5_BadSeen : PySem.W.specialIn K (.builtin "object.__class__") "__get__" = some (some (.builtin "getset_descriptor.__get__")))
    (E6_BadSeen : PySem.W.takesIn K (.builtin "object.__class__") = some true)
    (E7_BadSeen : PySem.W.mroIn K C_BadSeen (.type "object") = some true)
    (r_BadSeen : PySem.W.subIn K (.ref C_BadSeen) (.ref C_RestError) = some true)
    (e_Nothing_BadModuli : PySem.W.subIn K (.ref C_Nothing) (.ref C_BadModuli) = some false)
    (e_Nothing_BadSeen : PySem.W.subIn K (.ref C_Nothing) (.ref C_BadSeen) = some false)
    (e_BadModuli_Nothing : PySem.W.subIn K (.ref C_BadModuli) (.ref C_Nothing) = some false)
    (e_BadModuli_BadSeen : PySem.W.subIn K (.ref C_BadModuli) (.ref C_BadSeen) = some false)
    (e_BadSeen_Nothing : PySem.W.subIn K (.ref C_BadSeen) (.ref C_Nothing) = some false)
    (e_BadSeen_BadModuli : PySem.W.subIn K (.ref C_BadSeen) (.ref C_BadModuli) = some false)
    : ∃ fd : FuncData, (∀ (s : Shared) (v : Value), BindsTo s fd ⟨[v], []⟩ [("_law_script", v)]) ∧ ∀ base : Heap, K.In base → base.Ns mainGlobals mg → FnOk l.prog w K mg base CX0 15 fa fd ["_law_script"] (sp_law K) := by
  have e := hfa.symm.trans (PySem.W.mg_of X G a18)
  cases e
  have F0 := fun_mk (st := s_p_is_integer) l0 d0 k0
  have b0 := F0.binds (ps := ["value"]) fun _ _ _ _ _ _ us hl => match us, hl with | [_], _ => rfl
  have F1 := fun_mk (st := s_p_integer_within) l1 d1 k1
  have b1 := F1.binds (ps := ["value", "least", "greatest"]) fun _ _ _ _ _ _ us hl => match us, hl with | [_, _, _], _ => rfl
  have F2 := fun_mk (st := s_p_is_number) l2 d2 k2
  have b2 := F2.binds (ps := ["value"]) fun _ _ _ _ _ _ us hl => match us, hl with | [_], _ => rfl
  have F3 := fun_mk (st := s_p_is_pair) l3 d3 k3
  have b3 := F3.binds (ps := ["value"]) fun _ _ _ _ _ _ us hl => match us, hl with | [_], _ => rfl
  have F4 := fun_mk (st := s_p_check_moduli) l4 d4 k4
  have b4 := F4.binds (ps := ["moduli"]) fun _ _ _ _ _ _ us hl => match us, hl with | [_], _ => rfl
  have F5 := fun_mk (st := s_p_is_sight) l5 d5 k5
  have b5 := F5.binds (ps := ["value"]) fun _ _ _ _ _ _ us hl => match us, hl with | [_], _ => rfl
  have F6 := fun_mk (st := s_p_check_seen) l6 d6 k6
  have b6 := F6.binds (ps := ["seen"]) fun _ _ _ _ _ _ us hl => match us, hl with | [_], _ => rfl
  have F7 := fun_mk (st := s_p_marks_of) l7 d7 k7
  have b7 := F7.binds (ps := ["moduli", "number"]) fun _ _ _ _ _ _ us hl => match us, hl with | [_, _], _ => rfl
  have F8 := fun_mk (st := s_p_held_marks) l8 d8 k8
  have b8 := F8.binds (ps := ["moduli", "seen"]) fun _ _ _ _ _ _ us hl => match us, hl with | [_, _], _ => rfl
  have F9 := fun_mk (st := s_p_unheld_marks) l9 d9 k9
  have b9 := F9.binds (ps := ["moduli", "seen"]) fun _ _ _ _ _ _ us hl => match us, hl with | [_, _], _ => rfl
  have F10 := fun_mk (st := s_p_rows_with) l10 d10 k10
  have b10 := F10.binds (ps := ["total", "held", "unheld"]) fun _ _ _ _ _ _ us hl => match us, hl with | [_, _, _], _ => rfl
  have F11 := fun_mk (st := s_p_many_lots) l11 d11 k11
  have b11 := F11.binds (ps := ["moduli", "seen"]) fun _ _ _ _ _ _ us hl => match us, hl with | [_, _], _ => rfl
  have F12 := fun_mk (st := s_p_rests_at) l12 d12 k12
  have b12 := F12.binds (ps := ["marks", "index"]) fun _ _ _ _ _ _ us hl => match us, hl with | [_, _], _ => rfl
  have F13 := fun_mk (st := s_p_sure_rests) l13 d13 k13
  have b13 := F13.binds (ps := ["moduli", "seen"]) fun _ _ _ _ _ _ us hl => match us, hl with | [_, _], _ => rfl
  have F14 := fun_mk (st := s_l_draws) l14 d14 k14
  have b14 := F14.binds (ps := ["_law_script"]) fun _ _ _ _ _ _ us hl => match us, hl with | [_], _ => rfl
  have F15 := fun_mk (st := s_l_pick) l15 d15 k15
  have b15 := F15.binds (ps := ["_law_row", "_law_many"]) fun _ _ _ _ _ _ us hl => match us, hl with | [_, _], _ => rfl
  have F16 := fun_mk (st := s_l_far) l16 d16 k16
  have b16 := F16.binds (ps := ["_law_row"]) fun _ _ _ _ _ _ us hl => match us, hl with | [_], _ => rfl
  have F17 := fun_mk (st := s_l_told_there) l17 d17 k17
  have b17 := F17.binds (ps := ["_law_moduli", "_law_seen", "_law_is_many"]) fun _ _ _ _ _ _ us hl => match us, hl with | [_, _, _], _ => rfl
  have F18 := fun_mk (st := s_law) l18 d18 k18
  have b18 := F18.binds (ps := ["_law_script"]) fun _ _ _ _ _ _ us hl => match us, hl with | [_], _ => rfl
  let T : Txt K mg := {
    f_p_is_integer := _, fd_p_is_integer := _, F_p_is_integer := F0, b_p_is_integer := b0, g_p_is_integer := PySem.W.mg_of X G a0,
    f_p_integer_within := _, fd_p_integer_within := _, F_p_integer_within := F1, b_p_integer_within := b1, g_p_integer_within := PySem.W.mg_of X G a1,
    f_p_is_number := _, fd_p_is_number := _, F_p_is_number := F2, b_p_is_number := b2, g_p_is_number := PySem.W.mg_of X G a2,
    f_p_is_pair := _, fd_p_is_pair := _, F_p_is_pair := F3, b_p_is_pair := b3, g_p_is_pair := PySem.W.mg_of X G a3,
    f_p_check_moduli := _, fd_p_check_moduli := _, F_p_check_moduli := F4, b_p_check_moduli := b4, g_p_check_moduli := PySem.W.mg_of X G a4,
    f_p_is_sight := _, fd_p_is_sight := _, F_p_is_sight := F5, b_p_is_sight := b5, g_p_is_sight := PySem.W.mg_of X G a5,
    f_p_check_seen := _, fd_p_check_seen := _, F_p_check_seen := F6, b_p_check_seen := b6, g_p_check_seen := PySem.W.mg_of X G a6,
    f_p_marks_of := _, fd_p_marks_of := _, F_p_marks_of := F7, b_p_marks_of := b7, g_p_marks_of := PySem.W.mg_of X G a7,
    f_p_held_marks := _, fd_p_held_marks := _, F_p_held_marks := F8, b_p_held_marks := b8, g_p_held_marks := PySem.W.mg_of X G a8,
    f_p_unheld_marks := _, fd_p_unheld_marks := _, F_p_unheld_marks := F9, b_p_unheld_marks := b9, g_p_unheld_marks := PySem.W.mg_of X G a9,
    f_p_rows_with := _, fd_p_rows_with := _, F_p_rows_with := F10, b_p_rows_with := b10, g_p_rows_with := PySem.W.mg_of X G a10,
    f_p_many_lots := _, fd_p_many_lots := _, F_p_many_lots := F11, b_p_many_lots := b11, g_p_many_lots := PySem.W.mg_of X G a11,
    f_p_rests_at := _, fd_p_rests_at := _, F_p_rests_at := F12, b_p_rests_at := b12, g_p_rests_at := PySem.W.mg_of X G a12,
    f_p_sure_rests := _, fd_p_sure_rests := _, F_p_sure_rests := F13, b_p_sure_rests := b13, g_p_sure_rests := PySem.W.mg_of X G a13,
    f_l_draws := _, fd_l_draws := _, F_l_draws := F14, b_l_draws := b14, g_l_draws := PySem.W.mg_of X G a14,
    f_l_pick := _, fd_l_pick := _, F_l_pick := F15, b_l_pick := b15, g_l_pick := PySem.W.mg_of X G a15,
    f_l_far := _, fd_l_far := _, F_l_far := F16, b_l_far := b16, g_l_far := PySem.W.mg_of X G a16,
    f_l_told_there := _, fd_l_told_there := _, F_l_told_there := F17, b_l_told_there := b17, g_l_told_there := PySem.W.mg_of X G a17,
    f_law := _, fd_law := _, F_law := F18, b_law := b18, g_law := PySem.W.mg_of X G a18,
    z_len := PySem.W.mg_none_of X G z_len,
    z_sum := PySem.W.mg_none_of X G z_sum,
    z_range := PySem.W.mg_none_of X G z_range,
    z_int := PySem.W.mg_none_of X G z_int,
    z_list := PySem.W.mg_none_of X G z_list,
    z_tuple := PySem.W.mg_none_of X G z_tuple,
    z_sorted := PySem.W.mg_none_of X G z_sorted,
    z_isinstance := PySem.W.mg_none_of X G z_isinstance,
    z_enumerate := PySem.W.mg_none_of X G z_enumerate,
    z_bool := PySem.W.mg_none_of X G z_bool,
    c_GREATEST_NUMBER := ⟨t_GREATEST_NUMBER, PySem.W.mg_of X G c_GREATEST_NUMBER⟩,
    c_MOST_MODULI := ⟨t_MOST_MODULI, PySem.W.mg_of X G c_MOST_MODULI⟩,
    c_GREATEST_TOLD_BY := ⟨t_GREATEST_TOLD_BY, PySem.W.mg_of X G c_GREATEST_TOLD_BY⟩,
    c_MOST_SEEN := ⟨t_MOST_SEEN, PySem.W.mg_of X G c_MOST_SEEN⟩,
    c_MOST_UNFIT := ⟨t_MOST_UNFIT, PySem.W.mg_of X G c_MOST_UNFIT⟩,
    C_RestError := _, g_RestError := PySem.W.mg_of X G g_RestError,
    C_Nothing := _, g_Nothing := PySem.W.mg_of X G g_Nothing, x_Nothing := x_Nothing, k_Nothing := k_Nothing, b_Nothing := b_Nothing, t_Nothing := t_Nothing, e_Nothing := PySem.W.exm_ref b_Nothing E3_Nothing t_Nothing e_Nothing, E_Nothing := ⟨E1_Nothing, E2_Nothing, b_Nothing, E3_Nothing, E4_Nothing, E5_Nothing, E6_Nothing, E7_Nothing⟩, r_Nothing := kit_ref hR tR r_Nothing,
    z_super := PySem.W.mg_none_of X G z_super,
    C_BadModuli := C_BadModuli, i_BadModuli := i_BadModuli, g_BadModuli := PySem.W.mg_of X G g_BadModuli,
    oc_BadModuli := ⟨⟨_, _, _, _, _, _, _, _, _, _, _, _, _, _, _, oc1_BadModuli, oc2_BadModuli⟩, oc3_BadModuli, oc4_BadModuli, oc5_BadModuli, oc6_BadModuli, oc7_BadModuli, oc8a_BadModuli, oc9_BadModuli, oc10_BadModuli, oc11_BadModuli, oc12_BadModuli, oc13_BadModuli⟩,
    of_BadModuli := ⟨⟨_, _, _, _, _, _, _, _, _, _, _, _, _, _, _, _, _, _, _, _, _, _, _, _, _, _, _, _, of1_BadModuli, of2_BadModuli, of3_BadModuli, of4m1_BadModuli, of4m2_BadModuli, ⟨_, _, _, _, _, of5_BadModuli, of6_BadModuli⟩, _, _, _, of7_BadModuli⟩⟩,
    xf_BadModuli := ⟨xf1_BadModuli, xf2_BadModuli, oc12_BadModuli, xf3_BadModuli⟩, e_BadModuli := PySem.W.exm_ref oc12_BadModuli xf3_BadModuli oc13_BadModuli xe_BadModuli, E_BadModuli := ⟨xf1_BadModuli, xf2_BadModuli, oc12_BadModuli, xf3_BadModuli, E4_BadModuli, E5_BadModuli, E6_BadModuli, E7_BadModuli⟩, r_BadModuli := kit_ref hR tR r_BadModuli,
    C_BadSeen := C_BadSeen, i_BadSeen := i_BadSeen, g_BadSeen := PySem.W.mg_of X G g_BadSeen,
    oc_BadSeen := ⟨⟨_, _, _, _, _, _, _, _, _, _, _, _, _, _, _, oc1_BadSeen, oc2_BadSeen⟩, oc3_BadSeen, oc4_BadSeen, oc5_BadSeen, oc6_BadSeen, oc7_BadSeen, oc8a_BadSeen, oc9_BadSeen, oc10_BadSeen, oc11_BadSeen, oc12_BadSeen, oc13_BadSeen⟩,
    of_BadSeen := ⟨⟨_, _, _, _, _, _, _, _, _, _, _, _, _, _, _, _, _, _, _, _, _, _, _, _, _, _, _, _, of1_BadSeen, of2_BadSeen, of3_BadSeen, of4m1_BadSeen, of4m2_BadSeen, ⟨_, _, _, _, _, of5_BadSeen, of6_BadSeen⟩, _, _, _, of7_BadSeen⟩⟩,
    xf_BadSeen := ⟨xf1_BadSeen, xf2_BadSeen, oc12_BadSeen, xf3_BadSeen⟩, e_BadSeen := PySem.W.exm_ref oc12_BadSeen xf3_BadSeen oc13_BadSeen xe_BadSeen, E_BadSeen := ⟨xf1_BadSeen, xf2_BadSeen, oc12_BadSeen, xf3_BadSeen, E4_BadSeen, E5_BadSeen, E6_BadSeen, E7_BadSeen⟩, r_BadSeen := kit_ref hR tR r_BadSeen,
    e_Nothing_BadModuli := PySem.W.exm_ref oc12_BadModuli xf3_BadModuli oc13_BadModuli e_Nothing_BadModuli,
    e_Nothing_BadSeen := PySem.W.exm_ref oc12_BadSeen xf3_BadSeen oc13_BadSeen e_Nothing_BadSeen,
    e_BadModuli_Nothing := PySem.W.exm_ref b_Nothing E3_Nothing t_Nothing e_BadModuli_Nothing,
    e_BadModuli_BadSeen := PySem.W.exm_ref oc12_BadSeen xf3_BadSeen oc13_BadSeen e_BadModuli_BadSeen,
    e_BadSeen_Nothing := PySem.W.exm_ref b_Nothing E3_Nothing t_Nothing e_BadSeen_Nothing,
    e_BadSeen_BadModuli := PySem.W.exm_ref oc12_BadModuli xf3_BadModuli oc13_BadModuli e_BadSeen_BadModuli
  }
  exact ⟨PySem.W.fnOf "law" "law" (defArgs s_law) (defBody s_law) (defScope s_law) .none kV18 dc18 pm18 an18 cd18 ct18, fun s v => .of_eq rfl, fun base _ _ => ok_law T⟩
end R
instance : L2.POk (PySem.Challenge.rw_restlots_k33_seen_refused).prog R.FILE := ⟨by first | rfl | decide +kernel, by first | rfl | decide +kernel⟩
open PySem PySem.W PyProof.Rows
set_option maxHeartbeats 0 in
theorem PySem.Challenge.cw_restlots_k33_seen_refused_holds : PySem.Challenge.rw_restlots_k33_seen_refused.Holds := by
  w_on; o_law; k_head; (case hw => w_witness2)
  k_fill
  refine L2.walk_of (l := PySem.Challenge.rw_restlots_k33_seen_refused) (n := 63) (k := 15) (x := "_law_script") (CX := fun _ => L2.CX0) (sp := fun w => R.sp_law _) rfl (by decide) rfl ⟨rfl, by decide, by decide⟩ (fun w h Y => PySem.W.kIn_of Y) ?F (fun _ _ a ns hl _ hS => ⟨a, ns, rfl, hS, hl, fun _ => rfl⟩) (fun _ _ _ _ _ h => h)
  case F =>
    intro w mg fa h KX G hmg
    refine' R.all_mk KX G hmg ?a0 ?a1 ?a2 ?a3 ?a4 ?a5 ?a6 ?a7 ?a8 ?a9 ?a10 ?a11 ?a12 ?a13 ?a14 ?a15 ?a16 ?a17 ?a18 ?l0 ?d0 ?k0 ?l1 ?d1 ?k1 ?l2 ?d2 ?k2 ?l3 ?d3 ?k3 ?l4 ?d4 ?k4 ?l5 ?d5 ?k5 ?l6 ?d6 ?k6 ?l7 ?d7 ?k7 ?l8 ?d8 ?k8 ?l9 ?d9 ?k9 ?l10 ?d10 ?k10 ?l11 ?d11 ?k11 ?l12 ?d12 ?k12 ?l13 ?d13 ?k13 ?l14 ?d14 ?k14 ?l15 ?d15 ?k15 ?l16 ?d16 ?k16 ?l17 ?d17 ?k17 ?l18 ?d18 ?k18 ?z_len ?z_sum ?z_range ?z_int ?z_list ?z_tuple ?z_sorted ?z_isinstance ?z_enumerate ?z_bool ?c_GREATEST_NUMBER ?c_MOST_MODULI ?c_GREATEST_TOLD_BY ?c_MOST_SEEN ?c_MOST_UNFIT ?g_RestError ?hR ?tR ?g_Nothing ?x_Nothing ?k_Nothing ?b_Nothing ?t_Nothing ?e_Nothing ?E1_Nothing ?E2_Nothing ?E3_Nothing ?E4_Nothing ?E5_Nothing ?E6_Nothing ?E7_Nothing ?r_Nothing ?z_super ?g_BadModuli ?oc1_BadModuli ?oc2_BadModuli ?oc3_BadModuli ?oc4_BadModuli ?oc5_BadModuli ?oc6_BadModuli ?oc7_BadModuli ?oc8a_BadModuli ?oc9_BadModuli ?oc10_BadModuli ?oc11_BadModuli ?oc12_BadModuli ?oc13_BadModuli ?of1_BadModuli ?of2_BadModuli ?of3_BadModuli ?of4m1_BadModuli ?of4m2_BadModuli ?of5_BadModuli ?of6_BadModuli ?of7_BadModuli ?xf1_BadModuli ?xf2_BadModuli ?xf3_BadModuli ?xe_BadModuli ?E4_BadModuli ?E5_BadModuli ?E6_BadModuli ?E7_BadModuli ?r_BadModuli ?g_BadSeen ?oc1_BadSeen ?oc2_BadSeen ?oc3_BadSeen ?oc4_BadSeen ?oc5_BadSeen ?oc6_BadSeen ?oc7_BadSeen ?oc8a_BadSeen ?oc9_BadSeen ?oc10_BadSeen ?oc11_BadSeen ?oc12_BadSeen ?oc13_BadSeen ?of1_BadSeen ?of2_BadSeen ?of3_BadSeen ?of4m1_BadSeen ?of4m2_BadSeen ?of5_BadSeen ?of6_BadSeen ?of7_BadSeen ?xf1_BadSeen ?xf2_BadSeen ?xf3_BadSeen ?xe_BadSeen ?E4_BadSeen ?E5_BadSeen ?E6_BadSeen ?E7_BadSeen ?r_BadSeen ?e_Nothing_BadModuli ?e_Nothing_BadSeen ?e_BadModuli_Nothing ?e_BadModuli_BadSeen ?e_BadSeen_Nothing ?e_BadSeen_BadModuli
    (case a0 => k_is)
    (case a1 => k_is)
    (case a2 => k_is)
    (case a3 => k_is)
    (case a4 => k_is)
    (case a5 => k_is)
    (case a6 => k_is)
    (case a7 => k_is)
    (case a8 => k_is)
    (case a9 => k_is)
    (case a10 => k_is)
    (case a11 => k_is)
    (case a12 => k_is)
    (case a13 => k_is)
    (case a14 => k_is)
    (case a15 => k_is)
    (case a16 => k_is)
    (case a17 => k_is)
    (case a18 => k_is)
    (case l0 => k_is)
    (case d0 => k_is)
    (case k0 => k_is)
    (case l1 => k_is)
    (case d1 => k_is)
    (case k1 => k_is)
    (case l2 => k_is)
    (case d2 => k_is)
    (case k2 => k_is)
    (case l3 => k_is)
    (case d3 => k_is)
    (case k3 => k_is)
    (case l4 => k_is)
    (case d4 => k_is)
    (case k4 => k_is)
    (case l5 => k_is)
    (case d5 => k_is)
    (case k5 => k_is)
    (case l6 => k_is)
    (case d6 => k_is)
    (case k6 => k_is)
    (case l7 => k_is)
    (case d7 => k_is)
    (case k7 => k_is)
    (case l8 => k_is)
    (case d8 => k_is)
    (case k8 => k_is)
    (case l9 => k_is)
    (case d9 => k_is)
    (case k9 => k_is)
    (case l10 => k_is)
    (case d10 => k_is)
    (case k10 => k_is)
    (case l11 => k_is)
    (case d11 => k_is)
    (case k11 => k_is)
    (case l12 => k_is)
    (case d12 => k_is)
    (case k12 => k_is)
    (case l13 => k_is)
    (case d13 => k_is)
    (case k13 => k_is)
    (case l14 => k_is)
    (case d14 => k_is)
    (case k14 => k_is)
    (case l15 => k_is)
    (case d15 => k_is)
    (case k15 => k_is)
    (case l16 => k_is)
    (case d16 => k_is)
    (case k16 => k_is)
    (case l17 => k_is)
    (case d17 => k_is)
    (case k17 => k_is)
    (case l18 => k_is)
    (case d18 => k_is)
    (case k18 => k_is)
    (case z_len => k_is)
    (case z_sum => k_is)
    (case z_range => k_is)
    (case z_int => k_is)
    (case z_list => k_is)
    (case z_tuple => k_is)
    (case z_sorted => k_is)
    (case z_isinstance => k_is)
    (case z_enumerate => k_is)
    (case z_bool => k_is)
    (case c_GREATEST_NUMBER => k_is)
    (case c_MOST_MODULI => k_is)
    (case c_GREATEST_TOLD_BY => k_is)
    (case c_MOST_SEEN => k_is)
    (case c_MOST_UNFIT => k_is)
    (case g_RestError => k_is)
    (case hR => k_is)
    (case tR => k_is)
    (case g_Nothing => k_is)
    (case x_Nothing => k_exc)
    (case k_Nothing => k_is)
    (case b_Nothing => k_is)
    (case t_Nothing => k_is)
    (case e_Nothing => k_is)
    (case E1_Nothing => k_is)
    (case E2_Nothing => k_is)
    (case E3_Nothing => k_is)
    (case E4_Nothing => k_is)
    (case E5_Nothing => k_is)
    (case E6_Nothing => k_is)
    (case E7_Nothing => k_is)
    (case r_Nothing => k_is)
    (case z_super => k_is)
    (case g_BadModuli => k_is)
    (case oc1_BadModuli => k_is)
    (case oc2_BadModuli => rfl)
    (case oc3_BadModuli => ks_is)
    (case oc4_BadModuli => k_is)
    (case oc5_BadModuli => k_is)
    (case oc6_BadModuli => k_is)
    (case oc7_BadModuli => k_is)
    (case oc8a_BadModuli => k_is)
    (case oc9_BadModuli => k_is)
    (case oc10_BadModuli => k_is)
    (case oc11_BadModuli => k_is)
    (case oc12_BadModuli => k_is)
    (case oc13_BadModuli => k_is)
    (case of1_BadModuli => k_is)
    (case of2_BadModuli => k_is)
    (case of3_BadModuli => rfl)
    (case of4m1_BadModuli => decide)
    (case of4m2_BadModuli => decide)
    (case of5_BadModuli => k_is)
    (case of6_BadModuli => first | rfl | kernel_rfl)
    (case of7_BadModuli => k_is)
    (case xf1_BadModuli => k_is)
    (case xf2_BadModuli => k_is)
    (case xf3_BadModuli => k_is)
    (case xe_BadModuli => k_is)
    (case E4_BadModuli => k_is)
    (case E5_BadModuli => k_is)
    (case E6_BadModuli => k_is)
    (case E7_BadModuli => k_is)
    (case r_BadModuli => k_is)
    (case g_BadSeen => k_is)
    (case oc1_BadSeen => k_is)
    (case oc2_BadSeen => rfl)
    (case oc3_BadSeen => ks_is)
    (case oc4_BadSeen => k_is)
    (case oc5_BadSeen => k_is)
    (case oc6_BadSeen => k_is)
    (case oc7_BadSeen => k_is)
    (case oc8a_BadSeen => k_is)
    (case oc9_BadSeen => k_is)
    (case oc10_BadSeen => k_is)
    (case oc11_BadSeen => k_is)
    (case oc12_BadSeen => k_is)
    (case oc13_BadSeen => k_is)
    (case of1_BadSeen => k_is)
    (case of2_BadSeen => k_is)
    (case of3_BadSeen => rfl)
    (case of4m1_BadSeen => decide)
    (case of4m2_BadSeen => decide)
    (case of5_BadSeen => k_is)
    (case of6_BadSeen => first | rfl | kernel_rfl)
    (case of7_BadSeen => k_is)
    (case xf1_BadSeen => k_is)
    (case xf2_BadSeen => k_is)
    (case xf3_BadSeen => k_is)
    (case xe_BadSeen => k_is)
    (case E4_BadSeen => k_is)
    (case E5_BadSeen => k_is)
    (case E6_BadSeen => k_is)
    (case E7_BadSeen => k_is)
    (case r_BadSeen => k_is)
    (case e_Nothing_BadModuli => k_is)
    (case e_Nothing_BadSeen => k_is)
    (case e_BadModuli_Nothing => k_is)
    (case e_BadModuli_BadSeen => k_is)
    (case e_BadSeen_Nothing => k_is)
    (case e_BadSeen_BadModuli => k_is)
