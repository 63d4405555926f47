import PyProof.Rows.All
import Wide.All
import OpenK.AllK
import Wide.FinOn
import HandS.ForMost
import HandS.SortInts
import HandS.TupAny
import HandS.IsInst
import HandS.Wide
import HandS.Conv
import HandS.Gcd
import HandS.Property
import HandS.Codes
import HandS.Walk
import KE.GoesMore
import KE.KMathGC
import HandS.Exc
import HandS.ExcOwn
import HandS.TryOnly
import HandS.ExcIs
import HandS.WordsExc
import HandS.WideBits
import HandS.SetFor
import HandS.Strs
import HandS.SetBool
import PyProof.LongRange
import HandS.DictComp
import HandS.DictTup
import HandS.Style
import HandS.Small
import HandS.TupMul
import HandS.Deep
import HandS.Lambda
import HandS.Nested
import HandS.EndTab
import HandS.EndOwn
import HandS.SortKw
import HandS.NamedTupSort
import KE.KMinKey
import KE.KNestM
import HandS.More
import HandS.Comp
import PySem.Challenge.RW_restlots_k03_great_classes
set_option Elab.async false
set_option linter.all false
set_option maxRecDepth 100000
set_option maxHeartbeats 4000000
set_option exponentiation.threshold 6000
namespace R
open PySem PySem.Spec PyProof.Rows L2
/-! the text by places -/
def top (i : Nat) : Stmt := (PySem.Challenge.pw_restlots_k03_great_classes.main.body).getD i (.Pass ⟨0, 0, 0, 0⟩)
abbrev s_p_is_integer : Stmt := top 9
abbrev s_p_integer_within : Stmt := top 10
abbrev s_p_is_ascending : Stmt := top 11
abbrev s_p_is_lot : Stmt := top 12
abbrev s_p_is_pair : Stmt := top 13
abbrev s_p_is_bar : Stmt := top 14
abbrev s_p_inverse : Stmt := top 16
abbrev s_p_joined : Stmt := top 17
abbrev s_p_classes_of : Stmt := top 18
abbrev s_p_check_bars : Stmt := top 23
abbrev s_p_whole_of : Stmt := top 24
abbrev s_p_check_choices : Stmt := top 25
abbrev s_l_draws : Stmt := top 28
abbrev s_l_pick : Stmt := top 29
abbrev s_l_gcd : Stmt := top 30
abbrev s_l_whole : Stmt := top 31
abbrev s_law : Stmt := top 32
abbrev s_m_Sieve_init : Stmt := inClass (top 26) 0
abbrev s_m_Sieve_eq : Stmt := inClass (top 26) 1
abbrev s_m_Sieve_bars : Stmt := inClass (top 26) 2
abbrev s_m_Sieve_whole : Stmt := inClass (top 26) 3
abbrev s_m_Sieve_classes : Stmt := inClass (top 26) 4
theorem sc_p_is_integer : FnScope ["value"] ["value"] (defScope s_p_is_integer) := ⟨rfl, rfl, rfl, by decide +kernel, rfl, by decide +kernel, by decide +kernel⟩
theorem sc_p_integer_within : FnScope ["value", "least", "greatest"] ["value", "least", "greatest"] (defScope s_p_integer_within) := ⟨rfl, rfl, rfl, by decide +kernel, rfl, by decide +kernel, by decide +kernel⟩
theorem sc_p_is_ascending : FnScope ["value", "limit", "least", "one"] ["value", "limit"] (defScope s_p_is_ascending) := ⟨rfl, rfl, rfl, by decide +kernel, rfl, by decide +kernel, by decide +kernel⟩
theorem sc_p_is_lot : FnScope ["value", "modulus"] ["value", "modulus"] (defScope s_p_is_lot) := ⟨rfl, rfl, rfl, by decide +kernel, rfl, by decide +kernel, by decide +kernel⟩
theorem sc_p_is_pair : FnScope ["value"] ["value"] (defScope s_p_is_pair) := ⟨rfl, rfl, rfl, by decide +kernel, rfl, by decide +kernel, by decide +kernel⟩
theorem sc_p_is_bar : FnScope ["value", "modulus", "lot"] ["value"] (defScope s_p_is_bar) := ⟨rfl, rfl, rfl, by decide +kernel, rfl, by decide +kernel, by decide +kernel⟩
theorem sc_p_inverse : FnScope ["number", "modulus", "rest", "after", "factor", "factor_after", "many"] ["number", "modulus"] (defScope s_p_inverse) := ⟨rfl, rfl, rfl, by decide +kernel, rfl, by decide +kernel, by decide +kernel⟩
theorem sc_p_joined : FnScope ["classes", "whole", "modulus", "lot", "common", "turns", "back", "found", "known", "rest", "apart"] ["classes", "whole", "modulus", "lot"] (defScope s_p_joined) := ⟨rfl, rfl, rfl, by decide +kernel, rfl, by decide +kernel, by decide +kernel⟩
theorem sc_p_classes_of : FnScope ["bars", "whole", "classes", "modulus", "lot"] ["bars"] (defScope s_p_classes_of) := ⟨rfl, rfl, rfl, by decide +kernel, rfl, by decide +kernel, by decide +kernel⟩
theorem sc_p_check_bars : FnScope ["bars", "index", "bar"] ["bars"] (defScope s_p_check_bars) := ⟨rfl, rfl, rfl, by decide +kernel, rfl, by decide +kernel, by decide +kernel⟩
theorem sc_p_whole_of : FnScope ["bars", "whole", "modulus", "_"] ["bars"] (defScope s_p_whole_of) := ⟨rfl, rfl, rfl, by decide +kernel, rfl, by decide +kernel, by decide +kernel⟩
theorem sc_p_check_choices : FnScope ["bars", "choices", "_", "lot"] ["bars"] (defScope s_p_check_choices) := ⟨rfl, rfl, rfl, by decide +kernel, rfl, by decide +kernel, by decide +kernel⟩
theorem sc_l_draws : FnScope ["_law_script"] ["_law_script"] (defScope s_l_draws) := ⟨rfl, rfl, rfl, by decide +kernel, rfl, by decide +kernel, by decide +kernel⟩
theorem sc_l_pick : FnScope ["_law_row", "_law_many", "_law_cell", "_law_found"] ["_law_row", "_law_many"] (defScope s_l_pick) := ⟨rfl, rfl, rfl, by decide +kernel, rfl, by decide +kernel, by decide +kernel⟩
theorem sc_l_gcd : FnScope ["_law_a", "_law_b", "_law_k"] ["_law_a", "_law_b"] (defScope s_l_gcd) := ⟨rfl, rfl, rfl, by decide +kernel, rfl, by decide +kernel, by decide +kernel⟩
theorem sc_l_whole : FnScope ["_law_bars", "_law_found", "_law_modulus", "_law_lot"] ["_law_bars"] (defScope s_l_whole) := ⟨rfl, rfl, rfl, by decide +kernel, rfl, by decide +kernel, by decide +kernel⟩
theorem sc_law : FnScope ["_law_script", "_law_row", "_law_bars", "_law_common", "_law_k", "_law_modulus", "_law_lot", "_law_sieve", "_law_choices", "_law_longer", "_law_choice", "_law_rest", "_law_good", "_law_found", "_law_told_of", "_law_j", "_law_one", "_law_number"] ["_law_script"] (defScope s_law) := ⟨rfl, rfl, rfl, by decide +kernel, rfl, by decide +kernel, by decide +kernel⟩
theorem sc_m_Sieve_init : FnScope ["self", "bars"] ["self", "bars"] (defScope s_m_Sieve_init) := ⟨rfl, rfl, rfl, by decide +kernel, rfl, by decide +kernel, by decide +kernel⟩
theorem sc_m_Sieve_eq : FnScope ["self", "other"] ["self", "other"] (defScope s_m_Sieve_eq) := ⟨rfl, rfl, rfl, by decide +kernel, rfl, by decide +kernel, by decide +kernel⟩
theorem sc_m_Sieve_bars : FnScope ["self"] ["self"] (defScope s_m_Sieve_bars) := ⟨rfl, rfl, rfl, by decide +kernel, rfl, by decide +kernel, by decide +kernel⟩
theorem sc_m_Sieve_whole : FnScope ["self"] ["self"] (defScope s_m_Sieve_whole) := ⟨rfl, rfl, rfl, by decide +kernel, rfl, by decide +kernel, by decide +kernel⟩
theorem sc_m_Sieve_classes : FnScope ["self"] ["self"] (defScope s_m_Sieve_classes) := ⟨rfl, rfl, rfl, by decide +kernel, rfl, by decide +kernel, by decide +kernel⟩
/-! what stands behind the top -/
structure Txt (K : PySem.W.Frag) (mg : Str → Option Value) where
  f_p_is_integer : Addr
  fd_p_is_integer : FuncData
  F_p_is_integer : Fun K "is_integer" "is_integer" s_p_is_integer f_p_is_integer fd_p_is_integer
  b_p_is_integer : Binds K fd_p_is_integer ["value"] []
  g_p_is_integer : mg "is_integer" = some (.ref f_p_is_integer)
  f_p_integer_within : Addr
  fd_p_integer_within : FuncData
  F_p_integer_within : Fun K "integer_within" "integer_within" s_p_integer_within f_p_integer_within fd_p_integer_within
  b_p_integer_within : Binds K fd_p_integer_within ["value", "least", "greatest"] []
  g_p_integer_within : mg "integer_within" = some (.ref f_p_integer_within)
  f_p_is_ascending : Addr
  fd_p_is_ascending : FuncData
  F_p_is_ascending : Fun K "is_ascending" "is_ascending" s_p_is_ascending f_p_is_ascending fd_p_is_ascending
  b_p_is_ascending : Binds K fd_p_is_ascending ["value", "limit"] []
  g_p_is_ascending : mg "is_ascending" = some (.ref f_p_is_ascending)
  f_p_is_lot : Addr
  fd_p_is_lot : FuncData
  F_p_is_lot : Fun K "is_lot" "is_lot" s_p_is_lot f_p_is_lot fd_p_is_lot
  b_p_is_lot : Binds K fd_p_is_lot ["value", "modulus"] []
  g_p_is_lot : mg "is_lot" = some (.ref f_p_is_lot)
  f_p_is_pair : Addr
  fd_p_is_pair : FuncData
  F_p_is_pair : Fun K "is_pair" "is_pair" s_p_is_pair f_p_is_pair fd_p_is_pair
  b_p_is_pair : Binds K fd_p_is_pair ["value"] []
  g_p_is_pair : mg "is_pair" = some (.ref f_p_is_pair)
  f_p_is_bar : Addr
  fd_p_is_bar : FuncData
  F_p_is_bar : Fun K "is_bar" "is_bar" s_p_is_bar f_p_is_bar fd_p_is_bar
  b_p_is_bar : Binds K fd_p_is_bar ["value"] []
  g_p_is_bar : mg "is_bar" = some (.ref f_p_is_bar)
  f_p_inverse : Addr
  fd_p_inverse : FuncData
  F_p_inverse : Fun K "inverse" "inverse" s_p_inverse f_p_inverse fd_p_inverse
  b_p_inverse : Binds K fd_p_inverse ["number", "modulus"] []
  g_p_inverse : mg "inverse" = some (.ref f_p_inverse)
  f_p_joined : Addr
  fd_p_joined : FuncData
  F_p_joined : Fun K "joined" "joined" s_p_joined f_p_joined fd_p_joined
  b_p_joined : Binds K fd_p_joined ["classes", "whole", "modulus", "lot"] []
  g_p_joined : mg "joined" = some (.ref f_p_joined)
  f_p_classes_of : Addr
  fd_p_classes_of : FuncData
  F_p_classes_of : Fun K "classes_of" "classes_of" s_p_classes_of f_p_classes_of fd_p_classes_of
  b_p_classes_of : Binds K fd_p_classes_of ["bars"] []
  g_p_classes_of : mg "classes_of" = some (.ref f_p_classes_of)
  f_p_check_bars : Addr
  fd_p_check_bars : FuncData
  F_p_check_bars : Fun K "check_bars" "check_bars" s_p_check_bars f_p_check_bars fd_p_check_bars
  b_p_check_bars : Binds K fd_p_check_bars ["bars"] []
  g_p_check_bars : mg "check_bars" = some (.ref f_p_check_bars)
  f_p_whole_of : Addr
  fd_p_whole_of : FuncData
  F_p_whole_of : Fun K "whole_of" "whole_of" s_p_whole_of f_p_whole_of fd_p_whole_of
  b_p_whole_of : Binds K fd_p_whole_of ["bars"] []
  g_p_whole_of : mg "whole_of" = some (.ref f_p_whole_of)
  f_p_check_choices : Addr
  fd_p_check_choices : FuncData
  F_p_check_choices : Fun K "check_choices" "check_choices" s_p_check_choices f_p_check_choices fd_p_check_choices
  b_p_check_choices : Binds K fd_p_check_choices ["bars"] []
  g_p_check_choices : mg "check_choices" = some (.ref f_p_check_choices)
  f_l_draws : Addr
  fd_l_draws : FuncData
  F_l_draws : Fun K "_law_draws" "_law_draws" s_l_draws f_l_draws fd_l_draws
  b_l_draws : Binds K fd_l_draws ["_law_script"] []
  g_l_draws : mg "_law_draws" = some (.ref f_l_draws)
  f_l_pick : Addr
  fd_l_pick : FuncData
  F_l_pick : Fun K "_law_pick" "_law_pick" s_l_pick f_l_pick fd_l_pick
  b_l_pick : Binds K fd_l_pick ["_law_row", "_law_many"] []
  g_l_pick : mg "_law_pick" = some (.ref f_l_pick)
  f_l_gcd : Addr
  fd_l_gcd : FuncData
  F_l_gcd : Fun K "_law_gcd" "_law_gcd" s_l_gcd f_l_gcd fd_l_gcd
  b_l_gcd : Binds K fd_l_gcd ["_law_a", "_law_b"] []
  g_l_gcd : mg "_law_gcd" = some (.ref f_l_gcd)
  f_l_whole : Addr
  fd_l_whole : FuncData
  F_l_whole : Fun K "_law_whole" "_law_whole" s_l_whole f_l_whole fd_l_whole
  b_l_whole : Binds K fd_l_whole ["_law_bars"] []
  g_l_whole : mg "_law_whole" = some (.ref f_l_whole)
  f_law : Addr
  fd_law : FuncData
  F_law : Fun K "law" "law" s_law f_law fd_law
  b_law : Binds K fd_law ["_law_script"] []
  g_law : mg "law" = some (.ref f_law)
  f_m_Sieve_init : Addr
  fd_m_Sieve_init : FuncData
  F_m_Sieve_init : Fun K "__init__" "Sieve.__init__" s_m_Sieve_init f_m_Sieve_init fd_m_Sieve_init
  b_m_Sieve_init : Binds K fd_m_Sieve_init ["self", "bars"] []
  f_m_Sieve_eq : Addr
  fd_m_Sieve_eq : FuncData
  F_m_Sieve_eq : Fun K "__eq__" "Sieve.__eq__" s_m_Sieve_eq f_m_Sieve_eq fd_m_Sieve_eq
  b_m_Sieve_eq : Binds K fd_m_Sieve_eq ["self", "other"] []
  f_m_Sieve_bars : Addr
  fd_m_Sieve_bars : FuncData
  F_m_Sieve_bars : Fun K "bars" "Sieve.bars" s_m_Sieve_bars f_m_Sieve_bars fd_m_Sieve_bars
  b_m_Sieve_bars : Binds K fd_m_Sieve_bars ["self"] []
  f_m_Sieve_whole : Addr
  fd_m_Sieve_whole : FuncData
  F_m_Sieve_whole : Fun K "whole" "Sieve.whole" s_m_Sieve_whole f_m_Sieve_whole fd_m_Sieve_whole
  b_m_Sieve_whole : Binds K fd_m_Sieve_whole ["self"] []
  f_m_Sieve_classes : Addr
  fd_m_Sieve_classes : FuncData
  F_m_Sieve_classes : Fun K "classes" "Sieve.classes" s_m_Sieve_classes f_m_Sieve_classes fd_m_Sieve_classes
  b_m_Sieve_classes : Binds K fd_m_Sieve_classes ["self"] []
  z_len : mg "len" = none
  z_max : mg "max" = none
  z_range : mg "range" = none
  z_int : mg "int" = none
  z_list : mg "list" = none
  z_tuple : mg "tuple" = none
  z_set : mg "set" = none
  z_sorted : mg "sorted" = none
  z_isinstance : mg "isinstance" = none
  z_enumerate : mg "enumerate" = none
  z_bool : mg "bool" = none
  g_gcd : mg "gcd" = some (.builtin "math.gcd")
  g_lcm : mg "lcm" = some (.builtin "math.lcm")
  c_GREATEST_MODULUS : ∃ t, mg "GREATEST_MODULUS" = some (.int 1000000 t)
  c_MOST_RESTS : ∃ t, mg "MOST_RESTS" = some (.int 60 t)
  c_MOST_BARS : ∃ t, mg "MOST_BARS" = some (.int 6 t)
  c_GREATEST_WHOLE : ∃ t, mg "GREATEST_WHOLE" = some (.int 1000000000000000000000000000000 t)
  c_MOST_CHOICES : ∃ t, mg "MOST_CHOICES" = some (.int 2000 t)
  C : Addr
  g_Sieve : mg "Sieve" = some (.ref C)
  cl : Cls K C
  mkC : Mk K C f_m_Sieve_init
  n_bars : NoAttr K C "_bars"
  n_whole : NoAttr K C "_whole"
  n_classes : NoAttr K C "_classes"
  p_bars : Addr
  pp_bars : PropOf K C "bars" p_bars f_m_Sieve_bars
  p_whole : Addr
  pp_whole : PropOf K C "whole" p_whole f_m_Sieve_whole
  p_classes : Addr
  pp_classes : PropOf K C "classes" p_classes f_m_Sieve_classes
  C_RestError : Addr
  g_RestError : mg "RestError" = some (.ref C_RestError)
  C_TooGreat : Addr
  g_TooGreat : mg "TooGreat" = some (.ref C_TooGreat)
  x_TooGreat : PySem.W.excIn K C_TooGreat [.type "ValueError", .type "Exception", .type "BaseException", .type "object"] "ValueError.__new__" = true
  k_TooGreat : PySem.W.keepIn K (.ref C_TooGreat) = true
  b_TooGreat : PySem.W.subIn K (.ref C_TooGreat) (.type "BaseException") = some true
  t_TooGreat : PySem.W.typeIn K (.ref C_TooGreat) = some (.type "type")
  e_TooGreat : PySem.W.exmOne K (.ref C_TooGreat) (.ref C_TooGreat) = some true
  E_TooGreat : ExcC K C_TooGreat
  r_TooGreat : PySem.W.kitOne K (.ref C_TooGreat) (.ref C_RestError) = some true
  C_TooMany : Addr
  g_TooMany : mg "TooMany" = some (.ref C_TooMany)
  x_TooMany : PySem.W.excIn K C_TooMany [.type "ValueError", .type "Exception", .type "BaseException", .type "object"] "ValueError.__new__" = true
  k_TooMany : PySem.W.keepIn K (.ref C_TooMany) = true
  b_TooMany : PySem.W.subIn K (.ref C_TooMany) (.type "BaseException") = some true
  t_TooMany : PySem.W.typeIn K (.ref C_TooMany) = some (.type "type")
  e_TooMany : PySem.W.exmOne K (.ref C_TooMany) (.ref C_TooMany) = some true
  E_TooMany : ExcC K C_TooMany
  r_TooMany : PySem.W.kitOne K (.ref C_TooMany) (.ref C_RestError) = some true
  e_TooGreat_TooMany : PySem.W.exmOne K (.ref C_TooGreat) (.ref C_TooMany) = some false
  e_TooMany_TooGreat : PySem.W.exmOne K (.ref C_TooMany) (.ref C_TooGreat) = some false

end R
namespace R
open PySem PySem.Spec PyProof.Rows L2
/-! ## heaps: what stays -/
/-- every object but the one at r is as it was -/
def Kp (r : Addr) (H H' : Hp) : Prop := ∀ b o, b ≠ r → H b = some o → H' b = some o
theorem Kp.refl (r : Addr) (H : Hp) : Kp r H H := fun _ _ _ h => h
theorem Kp.trans {r : Addr} {H H1 H2 : Hp} (a : Kp r H H1) (b : Kp r H1 H2) : Kp r H H2 := fun c o n h => b c o n (a c o n h)
theorem Kp.of {r : Addr} {H H' : Hp} (s : Same H H') : Kp r H H' := fun b o _ h => s b o h
theorem Kp.at_ {r : Addr} {H : Hp} {o : HO} : Kp r H (upd H r o) := fun b u n h => by rw [upd_ne n]; exact h
theorem Kp.new {r p : Addr} {H : Hp} {o : HO} (h : H p = none) : Kp r H (upd H p o) := fun b u _ e => by rw [upd_ne (ne_of_none e h)]; exact e
theorem Kp.add {r p : Addr} {H H' : Hp} {o : HO} (s : Kp r H H') (h : H p = none) : Kp r H (upd H' p o) := fun b u n e => by rw [upd_ne (ne_of_none e h)]; exact s b u n e
/-- an address that is free stays no matter of the frame: what the frame keeps is not there -/
theorem Kp.none {r p : Addr} {H H' : Hp} (s : Kp r H H') (hp : p ≠ r) (h : H' p = Option.none) : H p = Option.none := by
  cases q : H p with
  | none => rfl
  | some o => rw [s p o hp q] at h; cases h
theorem Kp.rd {r a : Addr} {H H' : Hp} {u : HO} (s : Kp r H H') (n : a ≠ r) (h : Rd H a u) : Rd H' a u := by
  rcases h with h | ⟨o, h⟩
  · exact .inl (s _ _ n h)
  · exact .inr ⟨o, s _ _ n h⟩
theorem Kp.seqT {K : PySem.W.Frag} {r a : Addr} {H H' : Hp} {xs zs : List V} (s : Kp r H H') (hr : H r = some (.lst zs)) (h : SqT K H a xs) : SqT K H' a xs := by
  rcases h with h | h
  · refine .inl (s.rd ?_ h)
    rintro rfl
    rcases h with h | ⟨o, h⟩
    · rw [hr] at h; cases h
    · rw [hr] at h; cases h
  · exact .inr h
theorem Kp.seqL {K : PySem.W.Frag} {r a : Addr} {H H' : Hp} {xs : List V} (s : Kp r H H') (n : a ≠ r) (h : SqL K H a xs) : SqL K H' a xs := by
  rcases h with h | h
  · exact .inl (s.rd n h)
  · exact .inr h
theorem same_upd {H : Hp} {p : Addr} {o : HO} (h : H p = none) : Same H (upd H p o) := fun b x e => by
  rw [upd_ne (ne_of_none e h)]; exact e
theorem Same.seqTT {K : PySem.W.Frag} {H H' : Hp} {a : Addr} {xs : List V} (e : Same H H') (h : SqT K H a xs) : SqT K H' a xs := by
  rcases h with (h | ⟨o, h⟩) | h
  · exact .inl (.inl (e _ _ h))
  · exact .inl (.inr ⟨o, e _ _ h⟩)
  · exact .inr h
theorem tupOf {K : PySem.W.Frag} {H : Hp} {a : Addr} {xs : List V} (h : H a = some (.tup xs)) : SqT K H a xs := .inl (.inl h)
theorem lstOf {K : PySem.W.Frag} {H : Hp} {a : Addr} {xs : List V} (h : H a = some (.lst xs)) : SqL K H a xs := .inl (.inl h)
theorem getMapInt {ns : List Int} {i : Nat} (h : i < ns.length) : (ns.map V.int)[i]? = some (.int ns[i]) := by
  rw [List.getElem?_map, List.getElem?_eq_getElem h]; rfl
theorem getMapInt' {ns : List Int} {i : Nat} {x : V} (h : (ns.map V.int)[i]? = some x) : ∃ n, ns[i]? = some n ∧ x = .int n := by
  rw [List.getElem?_map] at h
  cases e : ns[i]? with
  | none => rw [e] at h; cases h
  | some n => rw [e] at h; exact ⟨n, rfl, (Option.some.inj h).symm⟩
theorem flatInts (ns : List Int) : (ns.map V.int).all flatV = true := by
  rw [List.all_eq_true]
  intro x hx
  obtain ⟨n, _, rfl⟩ := List.mem_map.mp hx
  rfl
theorem sizeOk {n : Nat} (h : n ≤ 100000) : n ≤ sizeLine := Nat.le_trans h (by decide)
theorem sizeLt {n : Nat} (h : n ≤ 100000) : n < sizeLine := Nat.lt_of_le_of_lt h (by decide)

/-- len by its wish, told over the written part alone -/
def rLenK (K : PySem.W.Frag) : List V → Hp → VK → Prop := fun xs H Q => ∃ p ys, xs = [.ref p] ∧ (SqL K H p ys ∨ SqT K H p ys) ∧ Q (.int ys.length) H
/-! ## bars -/
abbrev Bar := Int × List Int
/-- a lot: ascending rests by m -/
structure LotOk (m : Int) (l : List Int) : Prop where
  up : l.Pairwise (· < ·)
  ge : ∀ r ∈ l, 0 ≤ r
  lt : ∀ r ∈ l, r < m
  few : l.length ≤ 60
structure BarOk (b : Bar) : Prop where
  pos : 1 ≤ b.1
  most : b.1 ≤ 1000000
  lot : LotOk b.1 b.2
/-- the least common multiple of the moduli -/
def wh (bs : List Bar) : Nat := bs.foldl (fun w b => Nat.lcm w b.1.natAbs) 1
def choices (bs : List Bar) : Nat := bs.foldl (fun c b => c * max 1 b.2.length) 1
structure SvOk (bs : List Bar) : Prop where
  six : bs.length ≤ 6
  bar : ∀ b ∈ bs, BarOk b
  great : wh bs ≤ 10 ^ 30
  many : choices bs ≤ 2000
def fitsB (bs : List Bar) (x : Int) : Bool := bs.all fun b => decide (x % b.1 ∈ b.2)
/-- the numbers from 0 to whole - 1 that fit -/
def cls (bs : List Bar) : List Int := ((List.range (wh bs)).map fun i : Nat => (i : Int)).filter (fitsB bs)

/-! ## bars on the heap -/
structure LotAt (K : PySem.W.Frag) (H : Hp) (v : V) (l : List Int) : Prop where
  ex : ∃ a, v = .ref a ∧ SqT K H a (l.map V.int)
structure BarAt (K : PySem.W.Frag) (H : Hp) (v : V) (b : Bar) : Prop where
  ex : ∃ a x, v = .ref a ∧ SqT K H a [.int b.1, x] ∧ LotAt K H x b.2
structure BarsAt (K : PySem.W.Frag) (H : Hp) (v : V) (bs : List Bar) : Prop where
  ex : ∃ a xs, v = .ref a ∧ SqT K H a xs ∧ xs.length = bs.length ∧ ∀ (i : Nat) x b, xs[i]? = some x → bs[i]? = some b → BarAt K H x b
section
variable {K : PySem.W.Frag} {H H' : Hp} {v : V} {l : List Int} {b : Bar} {bs : List Bar}
/-- all tuples that may be read are as they were -/
def TupsStay (K : PySem.W.Frag) (H H' : Hp) : Prop := ∀ a xs, SqT K H a xs → SqT K H' a xs
theorem TupsStay.same (s : Same H H') : TupsStay K H H' := fun _ _ h => Same.seqTT s h
theorem TupsStay.sx {r : Addr} {zs : List V} (s : Kp r H H') (hr : H r = some (.lst zs)) : TupsStay K H H' := fun _ _ h => s.seqT hr h
theorem LotAt.stay (t : TupsStay K H H') (h : LotAt K H v l) : LotAt K H' v l := let ⟨a, e, q⟩ := h.ex; ⟨a, e, t _ _ q⟩
theorem BarAt.stay (t : TupsStay K H H') (h : BarAt K H v b) : BarAt K H' v b := let ⟨a, x, e, q, z⟩ := h.ex; ⟨a, x, e, t _ _ q, z.stay t⟩
theorem BarsAt.stay (t : TupsStay K H H') (h : BarsAt K H v bs) : BarsAt K H' v bs := let ⟨a, xs, e, q, n, z⟩ := h.ex; ⟨a, xs, e, t _ _ q, n, fun i x b h1 h2 => (z i x b h1 h2).stay t⟩
end

end R
namespace R
open PySem PySem.Spec PyProof.Rows L2
/-! ## rules of my own: enumerate over a tuple, lcm of great numbers -/
abbrev itTup (t : Addr) : Obj := { cls := .type "tuple_iterator", data := .fields #[.ref t, .int 0 0] }
abbrev enObj (i : Addr) : Obj := { cls := .type "enumerate", data := .fields #[.none, .bool false, .ref i, rawInt 0, .none, .none] }
abbrev enHeap (h : Heap) (t : Addr) : Heap := (h.push (itTup t)).push (enObj h.objs.size)
theorem meets_enT (t : Addr) (items : Array Value) : Meets (Builtin.«enumerate.__new__» ⟨[.type "enumerate", .ref t], []⟩)
    (fun _ R s => s.heap.IsTuple t items ∧ R (.ok (.ret (.ref (s.heap.push (itTup t)).objs.size))) { s with heap := enHeap s.heap t }) := by
  refine .of_wp fun prog w A R s ⟨ht, h⟩ => ?_
  obtain ⟨hp, g, d, tk, os⟩ := s
  have sub_ := PySem.sub_enumerate
  have it_ : ∀ {A' : Around} {E : Value → Shared → Prop} {Q : Value → Shared → Prop}, Q (.ref hp.objs.size) ⟨hp.push (itTup t), g, d, tk, os⟩ → wpAny (model prog w) A' (pyIter (.ref t)) Q E ⟨hp, g, d, tk, os⟩ :=
    fun q => wpAny_pyIter_tuple ht q
  wp_walk using it_
  refine wpAny_stack_any fun st => wpAny_pure ?_
  split
  · rename_i c _ _ _ _ _
    cases (c == Value.type "enumerate") <;> (wp_walk using it_; exact ⟨_, rfl, h⟩)
  · (wp_walk using it_; exact ⟨_, rfl, h⟩)
theorem call_enT {prog : Program} {w : World} {A : Around} {E : Value → Shared → Prop} {s : Shared} {t : Addr} {items : Array Value} {Q : Value → Shared → Prop} (ht : s.heap.IsTuple t items)
    (h : ∀ h', IsEnum h' (s.heap.objs.size + 1) s.heap.objs.size 0 .none → h'.IsTupleIter s.heap.objs.size t 0 → (∀ b o, s.heap.get? b = some o → h'.get? b = some o) → Q (.ref (s.heap.objs.size + 1)) { s with heap := h' }) :
    wpAny (model prog w) A (call (.type "enumerate") [.ref t]) Q E s := by
  have sz : (s.heap.push (itTup t)).objs.size = s.heap.objs.size + 1 := Heap.size_push ..
  have he : IsEnum (enHeap s.heap t) (s.heap.objs.size + 1) s.heap.objs.size 0 .none := by
    have q := Heap.get?_push_size (s.heap.push (itTup t)) (o := enObj s.heap.objs.size) rfl
    rw [sz] at q
    exact q
  have kp : ∀ b o, s.heap.get? b = some o → (enHeap s.heap t).get? b = some o := fun b o x => Heap.get?_push_of_some _ (Heap.get?_push_of_some _ x)
  refine callType_new F.called_enumerate (by decide) (F.typeCall_enumerate_1 _) (F.newCall_enumerate_1 _) (fun obj => F.args_object_init_2 obj _) F.entry_enumerate_new (meets_enT t items) ⟨ht, ?_⟩
  show _ ∧ _
  rw [sz]
  exact ⟨⟨_, he, rfl⟩, h _ he ⟨_, Heap.get?_push_of_some _ (Heap.get?_push_size _ rfl), rfl, rfl⟩ kp⟩
/-- the tuple at a, each item in a new pair with its place -/
def IteT (K : PySem.W.Frag) (a : Addr) : It :=
  ⟨fun i H => ∃ (xs : List V) (x : V), SqT K H a xs ∧ xs[i]? = some x,
   fun i H v H' => ∃ T x, v = .ref T ∧ H T = none ∧ H' = upd H T (.tup [.int (i : Nat), x]) ∧ ∀ xs, SqT K H a xs → xs[i]? = some x,
   fun i H => ∃ xs : List V, SqT K H a xs ∧ xs.length ≤ i⟩
theorem turn_enT {P : Program} {w : World} {K : PySem.W.Frag} {elts : List Expr} {kk : Nat} {tpos : Pos} (a e it : Addr) :
    Turn P w K (.Tuple elts kk tpos) (IteT K a) [e, it] e (fun i h => (∃ old, IsEnum h e it ((i : Nat) : Int) old) ∧ h.IsTupleIter it a i ∧ e ≠ it) where
  mem := List.mem_cons_self ..
  obj := fun i h ⟨⟨old, he⟩, ⟨o, ho, _, hd⟩, _⟩ b hb => by
    rcases List.mem_cons.mp hb with rfl | hb
    · exact ⟨_, he, fun v q => nomatch q⟩
    · rw [List.mem_singleton.mp hb]
      exact ⟨o, ho, fun v q => by rw [hd] at q; cases q⟩
  keep := fun i h h' ⟨⟨old, he⟩, hi, hne⟩ k => ⟨⟨old, k e (by simp) _ he⟩, hi.at fun o q => k it (by simp) o q, hne⟩
  item := by
    intro X hP hw hK hc i pins s σ H E I hf ⟨⟨old, he⟩, hit, hne⟩ ⟨xs, x, hq, hx⟩
    subst hP hw hK
    obtain ⟨its, rv, p, hz⟩ := I.tuple hq
    have hT : s.heap.IsTuple a its.toArray := p
    have nta : a ≠ it := fun z => by
      subst z
      obtain ⟨o, e1, c1, _⟩ := hT
      obtain ⟨o2, e2, c2, _⟩ := hit
      rw [e1] at e2
      cases e2
      rw [c1] at c2
      exact absurd c2 (by decide)
    have nea : e ≠ a := fun z => by
      subst z
      obtain ⟨o, e1, c1, _⟩ := hT
      rw [he] at e1
      cases e1
      exact absurd (show Value.type "enumerate" = Value.type "tuple" from c1) (by decide)
    have el : e < s.heap.objs.size := Heap.lt_size he
    have il : it < s.heap.objs.size := by obtain ⟨_, q, _⟩ := hit; exact Heap.lt_size q
    have hlt : i < its.toArray.size := by
      have := (List.getElem?_eq_some_iff.mp hx).1
      rw [rv.length] at this
      rw [List.size_toArray]
      exact this
    refine wpAny_pyNext_enum_itemD (Draws.tuple (A := X.A.in1) (I.ok.hd hc) it a nta its.toArray) he ⟨hit, hT⟩ hlt hne (by simp [hne, nea]) fun u h' tk hP ho st' ht' hsz hk => ?_
    obtain ⟨u', hu', ru⟩ := rv.get hx
    have eu : u = u' := by
      rw [List.getElem?_toArray] at hP
      exact Option.some.inj (hP.symm.trans hu')
    subst eu
    refine ⟨_, rfl, wpAny_letOwnedTupleGo_enum (s := { s with heap := h', toks := tk + 1 }) ho fun h2 he2 sb => ?_⟩
    have t2 := (sb.2 _ (Nat.ne_of_gt el)).trans ht'
    have new : ObjOk X.prog X.w (upd H s.heap.objs.size (.tup [.int (i : Nat), x])) h2 s.heap.objs.size (.tup [.int (i : Nat), x]) :=
      ⟨sizeOk (by show (2 : Nat) ≤ 100000; decide), [.int i tk, u], .cons ⟨_, rfl⟩ (.cons ru .nil), _, t2, rfl, _, rfl⟩
    have I1 : Inv X pins σ (upd H s.heap.objs.size (.tup [.int (i : Nat), x])) { s with heap := h2, toks := tk + 1 } := by
      refine I.turnedNew (ch := [e, it]) (fun b ob hb q => ?_) hf (Nat.le_refl _) new
      have hbe : b ≠ e := fun z => hb (by simp [z])
      exact (sb.2 b hbe).trans (hk b ob hbe (fun z => hb (by simp [z])) q)
    refine ⟨.ref s.heap.objs.size, _, I1, rfl, ⟨_, x, rfl, I.hok.fresh (Nat.le_refl _), rfl, fun ys hy => by rw [I.tuple_inj hy hq]; exact hx⟩, ⟨⟨u, ?_⟩, st'.1.at fun o q => (sb.2 it (Ne.symm hne)).trans q, hne⟩, fun b hb => ?_⟩
    · rw [show ((i + 1 : Nat) : Int) = (i : Int) + 1 from rfl]
      exact he2
    · have lt : b < s.heap.objs.size := by
        rcases List.mem_cons.mp hb with rfl | hb
        · exact el
        · rw [List.mem_singleton.mp hb]; exact il
      rw [upd_ne (Nat.ne_of_lt lt)]
      exact (hf b hb).1
  done := by
    intro X hP hw hK hc i pins s σ H E I hf ⟨⟨old, he⟩, hit, hne⟩ ⟨xs, hq, hx⟩
    subst hP hw hK
    obtain ⟨its, rv, p, hz⟩ := I.tuple hq
    have hT : s.heap.IsTuple a its.toArray := p
    obtain ⟨f0, f1, f2, f3, f4, f5⟩ := hf it (by simp)
    have hT' : s.TypeIs (.ref e) "enumerate" := ⟨_, he, rfl⟩
    unfold pyNext
    refine wpAny_bind (wpAny_attempt (wpAny_callSpecial?_slot (name := Str.ofString "__next__") hT' F.slot_enumerate_next (wpAny_call_entry F.slot_enumerate_next hT' F.entry_enumerate_next ?_ (F.args_enumerate_next_1 _))))
    show wpAny _ _ (field (.ref e) 2 >>= _) _ _ _
    refine wpAny_bind (wpAny_field he rfl (x := .ref it) rfl ?_)
    refine wpAny_bind (PySem.wpAny_nextOf_tuple_end (I.ok.hd hc) hit hT (Array.getElem?_eq_none (by rw [List.size_toArray, ← rv.length]; exact hx)) fun h' y eb hy => ?_)
    obtain ⟨o, ho, hcl⟩ := hy
    refine wpAny_bind (wpAny_isInstance (T := "StopIteration") (b := true) ⟨o, ho, hcl⟩ isSubtype_stop ?_)
    exact wpAny_pure ⟨rfl, I.turned (t' := s.toks) (fun b o hb q => eb b o hb q) f0 f1 f3 f4 f5⟩
  self := fun A i s Q E ⟨⟨_, he⟩, _⟩ h => wpAny_pyIter_enum he h
def iEnT (K : PySem.W.Frag) (ta : TA) : TI := fun σ H R => ta σ H fun vs H1 => ∃ a xs, vs = [.ref a] ∧ SqT K H1 a xs ∧ R (IteT K a) H1
theorem pi_enT {X : Cx} {e : Expr} {ta : TA} {p pos tpos : Pos} {elts : List Expr} {kk : Nat} (hg : Gl X "enumerate") (hm : X.mg "enumerate" = none) (ha : PA X [e] ta)
    (hs : starEach [e] X.env = [(false, eval e X.env)] := by rfl) : PI X (.Tuple elts kk tpos) (.Call (.Name "enumerate" p) [e] [] pos) (iEnT X.K ta) := by
  refine ⟨fun pins s σ H R I h => Call_ (ld_blt I hg hm boot_enumerate (PyProof.Rows.callWith_type1 (thn (ha.run pos pins s σ H _ I h) fun us s1 ⟨vs, H1, I1, r1, a, xs, ex, hq, q⟩ => ?_) hs rfl))⟩
  subst ex
  obtain ⟨u, us', rfl⟩ : ∃ u us', us = u :: us' := by
    cases r1 with
    | cons r rr => exact ⟨_, _, rfl⟩
  cases r1 with
  | cons r rr =>
    cases rr
    cases r
    obtain ⟨its, rv, p', hz⟩ := I1.tuple hq
    refine call_enT (show s1.heap.IsTuple a its.toArray from p') fun h' he hit hk => wpAny_pyIter_enum he ?_
    have I2 : Inv X pins σ H1 { s1 with heap := h' } := I1.kept (t' := s1.toks) hk
    refine ⟨s1.heap.objs.size + 1, [s1.heap.objs.size + 1, s1.heap.objs.size], _, _, H1, rfl, I2, turn_enT a _ _, ⟨⟨.none, he⟩, hit, Nat.succ_ne_self _⟩, fun b hb => ?_, q⟩
    have hle : s1.heap.objs.size ≤ b := by
      rcases List.mem_cons.mp hb with rfl | hb
      · exact Nat.le_succ _
      · rw [List.mem_singleton.mp hb]; exact Nat.le_refl _
    exact I1.fpOk hle (I1.hok.fresh hle)
theorem walk_enT {K : PySem.W.Frag} {a : Addr} {xs : List V} : Walk (IteT K a) xs.length (fun H => SqT K H a xs) (YPair (fun i => some (.int (i : Nat))) (fun i => xs[i]?)) := by
  refine ⟨fun i H hi hG => ⟨xs, xs[i], hG, by simp [hi]⟩, fun H hG => ⟨xs, hG, Nat.le_refl _⟩, fun i H x H' hi hG ⟨T, y, h1, h2, h3, h4⟩ => ?_⟩
  exact ⟨T, .int (i : Nat), y, h1, h2, h3, rfl, h4 xs hG⟩
/-- lcm of two numbers below 2 ^ 5000 -/
def rLcmW : List V → Hp → VK → Prop := fun vs H Q => ∃ a b : Nat, vs = [.int a, .int b] ∧ a < 2 ^ 5000 ∧ b < 2 ^ 5000 ∧ Q (.int (Nat.lcm a b : Nat)) H
theorem logLe {n k : Nat} (h : n < 2 ^ (k + 1)) : n.log2 ≤ k := PySem.W.mg_log h
theorem cr_lcmW {X : Cx} : CallR X (.builtin "math.lcm") rLcmW := by
  intro pins s σ H vs us Q I r ⟨a, b, e, ha, hb, q⟩
  subst e
  obtain ⟨t, u, rfl⟩ := Vals.int2 r
  have h1 : (max 1 (a : Int).natAbs).log2 ≤ 4999 := logLe (by rw [Int.natAbs_natCast]; show max 1 a < 2 ^ 5000; have : 1 < 2 ^ 5000 := by decide
                                                              omega)
  have h2 : (max (a : Int).natAbs (b : Int).natAbs).log2 ≤ 4999 := logLe (by rw [Int.natAbs_natCast, Int.natAbs_natCast]; show max a b < 2 ^ 5000; omega)
  have ee : (((Nat.lcm 1 (a : Int).natAbs).lcm (b : Int).natAbs : Nat) : Int) = ((Nat.lcm a b : Nat) : Int) := by
    rw [Int.natAbs_natCast, Int.natAbs_natCast, PySem.W.mc_lcm_one]
  have hm : Nat.lcm a b < 2 ^ 10000 := by
    have h3 : Nat.lcm a b ≤ a * b := Nat.div_le_self _ _
    have h4 : a * b < 2 ^ 5000 * 2 ^ 5000 := Nat.mul_lt_mul'' ha hb
    rw [← Nat.pow_add] at h4
    exact Nat.lt_of_le_of_lt h3 h4
  have hz : ((((Nat.lcm 1 (a : Int).natAbs).lcm (b : Int).natAbs : Nat) : Int)).natAbs.log2 < bitsLine := by
    rw [ee, Int.natAbs_natCast]
    have h5 : (Nat.lcm a b).log2 ≤ 9999 := logLe hm
    rw [PySem.bitsLine_eq]
    omega
  have g := PySem.W.mg_run_lcm a t b u (by omega) (by omega) hz
  rw [ee] at g
  exact PySem.call_function_meets PySem.W.MGF.kind_lcm PySem.W.MGF.plain_lcm PySem.W.MGF.entry_lcm (PySem.W.MGF.args_lcm _ _) g.meets ⟨.int _, H, I.tok _, ⟨_, rfl⟩, q⟩
theorem tyTup {K : PySem.W.Frag} {H : Hp} {a : Addr} {xs : List V} (h : SqT K H a xs) : TyX K H (.ref a) (.type "tuple") := by
  rcases h with (h | ⟨o, h⟩) | ⟨o, its, n, e, c, _⟩
  · exact .base (.tup h)
  · exact .fTuple h
  · exact .kTuple e c

end R
namespace R
open PySem PySem.Spec PyProof.Rows L2
/-! ## the law's draws -/
/-- the row of a law's draws: the script's copy (at L), how far it is read, two numbers -/
structure RowAt (H : Hp) (r L : Addr) : Prop where
  ex : ∃ (ns : List Int) (i : Nat) (b s : Int), H r = some (.lst [.ref L, .int i, .int b, .int s]) ∧ H L = some (.lst (ns.map V.int)) ∧ 0 ≤ b
  ne : L ≠ r
section
variable {H H' : Hp} {r L p : Addr} {o : HO}
theorem RowAt.lst (h : RowAt H r L) : ∃ zs, H r = some (.lst zs) := let ⟨_, _, _, _, e, _⟩ := h.ex; ⟨_, e⟩
theorem RowAt.stay (h : RowAt H r L) (s : Same H H') : RowAt H' r L := by
  obtain ⟨ns, i, b, z, e, q, n⟩ := h.ex
  exact ⟨⟨ns, i, b, z, s _ _ e, s _ _ q, n⟩, h.ne⟩
theorem RowAt.tups {K : PySem.W.Frag} (h : RowAt H r L) (s : Kp r H H') : TupsStay K H H' := let ⟨_, e⟩ := h.lst; .sx s e
theorem RowAt.new (h : RowAt H r L) (hp : H p = none) : p ≠ r ∧ p ≠ L := by
  obtain ⟨ns, i, b, z, e, q, n⟩ := h.ex
  exact ⟨(ne_of_none e hp).symm, (ne_of_none q hp).symm⟩
theorem RowAt.upd (h : RowAt H r L) (n : p ≠ r ∧ p ≠ L) : RowAt (upd H p o) r L := by
  obtain ⟨ns, i, b, z, e, q, h0⟩ := h.ex
  exact ⟨⟨ns, i, b, z, by rw [upd_ne n.1.symm]; exact e, by rw [upd_ne n.2.symm]; exact q, h0⟩, h.ne⟩
end
def sp_l_draws (K : PySem.W.Frag) : Sp := fun vs H Q _ => ∃ (a : Addr) (ns : List Int), vs = [.ref a] ∧ SqL K H a (ns.map V.int) ∧ ∀ r L H', Same H H' → RowAt H' r L → Q (.ref r) H'
def sp_l_pick : Sp := fun vs H Q _ => ∃ (r L : Addr) (m : Int), vs = [.ref r, .int m] ∧ RowAt H r L ∧ 0 < m ∧ m.natAbs < 2 ^ 200 ∧
  ∀ v H', 0 ≤ v → v < m → Kp r H H' → RowAt H' r L → Q (.int v) H'
section
variable {P : Program} {w : World} {K : PySem.W.Frag} {mg : Str → Option Value} {base : Heap}
theorem ok_l_draws (T : Txt K mg) : FnOk P w K mg base CX0 2 T.f_l_draws T.fd_l_draws ["_law_script"] (sp_l_draws K) := by
  refine T.F_l_draws.ok sc_l_draws (fun vs H Q E h => ?_) (fun cdv A outer s H vs Q E hr h => ?_)
  · obtain ⟨a, ns, rfl, _⟩ := h
    rfl
  · obtain ⟨a, ns, rfl, hS, q⟩ := h
    refine ⟨_, (pss_one (ps_ret (pe_lst (pa_cons (pe_callTy call_list_of (by rfl) T.z_list (by decide +kernel) (pa_cons (pv 0) pa_nil)) (pa_cons pe_int (pa_cons pe_int (pa_cons pe_int pa_nil))))))), ?_⟩
    refine ⟨_, rfl, a, _, rfl, .inl hS, fun L nL => ⟨sizeOk (by show (4 : Nat) ≤ 100000; decide), fun r nr => ?_⟩⟩
    have n1 : L ≠ r := fun e => by
      subst e
      rw [upd_same] at nr
      cases nr
    refine q r L _ (Same.trans (same_upd nL) (same_upd nr)) ⟨⟨ns, 0, 0, 7, upd_same, ?_, Int.le_refl 0⟩, n1⟩
    rw [upd_ne n1, upd_same]
theorem ok_l_pick (T : Txt K mg) : FnOk P w K mg base CX0 2 T.f_l_pick T.fd_l_pick ["_law_row", "_law_many"] sp_l_pick := by
  refine T.F_l_pick.ok sc_l_pick (fun vs H Q E h => ?_) (fun cdv A outer s H vs Q E hr h => ?_)
  · obtain ⟨r, L, m, rfl, _⟩ := h
    rfl
  · obtain ⟨r, L, m, rfl, ⟨⟨ns, i, b, z, hr0, hL0, hb⟩, hLr⟩, hm, hm2, q⟩ := h
    have hL : SqL K H L (ns.map V.int) := lstOf hL0
    have S : SqL K H r [.ref L, .int i, .int b, .int z] := lstOf hr0
    refine ⟨_, (C8.pss_cut (ps_if (pt_cmpR op_eq (pe_ix ix_list (pv 0) pe_int (fun _ _ => rfl)) pe_int (nomark _)) (pss_one (ps_if (pt_cmpR op_lt (pe_ix ix_list (pv 0) pe_int (fun _ _ => rfl)) (pe_callB call_len_seq (by rfl) T.z_len (by decide +kernel) (pa_cons (pe_ix ix_list (pv 0) pe_int (fun _ _ => rfl)) pa_nil)) (nomark _)) (pss_cons (ps_set (i := 2) sc_l_pick.nd rfl (by first | exact .inl rfl | exact .inr rfl) (pe_ix ix_list (pe_ix ix_list (pv 0) pe_int (fun _ _ => rfl)) (pe_ix ix_list (pv 0) pe_int (fun _ _ => rfl)) (fun _ _ => rfl)))
      (pss_cons (ps_asg (pe_op op_add (pe_ix ix_list (pv 0) pe_int (fun _ _ => rfl)) pe_int) (pg_sub (pv 0) pe_int set_list))
      (pss_one (ps_if (pt_cmpR op_ge (pv 2) (pe_op op_pow pe_int pe_int) (nomark _)) (pss_one (ps_asg (pv 2) (pg_sub (pv 0) pe_int set_list))) (pss_one (ps_asg (pe_op op_mod (pe_callTy call_int1 (by rfl) T.z_int (by decide +kernel) (pa_cons (pe_op op_add (pe_op op_add (pe_op op_mul (pe_ix ix_list (pv 0) pe_int (fun _ _ => rfl)) pe_int) (pe_op op_mul (pv 2) pe_int)) pe_int) pa_nil)) pe_int) (pg_sub (pv 0) pe_int set_list))))))) (pss_one (ps_asg (pe_op op_mod (pe_callTy call_int1 (by rfl) T.z_int (by decide +kernel) (pa_cons (pe_op op_add (pe_op op_mul (pe_ix ix_list (pv 0) pe_int (fun _ _ => rfl)) pe_int) pe_int) pa_nil)) pe_int) (pg_sub (pv 0) pe_int set_list))))) pss_nil)
      (pss_cons (ps_if (pt_cmpR op_gt (pe_ix ix_list (pv 0) pe_int (fun _ _ => rfl)) pe_int (nomark _)) (pss_cons (ps_set (i := 3) sc_l_pick.nd rfl (by first | exact .inl rfl | exact .inr rfl) (pe_op op_mod (pe_callTy call_int1 (by rfl) T.z_int (by decide +kernel) (pa_cons (pe_ix ix_list (pv 0) pe_int (fun _ _ => rfl)) pa_nil)) (pv 1)))
      (pss_cons (ps_asg (pe_op op_fdivW (pe_ix ix_list (pv 0) pe_int (fun _ _ => rfl)) (pv 1)) (pg_sub (pv 0) pe_int set_list))
      (pss_one (ps_ret (pv 3))))) pss_nil)
      (pss_one (ps_ret (pe_op op_mod (pe_op op_mod (pe_callTy call_int1 (by rfl) T.z_int (by decide +kernel) (pa_cons (pe_op op_mul (pe_ix ix_list (pv 0) pe_int (fun _ _ => rfl)) pe_int) pa_nil)) pe_int) (pv 1)))))), ?_⟩
    refine ⟨fun σ H' => ∃ (c : Option V) (i' : Nat) (b' z' : Int), σ = [some (.ref r), some (.int m), c, none] ∧ Kp r H H' ∧ H' r = some (.lst [.ref L, .int i', .int b', .int z']) ∧ 0 ≤ b', ?_, ?_⟩
    · refine ⟨_, rfl, r, _, 2, _, rfl, rfl, S, atI_nat (j := 2) rfl, rfl, _, rfl, ite2 (fun _ => ?_) (fun _ => ?_)⟩
      · refine ⟨_, rfl, r, _, 1, _, rfl, rfl, S, atI_nat (j := 1) rfl, _, rfl, r, _, 0, _, rfl, rfl, S, atI_nat (j := 0) rfl, L, _, rfl, .inl hL, _, _, rfl, rfl, _, rfl, ite2 (fun e => ?_) (fun e => ?_)⟩
        · have hi : i < ns.length := by
            have e' := of_decide_eq_true e
            rw [List.length_map] at e'
            omega
          refine ⟨_, rfl, r, _, 0, _, rfl, rfl, S, atI_nat (j := 0) rfl, _, rfl, r, _, 1, _, rfl, rfl, S, atI_nat (j := 1) rfl, L, _, i, .int ns[i], rfl, rfl, hL, atI_nat (j := i) (getMapInt hi), ?_⟩
          refine ⟨_, rfl, r, _, 1, _, rfl, rfl, S, atI_nat (j := 1) rfl, _, _, rfl, rfl, _, rfl, r, _, 1, 1, rfl, rfl, hr0, rfl, ?_⟩
          have hr1 : (upd H r (.lst [.ref L, .int ((i : Int) + 1), .int b, .int z])) r = some (.lst [.ref L, .int ((i + 1 : Nat) : Int), .int b, .int z]) := upd_same
          have S1 : SqL K (upd H r (.lst [.ref L, .int ((i : Int) + 1), .int b, .int z])) r _ := lstOf hr1
          have x1 : Kp r H (upd H r (.lst [.ref L, .int ((i : Int) + 1), .int b, .int z])) := Kp.at_
          refine ⟨_, rfl, _, _, rfl, rfl, ⟨by decide, by decide, by decide⟩, _, _, rfl, rfl, _, rfl, ite2 (fun e2 => ?_) (fun e2 => ?_)⟩
          · refine ⟨_, rfl, _, rfl, r, _, 2, 2, rfl, rfl, hr1, rfl, ?_⟩
            refine ⟨_, i + 1, ns[i], z, rfl, fun b o n h => ?_, upd_same, ?_⟩
            · rw [upd_ne n]; exact x1 b o n h
            · have := of_decide_eq_true e2
              have : (0 : Int) ≤ 10 ^ (18 : Int).toNat := by decide
              omega
          · refine ⟨_, rfl, r, _, 3, _, rfl, rfl, S1, atI_nat (j := 3) rfl, _, _, rfl, rfl, .inr (by decide), _, rfl, _, _, rfl, rfl, .inr (by decide), _, _, rfl, rfl, _, _, rfl, rfl, .inl ⟨_, rfl, _, _, rfl, rfl, (show (0 : Int) < 2147483647 by decide), ?_⟩⟩
            refine ⟨_, rfl, r, _, 3, 3, rfl, rfl, hr1, rfl, ?_⟩
            refine ⟨_, i + 1, b, _, rfl, fun b o n h => ?_, upd_same, hb⟩
            rw [upd_ne n]; exact x1 b o n h
        · refine ⟨_, rfl, r, _, 3, _, rfl, rfl, S, atI_nat (j := 3) rfl, _, _, rfl, rfl, .inr (by decide), _, _, rfl, rfl, .inl ⟨_, rfl, _, _, rfl, rfl, (show (0 : Int) < 2147483647 by decide), ?_⟩⟩
          refine ⟨_, rfl, r, _, 3, 3, rfl, rfl, hr0, rfl, ?_⟩
          exact ⟨_, i, b, _, rfl, Kp.at_, upd_same, hb⟩
      · exact ⟨_, i, b, z, rfl, Kp.refl r H, hr0, hb⟩
    · rintro σ H' ⟨c, i', b', z', rfl, sx, hr', hb'⟩
      have S' : SqL K H' r [.ref L, .int i', .int b', .int z'] := lstOf hr'
      have hL' : H' L = some (.lst (ns.map V.int)) := sx _ _ hLr hL0
      refine ⟨_, rfl, r, _, 2, _, rfl, rfl, S', atI_nat (j := 2) rfl, _, _, rfl, rfl, _, rfl, ite2 (fun e => ?_) (fun e => ?_)⟩
      · have e' := of_decide_eq_true e
        refine ⟨_, rfl, r, _, 2, _, rfl, rfl, S', atI_nat (j := 2) rfl, .inl ⟨_, rfl, _, rfl, _, _, rfl, rfl, hm, ?_⟩⟩
        refine ⟨_, rfl, r, _, 2, _, rfl, rfl, S', atI_nat (j := 2) rfl, _, rfl, _, _, rfl, rfl, wide_div hm hm2 (by decide) (by decide), _, rfl, r, _, 2, 2, rfl, rfl, hr', rfl, ?_⟩
        refine ⟨_, rfl, q _ _ (Int.emod_nonneg _ (by omega)) (Int.emod_lt_of_pos _ hm) (fun c o n h => ?_) ⟨⟨ns, i', b' / m, z', upd_same, ?_, Int.ediv_nonneg hb' (by omega)⟩, hLr⟩⟩
        · rw [upd_ne n]; exact sx c o n h
        · rw [upd_ne hLr]; exact hL'
      · refine ⟨_, rfl, r, _, 3, _, rfl, rfl, S', atI_nat (j := 3) rfl, _, _, rfl, rfl, .inr (by decide), .inl ⟨_, rfl, _, _, rfl, rfl, (show (0 : Int) < 2147483629 by decide), _, rfl, _, _, rfl, rfl, hm, ?_⟩⟩
        exact q _ _ (Int.emod_nonneg _ (by omega)) (Int.emod_lt_of_pos _ hm) sx ⟨⟨ns, i', b', z', hr', hL', hb'⟩, hLr⟩
end

end R
namespace R
open PySem PySem.Spec PyProof.Rows L2
/-! ## the law's bars -/
theorem choices_add (bs : List Bar) (b : Bar) : choices (bs ++ [b]) = choices bs * max 1 b.2.length := by
  unfold choices
  rw [List.foldl_append]
  rfl
theorem wh_add (bs : List Bar) (b : Bar) : wh (bs ++ [b]) = Nat.lcm (wh bs) b.1.natAbs := by
  unfold wh
  rw [List.foldl_append]
  rfl
theorem LotAt.mk' {K : PySem.W.Frag} {H : Hp} {a : Addr} {l : List Int} (h : SqT K H a (l.map V.int)) : LotAt K H (.ref a) l := ⟨a, rfl, h⟩
theorem BarsAt.add {K : PySem.W.Frag} {H : Hp} {p : Addr} {xs : List V} {x : V} {bs : List Bar} {b : Bar} (hp : SqT K H p (xs ++ [x])) (n : xs.length = bs.length)
    (h : ∀ (i : Nat) x b, xs[i]? = some x → bs[i]? = some b → BarAt K H x b) (hx : BarAt K H x b) : BarsAt K H (.ref p) (bs ++ [b]) := by
  refine ⟨p, xs ++ [x], rfl, hp, by rw [List.length_append, List.length_append, n]; rfl, fun i y c h1 h2 => ?_⟩
  by_cases hi : i < xs.length
  · rw [List.getElem?_append_left hi] at h1
    rw [List.getElem?_append_left (by omega)] at h2
    exact h i y c h1 h2
  · have hl := (List.getElem?_eq_some_iff.mp h1).1
    rw [List.length_append] at hl
    have e : i = xs.length := by
      have : [x].length = 1 := rfl
      omega
    subst e
    rw [List.getElem?_append_right (Nat.le_refl _), Nat.sub_self] at h1
    rw [n, List.getElem?_append_right (Nat.le_refl _), Nat.sub_self] at h2
    cases Option.some.inj h1
    cases Option.some.inj h2
    exact hx
structure Drawn (most top : Nat) (bs : List Bar) : Prop where
  len : bs.length ≤ most
  bar : ∀ b ∈ bs, 1 ≤ b.1 ∧ b.1 ≤ top ∧ LotOk b.1 b.2
  many : choices bs ≤ 2000
def sp_l_bars (K : PySem.W.Frag) : Sp := fun vs H Q _ => ∃ (r L : Addr) (most top : Nat), vs = [.ref r, .int most, .int top] ∧ RowAt H r L ∧ most ≤ 6 ∧ 1 ≤ top ∧ top ≤ 60 ∧
  ∀ v bs H', Drawn most top bs → BarsAt K H' v bs → Kp r H H' → RowAt H' r L → Q v H'
/-- a lot that grows -/
structure Grown (i : Nat) (l : List Int) : Prop where
  up : l.Pairwise (· < ·)
  ge : ∀ x ∈ l, 0 ≤ x
  lt : ∀ x ∈ l, x < (i : Int)
  len : l.length ≤ i
theorem Grown.skip {i : Nat} {l : List Int} (g : Grown i l) : Grown (i + 1) l := ⟨g.up, g.ge, fun x h => by have := g.lt x h; omega, Nat.le_succ_of_le g.len⟩
theorem Grown.add {i : Nat} {l : List Int} (g : Grown i l) : Grown (i + 1) (l ++ [(i : Int)]) := by
  refine ⟨List.pairwise_append.mpr ⟨g.up, List.pairwise_singleton _ _, fun x h y hy => ?_⟩, fun x h => ?_, fun x h => ?_, ?_⟩
  · rw [List.mem_singleton.mp hy]
    exact g.lt x h
  · rcases List.mem_append.mp h with h | h
    · exact g.ge x h
    · rw [List.mem_singleton.mp h]; omega
  · rcases List.mem_append.mp h with h | h
    · have := g.lt x h; omega
    · rw [List.mem_singleton.mp h]; omega
  · rw [List.length_append]
    have := g.len
    show l.length + 1 ≤ i + 1
    omega
theorem cutOne (l : List Int) : cutV (l.map V.int) none (some 1) = (l.take 1).map V.int := by
  unfold cutV
  rw [HT.sIx_none, show HT.sIx (l.map V.int).length (l.map V.int).length (some 1) = min 1 (l.map V.int).length from HT.sIx_nat _ _ 1]
  cases l with
  | nil => rfl
  | cons x r =>
    rw [show min 1 ((x :: r).map V.int).length = 1 by rw [List.length_map, List.length_cons]; omega]
    rfl
theorem maxIte (n : Nat) : (if (n : Int) > 1 then (n : Int) else 1) = ((max 1 n : Nat) : Int) := by
  split <;> omega

end R
namespace R
open PySem PySem.Spec PyProof.Rows L2
/-! ## the law's own reckoning -/
theorem fade_step {a b i M : Nat} (hb : 0 < b) (hab : b < a) (h : a * b * 2 ^ i < M) : b * (a % b) * 2 ^ (i + 1) < M := by
  have h1 : a % b < b := Nat.mod_lt _ hb
  have h2 := Nat.mod_add_div a b
  have h3 : 1 ≤ a / b := Nat.div_pos (Nat.le_of_lt hab) hb
  have h4 : b * 1 ≤ b * (a / b) := Nat.mul_le_mul_left b h3
  have h5 : (a % b) * 2 ≤ a := by omega
  have h6 : b * ((a % b) * 2) ≤ b * a := Nat.mul_le_mul_left b h5
  have h7 : b * ((a % b) * 2) * 2 ^ i ≤ b * a * 2 ^ i := Nat.mul_le_mul_right _ h6
  have e : b * (a % b) * 2 ^ (i + 1) = b * ((a % b) * 2) * 2 ^ i := by
    rw [Nat.pow_succ, Nat.mul_comm (2 ^ i) 2, ← Nat.mul_assoc, ← Nat.mul_assoc]
  rw [e]
  rw [Nat.mul_comm b a] at h7
  omega
/-- how the two numbers of Euclid's walk fade -/
def Fade (M i a b : Nat) : Prop := (i = 0 ∧ a * b < M ∧ ∀ c, c < b → b * c < M) ∨ (∃ j, i = j + 1 ∧ b < a ∧ a * b * 2 ^ j < M)
theorem Fade.step {M i a b : Nat} (hb : b ≠ 0) (h : Fade M i a b) : Fade M (i + 1) b (a % b) := by
  have hb' : 0 < b := Nat.pos_of_ne_zero hb
  refine .inr ⟨i, rfl, Nat.mod_lt _ hb', ?_⟩
  rcases h with ⟨rfl, h1, h2⟩ | ⟨j, rfl, h1, h2⟩
  · rw [Nat.pow_zero, Nat.mul_one]
    exact h2 _ (Nat.mod_lt _ hb')
  · exact fade_step hb' h1 h2
theorem Fade.end_ {a b : Nat} (h : Fade (2 ^ 280) 300 a b) : b = 0 := by
  rcases h with ⟨h, _⟩ | ⟨j, hj, h1, h2⟩
  · omega
  · obtain rfl : j = 299 := by omega
    by_cases hb : b = 0
    · exact hb
    · have h3 : 1 * 1 ≤ a * b := Nat.mul_le_mul (by omega) (by omega)
      have h4 : 1 * 2 ^ 299 ≤ a * b * 2 ^ 299 := Nat.mul_le_mul_right _ h3
      exact absurd (Nat.lt_of_le_of_lt h4 h2) (by decide)
theorem Fade.start {a b : Nat} (ha : a < 2 ^ 140) (hb : b < 2 ^ 140) : Fade (2 ^ 280) 0 a b := by
  have e : (2 : Nat) ^ 140 * 2 ^ 140 = 2 ^ 280 := by rw [← Nat.pow_add]
  refine .inl ⟨rfl, ?_, fun c hc => ?_⟩
  · rw [← e]
    exact Nat.mul_lt_mul'' ha hb
  · rw [← e]
    exact Nat.mul_lt_mul'' hb (Nat.lt_trans hc hb)
def sp_l_gcd : Sp := fun vs H Q _ => ∃ a b : Nat, vs = [.int a, .int b] ∧ a < 2 ^ 140 ∧ b < 2 ^ 140 ∧ Q (.int (Nat.gcd a b : Nat)) H
theorem modNat (a b : Nat) : (a : Int) % (b : Int) = ((a % b : Nat) : Int) := (Int.natCast_emod a b).symm
theorem divNat (a b : Nat) : (a : Int) / (b : Int) = ((a / b : Nat) : Int) := (Int.natCast_ediv a b).symm
/-! the whole -/
theorem lcm_le_mul (m n : Nat) : Nat.lcm m n ≤ m * n := Nat.div_le_self _ _
theorem lcm_div (w m : Nat) : w / Nat.gcd w m * m = Nat.lcm w m := by
  unfold Nat.lcm
  exact Nat.div_mul_right_comm (Nat.gcd_dvd_left w m) m
theorem snocInd {α : Type} {p : List α → Prop} (h0 : p []) (hs : ∀ l x, p l → p (l ++ [x])) : ∀ l, p l := by
  intro l
  rw [← List.reverse_reverse l]
  induction l.reverse with
  | nil => exact h0
  | cons x r ih =>
    rw [List.reverse_cons]
    exact hs _ _ ih
theorem wh_pos : ∀ (bs : List Bar), (∀ b ∈ bs, 1 ≤ b.1) → 0 < wh bs := by
  refine snocInd (fun _ => by decide) fun bs b ih h => ?_
  · skip
    rw [wh_add]
    have h1 := ih fun c hc => h c (List.mem_append_left _ hc)
    have h2 := h b (List.mem_append_right _ (List.mem_singleton.mpr rfl))
    exact Nat.lcm_pos h1 (by omega)
theorem wh_le : ∀ (bs : List Bar), (∀ b ∈ bs, b.1.natAbs ≤ 1000000) → wh bs ≤ 1000000 ^ bs.length := by
  refine snocInd (fun _ => by decide) fun bs b ih h => ?_
  · skip
    rw [wh_add, List.length_append]
    have h1 := ih fun c hc => h c (List.mem_append_left _ hc)
    have h2 := h b (List.mem_append_right _ (List.mem_singleton.mpr rfl))
    exact Nat.le_trans (lcm_le_mul _ _) (Nat.mul_le_mul h1 h2)
structure ModsOk (bs : List Bar) : Prop where
  six : bs.length ≤ 6
  mod : ∀ b ∈ bs, 1 ≤ b.1 ∧ b.1 ≤ 1000000
theorem ModsOk.lt {bs : List Bar} (h : ModsOk bs) : wh bs < 2 ^ 130 := by
  have h1 := wh_le bs fun b hb => by have := h.mod b hb; omega
  have h2 : (1000000 : Nat) ^ bs.length ≤ 1000000 ^ 6 := Nat.pow_le_pow_right (by decide) h.six
  exact Nat.lt_of_le_of_lt (Nat.le_trans h1 h2) (by decide)
theorem ModsOk.take {bs : List Bar} (h : ModsOk bs) (n : Nat) : ModsOk (bs.take n) := ⟨by rw [List.length_take]; have := h.six; omega, fun b hb => h.mod b (List.mem_of_mem_take hb)⟩
theorem ModsOk.pos {bs : List Bar} (h : ModsOk bs) : 0 < wh bs := wh_pos bs fun b hb => (h.mod b hb).1
def sp_l_whole (K : PySem.W.Frag) : Sp := fun vs H Q _ => ∃ (v : V) (bs : List Bar), vs = [v] ∧ BarsAt K H v bs ∧ ModsOk bs ∧ Q (.int (wh bs : Nat)) H
theorem takeSucc {α : Type} {l : List α} {i : Nat} {x : α} (h : l[i]? = some x) : l.take (i + 1) = l.take i ++ [x] := by
  rw [List.take_add_one, h]
  rfl

/-! what fits -/
theorem inVInt (x : Int) (l : List Int) : inV (.int x) (l.map V.int) = decide (x ∈ l) := by
  unfold inV
  rw [List.any_map]
  by_cases h : x ∈ l
  · rw [decide_eq_true h]
    exact List.any_eq_true.mpr ⟨x, h, by show (x == x) = true; exact beq_self_eq_true x⟩
  · rw [decide_eq_false h]
    refine List.any_eq_false.mpr fun y hy e => h ?_
    have e' : (y == x) = true := e
    rw [← beq_iff_eq.mp e']
    exact hy
theorem fitsB_add (bs : List Bar) (b : Bar) (x : Int) : fitsB (bs ++ [b]) x = (fitsB bs x && decide (x % b.1 ∈ b.2)) := by
  unfold fitsB
  rw [List.all_append]
  simp
theorem fitsB_take {bs : List Bar} {x : Int} {i : Nat} {b : Bar} (hb : bs[i]? = some b) (h : x % b.1 ∉ b.2) : fitsB bs x = false := by
  unfold fitsB
  refine List.all_eq_false.mpr ⟨b, List.mem_of_getElem? hb, ?_⟩
  rw [decide_eq_false h]
  exact Bool.false_ne_true
def sp_l_fits (K : PySem.W.Frag) : Sp := fun vs H Q _ => ∃ (v : V) (bs : List Bar) (x : Int), vs = [v, .int x] ∧ BarsAt K H v bs ∧ (∀ b ∈ bs, 1 ≤ b.1) ∧ Q (.bl (fitsB bs x)) H
def sp_l_own (K : PySem.W.Frag) : Sp := fun vs H Q _ => ∃ (v : V) (bs : List Bar), vs = [v] ∧ BarsAt K H v bs ∧ ModsOk bs ∧ wh bs ≤ 100000 ∧
  ∀ D H', Same H H' → H D = none → H' D = some (.lst ((cls bs).map V.int)) → Q (.ref D) H'
def clsTo (bs : List Bar) (n : Nat) : List Int := ((List.range n).map fun i : Nat => (i : Int)).filter (fitsB bs)
theorem clsTo_succ (bs : List Bar) (n : Nat) : clsTo bs (n + 1) = clsTo bs n ++ (if fitsB bs n = true then [(n : Int)] else []) := by
  unfold clsTo
  rw [List.range_succ, List.map_append, List.filter_append]
  by_cases h : fitsB bs n = true
  · rw [if_pos h, List.map_singleton, List.filter_cons_of_pos h]
    rfl
  · rw [if_neg h, List.map_singleton, List.filter_cons_of_neg h]
    rfl
theorem clsTo_len (bs : List Bar) (n : Nat) : (clsTo bs n).length ≤ n := by
  have h := List.length_filter_le (fitsB bs) ((List.range n).map fun i : Nat => (i : Int))
  rw [List.length_map, List.length_range] at h
  exact h

end R
namespace R
open PySem PySem.Spec PyProof.Rows L2
section
variable {P : Program} {w : World} {K : PySem.W.Frag} {mg : Str → Option Value} {base : Heap}
theorem ok_l_gcd (T : Txt K mg) : FnOk P w K mg base CX0 2 T.f_l_gcd T.fd_l_gcd ["_law_a", "_law_b"] sp_l_gcd := by
  refine T.F_l_gcd.ok sc_l_gcd (fun vs H Q E h => ?_) (fun cdv A outer s H vs Q E hr h => ?_)
  · obtain ⟨a, b, rfl, _⟩ := h
    rfl
  · obtain ⟨a, b, rfl, ha, hb, q⟩ := h
    refine ⟨_, (pss_cons (ps_for PassesOwn.never rfl (pi_range1 (by rfl) T.z_range (pa_cons pe_int pa_nil)) (pg_name (i := 2) sc_l_gcd.nd rfl (by first | exact .inl rfl | exact .inr rfl)) (pss_cons (ps_if (pt_cmpR op_eq (pv 1) pe_int (nomark _)) (pss_one (ps_ret (pv 0))) pss_nil)
      (pss_one (ps_par (i := 0) (j := 1) (by rfl) sc_l_gcd.nd rfl rfl (by decide) rfl rfl (pa_cons (pv 1) (pa_cons (pe_op op_mod (pv 0) (pv 1)) pa_nil)) (by rfl)))))
      (pss_one (ps_ret (pv 0)))), ?_⟩
    refine ⟨300, rfl, by decide, by decide, for_range (lo := 0) (n := 300) (fun i σ H2 => ∃ (a' b' : Nat) (x : Option V), σ = [some (.int a'), some (.int b'), x] ∧ Nat.gcd a' b' = Nat.gcd a b ∧ Fade (2 ^ 280) i a' b' ∧ H2 = H)
      ⟨a, b, none, rfl, rfl, Fade.start ha hb, rfl⟩ ?_ ?_⟩
    · rintro i σ H2 hi ⟨a', b', x, rfl, eg, F, rfl⟩
      refine ⟨_, rfl, rfl, _, rfl, ite2 (fun e => ?_) (fun e => ?_)⟩
      · have e0 : (b' : Int) = 0 := V.int.inj (of_decide_eq_true e)
        have e1 : b' = 0 := by omega
        refine ⟨_, rfl, ?_⟩
        subst e1
        rw [Nat.gcd_zero_right] at eg
        rw [eg]
        exact q
      · have h0 : b' ≠ 0 := fun z => by
          subst z
          exact e (decide_eq_true rfl)
        refine ⟨_, rfl, _, rfl, _, rfl, _, _, rfl, rfl, by show (0 : Int) < (b' : Int); omega, _, _, rfl, ?_⟩
        refine ⟨b', a' % b', some (.int (0 + (i : Int))), ?_, ?_, F.step h0, rfl⟩
        · show [some (V.int b'), some (V.int ((a' : Int) % (b' : Int))), some (V.int (0 + (i : Int)))] = _
          rw [modNat]
        · rw [← eg, Nat.gcd_comm b' (a' % b'), ← Nat.gcd_rec, Nat.gcd_comm]
    · rintro σ H2 ⟨a', b', x, rfl, eg, F, rfl⟩
      refine ⟨_, rfl, ?_⟩
      have e1 := F.end_
      subst e1
      rw [Nat.gcd_zero_right] at eg
      rw [eg]
      exact q
end

end R
namespace R
open PySem PySem.Spec PyProof.Rows L2
section
variable {P : Program} {w : World} {K : PySem.W.Frag} {mg : Str → Option Value} {base : Heap}
theorem ok_l_whole (T : Txt K mg) : FnOk P w K mg base CX0 3 T.f_l_whole T.fd_l_whole ["_law_bars"] (sp_l_whole K) := by
  refine T.F_l_whole.ok sc_l_whole (fun vs H Q E h => ?_) (fun cdv A outer s H vs Q E hr h => ?_)
  · obtain ⟨v, bs, rfl, _⟩ := h
    rfl
  · obtain ⟨v, bs, rfl, B, M, q⟩ := h
    refine ⟨_, (pss_cons (ps_set (i := 1) sc_l_whole.nd rfl (by first | exact .inl rfl | exact .inr rfl) pe_int)
      (pss_cons (ps_for PassesOwn.never rfl (pi_tup (pv 0)) (pg_tup (by rfl) (pgs_cons (pg_name (i := 2) sc_l_whole.nd rfl (by first | exact .inl rfl | exact .inr rfl)) (pgs_cons (pg_name (i := 3) sc_l_whole.nd rfl (by first | exact .inl rfl | exact .inr rfl)) pgs_nil))) (pss_one (ps_set (i := 1) sc_l_whole.nd rfl (by first | exact .inl rfl | exact .inr rfl) (pe_op op_mulW (pe_op op_fdivW (pv 1) (pe_call (ok_l_gcd T) (hr.mono (by decide)) (by rfl) T.g_l_gcd T.F_l_gcd.kp T.b_l_gcd .nil pass0 (pa_cons (pv 1) (pa_cons (pv 2) pa_nil)))) (pv 2)))))
      (pss_one (ps_ret (pv 1))))), ?_⟩
    obtain ⟨a, xs, rfl, ta, nx, hx⟩ := B.ex
    refine ⟨_, rfl, a, rfl, ⟨_, ta⟩, for_tup (K := K) (a := a) (xs := xs) (fun i σ H2 => ∃ x y : Option V, σ = [some (.ref a), some (.int (wh (bs.take i) : Nat)), x, y] ∧ H2 = H)
      ⟨none, none, rfl, rfl⟩ (fun i σ H2 _ ⟨_, _, _, e⟩ => by rw [e]; exact ta) ?_ ?_⟩
    · rintro i x σ H2 hi ⟨y1, y2, rfl, rfl⟩
      have hl : i < bs.length := by
        have := (List.getElem?_eq_some_iff.mp hi).1
        omega
      have hb : bs[i]? = some bs[i] := List.getElem?_eq_getElem hl
      obtain ⟨p, l, rfl, tp, _⟩ := (hx i x _ hi hb).ex
      have hm := M.mod _ (List.getElem_mem hl)
      generalize bs[i] = b at hb tp hm
      have M' := M.take i
      have hw := M'.lt
      have hp := M'.pos
      have hmn : b.1 = ((b.1.toNat : Nat) : Int) := by omega
      refine ⟨p, [_, _], rfl, tp, rfl, _, _, rfl, _, _, rfl, rfl, ?_⟩
      refine ⟨_, rfl, _, rfl, _, rfl, wh (bs.take i), b.1.toNat, by rw [← hmn]; rfl, Nat.lt_trans hw (by decide), by omega, ?_⟩
      have hg : 0 < Nat.gcd (wh (bs.take i)) b.1.toNat := Nat.gcd_pos_of_pos_left _ hp
      have hg2 : Nat.gcd (wh (bs.take i)) b.1.toNat ≤ wh (bs.take i) := Nat.gcd_le_left _ hp
      refine ⟨_, _, rfl, rfl, wide_div (b := 131) (by omega) (by omega) (by decide) (by decide), _, rfl, _, _, rfl, rfl, ?_, ?_⟩
      · rw [divNat]
        have : wh (bs.take i) / Nat.gcd (wh (bs.take i)) b.1.toNat ≤ wh (bs.take i) := Nat.div_le_self _ _
        exact wide_mul (a := 131) (b := 31) (by rw [Int.natAbs_natCast]; omega) (by omega) (by decide) (by decide) (by decide)
      · have ew : ((wh (bs.take i) : Nat) : Int) / ((Nat.gcd (wh (bs.take i)) b.1.toNat : Nat) : Int) * b.1 = ((wh (bs.take (i + 1)) : Nat) : Int) := by
          rw [takeSucc hb, wh_add, show b.1.natAbs = b.1.toNat by omega, ← lcm_div, Int.natCast_mul, Int.natCast_ediv, ← hmn]
        refine ⟨some (.int b.1), some l, ?_, rfl⟩
        rw [← ew]
        rfl
    · rintro σ H2 ⟨y1, y2, rfl, rfl⟩
      rw [nx, List.take_length]
      exact ⟨_, rfl, q⟩
end

end R
namespace R
open PySem PySem.Spec PyProof.Rows L2
/-! ## joining rests: the mathematics -/
theorem emod_of_dvd_sub {a b m : Int} (h0 : 0 ≤ b) (h1 : b < m) (h : m ∣ a - b) : a % m = b := by
  obtain ⟨k, hk⟩ := h
  have e : a = b + m * k := by omega
  rw [e, Int.add_mul_emod_self_left]
  exact Int.emod_eq_of_lt h0 h1
def rowL (g turns back whole known : Int) (lot : List Int) : List Int := (lot.filter fun r => decide ((r - known) % g = 0)).map fun r => known + whole * ((r - known) / g * back % turns)
def joinL (g turns back whole : Int) (classes lot : List Int) : List Int := classes.flatMap fun k => rowL g turns back whole k lot
theorem rowL_add (g turns back whole known r : Int) (lot : List Int) : rowL g turns back whole known (lot ++ [r]) = rowL g turns back whole known lot ++ (if (r - known) % g = 0 then [known + whole * ((r - known) / g * back % turns)] else []) := by
  unfold rowL
  rw [List.filter_append, List.map_append]
  by_cases h : (r - known) % g = 0
  · rw [if_pos h, List.filter_cons_of_pos (by rw [decide_eq_true h])]
    rfl
  · rw [if_neg h, List.filter_cons_of_neg (by rw [decide_eq_false h]; exact Bool.false_ne_true)]
    rfl
theorem joinL_add (g turns back whole k : Int) (classes lot : List Int) : joinL g turns back whole (classes ++ [k]) lot = joinL g turns back whole classes lot ++ rowL g turns back whole k lot := by
  unfold joinL
  rw [List.flatMap_append]
  congr 1
  exact List.append_nil _
theorem mem_rowL {g turns back whole known y : Int} {lot : List Int} : y ∈ rowL g turns back whole known lot ↔ ∃ r ∈ lot, (r - known) % g = 0 ∧ y = known + whole * ((r - known) / g * back % turns) := by
  unfold rowL
  rw [List.mem_map]
  constructor
  · rintro ⟨r, hr, e⟩
    obtain ⟨h1, h2⟩ := List.mem_filter.mp hr
    exact ⟨r, h1, of_decide_eq_true h2, e.symm⟩
  · rintro ⟨r, h1, h2, e⟩
    exact ⟨r, List.mem_filter.mpr ⟨h1, decide_eq_true h2⟩, e.symm⟩
theorem mem_joinL {g turns back whole y : Int} {classes lot : List Int} : y ∈ joinL g turns back whole classes lot ↔ ∃ k ∈ classes, ∃ r ∈ lot, (r - k) % g = 0 ∧ y = k + whole * ((r - k) / g * back % turns) := by
  unfold joinL
  rw [List.mem_flatMap]
  constructor
  · rintro ⟨k, hk, h⟩
    exact ⟨k, hk, mem_rowL.mp h⟩
  · rintro ⟨k, hk, h⟩
    exact ⟨k, hk, mem_rowL.mpr h⟩
/-- what the joining leans on: g the common measure, w = g * w', m = g * turns, back the inverse of w' by turns -/
structure Meet (g turns back w w' m : Int) : Prop where
  g0 : 0 < g
  t0 : 0 < turns
  w0 : 0 < w
  ew : w = g * w'
  em : m = g * turns
  inv : turns ∣ w' * back - 1
section
variable {g turns back w w' m : Int}
theorem Meet.m0 (M : Meet g turns back w w' m) : 0 < m := by rw [M.em]; exact Int.mul_pos M.g0 M.t0
theorem Meet.out (M : Meet g turns back w w' m) {k r : Int} (hd : (r - k) % g = 0) : m ∣ (k + w * ((r - k) / g * back % turns)) - r := by
  obtain ⟨e, he⟩ := M.inv
  have hq : g * ((r - k) / g) = r - k := Int.mul_ediv_cancel' (Int.dvd_of_emod_eq_zero hd)
  generalize (r - k) / g = q at hq ⊢
  have ht := Int.mul_ediv_add_emod (q * back) turns
  generalize (q * back) % turns = t at ht ⊢
  generalize (q * back) / turns = j at ht
  refine ⟨q * e - w' * j, ?_⟩
  have h1 : w' * t - q = turns * (q * e - w' * j) := by
    have : t = q * back - turns * j := by omega
    rw [this, Int.mul_sub, Int.mul_sub]
    have a1 : w' * (q * back) = q * (w' * back) := by rw [← Int.mul_assoc, Int.mul_comm w' q, Int.mul_assoc]
    have a2 : w' * back = turns * e + 1 := by omega
    have a3 : w' * (turns * j) = turns * (w' * j) := by rw [← Int.mul_assoc, Int.mul_comm w' turns, Int.mul_assoc]
    have a4 : q * (turns * e + 1) = turns * (q * e) + q := by rw [Int.mul_add, Int.mul_one, ← Int.mul_assoc, Int.mul_comm q turns, Int.mul_assoc]
    rw [a1, a2, a3, a4]
    omega
  have h2 : k + w * t - r = g * (w' * t - q) := by
    rw [Int.mul_sub, hq, M.ew, ← Int.mul_assoc]
    omega
  rw [h2, h1, M.em, Int.mul_assoc]
theorem Meet.into (M : Meet g turns back w w' m) {y : Int} (h0 : 0 ≤ y) (h1 : y < w * turns) : (y % m - y % w) % g = 0 ∧ y = y % w + w * ((y % m - y % w) / g * back % turns) := by
  obtain ⟨e, he⟩ := M.inv
  have hw := Int.mul_ediv_add_emod y w
  have hm := Int.mul_ediv_add_emod y m
  have k0 := Int.emod_nonneg y (Int.ne_of_gt M.w0)
  have t0 : 0 ≤ y / w := Int.ediv_nonneg h0 (Int.le_of_lt M.w0)
  have t1 : y / w < turns := Int.ediv_lt_of_lt_mul M.w0 (by rw [Int.mul_comm]; exact h1)
  generalize y / w = t at hw t0 t1
  generalize y / m = s at hm
  generalize y % w = k at hw k0 ⊢
  generalize y % m = r at hm ⊢
  have hd : r - k = g * (w' * t - turns * s) := by
    have a1 : w * t = g * (w' * t) := by rw [M.ew, Int.mul_assoc]
    have a2 : m * s = g * (turns * s) := by rw [M.em, Int.mul_assoc]
    rw [Int.mul_sub, ← a1, ← a2]
    omega
  rw [hd]
  refine ⟨Int.mul_emod_right _ _, ?_⟩
  rw [Int.mul_ediv_cancel_left _ (Int.ne_of_gt M.g0)]
  have hq : (w' * t - turns * s) * back = t + turns * (e * t - s * back) := by
    have a2 : w' * back = turns * e + 1 := by omega
    rw [Int.sub_mul, Int.mul_sub]
    have a3 : w' * t * back = (w' * back) * t := by rw [Int.mul_assoc, Int.mul_comm t back, ← Int.mul_assoc]
    have a4 : (turns * e + 1) * t = turns * (e * t) + t := by rw [Int.add_mul, Int.one_mul, Int.mul_assoc]
    have a5 : turns * s * back = turns * (s * back) := Int.mul_assoc _ _ _
    rw [a3, a2, a4, a5]
    omega
  rw [hq, Int.add_mul_emod_self_left, Int.emod_eq_of_lt t0 t1]
  omega
/-- a number made of known and rest tells both -/
theorem Meet.tells (M : Meet g turns back w w' m) {k r : Int} (hk : 0 ≤ k ∧ k < w) (hr : 0 ≤ r ∧ r < m) (hd : (r - k) % g = 0) :
    (k + w * ((r - k) / g * back % turns)) % w = k ∧ (k + w * ((r - k) / g * back % turns)) % m = r := by
  refine ⟨?_, emod_of_dvd_sub hr.1 hr.2 (M.out hd)⟩
  rw [Int.add_mul_emod_self_left]
  exact Int.emod_eq_of_lt hk.1 hk.2
theorem Meet.rowNodup (M : Meet g turns back w w' m) {k : Int} {lot : List Int} (hk : 0 ≤ k ∧ k < w) (hl : ∀ r ∈ lot, 0 ≤ r ∧ r < m) (nd : lot.Nodup) : (rowL g turns back w k lot).Nodup := by
  unfold rowL
  have nf : (lot.filter fun r => decide ((r - k) % g = 0)).Nodup := nd.filter _
  refine List.pairwise_map.mpr (List.Pairwise.imp_of_mem (fun {a b} ha hb hne e => hne ?_) nf)
  obtain ⟨a1, a2⟩ := List.mem_filter.mp ha
  obtain ⟨b1, b2⟩ := List.mem_filter.mp hb
  have q1 := (M.tells hk (hl _ a1) (of_decide_eq_true a2)).2
  have q2 := (M.tells hk (hl _ b1) (of_decide_eq_true b2)).2
  rw [← q1, ← q2, e]
theorem Meet.joinNodup (M : Meet g turns back w w' m) {cs lot : List Int} (hc : ∀ k ∈ cs, 0 ≤ k ∧ k < w) (nc : cs.Nodup) (hl : ∀ r ∈ lot, 0 ≤ r ∧ r < m) (nd : lot.Nodup) : (joinL g turns back w cs lot).Nodup := by
  induction cs with
  | nil => exact List.nodup_nil
  | cons k r ih =>
    obtain ⟨n1, n2⟩ := List.nodup_cons.mp nc
    show (rowL g turns back w k lot ++ joinL g turns back w r lot).Nodup
    refine List.nodup_append.mpr ⟨M.rowNodup (hc k List.mem_cons_self) hl nd, ih (fun x hx => hc x (List.mem_cons_of_mem _ hx)) n2, fun a ha b hb e => ?_⟩
    obtain ⟨r1, hr1, d1, e1⟩ := mem_rowL.mp ha
    obtain ⟨k2, hk2, r2, hr2, d2, e2⟩ := mem_joinL.mp hb
    have q1 := (M.tells (hc k List.mem_cons_self) (hl _ hr1) d1).1
    have q2 := (M.tells (hc k2 (List.mem_cons_of_mem _ hk2)) (hl _ hr2) d2).1
    rw [← e1] at q1
    rw [← e2] at q2
    rw [e] at q1
    rw [← q1, q2] at n1
    exact n1 hk2
end
/-! what fits by a row of bars hangs on the rest by the whole alone -/
theorem dvd_wh : ∀ (bs : List Bar) (b : Bar), b ∈ bs → b.1.natAbs ∣ wh bs := by
  refine snocInd (fun b h => by simp at h) fun bs c ih b h => ?_
  rw [wh_add]
  rcases List.mem_append.mp h with h | h
  · exact Nat.dvd_trans (ih b h) (Nat.dvd_lcm_left _ _)
  · rw [List.mem_singleton.mp h]
    exact Nat.dvd_lcm_right _ _
theorem emod_emod_wh {bs : List Bar} {b : Bar} (h : b ∈ bs) (x : Int) : x % (wh bs : Int) % b.1 = x % b.1 := by
  refine Int.emod_emod_of_dvd x ?_
  have := dvd_wh bs b h
  exact Int.natAbs_dvd.mp (Int.natCast_dvd_natCast.mpr this)
theorem fitsB_iff {bs : List Bar} {x : Int} : fitsB bs x = true ↔ ∀ b ∈ bs, x % b.1 ∈ b.2 := by
  unfold fitsB
  rw [List.all_eq_true]
  exact ⟨fun h b hb => of_decide_eq_true (h b hb), fun h b hb => decide_eq_true (h b hb)⟩
theorem fitsB_mod (bs : List Bar) (x : Int) : fitsB bs (x % (wh bs : Int)) = fitsB bs x := by
  rw [Bool.eq_iff_iff, fitsB_iff, fitsB_iff]
  exact ⟨fun h b hb => by rw [← emod_emod_wh hb]; exact h b hb, fun h b hb => by rw [emod_emod_wh hb]; exact h b hb⟩
/-- xs: each number from 0 to w - 1 that fits, once -/
structure ClsIs (bs : List Bar) (xs : List Int) : Prop where
  nd : xs.Nodup
  mem : ∀ x, x ∈ xs ↔ 0 ≤ x ∧ x < (wh bs : Int) ∧ fitsB bs x = true
theorem ClsIs.nil : ClsIs [] [0] := by
  refine ⟨by simp, fun x => ?_⟩
  rw [List.mem_singleton]
  have e : (wh [] : Int) = 1 := rfl
  rw [e]
  constructor
  · rintro rfl
    exact ⟨by decide, by decide, rfl⟩
  · rintro ⟨a, b, _⟩
    omega
theorem ClsIs.add {g turns back w' : Int} {bs : List Bar} {b : Bar} {xs : List Int} (M : Meet g turns back (wh bs : Int) w' b.1) (h : ClsIs bs xs) (L : LotOk b.1 b.2) (hw : (wh (bs ++ [b]) : Int) = (wh bs : Int) * turns) :
    ClsIs (bs ++ [b]) (joinL g turns back (wh bs : Int) xs b.2) := by
  have hc : ∀ k ∈ xs, 0 ≤ k ∧ k < (wh bs : Int) := fun k hk => let ⟨a, c, _⟩ := (h.mem k).mp hk; ⟨a, c⟩
  have hl : ∀ r ∈ b.2, 0 ≤ r ∧ r < b.1 := fun r hr => ⟨L.ge r hr, L.lt r hr⟩
  refine ⟨M.joinNodup hc h.nd hl (L.up.imp fun h => Int.ne_of_lt h), fun y => ?_⟩
  rw [mem_joinL, hw, fitsB_add]
  constructor
  · rintro ⟨k, hk, r, hr, hd, e⟩
    obtain ⟨q1, q2⟩ := M.tells (hc k hk) (hl r hr) hd
    obtain ⟨k0, k1, kf⟩ := (h.mem k).mp hk
    have t0 := Int.emod_nonneg ((r - k) / g * back) (Int.ne_of_gt M.t0)
    have t1 := Int.emod_lt_of_pos ((r - k) / g * back) M.t0
    rw [← e] at q1 q2
    generalize (r - k) / g * back % turns = t at e t0 t1
    have p0 : 0 ≤ (wh bs : Int) * t := Int.mul_nonneg (Int.le_of_lt M.w0) t0
    have p1 : (wh bs : Int) * (t + 1) ≤ (wh bs : Int) * turns := Int.mul_le_mul_of_nonneg_left (by omega) (Int.le_of_lt M.w0)
    rw [Int.mul_add, Int.mul_one] at p1
    refine ⟨by omega, by omega, ?_⟩
    rw [q2, decide_eq_true hr, Bool.and_true, ← fitsB_mod, q1]
    exact kf
  · rintro ⟨y0, y1, yf⟩
    obtain ⟨f1, f2⟩ := Bool.and_eq_true_iff.mp yf
    obtain ⟨d1, d2⟩ := M.into y0 y1
    refine ⟨y % (wh bs : Int), (h.mem _).mpr ⟨Int.emod_nonneg _ (Int.ne_of_gt M.w0), Int.emod_lt_of_pos _ M.w0, by rw [fitsB_mod]; exact f1⟩, y % b.1, of_decide_eq_true f2, d1, d2⟩
/-- sorted, it is the list of them in order -/
theorem cls_is (bs : List Bar) : ClsIs bs (cls bs) := by
  refine ⟨?_, fun x => ?_⟩
  · refine List.Pairwise.filter _ (List.pairwise_map.mpr (List.nodup_range.imp fun h e => h (by omega)))
  · unfold cls
    rw [List.mem_filter, List.mem_map]
    constructor
    · rintro ⟨⟨n, hn, rfl⟩, f⟩
      have := List.mem_range.mp hn
      exact ⟨by omega, by omega, f⟩
    · rintro ⟨x0, x1, f⟩
      exact ⟨⟨x.toNat, List.mem_range.mpr (by omega), by omega⟩, f⟩
theorem cls_up (bs : List Bar) : (cls bs).Pairwise (· < ·) := by
  unfold cls
  refine List.Pairwise.filter _ (List.pairwise_map.mpr (List.pairwise_lt_range.imp fun h => by omega))
theorem sorted_unique : ∀ {xs ys : List Int}, xs.Pairwise (· < ·) → ys.Pairwise (· < ·) → (∀ x, x ∈ xs ↔ x ∈ ys) → xs = ys
  | [], [], _, _, _ => rfl
  | [], y :: r, _, _, h => absurd ((h y).mpr List.mem_cons_self) (by simp)
  | x :: r, [], _, _, h => absurd ((h x).mp List.mem_cons_self) (by simp)
  | x :: r, y :: s, p, q, h => by
    obtain ⟨p1, p2⟩ := List.pairwise_cons.mp p
    obtain ⟨q1, q2⟩ := List.pairwise_cons.mp q
    have e : x = y := by
      rcases List.mem_cons.mp ((h x).mp List.mem_cons_self) with e | e
      · exact e
      · rcases List.mem_cons.mp ((h y).mpr List.mem_cons_self) with f | f
        · exact f.symm
        · have := q1 x e
          have := p1 y f
          omega
    subst e
    congr 1
    refine sorted_unique p2 q2 fun z => ⟨fun hz => ?_, fun hz => ?_⟩
    · rcases List.mem_cons.mp ((h z).mp (List.mem_cons_of_mem _ hz)) with e | e
      · have := p1 z hz
        omega
      · exact e
    · rcases List.mem_cons.mp ((h z).mpr (List.mem_cons_of_mem _ hz)) with e | e
      · have := q1 z hz
        omega
      · exact e
theorem le_nodup_lt {xs : List Int} (h : xs.Pairwise (· ≤ ·)) (n : xs.Nodup) : xs.Pairwise (· < ·) := by
  refine (h.and n).imp fun ⟨a, b⟩ => ?_
  omega
theorem ClsIs.sorted {bs : List Bar} {xs ys : List Int} (h : ClsIs bs xs) (p : ys.Perm xs) (s : ys.Pairwise (· ≤ ·)) : ys = cls bs := by
  refine sorted_unique (le_nodup_lt s (p.nodup_iff.mpr h.nd)) (cls_up bs) fun x => ?_
  rw [p.mem_iff, h.mem, (cls_is bs).mem]
theorem joinL_len (g turns back whole : Int) (classes lot : List Int) : (joinL g turns back whole classes lot).length ≤ classes.length * lot.length := by
  induction classes with
  | nil => exact Nat.zero_le _
  | cons k r ih =>
    show (rowL g turns back whole k lot ++ joinL g turns back whole r lot).length ≤ (r.length + 1) * lot.length
    have h1 : (rowL g turns back whole k lot).length ≤ lot.length := by
      unfold rowL
      rw [List.length_map]
      exact List.length_filter_le _ _
    rw [List.length_append, Nat.add_mul, Nat.one_mul]
    omega

end R
namespace R
open PySem PySem.Spec PyProof.Rows L2
/-! ## the program's own: the checks, the joining, the sieve -/
/-- Euclid's walk with its factors: r, a the two numbers, F, G the factors' sizes -/
structure Euc (n m r a F G : Nat) (f g : Int) : Prop where
  r1 : 1 ≤ r
  co : Nat.gcd r a = 1
  sum : r * G + a * F = m
  sg : (f = F ∧ g = -(G : Int)) ∨ (f = -(F : Int) ∧ g = G)
  df : (m : Int) ∣ f * n - r
  dg : (m : Int) ∣ g * n - a
theorem Euc.start {n m : Nat} (h1 : 1 ≤ n) (co : Nat.gcd n m = 1) : Euc n m n m 1 0 1 0 := by
  refine ⟨h1, co, by omega, .inl ⟨rfl, rfl⟩, ⟨0, by omega⟩, ⟨-1, by omega⟩⟩
theorem Euc.step {n m r a F G : Nat} {f g : Int} (E : Euc n m r a F G f g) (ha : a ≠ 0) : Euc n m a (r % a) G (F + r / a * G) g (f - ((r / a : Nat) : Int) * g) := by
  have hd := Nat.div_add_mod r a
  refine ⟨Nat.pos_of_ne_zero ha, ?_, ?_, ?_, E.dg, ?_⟩
  · rw [Nat.gcd_comm a (r % a), ← Nat.gcd_rec, Nat.gcd_comm]
    exact E.co
  · have e := E.sum
    rw [← hd] at e
    rw [← e, Nat.mul_add, Nat.add_mul, Nat.mul_assoc]
    omega
  · rcases E.sg with ⟨h1, h2⟩ | ⟨h1, h2⟩
    · refine .inr ⟨h2, ?_⟩
      rw [h1, h2, Int.mul_neg, Int.natCast_add, Int.natCast_mul]
      omega
    · refine .inl ⟨h2, ?_⟩
      rw [h1, h2, Int.natCast_add, Int.natCast_mul]
      omega
  · obtain ⟨x, hx⟩ := E.df
    obtain ⟨y, hy⟩ := E.dg
    refine ⟨x - ((r / a : Nat) : Int) * y, ?_⟩
    have e1 : ((r : Nat) : Int) = (a : Int) * ((r / a : Nat) : Int) + ((r % a : Nat) : Int) := by
      rw [← Int.natCast_mul, ← Int.natCast_add, hd]
    have e2 : f * n = (m : Int) * x + r := by omega
    have e3 : g * n = (m : Int) * y + a := by omega
    rw [Int.sub_mul, Int.mul_assoc, e2, e3, Int.mul_sub, Int.mul_add]
    have e4 : ((r / a : Nat) : Int) * ((m : Int) * y) = (m : Int) * (((r / a : Nat) : Int) * y) := by rw [← Int.mul_assoc, Int.mul_comm _ (m : Int), Int.mul_assoc]
    have e5 : ((r / a : Nat) : Int) * (a : Int) = (a : Int) * ((r / a : Nat) : Int) := Int.mul_comm _ _
    rw [e4, e5]
    omega
theorem Euc.last {n m r F G : Nat} {f g : Int} (E : Euc n m r 0 F G f g) : (m : Int) ∣ (n : Int) * (f % (m : Int)) - 1 := by
  have h1 := E.co
  rw [Nat.gcd_zero_right] at h1
  obtain ⟨x, hx⟩ := E.df
  have hm := Int.mul_ediv_add_emod f (m : Int)
  generalize f / (m : Int) = q at hm
  refine ⟨x - (n : Int) * q, ?_⟩
  have e : f % (m : Int) = f - (m : Int) * q := by omega
  have e2 : (n : Int) * f = (m : Int) * x + 1 := by
    rw [Int.mul_comm]
    omega
  rw [e, Int.mul_sub, e2, Int.mul_sub]
  have e4 : (n : Int) * ((m : Int) * q) = (m : Int) * ((n : Int) * q) := by rw [← Int.mul_assoc, Int.mul_comm (n : Int), Int.mul_assoc]
  rw [e4]
  omega
def sp_p_inverse : Sp := fun vs H Q _ => ∃ n m : Nat, vs = [.int n, .int m] ∧ 1 ≤ n ∧ n < 2 ^ 150 ∧ 1 ≤ m ∧ m < 2 ^ 150 ∧ Nat.gcd n m = 1 ∧ ∀ (v : Int) (H' : Hp), Same H H' → 0 ≤ v → v < m → (m : Int) ∣ (n : Int) * v - 1 → Q (.int v) H'
section
variable {P : Program} {w : World} {K : PySem.W.Frag} {mg : Str → Option Value} {base : Heap}
theorem ok_p_inverse (T : Txt K mg) : FnOk P w K mg base CX0 2 T.f_p_inverse T.fd_p_inverse ["number", "modulus"] sp_p_inverse := by
  refine T.F_p_inverse.ok sc_p_inverse (fun vs H Q E h => ?_) (fun cdv A outer s H vs Q E hr h => ?_)
  · obtain ⟨n, m, rfl, _⟩ := h
    rfl
  · obtain ⟨n, m, rfl, h1, h2, h3, h4, co, q⟩ := h
    refine ⟨_, (pss_cons (ps_par (i := 2) (j := 3) (by rfl) sc_p_inverse.nd rfl rfl (by decide) rfl rfl (pa_cons (pv 0) (pa_cons (pv 1) pa_nil)) (by rfl))
      (pss_cons (ps_asg (pe_tup (pa_cons pe_int (pa_cons pe_int pa_nil))) (pg_tup (by rfl) (pgs_cons (pg_name (i := 4) sc_p_inverse.nd rfl (by first | exact .inl rfl | exact .inr rfl)) (pgs_cons (pg_name (i := 5) sc_p_inverse.nd rfl (by first | exact .inl rfl | exact .inr rfl)) pgs_nil))))
      (pss_cons (ps_while PassesOwn.never (pt_cmpR op_ne (pv 3) pe_int (nomark _)) (pss_cons (ps_set (i := 6) sc_p_inverse.nd rfl (by first | exact .inl rfl | exact .inr rfl) (pe_op op_fdivW (pv 2) (pv 3)))
      (pss_cons (ps_par (i := 2) (j := 3) (by rfl) sc_p_inverse.nd rfl rfl (by decide) rfl rfl (pa_cons (pv 3) (pa_cons (pe_op op_sub (pv 2) (pe_op op_mulW (pv 6) (pv 3))) pa_nil)) (by rfl))
      (pss_one (ps_par (i := 4) (j := 5) (by rfl) sc_p_inverse.nd rfl rfl (by decide) rfl rfl (pa_cons (pv 5) (pa_cons (pe_op op_sub (pv 4) (pe_op op_mulW (pv 6) (pv 5))) pa_nil)) (by rfl))))))
      (pss_one (ps_ret (pe_op op_mod (pv 4) (pv 1))))))), ?_⟩
    refine ⟨_, rfl, _, rfl, _, _, rfl, ?_⟩
    refine ⟨sizeOk (by show (2 : Nat) ≤ 100000; decide), fun p np => ⟨p, _, rfl, tupOf upd_same, rfl, _, _, rfl, _, _, rfl, rfl, ?_⟩⟩
    have s1 : Same H (upd H p (.tup [.int 1, .int 0])) := same_upd np
    generalize upd H p (.tup [.int 1, .int 0]) = H1 at s1
    refine while_by (fun σ H2 => ∃ (r a F G : Nat) (f g : Int) (x : Option V), σ = [some (.int n), some (.int m), some (.int r), some (.int a), some (.int f), some (.int g), x] ∧ Euc n m r a F G f g ∧ r < 2 ^ 150 ∧ a < 2 ^ 150 ∧ H2 = H1)
      (fun σ _ => match σ with | [_, _, _, some (.int a), _, _, _] => a.toNat | _ => 0) ⟨n, m, 1, 0, 1, 0, none, rfl, Euc.start h1 co, h2, h4, rfl⟩ ?_ ?_
    · rintro σ H2 ⟨r, a, F, G, f, g, x, rfl, U, hr1, ha1, rfl⟩
      refine ⟨_, rfl, rfl, _, rfl, ite2 (fun e => ?_) (fun e => ?_)⟩
      · have h0 : a ≠ 0 := fun z => by
          subst z
          have e' : (!decide (V.int ((0 : Nat) : Int) = V.int 0)) = true := e
          exact absurd e' (by decide)
        have ap : 0 < a := Nat.pos_of_ne_zero h0
        have hd := Nat.div_add_mod r a
        have q1 : r / a ≤ r := Nat.div_le_self _ _
        have sm := U.sum
        have g1 : 1 * G ≤ r * G := Nat.mul_le_mul_right _ U.r1
        have f1 : 1 * F ≤ a * F := Nat.mul_le_mul_right _ ap
        have gl : g.natAbs < 2 ^ 150 := by
          rcases U.sg with ⟨_, z⟩ | ⟨_, z⟩ <;> omega
        refine ⟨_, rfl, _, rfl, _, _, rfl, rfl, wide_div (b := 150) (by omega) (by rw [Int.natAbs_natCast]; exact ha1) (by decide) (by decide), ?_⟩
        refine ⟨_, rfl, _, rfl, _, rfl, _, rfl, _, _, rfl, rfl, ?_, _, _, rfl, rfl, _, _, rfl, ?_⟩
        · rw [divNat]
          exact wide_mul (a := 150) (b := 150) (by rw [Int.natAbs_natCast]; omega) (by rw [Int.natAbs_natCast]; exact ha1) (by decide) (by decide) (by decide)
        refine ⟨_, rfl, _, rfl, _, rfl, _, rfl, _, _, rfl, rfl, ?_, _, _, rfl, rfl, _, _, rfl, ?_, ?_⟩
        · rw [divNat]
          exact wide_mul (a := 150) (b := 150) (by rw [Int.natAbs_natCast]; omega) gl (by decide) (by decide) (by decide)
        · refine ⟨a, r % a, G, F + r / a * G, g, f - ((r / a : Nat) : Int) * g, some (.int ((r / a : Nat) : Int)), ?_, U.step h0, ha1, Nat.lt_of_le_of_lt (Nat.mod_le _ _) hr1, rfl⟩
          have em : (r : Int) - (r : Int) / (a : Int) * (a : Int) = ((r % a : Nat) : Int) := by
            rw [← modNat, Int.emod_def, Int.mul_comm]
          show ([some (.int n), some (.int m), some (.int a), some (.int ((r : Int) - (r : Int) / (a : Int) * (a : Int))), some (.int g), some (.int (f - (r : Int) / (a : Int) * g)), some (.int ((r : Int) / (a : Int)))] : L2.St) = _
          rw [em, divNat]
        · show ((r : Int) - (r : Int) / (a : Int) * (a : Int)).toNat < ((a : Nat) : Int).toNat
          have em : (r : Int) - (r : Int) / (a : Int) * (a : Int) = ((r % a : Nat) : Int) := by
            rw [← modNat, Int.emod_def, Int.mul_comm]
          rw [em, Int.toNat_natCast, Int.toNat_natCast]
          exact Nat.mod_lt _ ap
      · have e' : ¬ (!decide (V.int (a : Int) = V.int 0)) = true := e
        have a0 : a = 0 := by
          by_cases z : V.int (a : Int) = V.int 0
          · have := V.int.inj z
            omega
          · rw [decide_eq_false z] at e'
            exact absurd rfl e'
        subst a0
        refine ⟨_, rfl, _, rfl, _, _, rfl, rfl, by show 0 < (m : Int); omega, ?_⟩
        exact q _ _ s1 (Int.emod_nonneg _ (by omega)) (Int.emod_lt_of_pos _ (by omega)) U.last
    · intro σ H2 Q1 Q2 hQ h
      obtain ⟨v, hv, hs, k, hk, hq⟩ := h
      exact ⟨v, hv, hs, k, hk, hQ _ _ hq⟩
end

end R
namespace R
open PySem PySem.Spec PyProof.Rows L2
theorem samePut {H H' : Hp} {p : Addr} {o : HO} (s : Same H H') (h : H p = none) : Same H (upd H' p o) := fun b u e => by
  rw [upd_ne (ne_of_none e h)]
  exact s b u e
theorem freshOf {H H' : Hp} {p : Addr} (s : Same H H') (h : H' p = none) : H p = none := s.free h
theorem rowL_len (g turns back whole known : Int) (lot : List Int) : (rowL g turns back whole known lot).length ≤ lot.length := by
  unfold rowL
  rw [List.length_map]
  exact List.length_filter_le _ _
theorem joinL_len2 {g turns back whole k : Int} {xs lot : List Int} {i j : Nat} (hi : i < xs.length) : (joinL g turns back whole (xs.take i) lot ++ rowL g turns back whole k (lot.take j)).length ≤ xs.length * lot.length := by
  have h1 := joinL_len g turns back whole (xs.take i) lot
  have h2 := rowL_len g turns back whole k (lot.take j)
  rw [List.length_take] at h1 h2
  rw [List.length_append]
  have h3 : (i + 1) * lot.length ≤ xs.length * lot.length := Nat.mul_le_mul_right _ hi
  rw [Nat.add_mul, Nat.one_mul] at h3
  have h4 : min i xs.length = i := by omega
  rw [h4] at h1
  omega
def sp_p_joined (K : PySem.W.Frag) : Sp := fun vs H Q _ => ∃ (c : Addr) (xs lot : List Int) (w m : Nat) (v : V), vs = [.ref c, .int w, .int m, v] ∧ SqL K H c (xs.map V.int) ∧ LotAt K H v lot ∧ 1 ≤ w ∧ w < 2 ^ 130 ∧ 1 ≤ m ∧ m ≤ 1000000 ∧
  (∀ x ∈ xs, 0 ≤ x ∧ x < (w : Int)) ∧ (∀ r ∈ lot, 0 ≤ r ∧ r < (m : Int)) ∧ xs.length * lot.length ≤ 100000 ∧
  ∀ (D : Addr) (H' : Hp) (g t b w' : Int), Same H H' → Meet g t b w w' m → ((Nat.lcm w m : Nat) : Int) = (w : Int) * t → H' D = some (.lst ((joinL g t b w xs lot).map V.int)) → Q (.ref D) H'
section
variable {P : Program} {w : World} {K : PySem.W.Frag} {mg : Str → Option Value} {base : Heap}
theorem ok_p_joined (T : Txt K mg) : FnOk P w K mg base CX0 3 T.f_p_joined T.fd_p_joined ["classes", "whole", "modulus", "lot"] (sp_p_joined K) := by
  refine T.F_p_joined.ok sc_p_joined (fun vs H Q E h => ?_) (fun cdv A outer s H vs Q E hr h => ?_)
  · obtain ⟨c, xs, lot, W, m, v, rfl, _⟩ := h
    rfl
  · obtain ⟨c, xs, lot, W, m, v, rfl, hc, hL, w1, w2, m1, m2, hx, hl, hsz, q⟩ := h
    refine ⟨_, (pss_cons (ps_set (i := 4) sc_p_joined.nd rfl (by first | exact .inl rfl | exact .inr rfl) (pe_callBfun cr_gcd (by rfl) T.g_gcd (pa_cons (pv 1) (pa_cons (pv 2) pa_nil))))
      (pss_cons (ps_set (i := 5) sc_p_joined.nd rfl (by first | exact .inl rfl | exact .inr rfl) (pe_op op_fdivW (pv 2) (pv 4)))
      (pss_cons (ps_set (i := 6) sc_p_joined.nd rfl (by first | exact .inl rfl | exact .inr rfl) (pe_call (ok_p_inverse T) (hr.mono (by decide)) (by rfl) T.g_p_inverse T.F_p_inverse.kp T.b_p_inverse .nil pass0 (pa_cons (pe_op op_fdivW (pv 1) (pv 4)) (pa_cons (pv 5) pa_nil))))
      (pss_cons (ps_set (i := 7) sc_p_joined.nd rfl (by first | exact .inl rfl | exact .inr rfl) (pe_lst pa_nil))
      (pss_cons (ps_for PassesOwn.never rfl (pi_list (pv 0)) (pg_name (i := 8) sc_p_joined.nd rfl (by first | exact .inl rfl | exact .inr rfl)) (pss_one (ps_for PassesOwn.never rfl (pi_tup (pv 3)) (pg_name (i := 9) sc_p_joined.nd rfl (by first | exact .inl rfl | exact .inr rfl)) (pss_cons (ps_set (i := 10) sc_p_joined.nd rfl (by first | exact .inl rfl | exact .inr rfl) (pe_op op_sub (pv 9) (pv 8)))
      (pss_one (ps_if (pt_cmpR op_eq (pe_op op_mod (pv 10) (pv 4)) pe_int (nomark _)) (pss_one (ps_expr (pe_bm PySem.F.plainAttrs_list PySem.F.slot_list_append PySem.F.type_list_append mt_append (pv 7) (pa_cons (pe_op op_add (pv 8) (pe_op op_mulW (pv 1) (pe_op op_mod (pe_op op_mulW (pe_op op_fdivW (pv 10) (pv 4)) (pv 6)) (pv 5)))) pa_nil)))) pss_nil))))))
      (pss_one (ps_ret (pv 7)))))))), ?_⟩
    have hg : 0 < Nat.gcd W m := Nat.gcd_pos_of_pos_left _ w1
    have gm : Nat.gcd W m ≤ m := Nat.gcd_le_right _ m1
    have gw : Nat.gcd W m ≤ W := Nat.gcd_le_left _ w1
    refine ⟨_, rfl, _, rfl, _, _, rfl, ?_⟩
    rw [Int.natAbs_natCast, Int.natAbs_natCast]
    have ew : Nat.gcd W m * (W / Nat.gcd W m) = W := Nat.mul_div_cancel' (Nat.gcd_dvd_left W m)
    have em : Nat.gcd W m * (m / Nat.gcd W m) = m := Nat.mul_div_cancel' (Nat.gcd_dvd_right W m)
    have cop : Nat.gcd (W / Nat.gcd W m) (m / Nat.gcd W m) = 1 := by rw [Nat.gcd_div (Nat.gcd_dvd_left W m) (Nat.gcd_dvd_right W m)]; exact Nat.div_self hg
    have lcmE : Nat.lcm W m = W * (m / Nat.gcd W m) := Nat.mul_div_assoc W (Nat.gcd_dvd_right W m)
    have t1 : 1 ≤ m / Nat.gcd W m := Nat.div_pos gm hg
    have t2 : m / Nat.gcd W m ≤ m := Nat.div_le_self _ _
    have v1 : 1 ≤ W / Nat.gcd W m := Nat.div_pos gw hg
    have v2 : W / Nat.gcd W m ≤ W := Nat.div_le_self _ _
    generalize Nat.gcd W m = g at *
    generalize ht : m / g = t at *
    generalize hw : W / g = w' at *
    have dm : (m : Int) / (g : Int) = (t : Int) := by rw [divNat, ht]
    have dw : (W : Int) / (g : Int) = (w' : Int) := by rw [divNat, hw]
    refine ⟨_, rfl, _, rfl, _, _, rfl, rfl, wide_div (b := 30) (by omega) (by rw [Int.natAbs_natCast]; omega) (by decide) (by decide), ?_⟩
    refine ⟨_, rfl, _, rfl, _, _, rfl, rfl, wide_div (b := 30) (by omega) (by rw [Int.natAbs_natCast]; omega) (by decide) (by decide), _, rfl, w', t, by rw [← dw, ← dm]; rfl, v1, by omega, t1, by omega, cop, fun back H1 s1 b0 b1 hb => ?_⟩
    have M : Meet (g : Int) (t : Int) back (W : Int) (w' : Int) (m : Int) := ⟨by omega, by omega, by omega, by rw [← Int.natCast_mul, ew], by rw [← Int.natCast_mul, em], hb⟩
    refine ⟨Nat.zero_le _, fun F nF => ?_⟩
    have nF0 := freshOf s1 nF
    obtain ⟨a, rfl, ta⟩ := hL.ex
    have s2 : Same H (upd H1 F (.lst [])) := samePut s1 nF0
    refine ⟨_, rfl, c, rfl, ⟨_, s2.seq hc⟩, for_list (K := K) (a := c) (xs := xs.map V.int) (fun i σ Hj => ∃ (x8 x9 x10 : Option V), σ = [some (.ref c), some (.int W), some (.int m), some (.ref a), some (.int g), some (.int ((m : Int) / (g : Int))), some (.int back), some (.ref F), x8, x9, x10] ∧
      Same H Hj ∧ Hj F = some (.lst ((joinL g t back W (xs.take i) lot).map V.int)))
      ⟨none, none, none, rfl, s2, upd_same⟩ (fun i σ Hj _ ⟨_, _, _, _, sj, _⟩ => sj.seq hc) ?_ ?_⟩
    · rintro i y σ Hj hi ⟨x8, x9, x10, rfl, sj, ej⟩
      obtain ⟨k, hk, rfl⟩ := getMapInt' hi
      have kx := hx k (List.mem_of_getElem? hk)
      refine ⟨_, rfl, a, rfl, ⟨_, Same.seqTT sj ta⟩, for_tup (K := K) (a := a) (xs := lot.map V.int) (fun j σ H2 => ∃ (x9 x10 : Option V), σ = [some (.ref c), some (.int W), some (.int m), some (.ref a), some (.int g), some (.int ((m : Int) / (g : Int))), some (.int back), some (.ref F), some (.int k), x9, x10] ∧
        Same H H2 ∧ H2 F = some (.lst ((joinL g t back W (xs.take i) lot ++ rowL g t back W k (lot.take j)).map V.int)))
        ⟨x9, x10, rfl, sj, by rw [ej]; show _ = some (HO.lst ((_ ++ []).map V.int)); rw [List.append_nil]⟩ (fun j σ H2 _ ⟨_, _, _, s3, _⟩ => Same.seqTT s3 ta) ?_ ?_⟩
      · rintro j z σ H2 hj ⟨y9, y10, rfl, s3, e3⟩
        obtain ⟨r, hr0, rfl⟩ := getMapInt' hj
        have rx := hl r (List.mem_of_getElem? hr0)
        refine ⟨_, rfl, _, rfl, _, _, rfl, rfl, ?_⟩
        refine ⟨_, rfl, _, rfl, _, _, rfl, rfl, by show (0 : Int) < (g : Int); omega, rfl, _, rfl, ite2 (fun e => ?_) (fun e => ?_)⟩
        · have e0 : (r - k) % (g : Int) = 0 := V.int.inj (of_decide_eq_true e)
          have nd : ((r - k) / (g : Int)).natAbs ≤ (r - k).natAbs := Int.natAbs_ediv_le_natAbs _ _
          refine ⟨_, rfl, .inl ⟨rfl, _, lstOf e3⟩, _, rfl, _, rfl, _, rfl, _, rfl, _, _, rfl, rfl, wide_div (b := 30) (by omega) (by rw [Int.natAbs_natCast]; omega) (by decide) (by decide), _, rfl, _, _, rfl, rfl,
            wide_mul (a := 150) (b := 30) (by omega) (by omega) (by decide) (by decide) (by decide), _, rfl, _, _, rfl, rfl, by show (0 : Int) < (m : Int) / (g : Int); rw [dm]; omega, _, _, rfl, rfl, ?_, _, _, rfl, rfl, ?_⟩
          · have u0 := Int.emod_nonneg ((r - k) / (g : Int) * back) (show ((m : Int) / (g : Int)) ≠ 0 by rw [dm]; omega)
            have u1 := Int.emod_lt_of_pos ((r - k) / (g : Int) * back) (show 0 < ((m : Int) / (g : Int)) by rw [dm]; omega)
            rw [dm] at u0 u1 ⊢
            exact wide_mul (a := 150) (b := 30) (by rw [Int.natAbs_natCast]; omega) (by omega) (by decide) (by decide) (by decide)
          · have hlen : (joinL g t back W (xs.take i) lot ++ rowL g t back W k (lot.take j)).length ≤ 100000 := Nat.le_trans (joinL_len2 (List.getElem?_eq_some_iff.mp hk).1) hsz
            refine ⟨F, _, _, rfl, rfl, e3, by rw [List.length_map]; exact sizeLt (by omega), ?_⟩
            refine ⟨_, _, rfl, samePut s3 nF0, ?_⟩
            rw [upd_same, takeSucc hr0, rowL_add, if_pos e0, ← List.append_assoc]
            generalize joinL g t back W (xs.take i) lot ++ rowL g t back W k (lot.take j) = L
            rw [List.map_append, dm]
            rfl
        · have e0 : ¬ (r - k) % (g : Int) = 0 := fun z => e (decide_eq_true (congrArg V.int z))
          refine ⟨_, _, rfl, s3, ?_⟩
          rw [e3, takeSucc hr0, rowL_add, if_neg e0, List.append_nil]
      · rintro σ H2 ⟨y9, y10, rfl, s3, e3⟩
        refine ⟨_, _, _, rfl, s3, ?_⟩
        rw [e3, List.length_map, List.take_length, takeSucc hk, joinL_add]
    · rintro σ H2 ⟨y8, y9, y10, rfl, s3, e3⟩
      rw [List.length_map, List.take_length] at e3
      exact ⟨_, rfl, q F H2 g t back w' s3 M (by rw [lcmE, Int.natCast_mul]) e3⟩
end

end R
namespace R
open PySem PySem.Spec PyProof.Rows L2
/-! ## what any value is: integers, lots, bars -/
def kOdd (K : PySem.W.Frag) (H : Hp) (x : V) : Prop := (∃ b, x = .bl b) ∨ ∃ t, TyX K H x (.type t) ∧ kitB t "int" = some false
theorem kOdd.ni {K : PySem.W.Frag} {H : Hp} {x : V} (h : kOdd K H x) (i : Int) : x ≠ .int i := by
  rintro rfl
  rcases h with ⟨b, e⟩ | ⟨t, h1, h2⟩
  · cases e
  · cases h1 with
    | base h =>
      cases h
      exact absurd h2 (by decide +kernel)
/-- an integer or something else whose kind is known -/
def Itm (K : PySem.W.Frag) (H : Hp) (x : V) : Prop := (∃ i, x = .int i) ∨ kOdd K H x
def NotTup (K : PySem.W.Frag) (H : Hp) (x : V) : Prop := ∃ t, TyX K H x (.type t) ∧ kitB t "tuple" = some false
def ascV (m : Int) : Int → List V → Bool
  | _, [] => true
  | lo, .int i :: r => (decide (lo ≤ i) && decide (i ≤ m - 1)) && ascV m (i + 1) r
  | _, _ :: _ => false
theorem ascV_ni {m lo : Int} {x : V} {r : List V} (h : ∀ i, x ≠ .int i) : ascV m lo (x :: r) = false := by
  cases x with
  | int i => exact absurd rfl (h i)
  | _ => rfl
theorem ascV_int {m lo i : Int} {r : List V} : ascV m lo (.int i :: r) = ((decide (lo ≤ i) && decide (i ≤ m - 1)) && ascV m (i + 1) r) := rfl
theorem ascV_iff {m : Int} : ∀ {l : List Int} {lo : Int}, ascV m lo (l.map V.int) = true ↔ l.Pairwise (· < ·) ∧ (∀ r ∈ l, lo ≤ r) ∧ ∀ r ∈ l, r < m
  | [], lo => ⟨fun _ => ⟨.nil, fun r h => by simp at h, fun r h => by simp at h⟩, fun _ => rfl⟩
  | x :: l, lo => by
    show ((decide (lo ≤ x) && decide (x ≤ m - 1)) && ascV m (x + 1) (l.map V.int)) = true ↔ _
    rw [Bool.and_eq_true, Bool.and_eq_true, decide_eq_true_iff, decide_eq_true_iff, ascV_iff (l := l) (lo := x + 1)]
    constructor
    · rintro ⟨⟨h1, h2⟩, h3, h4, h5⟩
      refine ⟨List.pairwise_cons.mpr ⟨fun z hz => by have := h4 z hz; omega, h3⟩, fun r hr => ?_, fun r hr => ?_⟩
      · rcases List.mem_cons.mp hr with rfl | hr
        · exact h1
        · have := h4 r hr
          omega
      · rcases List.mem_cons.mp hr with rfl | hr
        · omega
        · exact h5 r hr
    · rintro ⟨h1, h2, h3⟩
      obtain ⟨h4, h5⟩ := List.pairwise_cons.mp h1
      have := h3 x List.mem_cons_self
      exact ⟨⟨h2 x List.mem_cons_self, by omega⟩, h5, fun r hr => by have := h4 r hr; omega, fun r hr => h3 r (List.mem_cons_of_mem _ hr)⟩
theorem LotOk.asc {m : Int} {l : List Int} (h : LotOk m l) : ascV m 0 (l.map V.int) = true := ascV_iff.mpr ⟨h.up, h.ge, h.lt⟩
def barV : V → List V → Bool
  | .int m, zs => (decide (1 ≤ m) && decide (m ≤ 1000000)) && (ascV m 0 zs && decide (zs.length ≤ 60))
  | _, _ => false
theorem barV_ni {x : V} {r : List V} (h : ∀ i, x ≠ .int i) : barV x r = false := by
  cases x with
  | int i => exact absurd rfl (h i)
  | _ => rfl
theorem itmInts {K : PySem.W.Frag} {H : Hp} (l : List Int) : ∀ y ∈ l.map V.int, Itm K H y := fun y h => by
  obtain ⟨i, _, rfl⟩ := List.mem_map.mp h
  exact .inl ⟨i, rfl⟩
def sp_p_is_integer (K : PySem.W.Frag) : Sp := fun vs H Q _ => ∃ x : V, vs = [x] ∧ ((∃ i, x = .int i ∧ Q (.bl true) H) ∨ (kOdd K H x ∧ Q (.bl false) H))
def sp_p_integer_within (K : PySem.W.Frag) : Sp := fun vs H Q _ => ∃ (x : V) (lo hi : Int), vs = [x, .int lo, .int hi] ∧ ((∃ i, x = .int i ∧ Q (.bl (decide (lo ≤ i) && decide (i ≤ hi))) H) ∨ (kOdd K H x ∧ Q (.bl false) H))
def sp_p_is_ascending (K : PySem.W.Frag) : Sp := fun vs H Q _ => ∃ (x : V) (m : Int), vs = [x, .int m] ∧ ((NotTup K H x ∧ Q (.bl false) H) ∨ ∃ a xs, x = .ref a ∧ SqT K H a xs ∧ (∀ y ∈ xs, Itm K H y) ∧ Q (.bl (ascV m 0 xs)) H)
def sp_p_is_lot (K : PySem.W.Frag) : Sp := fun vs H Q _ => ∃ (x : V) (m : Int), vs = [x, .int m] ∧ ((NotTup K H x ∧ Q (.bl false) H) ∨ ∃ a xs, x = .ref a ∧ SqT K H a xs ∧ (∀ y ∈ xs, Itm K H y) ∧ Q (.bl (ascV m 0 xs && decide (xs.length ≤ 60))) H)
def sp_p_is_pair (K : PySem.W.Frag) : Sp := fun vs H Q _ => ∃ x : V, vs = [x] ∧ ((NotTup K H x ∧ Q (.bl false) H) ∨ ∃ a xs, x = .ref a ∧ SqT K H a xs ∧ Q (.bl (decide (xs.length = 2))) H)
def sp_p_is_bar (K : PySem.W.Frag) : Sp := fun vs H Q _ => ∃ x : V, vs = [x] ∧ ((NotTup K H x ∧ Q (.bl false) H) ∨ ∃ a xs, x = .ref a ∧ SqT K H a xs ∧ ((xs.length ≠ 2 ∧ Q (.bl false) H) ∨
  ∃ y z, xs = [y, z] ∧ Itm K H y ∧ ((NotTup K H z ∧ Q (.bl false) H) ∨ ∃ c zs, z = .ref c ∧ SqT K H c zs ∧ (∀ u ∈ zs, Itm K H u) ∧ Q (.bl (barV y zs)) H)))
section
variable {P : Program} {w : World} {K : PySem.W.Frag} {mg : Str → Option Value} {base : Heap}
theorem ok_p_is_integer (T : Txt K mg) : FnOk P w K mg base CX0 2 T.f_p_is_integer T.fd_p_is_integer ["value"] (sp_p_is_integer K) := by
  refine T.F_p_is_integer.ok sc_p_is_integer (fun vs H Q E h => ?_) (fun cdv A outer s H vs Q E hr h => ?_)
  · obtain ⟨x, rfl, _⟩ := h
    rfl
  · obtain ⟨x, rfl, h⟩ := h
    refine ⟨_, (pss_one (ps_ret (pe_and (pe_callB call_isi (by rfl) T.z_isinstance (by decide +kernel) (pa_cons (pv 0) (pa_cons (pe_bltn (v := .ty "int") (by rfl) T.z_int (by decide +kernel) rfl) pa_nil))) (pe_one (pe_not (pe_callB call_isi (by rfl) T.z_isinstance (by decide +kernel) (pa_cons (pv 0) (pa_cons (pe_bltn (v := .ty "bool") (by rfl) T.z_bool (by decide +kernel) rfl) pa_nil)))))))), ?_⟩
    rcases h with ⟨x, rfl, q⟩ | ⟨⟨b, rfl⟩ | ⟨t, ht, hk⟩, q⟩
    · refine ⟨_, rfl, _, _, _, _, _, rfl, .ty "int", .base (.int x), kit_ty (r := true) (by decide +kernel), true, rfl, iteT ?_⟩
      exact ⟨_, rfl, _, _, _, _, _, rfl, .ty "bool", .base (.int x), kit_ty (r := false) (by decide +kernel), false, rfl, q⟩
    · refine ⟨_, rfl, _, _, _, _, _, rfl, .ty "int", .base (.bl b), kit_ty (r := true) (by decide +kernel), true, rfl, iteT ?_⟩
      exact ⟨_, rfl, _, _, _, _, _, rfl, .ty "bool", .base (.bl b), kit_ty (r := true) (by decide +kernel), true, rfl, q⟩
    · exact ⟨_, rfl, _, _, _, _, _, rfl, .ty "int", ht, kit_ty (r := false) hk, false, rfl, iteF q⟩
theorem ok_p_integer_within (T : Txt K mg) : FnOk P w K mg base CX0 3 T.f_p_integer_within T.fd_p_integer_within ["value", "least", "greatest"] (sp_p_integer_within K) := by
  refine T.F_p_integer_within.ok sc_p_integer_within (fun vs H Q E h => ?_) (fun cdv A outer s H vs Q E hr h => ?_)
  · obtain ⟨x, lo, hi, rfl, _⟩ := h
    rfl
  · obtain ⟨x, lo, hi, rfl, h⟩ := h
    refine ⟨_, (pss_one (ps_ret (pe_and (pe_call (ok_p_is_integer T) (hr.mono (by decide)) (by rfl) T.g_p_is_integer T.F_p_is_integer.kp T.b_p_is_integer .nil pass0 (pa_cons (pv 0) pa_nil)) (pe_one (pe_chain op_le op_le (pv 1) (pv 0) (pv 2)))))), ?_⟩
    rcases h with ⟨x, rfl, q⟩ | ⟨o, q⟩
    · refine ⟨_, rfl, _, rfl, .inl ⟨x, rfl, true, rfl, iteT ⟨_, rfl, _, rfl, _, _, rfl, rfl, _, rfl, ?_⟩⟩⟩
      by_cases h : lo ≤ x
      · rw [decide_eq_true h] at q ⊢
        exact iteT ⟨_, rfl, _, _, rfl, rfl, q⟩
      · rw [decide_eq_false h] at q ⊢
        exact iteF q
    · exact ⟨_, rfl, _, rfl, .inr ⟨o, false, rfl, iteF q⟩⟩
theorem ok_p_is_ascending (T : Txt K mg) : FnOk P w K mg base CX0 4 T.f_p_is_ascending T.fd_p_is_ascending ["value", "limit"] (sp_p_is_ascending K) := by
  refine T.F_p_is_ascending.ok sc_p_is_ascending (fun vs H Q E h => ?_) (fun cdv A outer s H vs Q E hr h => ?_)
  · obtain ⟨v, m, rfl, _⟩ := h
    rfl
  · obtain ⟨v, m, rfl, h⟩ := h
    refine ⟨_, (pss_cons (ps_if (pt_not (pt_val (pe_callB call_isi (by rfl) T.z_isinstance (by decide +kernel) (pa_cons (pv 0) (pa_cons (pe_bltn (v := .ty "tuple") (by rfl) T.z_tuple (by decide +kernel) rfl) pa_nil))))) (pss_one (ps_ret pe_bl)) pss_nil)
      (pss_cons (ps_set (i := 2) sc_p_is_ascending.nd rfl (by first | exact .inl rfl | exact .inr rfl) pe_int)
      (pss_cons (ps_for PassesOwn.never rfl (pi_tup (pv 0)) (pg_name (i := 3) sc_p_is_ascending.nd rfl (by first | exact .inl rfl | exact .inr rfl)) (pss_cons (ps_if (pt_not (pt_val (pe_call (ok_p_integer_within T) (hr.mono (by decide)) (by rfl) T.g_p_integer_within T.F_p_integer_within.kp T.b_p_integer_within .nil pass0 (pa_cons (pv 3) (pa_cons (pv 2) (pa_cons (pe_op op_sub (pv 1) pe_int) pa_nil)))))) (pss_one (ps_ret pe_bl)) pss_nil)
      (pss_one (ps_set (i := 2) sc_p_is_ascending.nd rfl (by first | exact .inl rfl | exact .inr rfl) (pe_op op_add (pv 3) pe_int)))))
      (pss_one (ps_ret pe_bl))))), ?_⟩
    rcases h with ⟨⟨t, ht, hk⟩, q⟩ | ⟨a, xs, rfl, ta, it, q⟩
    · exact ⟨_, rfl, _, _, _, _, _, rfl, .ty "tuple", ht, kit_ty (r := false) hk, false, rfl, iteT q⟩
    · refine ⟨_, rfl, _, _, _, _, _, rfl, .ty "tuple", tyTup ta, kit_ty (r := true) (by decide +kernel), true, rfl, iteF ?_⟩
      refine ⟨_, rfl, a, rfl, ⟨_, ta⟩, for_tup (K := K) (a := a) (xs := xs) (fun i σ H2 => ∃ (n : Int) (x : Option V), σ = [some (.ref a), some (.int m), some (.int n), x] ∧ ascV m 0 xs = ascV m n (xs.drop i) ∧ H2 = H)
        ⟨0, none, rfl, rfl, rfl⟩ (fun i σ H2 _ ⟨_, _, _, _, e⟩ => by rw [e]; exact ta) ?_ ?_⟩
      · rintro i y σ H2 hi ⟨n, x, rfl, hn, rfl⟩
        have hd : xs.drop i = y :: xs.drop (i + 1) := by
          obtain ⟨h1, h2⟩ := List.getElem?_eq_some_iff.mp hi
          rw [List.drop_eq_getElem_cons h1, h2]
        rw [hd] at hn
        refine ⟨_, rfl, _, rfl, _, rfl, _, _, rfl, rfl, _, _, _, rfl, ?_⟩
        rcases it y (List.mem_of_getElem? hi) with ⟨r, rfl⟩ | o
        · refine .inl ⟨r, rfl, _, rfl, ?_⟩
          rw [ascV_int] at hn
          by_cases h : (decide (n ≤ r) && decide (r ≤ m - 1)) = true
          · rw [h] at hn ⊢
            exact iteF ⟨_, rfl, _, _, rfl, rfl, _, _, rfl, hn, rfl⟩
          · rw [Bool.not_eq_true] at h
            rw [h] at hn ⊢
            rw [Bool.false_and] at hn
            rw [hn] at q
            exact iteT q
        · refine .inr ⟨o, _, rfl, iteT ?_⟩
          rw [hn, ascV_ni o.ni] at q
          exact q
      · rintro σ H2 ⟨n, x, rfl, hn, rfl⟩
        rw [List.drop_length] at hn
        rw [hn] at q
        exact q
theorem ok_p_is_lot (T : Txt K mg) : FnOk P w K mg base CX0 5 T.f_p_is_lot T.fd_p_is_lot ["value", "modulus"] (sp_p_is_lot K) := by
  refine T.F_p_is_lot.ok sc_p_is_lot (fun vs H Q E h => ?_) (fun cdv A outer s H vs Q E hr h => ?_)
  · obtain ⟨v, m, rfl, _⟩ := h
    rfl
  · obtain ⟨v, m, rfl, h⟩ := h
    refine ⟨_, (pss_one (ps_ret (pe_and (pe_call (ok_p_is_ascending T) (hr.mono (by decide)) (by rfl) T.g_p_is_ascending T.F_p_is_ascending.kp T.b_p_is_ascending .nil pass0 (pa_cons (pv 0) (pa_cons (pv 1) pa_nil))) (pe_one (pe_cmpR op_le (pe_callB call_len_seq (by rfl) T.z_len (by decide +kernel) (pa_cons (pv 0) pa_nil)) (pe_glob (v := .int 60) (by rfl) T.c_MOST_RESTS.choose_spec ⟨_, rfl⟩) (nomark _)))))), ?_⟩
    rcases h with ⟨o, q⟩ | ⟨a, xs, rfl, ta, it, q⟩
    · exact ⟨_, rfl, _, rfl, v, m, rfl, .inl ⟨o, false, rfl, iteF q⟩⟩
    · refine ⟨_, rfl, _, rfl, _, m, rfl, .inr ⟨a, xs, rfl, ta, it, _, rfl, ?_⟩⟩
      cases e : ascV m 0 xs with
      | false =>
        rw [e] at q
        exact iteF q
      | true =>
        refine iteT ⟨_, rfl, a, _, rfl, .inr ta, _, _, rfl, rfl, ?_⟩
        rw [e, Bool.true_and] at q
        have e2 : decide ((xs.length : Int) ≤ 60) = decide (xs.length ≤ 60) := by
          rw [Bool.eq_iff_iff, decide_eq_true_iff, decide_eq_true_iff]
          omega
        show Q (.bl (decide ((xs.length : Int) ≤ 60))) H
        rw [e2]
        exact q
theorem ok_p_is_pair (T : Txt K mg) : FnOk P w K mg base CX0 2 T.f_p_is_pair T.fd_p_is_pair ["value"] (sp_p_is_pair K) := by
  refine T.F_p_is_pair.ok sc_p_is_pair (fun vs H Q E h => ?_) (fun cdv A outer s H vs Q E hr h => ?_)
  · obtain ⟨v, rfl, _⟩ := h
    rfl
  · obtain ⟨v, rfl, h⟩ := h
    refine ⟨_, (pss_one (ps_ret (pe_and (pe_callB call_isi (by rfl) T.z_isinstance (by decide +kernel) (pa_cons (pv 0) (pa_cons (pe_bltn (v := .ty "tuple") (by rfl) T.z_tuple (by decide +kernel) rfl) pa_nil))) (pe_one (pe_cmpR op_eq (pe_callB call_len_seq (by rfl) T.z_len (by decide +kernel) (pa_cons (pv 0) pa_nil)) pe_int (nomark _)))))), ?_⟩
    rcases h with ⟨⟨t, ht, hk⟩, q⟩ | ⟨a, xs, rfl, ta, q⟩
    · exact ⟨_, rfl, _, _, _, _, _, rfl, .ty "tuple", ht, kit_ty (r := false) hk, false, rfl, iteF q⟩
    · refine ⟨_, rfl, _, _, _, _, _, rfl, .ty "tuple", tyTup ta, kit_ty (r := true) (by decide +kernel), true, rfl, iteT ?_⟩
      refine ⟨_, rfl, a, _, rfl, .inr ta, rfl, ?_⟩
      have e2 : decide (V.int (xs.length : Int) = V.int 2) = decide (xs.length = 2) := by
        rw [Bool.eq_iff_iff, decide_eq_true_iff, decide_eq_true_iff]
        exact ⟨fun h => by have := V.int.inj h; omega, fun h => by rw [h]; rfl⟩
      show Q (.bl (decide (V.int (xs.length : Int) = V.int 2))) H
      rw [e2]
      exact q
theorem ok_p_is_bar (T : Txt K mg) : FnOk P w K mg base CX0 6 T.f_p_is_bar T.fd_p_is_bar ["value"] (sp_p_is_bar K) := by
  refine T.F_p_is_bar.ok sc_p_is_bar (fun vs H Q E h => ?_) (fun cdv A outer s H vs Q E hr h => ?_)
  · obtain ⟨v, rfl, _⟩ := h
    rfl
  · obtain ⟨v, rfl, h⟩ := h
    refine ⟨_, (pss_cons (ps_if (pt_not (pt_val (pe_call (ok_p_is_pair T) (hr.mono (by decide)) (by rfl) T.g_p_is_pair T.F_p_is_pair.kp T.b_p_is_pair .nil pass0 (pa_cons (pv 0) pa_nil)))) (pss_one (ps_ret pe_bl)) pss_nil)
      (pss_cons (ps_asg (pv 0) (pg_tup (by rfl) (pgs_cons (pg_name (i := 1) sc_p_is_bar.nd rfl (by first | exact .inl rfl | exact .inr rfl)) (pgs_cons (pg_name (i := 2) sc_p_is_bar.nd rfl (by first | exact .inl rfl | exact .inr rfl)) pgs_nil))))
      (pss_one (ps_ret (pe_and (pe_call (ok_p_integer_within T) (hr.mono (by decide)) (by rfl) T.g_p_integer_within T.F_p_integer_within.kp T.b_p_integer_within .nil pass0 (pa_cons (pv 1) (pa_cons pe_int (pa_cons (pe_glob (v := .int 1000000) (by rfl) T.c_GREATEST_MODULUS.choose_spec ⟨_, rfl⟩) pa_nil)))) (pe_one (pe_call (ok_p_is_lot T) (hr.mono (by decide)) (by rfl) T.g_p_is_lot T.F_p_is_lot.kp T.b_p_is_lot .nil pass0 (pa_cons (pv 2) (pa_cons (pv 1) pa_nil))))))))), ?_⟩
    rcases h with ⟨o, q⟩ | ⟨a, xs, rfl, ta, h⟩
    · exact ⟨_, rfl, v, rfl, .inl ⟨o, _, rfl, iteT q⟩⟩
    · refine ⟨_, rfl, _, rfl, .inr ⟨a, xs, rfl, ta, ?_⟩⟩
      rcases h with ⟨h, q⟩ | ⟨y, z, rfl, iy, h⟩
      · rw [decide_eq_false h]
        exact ⟨_, rfl, iteT q⟩
      · refine ⟨_, rfl, iteF ⟨_, rfl, a, _, rfl, ta, rfl, _, _, rfl, _, _, rfl, rfl, ?_⟩⟩
        refine ⟨_, rfl, _, _, _, rfl, ?_⟩
        rcases iy with ⟨m, rfl⟩ | o
        · refine .inl ⟨m, rfl, _, rfl, ?_⟩
          cases e : (decide (1 ≤ m) && decide (m ≤ 1000000)) with
          | false =>
            refine iteF ?_
            rcases h with ⟨_, q⟩ | ⟨c, zs, rfl, tc, iz, q⟩
            · exact q
            · have e3 : barV (.int m) zs = false := by
                show ((decide (1 ≤ m) && decide (m ≤ 1000000)) && _) = false
                rw [e]
                rfl
              rw [e3] at q
              exact q
          | true =>
            refine iteT ⟨_, rfl, _, rfl, z, m, rfl, ?_⟩
            rcases h with ⟨o, q⟩ | ⟨c, zs, rfl, tc, iz, q⟩
            · exact .inl ⟨o, q⟩
            · refine .inr ⟨c, zs, rfl, tc, iz, ?_⟩
              have e3 : barV (.int m) zs = (ascV m 0 zs && decide (zs.length ≤ 60)) := by
                show ((decide (1 ≤ m) && decide (m ≤ 1000000)) && _) = _
                rw [e]
                rfl
              rw [e3] at q
              exact q
        · refine .inr ⟨o, _, rfl, iteF ?_⟩
          rcases h with ⟨_, q⟩ | ⟨c, zs, rfl, tc, iz, q⟩
          · exact q
          · rw [barV_ni o.ni] at q
            exact q
end
theorem BarOk.bar {b : Bar} (h : BarOk b) : barV (.int b.1) (b.2.map V.int) = true := by
  have h1 := h.pos
  have h2 := h.most
  have h3 := h.lot.few
  show ((decide (1 ≤ b.1) && decide (b.1 ≤ 1000000)) && (ascV b.1 0 (b.2.map V.int) && decide ((b.2.map V.int).length ≤ 60))) = true
  rw [decide_eq_true h1, decide_eq_true h2, h.lot.asc, List.length_map, decide_eq_true h3]
  rfl

end R
namespace R
open PySem PySem.Spec PyProof.Rows L2
theorem small5000 {n : Nat} (h : n ≤ 1000000) : n < 2 ^ 5000 := Nat.lt_of_le_of_lt h (by decide)
theorem choices_take_le : ∀ (bs : List Bar) (i : Nat), choices (bs.take i) ≤ choices bs := by
  refine snocInd (fun i => by rw [List.take_nil]; exact Nat.le_refl _) fun bs b ih i => ?_
  rw [choices_add]
  by_cases hi : i ≤ bs.length
  · rw [List.take_append_of_le_length hi]
    have h1 := ih i
    have h2 : choices bs * 1 ≤ choices bs * max 1 b.2.length := Nat.mul_le_mul_left _ (by omega)
    omega
  · rw [List.take_of_length_le (by rw [List.length_append]; show bs.length + 1 ≤ i; omega), choices_add]
    exact Nat.le_refl _
/-- bars that are in order, whatever their whole -/
structure PreOk (bs : List Bar) : Prop where
  six : bs.length ≤ 6
  bar : ∀ b ∈ bs, BarOk b
theorem SvOk.pre {bs : List Bar} (h : SvOk bs) : PreOk bs := ⟨h.six, h.bar⟩
theorem PreOk.mods {bs : List Bar} (h : PreOk bs) : ModsOk bs := ⟨h.six, fun b hb => ⟨(h.bar b hb).pos, (h.bar b hb).most⟩⟩
theorem SvOk.mods {bs : List Bar} (h : SvOk bs) : ModsOk bs := ⟨h.six, fun b hb => ⟨(h.bar b hb).pos, (h.bar b hb).most⟩⟩
theorem Drawn.sv {most top : Nat} {bs : List Bar} (h : Drawn most top bs) (h6 : most ≤ 6) (ht : top ≤ 1000000) (hw : wh bs ≤ 10 ^ 30) : SvOk bs :=
  ⟨Nat.le_trans h.len h6, fun b hb => let ⟨a, c, d⟩ := h.bar b hb; ⟨a, by omega, d⟩, hw, h.many⟩
def sp_p_classes_of (K : PySem.W.Frag) : Sp := fun vs H Q _ => ∃ (v : V) (bs : List Bar), vs = [v] ∧ BarsAt K H v bs ∧ SvOk bs ∧ ∀ t H', Same H H' → H' t = some (.tup ((cls bs).map V.int)) → Q (.ref t) H'
section
variable {P : Program} {w : World} {K : PySem.W.Frag} {mg : Str → Option Value} {base : Heap}
theorem ok_p_classes_of (T : Txt K mg) : FnOk P w K mg base CX0 4 T.f_p_classes_of T.fd_p_classes_of ["bars"] (sp_p_classes_of K) := by
  refine T.F_p_classes_of.ok sc_p_classes_of (fun vs H Q E h => ?_) (fun cdv A outer s H vs Q E hr h => ?_)
  · obtain ⟨v, bs, rfl, _⟩ := h
    rfl
  · obtain ⟨v, bs, rfl, B, S, q⟩ := h
    refine ⟨_, (pss_cons (ps_set (i := 1) sc_p_classes_of.nd rfl (by first | exact .inl rfl | exact .inr rfl) pe_int)
      (pss_cons (ps_set (i := 2) sc_p_classes_of.nd rfl (by first | exact .inl rfl | exact .inr rfl) (pe_lst (pa_cons pe_int pa_nil)))
      (pss_cons (ps_for PassesOwn.never rfl (pi_tup (pv 0)) (pg_tup (by rfl) (pgs_cons (pg_name (i := 3) sc_p_classes_of.nd rfl (by first | exact .inl rfl | exact .inr rfl)) (pgs_cons (pg_name (i := 4) sc_p_classes_of.nd rfl (by first | exact .inl rfl | exact .inr rfl)) pgs_nil))) (pss_cons (ps_set (i := 2) sc_p_classes_of.nd rfl (by first | exact .inl rfl | exact .inr rfl) (pe_call (ok_p_joined T) (hr.mono (by decide)) (by rfl) T.g_p_joined T.F_p_joined.kp T.b_p_joined .nil pass0 (pa_cons (pv 2) (pa_cons (pv 1) (pa_cons (pv 3) (pa_cons (pv 4) pa_nil))))))
      (pss_one (ps_set (i := 1) sc_p_classes_of.nd rfl (by first | exact .inl rfl | exact .inr rfl) (pe_callBfun cr_lcmW (by rfl) T.g_lcm (pa_cons (pv 1) (pa_cons (pv 3) pa_nil)))))))
      (pss_one (ps_ret (pe_callTy call_tuple_of (by rfl) T.z_tuple (by decide +kernel) (pa_cons (pe_callB cr_sortedI (by rfl) T.z_sorted (by decide +kernel) (pa_cons (pv 2) pa_nil)) pa_nil))))))), ?_⟩
    obtain ⟨a, xs, rfl, ta, nx, hx⟩ := B.ex
    have M := S.mods
    refine ⟨sizeOk (by show (1 : Nat) ≤ 100000; decide), fun c0 n0 => ?_⟩
    have s0 : Same H (upd H c0 (.lst [.int 0])) := same_upd n0
    refine ⟨_, rfl, a, rfl, ⟨_, Same.seqTT s0 ta⟩, for_tup (K := K) (a := a) (xs := xs) (fun i σ H2 => ∃ (c : Addr) (ys : List Int) (x y : Option V), σ = [some (.ref a), some (.int (wh (bs.take i) : Nat)), some (.ref c), x, y] ∧
        H2 c = some (.lst (ys.map V.int)) ∧ ClsIs (bs.take i) ys ∧ ys.length ≤ choices (bs.take i) ∧ Same H H2)
      ⟨c0, [0], none, none, rfl, upd_same, ClsIs.nil, Nat.le_refl _, s0⟩ (fun i σ H2 _ ⟨_, _, _, _, _, _, _, _, s2⟩ => Same.seqTT s2 ta) ?_ ?_⟩
    · rintro i x σ H2 hi ⟨c, ys, y1, y2, rfl, ec, C, hlen, s2⟩
      have hl : i < bs.length := by
        have := (List.getElem?_eq_some_iff.mp hi).1
        omega
      have hb : bs[i]? = some bs[i] := List.getElem?_eq_getElem hl
      obtain ⟨p, l, rfl, tp, L⟩ := (hx i x _ hi hb).ex
      have hB := S.bar _ (List.getElem_mem hl)
      have hch := Nat.le_trans (choices_take_le bs i) S.many
      generalize bs[i] = b at hb tp hB L
      have hw := (M.take i).lt
      have hp := (M.take i).pos
      have h1 := hB.pos
      have h2 := hB.most
      have hf := hB.lot.few
      have hmn : b.1 = ((b.1.toNat : Nat) : Int) := by omega
      have hmul : ys.length * b.2.length ≤ choices (bs.take (i + 1)) := by
        rw [takeSucc hb, choices_add]
        exact Nat.mul_le_mul hlen (by omega)
      have hch2 := Nat.le_trans (choices_take_le bs (i + 1)) S.many
      refine ⟨p, [_, _], rfl, Same.seqTT s2 tp, rfl, _, _, rfl, _, _, rfl, rfl, ?_⟩
      refine ⟨_, rfl, _, rfl, _, rfl, _, rfl, c, ys, b.2, wh (bs.take i), b.1.toNat, l, by rw [← hmn]; rfl, lstOf ec, L.stay (.same s2), hp, hw, by omega, by omega, fun z hz => let ⟨q1, q2, _⟩ := (C.mem z).mp hz; ⟨q1, q2⟩,
        fun r hr => ⟨hB.lot.ge r hr, by have := hB.lot.lt r hr; omega⟩, ?_, fun D H3 g t bk w' s3 Mt hlcm eD => ?_⟩
      · omega
      · rw [← hmn] at Mt
        refine ⟨_, rfl, _, rfl, wh (bs.take i), b.1.toNat, by rw [← hmn], Nat.lt_trans hw (by decide), small5000 (by omega), ?_⟩
        have ew : wh (bs.take (i + 1)) = Nat.lcm (wh (bs.take i)) b.1.toNat := by
          rw [takeSucc hb, wh_add, show b.1.natAbs = b.1.toNat by omega]
        refine ⟨D, joinL g t bk (wh (bs.take i) : Nat) ys b.2, some (.int b.1), some l, ?_, eD, ?_, ?_, s2.trans s3⟩
        · rw [ew]
          rfl
        · rw [takeSucc hb]
          refine C.add Mt hB.lot ?_
          rw [← takeSucc hb, ew]
          exact hlcm
        · rw [takeSucc hb, choices_add]
          have j1 := joinL_len g t bk (wh (bs.take i) : Nat) ys b.2
          have j2 : ys.length * b.2.length ≤ choices (bs.take i) * max 1 b.2.length := Nat.mul_le_mul hlen (by omega)
          omega
    · rintro σ H2 ⟨c, ys, y1, y2, rfl, ec, C, hlen, s2⟩
      rw [nx, List.take_length] at C
      refine ⟨_, rfl, c, ys, rfl, lstOf ec, fun zs p pz sz np => ?_⟩
      have e := C.sorted pz sz
      subst e
      refine ⟨p, _, rfl, .inl ⟨lstOf upd_same, fun t nt => ?_⟩⟩
      exact q t _ ((s2.trans (same_upd np)).trans (same_upd nt)) upd_same
end

end R
namespace R
open PySem PySem.Spec PyProof.Rows L2
def sp_p_check_bars (K : PySem.W.Frag) : Sp := fun vs H Q _ => ∃ (v : V) (bs : List Bar), vs = [v] ∧ BarsAt K H v bs ∧ PreOk bs ∧ ∀ H', Same H H' → Q .non H'
section
variable {P : Program} {w : World} {K : PySem.W.Frag} {mg : Str → Option Value} {base : Heap}
theorem ok_p_check_bars (T : Txt K mg) : FnOk P w K mg base CX0 7 T.f_p_check_bars T.fd_p_check_bars ["bars"] (sp_p_check_bars K) := by
  refine T.F_p_check_bars.ok sc_p_check_bars (fun vs H Q E h => ?_) (fun cdv A outer s H vs Q E hr h => ?_)
  · obtain ⟨v, bs, rfl, _⟩ := h
    rfl
  · obtain ⟨v, bs, rfl, B, S, q⟩ := h
    refine ⟨_, (pss_cons (ps_if (PW.pt (pw_or (pt_not (pt_val (pe_callB call_isi (by rfl) T.z_isinstance (by decide +kernel) (pa_cons (pv 0) (pa_cons (pe_bltn (v := .ty "tuple") (by rfl) T.z_tuple (by decide +kernel) rfl) pa_nil))))) (pw_or1 (pt_cmpR op_gt (pe_callB call_len_seq (by rfl) T.z_len (by decide +kernel) (pa_cons (pv 0) pa_nil)) (pe_glob (v := .int 6) (by rfl) T.c_MOST_BARS.choose_spec ⟨_, rfl⟩) (nomark _))))) (pss_one ps_never) pss_nil)
      (pss_one (ps_for PassesOwn.never rfl (pi_enT (by rfl) T.z_enumerate (pa_cons (pv 0) pa_nil)) (pg_tup (by rfl) (pgs_cons (pg_name (i := 1) sc_p_check_bars.nd rfl (by first | exact .inl rfl | exact .inr rfl)) (pgs_cons (pg_name (i := 2) sc_p_check_bars.nd rfl (by first | exact .inl rfl | exact .inr rfl)) pgs_nil))) (pss_one (ps_if (pt_not (pt_val (pe_call (ok_p_is_bar T) (hr.mono (by decide)) (by rfl) T.g_p_is_bar T.F_p_is_bar.kp T.b_p_is_bar .nil pass0 (pa_cons (pv 2) pa_nil)))) (pss_one ps_never) pss_nil))))), ?_⟩
    obtain ⟨a, xs, rfl, ta, nx, hx⟩ := B.ex
    refine ⟨_, rfl, _, _, _, _, _, rfl, .ty "tuple", tyTup ta, kit_ty (r := true) (by decide +kernel), true, rfl, iteF ?_⟩
    refine ⟨_, rfl, a, _, rfl, .inr ta, _, _, rfl, rfl, _, rfl, ite2 (fun e => ?_) (fun e => ?_)⟩
    · have e' := of_decide_eq_true e
      have := S.six
      omega
    · refine ⟨_, rfl, a, xs, rfl, ta, for_it (walk_enT (K := K) (a := a) (xs := xs)) (fun i σ H2 => ∃ (x y : Option V), σ = [some (.ref a), x, y] ∧ Same H H2) ⟨none, none, rfl, Same.refl _⟩ (fun i σ H2 _ ⟨_, _, _, s2⟩ => Same.seqTT s2 ta) ?_ ?_⟩
      · rintro i y σ H2 H3 hi ⟨x1, x2, rfl, s2⟩ ⟨p, z1, z2, rfl, np, rfl, e1, e2⟩
        have s3 := s2.trans (same_upd np (o := .tup [z1, z2]))
        have hl : i < bs.length := by omega
        have hb : bs[i]? = some bs[i] := List.getElem?_eq_getElem hl
        refine ⟨p, _, rfl, tupOf upd_same, rfl, _, _, rfl, _, _, rfl, rfl, ?_⟩
        obtain ⟨a2, x2, rfl, ta2, ⟨c2, rfl, tc2⟩⟩ := ((hx i z2 _ e2 hb).stay (.same s3)).ex
        refine ⟨_, rfl, _, rfl, .inr ⟨a2, _, rfl, ta2, .inr ⟨_, _, rfl, .inl ⟨_, rfl⟩, .inr ⟨c2, _, rfl, tc2, itmInts _, true, congrArg V.bl (S.bar _ (List.getElem_mem hl)).bar, iteF ?_⟩⟩⟩⟩
        exact ⟨_, _, rfl, s3⟩
      · rintro σ H2 ⟨x1, x2, rfl, s2⟩
        exact q _ s2
end

end R
namespace R
open PySem PySem.Spec PyProof.Rows L2
def sp_p_whole_of (K : PySem.W.Frag) : Sp := fun vs H Q _ => ∃ (v : V) (bs : List Bar), vs = [v] ∧ BarsAt K H v bs ∧ SvOk bs ∧ Q (.int (wh bs : Nat)) H
section
variable {P : Program} {w : World} {K : PySem.W.Frag} {mg : Str → Option Value} {base : Heap}
theorem ok_p_whole_of (T : Txt K mg) : FnOk P w K mg base CX0 2 T.f_p_whole_of T.fd_p_whole_of ["bars"] (sp_p_whole_of K) := by
  refine T.F_p_whole_of.ok sc_p_whole_of (fun vs H Q E h => ?_) (fun cdv A outer s H vs Q E hr h => ?_)
  · obtain ⟨v, bs, rfl, _⟩ := h
    rfl
  · obtain ⟨v, bs, rfl, B, S, q⟩ := h
    refine ⟨_, (pss_cons (ps_set (i := 1) sc_p_whole_of.nd rfl (by first | exact .inl rfl | exact .inr rfl) pe_int)
      (pss_cons (ps_for PassesOwn.never rfl (pi_tup (pv 0)) (pg_tup (by rfl) (pgs_cons (pg_name (i := 2) sc_p_whole_of.nd rfl (by first | exact .inl rfl | exact .inr rfl)) (pgs_cons (pg_name (i := 3) sc_p_whole_of.nd rfl (by first | exact .inl rfl | exact .inr rfl)) pgs_nil))) (pss_one (ps_set (i := 1) sc_p_whole_of.nd rfl (by first | exact .inl rfl | exact .inr rfl) (pe_callBfun cr_lcmW (by rfl) T.g_lcm (pa_cons (pv 1) (pa_cons (pv 2) pa_nil))))))
      (pss_cons (ps_if (pt_cmpR op_gt (pv 1) (pe_glob (v := .int 1000000000000000000000000000000) (by rfl) T.c_GREATEST_WHOLE.choose_spec ⟨_, rfl⟩) (nomark _)) (pss_one ps_never) pss_nil)
      (pss_one (ps_ret (pv 1)))))), ?_⟩
    obtain ⟨a, xs, rfl, ta, nx, hx⟩ := B.ex
    have M := S.mods
    refine ⟨_, rfl, a, rfl, ⟨_, ta⟩, for_tup (K := K) (a := a) (xs := xs) (fun i σ H2 => ∃ x y : Option V, σ = [some (.ref a), some (.int (wh (bs.take i) : Nat)), x, y] ∧ H2 = H)
      ⟨none, none, rfl, rfl⟩ (fun i σ H2 _ ⟨_, _, _, e⟩ => by rw [e]; exact ta) ?_ ?_⟩
    · rintro i x σ H2 hi ⟨y1, y2, rfl, rfl⟩
      have hl : i < bs.length := by
        have := (List.getElem?_eq_some_iff.mp hi).1
        omega
      have hb : bs[i]? = some bs[i] := List.getElem?_eq_getElem hl
      obtain ⟨p, l, rfl, tp, _⟩ := (hx i x _ hi hb).ex
      have hm := M.mod _ (List.getElem_mem hl)
      generalize bs[i] = b at hb tp hm
      have hw := (M.take i).lt
      have hmn : b.1 = ((b.1.toNat : Nat) : Int) := by omega
      refine ⟨p, [_, _], rfl, tp, rfl, _, _, rfl, _, _, rfl, rfl, ?_⟩
      refine ⟨_, rfl, _, rfl, wh (bs.take i), b.1.toNat, by rw [← hmn], Nat.lt_trans hw (by decide), small5000 (by omega), ?_⟩
      refine ⟨some (.int b.1), some l, ?_, rfl⟩
      rw [takeSucc hb, wh_add, show b.1.natAbs = b.1.toNat by omega]
      rfl
    · rintro σ H2 ⟨y1, y2, rfl, rfl⟩
      rw [nx, List.take_length]
      refine ⟨_, rfl, _, _, rfl, rfl, _, rfl, ite2 (fun e => ?_) (fun e => ?_)⟩
      · have e' := of_decide_eq_true e
        have := S.great
        omega
      · exact ⟨_, rfl, q⟩
end

end R
namespace R
open PySem PySem.Spec PyProof.Rows L2
def sp_p_check_choices (K : PySem.W.Frag) : Sp := fun vs H Q _ => ∃ (v : V) (bs : List Bar), vs = [v] ∧ BarsAt K H v bs ∧ SvOk bs ∧ Q .non H
section
variable {P : Program} {w : World} {K : PySem.W.Frag} {mg : Str → Option Value} {base : Heap}
theorem ok_p_check_choices (T : Txt K mg) : FnOk P w K mg base CX0 2 T.f_p_check_choices T.fd_p_check_choices ["bars"] (sp_p_check_choices K) := by
  refine T.F_p_check_choices.ok sc_p_check_choices (fun vs H Q E h => ?_) (fun cdv A outer s H vs Q E hr h => ?_)
  · obtain ⟨v, bs, rfl, _⟩ := h
    rfl
  · obtain ⟨v, bs, rfl, B, S, q⟩ := h
    refine ⟨_, (pss_cons (ps_set (i := 1) sc_p_check_choices.nd rfl (by first | exact .inl rfl | exact .inr rfl) pe_int)
      (pss_cons (ps_for PassesOwn.never rfl (pi_tup (pv 0)) (pg_tup (by rfl) (pgs_cons (pg_name (i := 2) sc_p_check_choices.nd rfl (by first | exact .inl rfl | exact .inr rfl)) (pgs_cons (pg_name (i := 3) sc_p_check_choices.nd rfl (by first | exact .inl rfl | exact .inr rfl)) pgs_nil))) (pss_one (ps_set (i := 1) sc_p_check_choices.nd rfl (by first | exact .inl rfl | exact .inr rfl) (pe_op op_mulW (pv 1) (pe_callB (call_max2 rfl) (by rfl) T.z_max (by decide +kernel) (pa_cons pe_int (pa_cons (pe_callB call_len_seq (by rfl) T.z_len (by decide +kernel) (pa_cons (pv 3) pa_nil)) pa_nil)))))))
      (pss_one (ps_if (pt_cmpR op_gt (pv 1) (pe_glob (v := .int 2000) (by rfl) T.c_MOST_CHOICES.choose_spec ⟨_, rfl⟩) (nomark _)) (pss_one ps_never) pss_nil)))), ?_⟩
    obtain ⟨a, xs, rfl, ta, nx, hx⟩ := B.ex
    refine ⟨_, rfl, a, rfl, ⟨_, ta⟩, for_tup (K := K) (a := a) (xs := xs) (fun i σ H2 => ∃ x y : Option V, σ = [some (.ref a), some (.int (choices (bs.take i) : Nat)), x, y] ∧ H2 = H)
      ⟨none, none, rfl, rfl⟩ (fun i σ H2 _ ⟨_, _, _, e⟩ => by rw [e]; exact ta) ?_ ?_⟩
    · rintro i x σ H2 hi ⟨y1, y2, rfl, rfl⟩
      have hl : i < bs.length := by
        have := (List.getElem?_eq_some_iff.mp hi).1
        omega
      have hb : bs[i]? = some bs[i] := List.getElem?_eq_getElem hl
      obtain ⟨p, l, rfl, tp, ⟨c, rfl, tc⟩⟩ := (hx i x _ hi hb).ex
      have hm := (S.bar _ (List.getElem_mem hl)).lot.few
      have hch := Nat.le_trans (choices_take_le bs i) S.many
      generalize bs[i] = b at hb tp hm tc
      refine ⟨p, [_, _], rfl, tp, rfl, _, _, rfl, _, _, rfl, rfl, ?_⟩
      refine ⟨_, rfl, _, rfl, c, _, rfl, .inr tc, _, _, rfl, _, _, rfl, rfl, ?_, ?_⟩
      · rw [List.length_map, maxIte]
        exact wide_mul (a := 20) (b := 20) (by rw [Int.natAbs_natCast]; omega) (by rw [Int.natAbs_natCast]; omega) (by decide) (by decide) (by decide)
      · refine ⟨some (.int b.1), some (.ref c), ?_, rfl⟩
        rw [List.length_map, maxIte, takeSucc hb, choices_add, Int.natCast_mul]
        rfl
    · rintro σ H2 ⟨y1, y2, rfl, rfl⟩
      rw [nx, List.take_length]
      refine ⟨_, rfl, _, _, rfl, rfl, _, rfl, ite2 (fun e => ?_) (fun e => ?_)⟩
      · have e' := of_decide_eq_true e
        have := S.many
        omega
      · exact q
end

end R
namespace R
open PySem PySem.Spec PyProof.Rows L2
/-! ## the sieve as an object -/
theorem putF_len (f : Str) (v : V) : ∀ fs : List (Str × V), (putF f v fs).length ≤ fs.length + 1
  | [] => Nat.le_refl _
  | (g, x) :: r => by
    show (if g = f then (g, v) :: r else (g, x) :: putF f v r).length ≤ r.length + 1 + 1
    split
    · exact Nat.le_succ _
    · exact Nat.succ_le_succ (putF_len f v r)
theorem nBW : ¬ (("_bars" : Str) = "_whole") := by decide +kernel
theorem nBC : ¬ (("_bars" : Str) = "_classes") := by decide +kernel
theorem nWC : ¬ (("_whole" : Str) = "_classes") := by decide +kernel
/-- the attributes in the order in which they are stored -/
def flds (v : V) (n : Int) (t : V) : List (Str × V) := putF "_classes" t (putF "_whole" (.int n) (putF "_bars" v []))
theorem flds_bars (v : V) (n : Int) (t : V) : (flds v n t).lookup ("_bars" : Str) = some v := by
  unfold flds
  rw [lookup_putF, if_neg nBC, lookup_putF, if_neg nBW, lookup_putF, if_pos rfl]
theorem flds_whole (v : V) (n : Int) (t : V) : (flds v n t).lookup ("_whole" : Str) = some (.int n) := by
  unfold flds
  rw [lookup_putF, if_neg nWC, lookup_putF, if_pos rfl]
theorem flds_classes (v : V) (n : Int) (t : V) : (flds v n t).lookup ("_classes" : Str) = some t := by
  unfold flds
  rw [lookup_putF, if_pos rfl]
/-- a Sieve of the bars bs stands at p: v its bars, t its classes -/
structure SvAt (K : PySem.W.Frag) (C : Addr) (H : Hp) (p : Addr) (v : V) (t : Addr) (bs : List Bar) : Prop where
  ob : ∃ dx, H p = some (.ins C dx (flds v (wh bs : Nat) (.ref t)))
  bars : BarsAt K H v bs
  cls : SqT K H t ((cls bs).map V.int)
  ok : SvOk bs
theorem SvAt.stay {K : PySem.W.Frag} {C : Addr} {H H' : Hp} {p : Addr} {v : V} {t : Addr} {bs : List Bar} (h : SvAt K C H p v t bs) (s : Same H H') : SvAt K C H' p v t bs :=
  ⟨let ⟨dx, e⟩ := h.ob; ⟨dx, s _ _ e⟩, h.bars.stay (.same s), Same.seqTT s h.cls, h.ok⟩
theorem SvAt.keep {K : PySem.W.Frag} {C : Addr} {H H' : Hp} {p r : Addr} {v : V} {t : Addr} {bs : List Bar} {L : Addr} (h : SvAt K C H p v t bs) (R : RowAt H r L) (s : Kp r H H') : SvAt K C H' p v t bs := by
  obtain ⟨dx, e⟩ := h.ob
  obtain ⟨zs, er⟩ := R.lst
  refine ⟨⟨dx, s _ _ (ne_of e er (by intro z; cases z)) e⟩, h.bars.stay (R.tups s), R.tups s _ _ h.cls, h.ok⟩
section
variable {P : Program} {w : World} {K : PySem.W.Frag} {mg : Str → Option Value} {base : Heap}
def sp_get (K : PySem.W.Frag) (C : Addr) (f : V → Addr → List Bar → V) : Sp := fun vs H Q _ => ∃ (p : Addr) (v : V) (t : Addr) (bs : List Bar), vs = [.ref p] ∧ SvAt K C H p v t bs ∧ Q (f v t bs) H
theorem ok_m_Sieve_bars (T : Txt K mg) : FnOk P w K mg base CX0 2 T.f_m_Sieve_bars T.fd_m_Sieve_bars ["self"] (sp_get K T.C fun v _ _ => v) := by
  refine T.F_m_Sieve_bars.ok sc_m_Sieve_bars (fun vs H Q E h => ?_) (fun cdv A outer s H vs Q E hr h => ?_)
  · obtain ⟨p, v, t, bs, rfl, _⟩ := h
    rfl
  · obtain ⟨p, v, t, bs, rfl, S, q⟩ := h
    obtain ⟨dx, e⟩ := S.ob
    exact ⟨_, (pss_one (ps_ret (pe_fld (pv 0) rfl))), _, rfl, p, T.C, dx, _, _, rfl, e, T.cl, T.n_bars, flds_bars _ _ _, q⟩
theorem ok_m_Sieve_whole (T : Txt K mg) : FnOk P w K mg base CX0 2 T.f_m_Sieve_whole T.fd_m_Sieve_whole ["self"] (sp_get K T.C fun _ _ bs => .int (wh bs : Nat)) := by
  refine T.F_m_Sieve_whole.ok sc_m_Sieve_whole (fun vs H Q E h => ?_) (fun cdv A outer s H vs Q E hr h => ?_)
  · obtain ⟨p, v, t, bs, rfl, _⟩ := h
    rfl
  · obtain ⟨p, v, t, bs, rfl, S, q⟩ := h
    obtain ⟨dx, e⟩ := S.ob
    exact ⟨_, (pss_one (ps_ret (pe_fld (pv 0) rfl))), _, rfl, p, T.C, dx, _, _, rfl, e, T.cl, T.n_whole, flds_whole _ _ _, q⟩
theorem ok_m_Sieve_classes (T : Txt K mg) : FnOk P w K mg base CX0 2 T.f_m_Sieve_classes T.fd_m_Sieve_classes ["self"] (sp_get K T.C fun _ t _ => .ref t) := by
  refine T.F_m_Sieve_classes.ok sc_m_Sieve_classes (fun vs H Q E h => ?_) (fun cdv A outer s H vs Q E hr h => ?_)
  · obtain ⟨p, v, t, bs, rfl, _⟩ := h
    rfl
  · obtain ⟨p, v, t, bs, rfl, S, q⟩ := h
    obtain ⟨dx, e⟩ := S.ob
    exact ⟨_, (pss_one (ps_ret (pe_fld (pv 0) rfl))), _, rfl, p, T.C, dx, _, _, rfl, e, T.cl, T.n_classes, flds_classes _ _ _, q⟩

end
/-! ## data -/
def okD (n : Nat) (d : PyData) : Prop := d.canLay0 = true ∧ d.depth ≤ n
theorem okD.shaped {n : Nat} {d : PyData} (h : okD n d) (hn : n ≤ 64) : SeqAt.shaped d = true := by
  unfold SeqAt.shaped
  rw [h.1, decide_eq_true (Nat.le_trans h.2 hn)]
  rfl
theorem okD.eqv {n : Nat} {d : PyData} (h : okD n d) : PyData.eqv d d = true := SeqAt.eqv_refl d h.1
theorem okD.int (i : Int) : okD 0 (.int i) := ⟨rfl, Nat.le_refl _⟩
theorem okD.all {n : Nat} : ∀ {ds : List PyData}, (∀ d ∈ ds, okD n d) → PyData.canLayAll0 ds = true ∧ PyData.depthAll ds ≤ n
  | [], _ => ⟨rfl, Nat.zero_le _⟩
  | d :: ds, h => by
    obtain ⟨a, b⟩ := h d List.mem_cons_self
    obtain ⟨c, e⟩ := okD.all fun x hx => h x (List.mem_cons_of_mem d hx)
    refine ⟨?_, ?_⟩
    · rw [PyData.canLayAll0, a, c]
      rfl
    · rw [PyData.depthAll]
      omega
theorem okD.tup {n : Nat} {ds : List PyData} (h : ∀ d ∈ ds, okD n d) : okD (n + 1) (.tuple ds) := by
  obtain ⟨a, b⟩ := okD.all h
  refine ⟨?_, ?_⟩
  · rw [PyData.canLay0]
    exact a
  · rw [PyData.depth]
    omega
theorem okD.lst {n : Nat} {ds : List PyData} (h : ∀ d ∈ ds, okD n d) : okD (n + 1) (.list ds) := by
  obtain ⟨a, b⟩ := okD.all h
  refine ⟨?_, ?_⟩
  · rw [PyData.canLay0]
    exact a
  · rw [PyData.depth]
    omega
theorem dpInts {K : PySem.W.Frag} {H : Hp} : ∀ l : List Int, DpAll K H (l.map V.int) (l.map PyData.int)
  | [] => .nil
  | i :: l => .cons (.int i) (dpInts l)
theorem dpTup {K : PySem.W.Frag} {H : Hp} {a : Addr} {l : List Int} (h : SqT K H a (l.map V.int)) : Dp K H (.ref a) (.tuple (l.map PyData.int)) := .tup h (dpInts l)
theorem dpLst {K : PySem.W.Frag} {H : Hp} {a : Addr} {l : List Int} (h : SqL K H a (l.map V.int)) : Dp K H (.ref a) (.list (l.map PyData.int)) := .lst h (dpInts l)
theorem okInts (l : List Int) : ∀ d ∈ l.map PyData.int, okD 0 d := fun d h => by
  obtain ⟨i, _, rfl⟩ := List.mem_map.mp h
  exact .int i
theorem eqvNil (l : List Int) : PyData.eqv (.list (l.map PyData.int)) (.list []) = decide (l = []) := by
  rw [PyData.eqv]
  cases l with
  | nil => rfl
  | cons x r => rfl
theorem eqvNilT (l : List Int) : PyData.eqv (.tuple (l.map PyData.int)) (.tuple []) = decide (l = []) := by
  rw [PyData.eqv]
  cases l with
  | nil => rfl
  | cons x r => rfl

end R
namespace R
open PySem PySem.Spec PyProof.Rows L2
def sp_m_Sieve_init (K : PySem.W.Frag) (C : Addr) : Sp := fun vs H Q _ => ∃ (p dx : Addr) (v : V) (bs : List Bar), vs = [.ref p, v] ∧ H p = some (.ins C dx []) ∧ BarsAt K H v bs ∧ SvOk bs ∧
  ∀ (t : Addr) (H' : Hp), (∀ b o, b ≠ p → H b = some o → H' b = some o) → SvAt K C H' p v t bs → Q .non H'
section
variable {P : Program} {w : World} {K : PySem.W.Frag} {mg : Str → Option Value} {base : Heap}
theorem ok_m_Sieve_init (T : Txt K mg) : FnOk P w K mg base CX0 8 T.f_m_Sieve_init T.fd_m_Sieve_init ["self", "bars"] (sp_m_Sieve_init K T.C) := by
  refine T.F_m_Sieve_init.ok sc_m_Sieve_init (fun vs H Q E h => ?_) (fun cdv A outer s H vs Q E hr h => ?_)
  · obtain ⟨p, dx, v, bs, rfl, _⟩ := h
    rfl
  · obtain ⟨p, dx, v, bs, rfl, hp, B, S, q⟩ := h
    refine ⟨_, (pss_cons (ps_expr (pe_call (ok_p_check_bars T) (hr.mono (by decide)) (by rfl) T.g_p_check_bars T.F_p_check_bars.kp T.b_p_check_bars .nil pass0 (pa_cons (pv 1) pa_nil)))
      (pss_cons (ps_fld (pv 0) (pv 1) rfl)
      (pss_cons (ps_fld (pv 0) (pe_call (ok_p_whole_of T) (hr.mono (by decide)) (by rfl) T.g_p_whole_of T.F_p_whole_of.kp T.b_p_whole_of .nil pass0 (pa_cons (pv 1) pa_nil)) rfl)
      (pss_cons (ps_expr (pe_call (ok_p_check_choices T) (hr.mono (by decide)) (by rfl) T.g_p_check_choices T.F_p_check_choices.kp T.b_p_check_choices .nil pass0 (pa_cons (pv 1) pa_nil)))
      (pss_one (ps_fld (pv 0) (pe_call (ok_p_classes_of T) (hr.mono (by decide)) (by rfl) T.g_p_classes_of T.F_p_classes_of.kp T.b_p_classes_of .nil pass0 (pa_cons (pv 1) pa_nil)) rfl)))))), ?_⟩
    have st : ∀ {H1 H2 : Hp} {fs fs' : List (Str × V)}, H1 p = some (.ins T.C dx fs) → TupsStay K H1 (upd H1 p (.ins T.C dx fs')) := fun {H1 H2 fs fs'} e a xs h => by
      rcases h with (h | ⟨o, h⟩) | h
      · exact .inl (.inl (by rw [upd_ne (ne_of h e (by intro z; cases z))]; exact h))
      · exact .inl (.inr ⟨o, by rw [upd_ne (ne_of h e (by intro z; cases z))]; exact h⟩)
      · exact .inr h
    refine ⟨_, rfl, v, bs, rfl, B, S.pre, fun H1 s1 => ?_⟩
    have p1 := s1 _ _ hp
    have B1 := B.stay (.same s1)
    refine ⟨_, rfl, _, rfl, p, T.C, dx, [], rfl, p1, T.cl, T.n_bars, (by show 0 < 1000; decide), ?_⟩
    have B2 : BarsAt K _ v bs := B1.stay (st (H2 := H1) (fs' := putF "_bars" v []) p1)
    refine ⟨_, rfl, v, bs, rfl, B2, S, _, rfl, p, T.C, dx, _, rfl, upd_same, T.cl, T.n_whole, (by show 1 < 1000; decide), ?_⟩
    have B3 := B2.stay (st (H2 := H1) (fs' := putF "_whole" (.int (wh bs : Nat)) (putF "_bars" v [])) upd_same)
    refine ⟨_, rfl, v, bs, rfl, B3, S, ?_⟩
    refine ⟨_, rfl, v, bs, rfl, B3, S, fun t H4 s4 e4 => ?_⟩
    have p4 := s4 _ _ (upd_same (H := upd H1 p (.ins T.C dx (putF "_bars" v []))) (a := p) (o := .ins T.C dx (putF "_whole" (.int (wh bs : Nat)) (putF "_bars" v []))))
    refine ⟨_, rfl, p, T.C, dx, _, rfl, p4, T.cl, T.n_classes, ?_, ?_⟩
    · have l1 := putF_len "_whole" (.int (wh bs : Nat)) (putF "_bars" v [])
      have l2 := putF_len "_bars" v []
      have l3 : ([] : List (Str × V)).length = 0 := rfl
      omega
    · have B4 := B3.stay (.same s4)
      refine q t _ (fun b o n e => ?_) ⟨⟨dx, upd_same⟩, B4.stay (st (H2 := H1) p4), st (H2 := H1) p4 _ _ (tupOf e4), S⟩
      rw [upd_ne n]
      refine s4 _ _ ?_
      rw [upd_ne n, upd_ne n]
      exact s1 _ _ e
/-- Sieve(bars) at a new place x -/
theorem make_sieve {C : Addr} {H : Hp} {v : V} {bs : List Bar} {Q : VK} {E : XK} {x dx : Addr} (B : BarsAt K H v bs) (S : SvOk bs) (nx : H x = none) (ndx : H dx = none)
    (k : ∀ t H', Same H H' → SvAt K C H' x v t bs → Q .non H') : sp_m_Sieve_init K C (.ref x :: ([v] ++ [])) (upd (upd H dx (.own x)) x (.ins C dx [])) Q E := by
  have s0 : Same H (upd (upd H dx (.own x)) x (.ins C dx [])) := samePut (same_upd ndx) nx
  exact ⟨x, dx, v, bs, rfl, upd_same, B.stay (.same s0), S, fun t H' s1 A => k t H' (fun b o e => s1 b o (ne_of_none e nx) (s0 b o e)) A⟩
end

end R
namespace R
open PySem PySem.Spec PyProof.Rows L2
/-! ## the law -/
def sp_law (K : PySem.W.Frag) : Sp := fun vs H Q _ => ∃ (a : Addr) (ns : List Int), vs = [.ref a] ∧ SqL K H a (ns.map V.int) ∧ ns.length ≤ 63 ∧ ∀ H', Q (.bl true) H'
theorem powTop {bs : List Bar} {most top : Nat} (D : Drawn most top bs) (h6 : most ≤ 6) (ht : top ≤ 60) : wh bs ≤ top ^ bs.length := by
  have h : ∀ bs : List Bar, (∀ b ∈ bs, b.1.natAbs ≤ top) → wh bs ≤ top ^ bs.length := by
    refine snocInd (fun _ => by rw [List.length_nil, Nat.pow_zero]; decide) fun bs b ih h => ?_
    rw [wh_add, List.length_append]
    exact Nat.le_trans (lcm_le_mul _ _) (Nat.mul_le_mul (ih fun c hc => h c (List.mem_append_left _ hc)) (h b (List.mem_append_right _ (List.mem_singleton.mpr rfl))))
  exact h bs fun b hb => by
    have := D.bar b hb
    omega
theorem powLe {bs : List Bar} {most top N : Nat} (D : Drawn most top bs) (h6 : most ≤ 6) (h1 : 1 ≤ top) (ht : top ≤ 60) (hN : top ^ most ≤ N) : wh bs ≤ N :=
  Nat.le_trans (powTop D h6 ht) (Nat.le_trans (Nat.pow_le_pow_right h1 D.len) hN)
theorem nilOk : SvOk [] := ⟨by decide, fun b h => by simp at h, by decide, by decide⟩
theorem clsNil : cls [] = [0] := rfl

end R
namespace R
open PySem PySem.Spec PyProof.Rows L2
/-! ## walks within a comprehension's block, told over the written part alone -/
theorem pi_tupK {X : Cx} {K : PySem.W.Frag} {tg e : Expr} {te : TE} (hK : X.K = K) (he : PE X e te) : PI X tg e (iTup K te) := by
  subst hK
  exact pi_tup he
theorem pi_listK {X : Cx} {K : PySem.W.Frag} {tg e : Expr} {te : TE} (hK : X.K = K) (he : PE X e te) : PI X tg e (iList K te) := by
  subst hK
  exact pi_list he
def rTupOf (K : PySem.W.Frag) : List V → Hp → VK → Prop := fun vs H Q => ∃ p ys, vs = [.ref p] ∧ ((SqL K H p ys ∧ ∀ l, H l = none → Q (.ref l) (upd H l (.tup ys))) ∨ (SqT K H p ys ∧ Q (.ref p) H))

end R
namespace R
open PySem PySem.Spec PyProof.Rows L2
/-! ## bars as data -/
/-- bars + (a bar,) -/
theorem catBar {K : PySem.W.Frag} {H : Hp} {v : V} {bs : List Bar} {b : Bar} {p p2 : Addr} {Q : V → Hp → Prop} (B : BarsAt K H v bs) (few : bs.length ≤ 1000) (bar : BarAt K H (.ref p) b) (t2 : SqT K H p2 [.ref p])
    (q : ∀ y H', Same H H' → BarsAt K H' y (bs ++ [b]) → Q y H') : rCatA K v (.ref p2) H Q := by
  obtain ⟨a, xs, rfl, tb, nb, hb⟩ := B.ex
  refine ⟨a, p2, xs, [.ref p], rfl, rfl, tb, t2, sizeOk (by show xs.length + 1 ≤ 100000; omega), fun e => ?_, fun _ e => absurd e (List.cons_ne_nil _ _), fun _ _ q' nq' => ?_⟩
  · subst e
    exact q _ _ (Same.refl _) (BarsAt.add (xs := []) t2 nb (fun j x d h1 h2 => by simp at h1) bar)
  · exact q _ _ (same_upd nq') (BarsAt.add (tupOf upd_same) nb (fun j x d h1 h2 => (hb j x d h1 h2).stay (.same (same_upd nq'))) (bar.stay (.same (same_upd nq'))))
def barD (b : Bar) : PyData := .tuple [.int b.1, .tuple (b.2.map PyData.int)]
theorem dpBar {K : PySem.W.Frag} {H : Hp} {v : V} {b : Bar} (h : BarAt K H v b) : Dp K H v (barD b) := by
  obtain ⟨a, x, rfl, ta, ⟨c, rfl, tc⟩⟩ := h.ex
  exact .tup ta (.cons (.int _) (.cons (dpTup tc) .nil))
theorem dpBars {K : PySem.W.Frag} {H : Hp} {v : V} {bs : List Bar} (h : BarsAt K H v bs) : Dp K H v (.tuple (bs.map barD)) := by
  obtain ⟨a, xs, rfl, ta, nx, hx⟩ := h.ex
  refine .tup ta ?_
  clear ta h
  induction xs generalizing bs with
  | nil =>
    cases bs with
    | nil => exact .nil
    | cons b r => cases nx
  | cons x xs ih =>
    cases bs with
    | nil => cases nx
    | cons b r => exact .cons (dpBar (hx 0 x b rfl rfl)) (ih (Nat.succ.inj nx) fun i y d h1 h2 => hx (i + 1) y d h1 h2)
theorem okBars (bs : List Bar) : okD 3 (.tuple (bs.map barD)) := okD.tup fun d h => by
  obtain ⟨b, _, rfl⟩ := List.mem_map.mp h
  refine okD.tup fun d h => ?_
  rcases List.mem_cons.mp h with rfl | h
  · exact ⟨rfl, Nat.zero_le _⟩
  · rw [List.mem_singleton.mp h]
    exact okD.tup (okInts _)

end R
namespace R
open PySem PySem.Spec PyProof.Rows L2
/-! ## data that are equal -/
theorem eqvInts : ∀ xs ys : List Int, PyData.eqvAll (xs.map PyData.int) (ys.map PyData.int) = decide (xs = ys)
  | [], [] => by
    show PyData.eqvAll [] [] = _
    rw [PyData.eqvAll]
    rfl
  | [], y :: ys => by
    show PyData.eqvAll [] (_ :: _) = _
    rw [PyData.eqvAll] <;> first | rfl | simp
  | x :: xs, [] => by
    show PyData.eqvAll (_ :: _) [] = _
    rw [PyData.eqvAll] <;> first | rfl | simp
  | x :: xs, y :: ys => by
    show PyData.eqvAll (PyData.int x :: xs.map PyData.int) (PyData.int y :: ys.map PyData.int) = _
    rw [PyData.eqvAll, eqvInts xs ys, PyData.eqv]
    by_cases h : x = y
    · subst h
      by_cases h2 : xs = ys
      · subst h2
        simp
      · simp [h2]
    · simp [h]
theorem eqvIntsT (xs ys : List Int) : PyData.eqv (.tuple (xs.map PyData.int)) (.tuple (ys.map PyData.int)) = decide (xs = ys) := by
  rw [PyData.eqv]
  exact eqvInts xs ys
theorem eqvIntsL (xs ys : List Int) : PyData.eqv (.list (xs.map PyData.int)) (.list (ys.map PyData.int)) = decide (xs = ys) := by
  rw [PyData.eqv]
  exact eqvInts xs ys
theorem eqvBar (a b : Bar) : PyData.eqv (barD a) (barD b) = decide (a = b) := by
  obtain ⟨m, l⟩ := a
  obtain ⟨n, k⟩ := b
  show PyData.eqv (.tuple [.int m, .tuple (l.map PyData.int)]) (.tuple [.int n, .tuple (k.map PyData.int)]) = _
  rw [PyData.eqv, PyData.eqvAll, PyData.eqvAll, PyData.eqvAll, eqvIntsT, PyData.eqv]
  by_cases h : m = n
  · subst h
    by_cases h2 : l = k
    · subst h2
      simp
    · simp [h2]
  · simp [h]
theorem eqvBarsAll : ∀ xs ys : List Bar, PyData.eqvAll (xs.map barD) (ys.map barD) = decide (xs = ys)
  | [], [] => by
    show PyData.eqvAll [] [] = _
    rw [PyData.eqvAll]
    rfl
  | [], y :: ys => by
    show PyData.eqvAll [] (_ :: _) = _
    rw [PyData.eqvAll] <;> first | rfl | simp
  | x :: xs, [] => by
    show PyData.eqvAll (_ :: _) [] = _
    rw [PyData.eqvAll] <;> first | rfl | simp
  | x :: xs, y :: ys => by
    show PyData.eqvAll (barD x :: xs.map barD) (barD y :: ys.map barD) = _
    rw [PyData.eqvAll, eqvBarsAll xs ys, eqvBar]
    by_cases h : x = y
    · subst h
      by_cases h2 : xs = ys
      · subst h2
        simp
      · simp [h2]
    · simp [h]
theorem eqvBars (xs ys : List Bar) : PyData.eqv (.tuple (xs.map barD)) (.tuple (ys.map barD)) = decide (xs = ys) := by
  rw [PyData.eqv]
  exact eqvBarsAll xs ys

end R
namespace R
open PySem PySem.Spec PyProof.Rows L2
/-! ## numbers by two moduli -/
theorem bezout (a b : Nat) : ∃ x y : Int, (a : Int) * x + (b : Int) * y = (Nat.gcd a b : Nat) := by
  refine Nat.gcd.induction (P := fun a b => ∃ x y : Int, (a : Int) * x + (b : Int) * y = (Nat.gcd a b : Nat)) a b (fun n => ⟨0, 1, ?_⟩) fun m n hm ih => ?_
  · rw [Nat.gcd_zero_left, Int.mul_one, Int.mul_zero, Int.zero_add]
  · obtain ⟨x, y, e⟩ := ih
    refine ⟨y - ((n / m : Nat) : Int) * x, x, ?_⟩
    rw [Nat.gcd_rec m n, ← e]
    have d : (n : Int) = (m : Int) * ((n / m : Nat) : Int) + ((n % m : Nat) : Int) := by
      rw [← Int.natCast_mul, ← Int.natCast_add, Nat.div_add_mod]
    have d2 : (n : Int) * x = (m : Int) * (((n / m : Nat) : Int) * x) + ((n % m : Nat) : Int) * x := by
      rw [← Int.mul_assoc, ← Int.add_mul, ← d]
    rw [Int.mul_sub, d2]
    omega
theorem lcm_pos' {w m : Nat} (hw : 0 < w) (hm : 0 < m) : 0 < Nat.lcm w m := Nat.lcm_pos hw hm
theorem crt {w m : Nat} (hw : 0 < w) (hm : 0 < m) {a r : Int} (h : ((Nat.gcd w m : Nat) : Int) ∣ r - a) : ∃ x : Int, 0 ≤ x ∧ x < (Nat.lcm w m : Nat) ∧ x % (w : Int) = a % (w : Int) ∧ x % (m : Int) = r % (m : Int) := by
  obtain ⟨k, hk⟩ := h
  obtain ⟨u, v, e⟩ := bezout w m
  have hl : 0 < Nat.lcm w m := Nat.lcm_pos hw hm
  have dw : (w : Int) ∣ ((Nat.lcm w m : Nat) : Int) := Int.natCast_dvd_natCast.mpr (Nat.dvd_lcm_left w m)
  have dm : (m : Int) ∣ ((Nat.lcm w m : Nat) : Int) := Int.natCast_dvd_natCast.mpr (Nat.dvd_lcm_right w m)
  refine ⟨(a + (w : Int) * (u * k)) % ((Nat.lcm w m : Nat) : Int), Int.emod_nonneg _ (by omega), Int.emod_lt_of_pos _ (by omega), ?_, ?_⟩
  · rw [Int.emod_emod_of_dvd _ dw, Int.add_mul_emod_self_left]
  · rw [Int.emod_emod_of_dvd _ dm]
    refine Int.emod_eq_emod_iff_emod_sub_eq_zero.mpr (Int.emod_eq_zero_of_dvd ⟨-(v * k), ?_⟩)
    have e1 : (w : Int) * (u * k) + (m : Int) * (v * k) = r - a := by
      rw [← Int.mul_assoc, ← Int.mul_assoc, ← Int.add_mul, e, hk]
    rw [Int.mul_neg]
    omega
/-- two numbers below the least common multiple that leave the same by both are one -/
theorem crt_one {w m : Nat} {x y : Int} (hx : 0 ≤ x ∧ x < (Nat.lcm w m : Nat)) (hy : 0 ≤ y ∧ y < (Nat.lcm w m : Nat)) (h1 : x % (w : Int) = y % (w : Int)) (h2 : x % (m : Int) = y % (m : Int)) : x = y := by
  have d1 : (w : Int) ∣ x - y := Int.dvd_of_emod_eq_zero (Int.emod_eq_emod_iff_emod_sub_eq_zero.mp h1)
  have d2 : (m : Int) ∣ x - y := Int.dvd_of_emod_eq_zero (Int.emod_eq_emod_iff_emod_sub_eq_zero.mp h2)
  have d3 : ((Nat.lcm w m : Nat) : Int) ∣ x - y := by
    rw [← Int.dvd_natAbs] at d1 d2 ⊢
    exact Int.natCast_dvd_natCast.mpr (Nat.lcm_dvd (Int.natCast_dvd_natCast.mp d1) (Int.natCast_dvd_natCast.mp d2))
  rcases Int.lt_or_le x y with l | l
  · have := Int.le_of_dvd (a := ((Nat.lcm w m : Nat) : Int)) (b := y - x) (by omega) (by obtain ⟨c, e⟩ := d3; exact ⟨-c, by rw [Int.mul_neg]; omega⟩)
    omega
  · rcases Int.lt_or_le y x with l2 | l2
    · have := Int.le_of_dvd (a := ((Nat.lcm w m : Nat) : Int)) (b := x - y) (by omega) d3
      omega
    · omega
/-- the rest r by m is left by a fitting number just if some class agrees with it by the common measure -/
def agrees (bs : List Bar) (m : Nat) (r : Int) : Bool := (cls bs).any fun c => decide (c % ((Nat.gcd (wh bs) m : Nat) : Int) = r % ((Nat.gcd (wh bs) m : Nat) : Int))
theorem agrees_iff {bs : List Bar} {m : Nat} {r : Int} : agrees bs m r = true ↔ ∃ c ∈ cls bs, c % ((Nat.gcd (wh bs) m : Nat) : Int) = r % ((Nat.gcd (wh bs) m : Nat) : Int) := by
  unfold agrees
  rw [List.any_eq_true]
  constructor
  · rintro ⟨c, h1, h2⟩
    exact ⟨c, h1, of_decide_eq_true h2⟩
  · rintro ⟨c, h1, h2⟩
    exact ⟨c, h1, decide_eq_true h2⟩
theorem gcd_dvd_int (w m : Nat) : ((Nat.gcd w m : Nat) : Int) ∣ (w : Int) ∧ ((Nat.gcd w m : Nat) : Int) ∣ (m : Int) :=
  ⟨Int.natCast_dvd_natCast.mpr (Nat.gcd_dvd_left w m), Int.natCast_dvd_natCast.mpr (Nat.gcd_dvd_right w m)⟩
theorem emod_cls {bs : List Bar} (hp : 0 < wh bs) {x : Int} (f : fitsB bs x = true) : x % (wh bs : Int) ∈ cls bs := by
  refine (cls_is bs).mem _ |>.mpr ⟨Int.emod_nonneg _ (by omega), Int.emod_lt_of_pos _ (by omega), ?_⟩
  rw [fitsB_mod]
  exact f
theorem leaves_iff {bs : List Bar} {m : Nat} (hp : 0 < wh bs) (hm : 0 < m) {r : Int} :
    agrees bs m r = true ↔ ∃ x : Int, 0 ≤ x ∧ x < (Nat.lcm (wh bs) m : Nat) ∧ fitsB bs x = true ∧ x % (m : Int) = r % (m : Int) := by
  obtain ⟨g1, g2⟩ := gcd_dvd_int (wh bs) m
  rw [agrees_iff]
  constructor
  · rintro ⟨c, hc, e⟩
    obtain ⟨c1, c2, c3⟩ := ((cls_is bs).mem c).mp hc
    obtain ⟨x, x1, x2, x3, x4⟩ := crt hp hm (a := c) (r := r) (Int.dvd_of_emod_eq_zero (Int.emod_eq_emod_iff_emod_sub_eq_zero.mp e.symm))
    refine ⟨x, x1, x2, ?_, x4⟩
    rw [← fitsB_mod, x3, fitsB_mod]
    exact c3
  · rintro ⟨x, _, _, f, e⟩
    refine ⟨_, emod_cls hp f, ?_⟩
    rw [Int.emod_emod_of_dvd _ g1, ← Int.emod_emod_of_dvd x g2, e, Int.emod_emod_of_dvd _ g2]
/-- the rests of some classes by g -/
def modsTo (c : List Int) (g : Int) (n : Nat) : List Int := (c.take n).map (· % g)
theorem modsTo_succ {c : List Int} {g x : Int} {n : Nat} (h : c[n]? = some x) : modsTo c g (n + 1) = modsTo c g n ++ [x % g] := by
  unfold modsTo
  rw [takeSucc h, List.map_append]
  rfl

end R
namespace R
open PySem PySem.Spec PyProof.Rows L2
/-! ## lists of tuples of ints -/
/-- a list of tuples of ints -/
structure TupsAt (K : PySem.W.Frag) (H : Hp) (D : Addr) (LL : List (List Int)) : Prop where
  ex : ∃ ts : List Addr, H D = some (.lst (ts.map V.ref)) ∧ ts.length = LL.length ∧ ∀ (i : Nat) t l, ts[i]? = some t → LL[i]? = some l → SqT K H t (l.map V.int)
theorem TupsAt.stay {K : PySem.W.Frag} {H H' : Hp} {D : Addr} {LL : List (List Int)} (h : TupsAt K H D LL) (s : Same H H') : TupsAt K H' D LL :=
  let ⟨ts, e, n, f⟩ := h.ex
  ⟨ts, s _ _ e, n, fun i t l a b => Same.seqTT s (f i t l a b)⟩
theorem TupsAt.nil {K : PySem.W.Frag} {H : Hp} {D : Addr} (h : H D = some (.lst [])) : TupsAt K H D [] := ⟨[], h, rfl, fun i t l a _ => by simp at a⟩
theorem TupsAt.add {K : PySem.W.Frag} {H : Hp} {D t : Addr} {ts : List Addr} {LL : List (List Int)} {l : List Int} (e : H D = some (.lst (ts.map V.ref ++ [V.ref t]))) (n : ts.length = LL.length)
    (f : ∀ (i : Nat) t l, ts[i]? = some t → LL[i]? = some l → SqT K H t (l.map V.int)) (ht : SqT K H t (l.map V.int)) : TupsAt K H D (LL ++ [l]) := by
  refine ⟨ts ++ [t], by rw [e, List.map_append]; rfl, by rw [List.length_append, List.length_append, n]; rfl, fun i u k a b => ?_⟩
  by_cases h : i < ts.length
  · rw [List.getElem?_append_left h] at a
    rw [List.getElem?_append_left (by omega)] at b
    exact f i u k a b
  · rw [List.getElem?_append_right (by omega)] at a
    rw [List.getElem?_append_right (by omega), ← n] at b
    cases z : i - ts.length with
    | zero =>
      rw [z] at a b
      cases Option.some.inj a
      cases Option.some.inj b
      exact ht
    | succ j => rw [z] at a; simp at a
theorem dpTups {K : PySem.W.Frag} {H : Hp} : ∀ {ts : List Addr} {LL : List (List Int)}, ts.length = LL.length → (∀ (i : Nat) t l, ts[i]? = some t → LL[i]? = some l → SqT K H t (l.map V.int)) → DpAll K H (ts.map V.ref) (LL.map fun l => .tuple (l.map PyData.int))
  | [], [], _, _ => .nil
  | [], _ :: _, h, _ => by cases h
  | _ :: _, [], h, _ => by cases h
  | t :: ts, l :: LL, h, f => .cons (dpTup (f 0 t l rfl rfl)) (dpTups (Nat.succ.inj h) fun i u k a b => f (i + 1) u k a b)
theorem TupsAt.dp {K : PySem.W.Frag} {H : Hp} {D : Addr} {LL : List (List Int)} (h : TupsAt K H D LL) : Dp K H (.ref D) (.list (LL.map fun l => .tuple (l.map PyData.int))) := by
  obtain ⟨ts, e, n, f⟩ := h.ex
  exact .lst (lstOf e) (dpTups n f)
theorem okTups (LL : List (List Int)) : okD 2 (.list (LL.map fun l => .tuple (l.map PyData.int))) := okD.lst fun d hd => by
  obtain ⟨l, _, rfl⟩ := List.mem_map.mp hd
  exact okD.tup (okInts l)

end R
namespace R
open PySem PySem.Spec PyProof.Rows L2
/-! ## sorted of tuples of ints -/
open LamX hiding takes0
open NdefX
/-! ## sorted(xs), xs a list of tuples of ints: none is empty, or the first one is -/
def IsTi (h : Heap) (v : Value) (ns : List Int) : Prop := ∃ (a : Addr) (o : Obj) (items : Array Value) (n : Nat), v = .ref a ∧ h.get? a = some o ∧ o.cls = .type "tuple" ∧ o.data = .seq items n ∧ IntsAre items.toList ns
section
variable {prog : Program} {w : World} {A : Around} {s : Shared} {E : Value → Shared → Prop}
theorem ti_lt {v u : Value} {ns ms : List Int} {Q : Bool → Shared → Prop} (hu : A.units < cLine) (hv : IsTi s.heap v ns) (hw : IsTi s.heap u ms) (h : Q (HT.lexLt ns ms) s) : wpAny (model prog w) A (PyProof.Rows.keyLt' oneType' v u) Q E s := by
  obtain ⟨a, o, items, n, rfl, ga, ca, da, ia⟩ := hv
  obtain ⟨b, o2, items2, n2, rfl, gb, cb, db, ib⟩ := hw
  rw [keyLt'_oneType, oneLt'_eq]
  simp only [if_true]
  refine wpAny_bind (wpAny_cRoomFor hu ?_)
  obtain ⟨cls, dd, data, sl⟩ := o
  obtain ⟨cls2, dd2, data2, sl2⟩ := o2
  simp only at ca da cb db
  subst ca da cb db
  have tv : PySem.W.Looks (model prog w) s.heap (typeOf (.ref a)) (.type "tuple") := (PySem.W.Looks.ld ga).andThen .now
  have sp : PySem.W.Looks (model prog w) s.heap (specialOf (.ref a) "__lt__") (some (.builtin "tuple.__lt__")) := tv.andThen (PySem.W.Looks.of_pure PySem.F.slot_tuple_lt.lookup)
  have cl : wpAny (model prog w) A (call (.builtin "tuple.__lt__") [.ref a, .ref b]) (fun v s' => v = .bool (HT.lexLt ns ms) ∧ s' = s) E s := by
    have iv : PySem.W.Looks (model prog w) s.heap (isInstance (.ref a) (.type "tuple")) true := tv.andThen (PySem.W.Looks.of_pure sub_tuple_tuple)
    refine wpAny_call (codeAny_call_builtin PySem.F.slot_tuple_lt.plain PySem.F.entry_tuple_lt (@PySem.W.check_slot (model prog w) _ _ _ "tuple.__lt__" "tuple" "__lt__" (.ref a) [.ref b] [] _ (by decide +kernel) (by decide +kernel) iv (PySem.F.args_tuple_lt_2 _ _) ?_))
    refine wpAny_mono (HT.tuple_lt_ints a b items items2 n n2 dd dd2 sl sl2 ns ms ia ib prog w _ (wants (fun v s' => v = .bool (HT.lexLt ns ms) ∧ s' = s) E) s ⟨ga, gb, ⟨rfl, rfl⟩⟩) (fun fin s' q => ?_) fun _ _ z => z
    cases fin with
    | done f => exact q
    | again c => exact q
  refine wpAny_bind (NtL.csib (E := E) sp (PySem.F.slot_tuple_lt.bind _) (wpAny_mono cl (fun v s' ⟨e1, e2⟩ => ?_) fun _ _ z => z))
  subst e1 e2
  exact wpAny_truthy_bool h
theorem ti_firsts {M : Model} : ∀ (vs : List Value) {Q : List (Option Value) → Shared → Prop}, (∀ v ∈ vs, ∃ ns, IsTi s.heap v ns) → (∀ fs, (∀ v0 r, vs = v0 :: r → IsTi s.heap v0 [] → ∃ fr, fs = Option.none :: fr) → Q fs s) → wpAny M A (vs.mapM PyProof.Rows.firstOfTuple') Q E s
  | [], _, _, h => by rw [List.mapM_nil]; exact wpAny_pure (h [] fun _ _ z => nomatch z)
  | v :: vs, Q, t, h => by
    obtain ⟨ns, a, o, items, n, rfl, ho, hc, hd, ia⟩ := t v List.mem_cons_self
    rw [List.mapM_cons]
    refine wpAny_bind ?_
    rw [PySem.W.kas_first_eq]
    refine wpAny_bind (PySem.W.Looks.here (show PySem.W.Looks M s.heap (typeOf (.ref a)) o.cls from (PySem.W.Looks.ld ho).andThen .now) ?_)
    rw [hc, if_neg (by first | decide | simp)]
    refine wpAny_bind (listItems_at ho hd (wpAny_pure ?_))
    refine wpAny_bind (ti_firsts vs (fun v hv => t v (List.mem_cons_of_mem _ hv)) fun fs _ => wpAny_pure (h _ fun v0 r e z => ?_))
    obtain ⟨rfl, rfl⟩ := List.cons.inj e
    obtain ⟨a2, o2, items2, n2, e2, ho2, _, hd2, ia2⟩ := z
    cases e2
    rw [ho] at ho2
    cases ho2
    rw [hd] at hd2
    cases hd2
    have e0 : items.toList = [] := by
      cases q : items.toList with
      | nil => rfl
      | cons x y =>
        rw [q] at ia2
        cases ia2
    have : items[0]? = Option.none := by
      rw [← Array.getElem?_toList, e0]
      rfl
    exact ⟨fs, by rw [this]⟩
theorem ti_kind {M : Model} {vs : List Value} {Q : SortKind → Shared → Prop} (t : ∀ v ∈ vs, ∃ ns, IsTi s.heap v ns) {v0 : Value} {r : List Value} (e : vs = v0 :: r) (z : IsTi s.heap v0 []) (h : Q oneType' s) : wpAny M A (PyProof.Rows.keyKind' vs.toArray) Q E s := by
  rw [kat_kind_eq, List.mapM_toArray, map_eq_pure_bind]
  refine wpAny_bind (wpAny_bind (ti_firsts vs t fun fs hf => wpAny_pure ?_))
  obtain ⟨fr, rfl⟩ := hf v0 r e z
  have hall : (((Option.none : Option Value) :: fr).toArray.all fun x => x.isSome) = false := by simp
  rw [hall, if_neg (by decide)]
  have h0 : ((((Option.none : Option Value) :: fr).toArray[0]?).bind id).isSome = false := by simp
  rw [h0]
  simp only [Bool.false_eq_true, if_false]
  rw [oneTypeOnly'_eq, List.mapM_toArray, map_eq_pure_bind]
  refine wpAny_bind (wpAny_bind (wpAny_bind (PySem.W.kas_mapM (r := Value.type "tuple") _ (fun v hv Q' hq => ?_) (wpAny_pure ?_))))
  · obtain ⟨ns, a, o, items, n, rfl, ho, hc, _⟩ := t v hv
    refine PySem.W.Looks.here (show PySem.W.Looks M s.heap (typeOf (.ref a)) o.cls from (PySem.W.Looks.ld ho).andThen .now) ?_
    rw [hc]
    exact hq
  · subst e
    have hall2 : ((List.map (fun _ => Value.type "tuple") (v0 :: r)).toArray.all fun x => x == Value.type "tuple") = true := by
      simp only [List.all_toArray, List.all_map, List.all_eq_true]
      intro _ _
      rfl
    have h0 : (List.map (fun _ => Value.type "tuple") (v0 :: r)).toArray[0]? = some (Value.type "tuple") := by simp
    rw [h0]
    simp only [hall2, if_true]
    exact wpAny_pure (wpAny_pure h)
theorem ti_lex {fin : Bool} {Q : Bool → Shared → Prop} : ∀ (xs ys : List Value) (ns ms : List Int) (i : Nat), IntsAre xs ns → IntsAre ys ms → fin = decide (xs.length < ys.length) → Q (HT.lexLt ns ms) s → PySem.W.KatLex prog w A true fin Q (xs.zip ys) i s
  | [], ys, ns, ms, i, hx, hy, hf, h => by
    cases hx
    have e : fin = HT.lexLt [] ms := by
      cases hy with
      | nil => rw [hf]; rfl
      | cons n t r => rw [hf]; exact decide_eq_true (Nat.succ_pos _)
    refine PySem.W.kat_nil ?_
    rw [e]
    exact h
  | x :: xs, [], ns, ms, i, hx, hy, hf, h => by
    cases hy
    cases hx with
    | cons n t r =>
      refine PySem.W.kat_nil ?_
      rw [hf]
      exact h
  | x :: xs, y :: ys, ns, ms, i, hx, hy, hf, h => by
    cases hx with
    | cons n t r =>
      cases hy with
      | cons m u q =>
        rw [HT.lexLt_cons] at h
        refine PySem.W.kat_cons (SeqAt.EqAt.int_int n t m u prog w _ _ ?_)
        refine PySem.W.kat_go (fun e1 => ?_) (fun e1 => ?_)
        · have ex : n = m := by simpa using e1
          rw [if_pos ex] at h
          refine PySem.W.kat_yes (ti_lex xs ys _ _ (i + 1) r q ?_ h)
          rw [hf]
          exact decide_eq_decide.mpr (by rw [List.length_cons, List.length_cons]; omega)
        · have ex : ¬ n = m := by simpa using e1
          rw [if_neg ex] at h
          cases i with
          | zero => exact PySem.W.kat_no (oneLt_int h)
          | succ i => exact PySem.W.kat_no (PySem.W.kat_one _ _ (PyProof.Rows.lt_int h))
theorem ti_ltA {v u : Value} {ns ms : List Int} {Q : Bool → Shared → Prop} (hv : IsTi s.heap v ns) (hw : IsTi s.heap u ms) (h : Q (HT.lexLt ns ms) s) : wpAny (model prog w) A (PyProof.Rows.keyLt' (tuples' true) v u) Q E s := by
  obtain ⟨a, o, items, n, rfl, ga, ca, da, ia⟩ := hv
  obtain ⟨b, o2, items2, n2, rfl, gb, cb, db, ib⟩ := hw
  exact PySem.W.kat_lt ga da gb db (ti_lex _ _ _ _ 0 ia ib (by rw [Array.length_toList, Array.length_toList]) h)
theorem IsTi.keeps {h h' : Heap} {v : Value} {ns : List Int} (t : IsTi h v ns) (k : ∀ b o, h.get? b = some o → o.cls = .type "tuple" → h'.get? b = some o) : IsTi h' v ns :=
  let ⟨a, o, items, n, e, ho, hc, hd, ia⟩ := t
  ⟨a, o, items, n, e, k a o ho hc, hc, hd, ia⟩
/-- nothing is empty, or the first one is -/
def FitT (vs : List Value) (k : Value → List Int) : Prop := (∀ v ∈ vs, k v ≠ []) ∨ ∃ v0 r, vs = v0 :: r ∧ k v0 = []
theorem ti_sortable {a : Addr} {vs : List Value} {k : Value → List Int} (hu : A.units < cLine) (h2 : 0 < vs.length) (hv : ∀ v ∈ vs, IsTi s.heap v (k v)) (ft : FitT vs k) (ha : ∀ o, s.heap.get? a = some o → o.cls ≠ .type "tuple") : SrtO.SortableO prog w A s a vs fun v u => HT.lexLt (k v) (k u) := by
  intro h' keep
  have hv' : ∀ v ∈ vs, IsTi h' v (k v) := fun v hm => (hv v hm).keeps fun b o e c => keep b o (fun z => by subst z; exact ha o e c) e
  rcases ft with ft | ⟨v0, r, e, z⟩
  · refine ⟨tuples' true, fun Q E hq => ?_, fun p q hp hq => ti_ltA (s := { s with heap := h' }) (Q := fun r s' => s' = { s with heap := h' } ∧ r = HT.lexLt (k p.1) (k q.1)) (E := fun _ _ => False) (hv' p.1 hp) (hv' q.1 hq) ⟨rfl, rfl⟩⟩
    have go : ∀ us : List Value, (∀ v ∈ us, v ∈ vs) → ∃ fs : List Value, PySem.W.KatTups h' us fs ∧ fs.length = us.length ∧ ∀ f ∈ fs, ∃ n t, f = .int n t := by
      intro us
      induction us with
      | nil => exact fun _ => ⟨[], PySem.W.KatTups.nil, rfl, fun f hf => (nomatch hf)⟩
      | cons v us ih =>
        intro sub
        obtain ⟨fs, t, l, g⟩ := ih fun x hx => sub x (List.mem_cons_of_mem _ hx)
        have ne := ft v (sub v List.mem_cons_self)
        obtain ⟨b, o, items, n, rfl, ho, hc, hd, ia⟩ := hv' v (sub v List.mem_cons_self)
        generalize k (.ref b) = ks at ne ia
        generalize hi : items.toList = il at ia
        cases ia with
        | nil => exact absurd rfl ne
        | cons m t' rr =>
          have h0 : items[0]? = some (.int m t') := by
            rw [← Array.getElem?_toList, hi]
            rfl
          refine ⟨.int m t' :: fs, PySem.W.KatTups.cons ho hc hd h0 t, congrArg (· + 1) l, fun f hf => ?_⟩
          rcases List.mem_cons.mp hf with rfl | hf
          · exact ⟨m, t', rfl⟩
          · exact g f hf
    obtain ⟨fs, t, l, g⟩ := go vs fun v hv => hv
    refine PySem.W.kat_kind (s := { s with heap := h' }) (T := .type "int") t (by omega) (fun f hm => ?_) (by rfl) ?_
    · obtain ⟨n, t, rfl⟩ := g f hm
      exact PySem.W.Looks.now
    · have e : (Value.type "int" != Value.type "tuple") = true := by first | decide +kernel | rfl | decide
      rw [e]
      exact hq
  · refine ⟨oneType', fun Q E hq => ti_kind (s := { s with heap := h' }) (fun v hm => ⟨_, hv' v hm⟩) e (by rw [← z]; exact hv' v0 (by rw [e]; exact List.mem_cons_self)) hq, fun p q hp hq => ?_⟩
    exact ti_lt (s := { s with heap := h' }) (Q := fun r s' => s' = { s with heap := h' } ∧ r = HT.lexLt (k p.1) (k q.1)) (E := fun _ _ => False) hu (hv' p.1 hp) (hv' q.1 hq) ⟨rfl, rfl⟩
end
theorem ints_one {vs : List Value} {ns ms : List Int} (a : IntsAre vs ns) : IntsAre vs ms → ns = ms := by
  induction a generalizing ms with
  | nil =>
    intro b
    cases b
    rfl
  | cons n t r ih =>
    intro b
    cases b with
    | cons _ _ q => rw [ih q]
theorem IsTi.one {h : Heap} {v : Value} {ns ms : List Int} (a : IsTi h v ns) (b : IsTi h v ms) : ns = ms := by
  obtain ⟨x, o, items, n, rfl, ho, hc, hd, ia⟩ := a
  obtain ⟨y, o2, items2, n2, e, ho2, hc2, hd2, ib⟩ := b
  cases e
  rw [ho] at ho2
  cases ho2
  rw [hd] at hd2
  cases hd2
  exact ints_one ia ib
theorem in2u {k : Nat} {A : Around} (hr : Room k A) : A.in1.in1.units < cLine := by
  have := hr.un
  show A.units + 1 + 1 < cLine
  omega
def rSortedTL (K : PySem.W.Frag) : List V → Hp → VK → Prop := fun vs H Q => ∃ (a : Addr) (LL : List (List Int)), vs = [V.ref a] ∧ TupsAt K H a LL ∧ ((∀ l ∈ LL, l ≠ []) ∨ ∃ r, LL = [] :: r) ∧
  ∀ (p : Addr) (MM : List (List Int)) (H' : Hp), Same H H' → H p = Option.none → TupsAt K H' p MM → MM.Perm LL → MM.Pairwise (fun x y => HT.lexLt y x = false) → Q (.ref p) H'
theorem cr_sortedTL {X : Cx} (hu : X.A.in1.in1.units < cLine) : CallR X (.builtin "sorted") (rSortedTL X.K) := by
  intro pins s σ H vs us Q I r h
  obtain ⟨a, LL, rfl, ta, fit, q⟩ := h
  obtain ⟨ts, e, n, f⟩ := ta.ex
  obtain ⟨its, rv, hl, hz⟩ := I.list (lstOf (K := X.K) e)
  obtain ⟨u, rfl, ru⟩ := vals1 r
  obtain rfl : u = Value.ref a := ru
  obtain rfl := nts_of rv
  have ti : ∀ (j : Nat) t l, ts[j]? = some t → LL[j]? = some l → IsTi s.heap (.ref t) l := fun j t l h1 h2 => by
    obtain ⟨its, r2, ⟨o, ho, hc, m, hd⟩, _⟩ := I.tuple (f j t l h1 h2)
    exact ⟨t, o, _, m, rfl, ho, hc, hd, intsAre_of r2⟩
  obtain ⟨k, hk⟩ : ∃ k : Value → List Int, ∀ v l, IsTi s.heap v l → k v = l := by
    refine ⟨fun v => @dite _ (∃ l, IsTi s.heap v l) (Classical.propDecidable _) (fun h => Classical.choose h) (fun _ => []), fun v l t => ?_⟩
    have h : ∃ l, IsTi s.heap v l := ⟨l, t⟩
    show @dite _ (∃ l, IsTi s.heap v l) (Classical.propDecidable _) (fun h => Classical.choose h) (fun _ => []) = l
    rw [dif_pos h]
    exact (Classical.choose_spec h).one t
  have at_ : ∀ t ∈ ts, ∃ (j : Nat) (l : List Int), ts[j]? = some t ∧ LL[j]? = some l := fun t ht => by
    obtain ⟨j, hj⟩ := List.mem_iff_getElem?.mp ht
    have := (List.getElem?_eq_some_iff.mp hj).1
    exact ⟨j, _, hj, List.getElem?_eq_getElem (by omega)⟩
  have km : (ts.map Value.ref).map k = LL := by
    refine List.ext_getElem? fun j => ?_
    rw [List.map_map, List.getElem?_map]
    cases hj : ts[j]? with
    | none =>
      rw [List.getElem?_eq_none_iff] at hj
      rw [List.getElem?_eq_none (by omega)]
      rfl
    | some t =>
      have h1 := (List.getElem?_eq_some_iff.mp hj).1
      have he : LL[j]? = some LL[j] := List.getElem?_eq_getElem (by omega)
      rw [he]
      exact congrArg some (hk _ _ (ti j t _ hj he))
  have hv : ∀ v ∈ ts.map Value.ref, IsTi s.heap v (k v) := fun v hv => by
    obtain ⟨t, ht, rfl⟩ := List.mem_map.mp hv
    obtain ⟨j, l, h1, h2⟩ := at_ t ht
    rw [hk _ _ (ti j t l h1 h2)]
    exact ti j t l h1 h2
  have ft : FitT (ts.map Value.ref) k := by
    rcases fit with fit | ⟨r0, e0⟩
    · exact .inl fun v hv => fit _ (by rw [← km]; exact List.mem_map.mpr ⟨v, hv, rfl⟩)
    · refine .inr ?_
      rw [e0] at km
      cases ts with
      | nil => cases km
      | cons t0 tr => exact ⟨_, _, rfl, (List.cons.inj km).1⟩
  refine SrtO.sorted_ord (NtL.swo_lexL k) hl.isList (by rw [← rv.length]; exact hz) (fun h2 h₁ b hb kk => ?_) fun out o1 o2 => ?_
  · refine ti_sortable (s := { s with heap := h₁ }) hu (by omega) (fun v hm => (hv v hm).keeps fun c o g _ => (kk c o g).2) ft fun o g => ?_
    have g' : some o = some (seqObj "list" (ts.map Value.ref).toArray 0) := g.symm.trans hb
    cases g'
    intro c
    exact absurd (Value.type.inj c) (by decide)
  · have re : ∀ v ∈ out, ∃ t, t ∈ ts ∧ v = Value.ref t := fun v hv => by
      obtain ⟨t, ht, e⟩ := List.mem_map.mp (o2.perm.mem_iff.mp hv)
      exact ⟨t, ht, e.symm⟩
    have eo : out = (out.map adO).map Value.ref := by
      rw [List.map_map]
      refine (List.map_id out).symm.trans (List.map_congr_left fun v hv => ?_)
      obtain ⟨t, _, rfl⟩ := re v hv
      rfl
    obtain ⟨c, hn⟩ := sortedAll_at s.heap (ts.map Value.ref) out.toArray
    have ho : out.length = ts.length := by rw [o2.perm.length_eq, List.length_map]
    have I1 := I.laid (o := .lst ((out.map adO).map V.ref)) (t' := s.toks) (fun b o g => sortedAll_old g) (Nat.le_succ _) (a := s.heap.objs.size + 1) (h' := sortedAll s.heap (ts.map Value.ref) out.toArray)
      ⟨by rw [List.length_map, List.length_map, ho, ← List.length_map (f := V.ref)]; exact hz, out, c, by rw [eo]; simp only [ad_map]; exact of_nts _, hn⟩
    have hf : H (s.heap.objs.size + 1) = Option.none := I.hok.fresh (Nat.le_succ _)
    refine ⟨.ref (s.heap.objs.size + 1), _, I1, rfl, q _ (out.map k) _ (same_upd hf) hf ⟨out.map adO, upd_same, by rw [List.length_map, List.length_map], fun i t l h1 h2 => ?_⟩ (by rw [← km]; exact o2.perm.map k) (SrtO.srtd_map o1)⟩
    rw [List.getElem?_map] at h1 h2
    cases ei : out[i]? with
    | none =>
      rw [ei] at h1
      cases h1
    | some v =>
      rw [ei] at h1 h2
      obtain ⟨t', ht', rfl⟩ := re v (List.mem_of_getElem? ei)
      cases h1
      cases h2
      obtain ⟨j, l, g1, g2⟩ := at_ t' ht'
      rw [hk _ _ (ti j t' l g1 g2)]
      exact Same.seqTT (same_upd hf) (f j t' l g1 g2)

end R
namespace R
open PySem PySem.Spec PyProof.Rows L2
/-! ## an empty set -/
abbrev noSet (w : World) : Obj := { cls := .type "set", dict := none, data := .set #[] 0 (.fresh 0 0 (!w.params.followText "set-order")) }

end R
namespace R
open PySem PySem.Spec PyProof.Rows L2
/-! ## {e for t in it if ..}, e an int -/
open PpSet in
/-- D the new set; W by the turn and a measure -/
def tScI (w : World) (wi : TI) (g : TG) (tt : TT) (te : TE) (vs : List Nat) : TE := fun σ H Q => wi σ H fun J H1 => ∀ D, H1 D = none →
  ∃ W : Nat → Nat → Hp → Prop, (∃ m, W 0 m (upd H1 D (SetO w D (fun _ => false) 0))) ∧ ∀ i m H, W i m H → (J.stop i H ∧ Q (.ref D) H) ∨
    (J.go i H ∧ ∃ Nx : Hp → Prop, (∀ H', Nx H' → ∃ m', m' < m ∧ W (i + 1) m' H') ∧ ∀ x H', J.yld i H x H' → g x (wipe σ vs) H' fun σ2 H2 => wipe σ2 vs = wipe σ vs ∧ tt σ2 H2 fun b H3 =>
      if b = true then te σ2 H3 fun y H4 => ∃ (c : Int) (S : Int → Bool) (n : Nat), y = .int c ∧ H4 D = some (SetO w D S n) ∧ n + 1 < scanBound ∧ Nx (upd H4 D (SetO w D (fun j => S j || decide (j = c)) (if S c = true then n else n + 1))) else Nx H3)
open PpSet in
theorem addI_ok {X : Cx} {pins : List (Addr × Obj)} {σ : L2.St} {H : Hp} {s : Shared} {E : Value → Shared → Prop} {D : Addr} {S : Int → Bool} {n : Nat} {y : Int} {tk : Tok} {Q : Value → Shared → Prop} (I : Inv X pins σ H s)
    (hD : H D = some (SetO X.w D S n)) (room : n + 1 < scanBound) (h : ∀ s', Inv X pins σ (upd H D (SetO X.w D (fun j => S j || decide (j = y)) (if S y = true then n else n + 1))) s' → Q .none s') :
    wpAny (model X.prog X.w) X.A (call (.builtin "set.add") [.ref D, .int y tk]) Q E s := by
  refine setR_add (setO_get I hD) room fun h' sb new => h _ ?_
  obtain ⟨o, _, _, _, ho, _⟩ := id new
  exact I.write (e := D) (t' := s.toks + 1) (by rw [hD]; trivial) (.inl rfl) (fun b u hb hu => (sb.2 b hb).trans hu) ⟨o, ho⟩ (setO_new new)
open PpSet in
set_option maxHeartbeats 8000000 in
theorem scI_core {X : Cx} {pins : List (Addr × Obj)} {s : Shared} {σ : L2.St} {H : Hp} {Q : VK} {elt tg iter : Expr} {ifs : List Expr} {scope : Scope} {own : List (PySem.Str × Nat)} {pos pos' : Pos} {wi : TI} {g : TG} {tt : TT} {te : TE}
    {use : Option (Value → Sem Unit)} {Qf : Value → Shared → Prop} (hc : X.calm = true) (hN : X.N.Nodup) (I : Inv X pins σ H s) (hi : PI X tg iter wi) (ok : BlkOk X.N X.env.scope scope own)
    (hg : ∀ (s : Shared) (H : Hp) (C : Addr) (cl : List (PySem.Str × Addr)) (fp : List Addr), PG (X.blk s H scope (compEnvC scope cl C X.env) fp) tg g)
    (ht : ∀ (s : Shared) (H : Hp) (C : Addr) (cl : List (PySem.Str × Addr)) (fp : List Addr), PTs (X.blk s H scope (compEnvC scope cl C X.env) fp) ifs tt)
    (he : ∀ (s : Shared) (H : Hp) (C : Addr) (cl : List (PySem.Str × Addr)) (fp : List Addr), PE (X.blk s H scope (compEnvC scope cl C X.env) fp) elt te) (hs : ∀ x, foldedSetIterable iter X.env x = pure x)
    (h : tScI X.w wi g tt te (own.map (·.2)) σ H Q)
    (last : ∀ D C s' m H', Inv X pins σ H' s' → Q (.ref D) H' → s'.heap.Ns C m → FpOk X pins H' C → compPost (model X.prog X.w) X.A X.xe use Qf (.ref D) C (.ok .next) s') :
    wpAny (model X.prog X.w) X.A (comprehension (.SetComp elt [⟨tg, iter, ifs, 0⟩] scope pos) scope X.env pos' (newSet (.type "set")) false (eval iter X.env) use) Qf X.xe s := by
  have cap : ∀ y ∈ scope.names, y.2 = .free → ∃ c, X.env.cells.lookup y.1 = some c := fun y hy e => I.ok.has _ (ok.free y hy e)
  refine wpAny_comprehension_free (use := use) rfl hs (closure_ok cap) ok.kind (fun y hy e => by rw [ok.uniq y hy, e]) (thn (hi.run pins s σ H _ I h) fun xv s1 hx => thn hx fun itv s2 h2 => ?_)
  obtain ⟨it, fp, tn, J, H2, e, I2, T, st2, f2, q⟩ := h2
  subst e
  refine newSet_ok (newEnv_comp ?_)
  generalize hD : s2.heap.objs.size = D
  have fresh := I2.hok.fresh (Nat.le_of_eq hD)
  obtain ⟨W, ⟨m0, w0⟩, turn⟩ := q D fresh
  generalize hs3 : ({ s2 with heap := s2.heap.push (noSet X.w) } : Shared) = s3
  have h3 : s3.heap = s2.heap.push (noSet X.w) := hs3 ▸ rfl
  have I3 : Inv X pins σ (upd H2 D (SetO X.w D (fun _ => false) 0)) s3 := by
    rw [← hs3]
    refine I2.laid (t' := s2.toks) (fun b o e => Heap.get?_push_of_some _ e) (Nat.le_of_eq hD) ?_
    subst hD
    exact setO_new (setR_fresh X.w)
  have old : ∀ b ∈ fp, b < s2.heap.objs.size := fun b hb => let ⟨_, e, _⟩ := T.obj _ _ st2 b hb; Heap.lt_size e
  have f3 : ∀ b ∈ fp, FpOk X pins (upd H2 D (SetO X.w D (fun _ => false) 0)) b ∧ b < s3.heap.objs.size := fun b hb => by
    have lt := old b hb
    refine ⟨⟨?_, (f2 b hb).2⟩, h3 ▸ (by rw [Heap.size_push]; exact Nat.lt_succ_of_lt lt)⟩
    rw [upd_ne (hD ▸ Nat.ne_of_lt lt)]
    exact (f2 b hb).1
  have st3 : tn 0 s3.heap := T.keep _ _ _ st2 fun b _ o e => h3 ▸ Heap.get?_push_of_some _ e
  have I4 := block_start I3 ok hN f3
  have pg := hg s3 (upd H2 D (SetO X.w D (fun _ => false) 0)) s3.heap.objs.size (cellsFrom (s3.heap.objs.size + 1) scope.names (cloFrom X.env.cells scope.names [])) fp
  have pt := ht s3 (upd H2 D (SetO X.w D (fun _ => false) 0)) s3.heap.objs.size (cellsFrom (s3.heap.objs.size + 1) scope.names (cloFrom X.env.cells scope.names [])) fp
  have pe := he s3 (upd H2 D (SetO X.w D (fun _ => false) 0)) s3.heap.objs.size (cellsFrom (s3.heap.objs.size + 1) scope.names (cloFrom X.env.cells scope.names [])) fp
  show codeAny _ _ (.compStart (.SetComp elt [⟨tg, iter, ifs, 0⟩] scope pos) 0 (.ref it) (.ref D) (compEnvC scope (cellsFrom (s3.heap.objs.size + 1) scope.names (cloFrom X.env.cells scope.names [])) s3.heap.objs.size X.env))
    (compPost (model X.prog X.w) X.A X.xe use Qf (.ref D) s3.heap.objs.size) { s3 with heap := pushCells (s3.heap.push { cls := .type "dict", data := .dict #[] }) scope.names }
  have none3 : ∀ b ∈ fp, (upd H2 D (SetO X.w D (fun _ => false) 0)) b = none := fun b hb => (f3 b hb).1.1
  generalize hce : compEnvC scope (cellsFrom (s3.heap.objs.size + 1) scope.names (cloFrom X.env.cells scope.names [])) s3.heap.objs.size X.env = ce at I4 pg pt pe ⊢
  have cL : ce.locals = s3.heap.objs.size := hce ▸ rfl
  generalize hH3 : upd H2 D (SetO X.w D (fun _ => false) 0) = H3 at I3 I4 pg pt pe w0 none3 f3
  generalize hs4 : ({ s3 with heap := pushCells (s3.heap.push { cls := .type "dict", data := .dict #[] }) scope.names } : Shared) = s4 at I4 ⊢
  have st4 : tn 0 s4.heap := T.keep _ _ _ st3 fun b _ o e => hs4 ▸ pushCells_keeps _ _ _ _ (Heap.get?_push_of_some _ e)
  have still : ∀ {σ' : L2.St} {H' : Hp} {s' : Shared}, Inv (X.blk s3 H3 scope ce fp) [] σ' H' s' → (∀ b ∈ fp, H' b = none) → ∀ b ∈ fp, FpOk (X.blk s3 H3 scope ce fp) [] H' b := by
    intro σ' H' s' I' hn b hb
    obtain ⟨x1, x2⟩ := I'.ok.exf b hb
    exact ⟨hn b hb, x1, I'.ok.exfs b hb, .inl hb, x2, fun p hp => absurd (show p ∈ ([] : List (Addr × Obj)) ++ [] from hp) (by simp)⟩
  have loop : codeAny (model X.prog X.w) X.A (.compLoop (.SetComp elt [⟨tg, iter, ifs, 0⟩] scope pos) 0 (.ref it) (.ref D) ce) (compPost (model X.prog X.w) X.A X.xe use Qf (.ref D) s3.heap.objs.size) s4 := by
    refine compLoopS_any (fun n s' => ∃ i H', Inv (X.blk s3 H3 scope ce fp) [] (wipe σ (own.map (·.2))) H' s' ∧ tn i s'.heap ∧ (∀ b ∈ fp, H' b = none) ∧ W i n H') ?_ m0 ⟨0, H3, I4, st4, none3, w0⟩
    rintro n s5 ⟨i, H5, I5, st5, n5, w5⟩
    rcases turn i n H5 w5 with ⟨stop, done⟩ | ⟨go, Nx, hNx, step⟩
    · refine thnF (T.done (X.blk s3 H3 scope ce fp) rfl rfl rfl hc i [] s5 _ H5 (fun _ _ => False) I5 (still I5 n5) st5 stop) fun r s6 ⟨hr, I6⟩ => ?_
      subst hr
      have I7 : Inv X pins σ H5 s6 := I3.call' (ch := fp) I6.os I6.base I6.hok I6.bare fun b hb => let z := (f3 b hb).1.2; ⟨z.2.2.1, z.1, z.2.2.2.1, z.2.2.2.2⟩
      have gone : H5 s3.heap.objs.size = none := cL ▸ (show H5 ce.locals = none from I6.free)
      obtain ⟨m, hm, _⟩ := I6.loc
      have hm' : s6.heap.Ns ce.locals m := hm
      rw [cL] at hm'
      exact last D s3.heap.objs.size s6 m H5 I7 done hm' (I3.fpOk (Nat.le_refl _) gone)
    · refine thnF (T.item (X.blk s3 H3 scope ce fp) rfl rfl rfl hc i [] s5 _ H5 (fun _ _ => False) I5 (still I5 n5) st5 go) fun r s6 ⟨u, hr, h6⟩ => ?_
      subst hr
      refine thnF h6 fun _ s7 ⟨x, H7, I7, r7, y7, st7, n7⟩ => ?_
      have I7' := I7.pinned (still I7 n7) (T.obj _ _ st7)
      refine thnF (pg.run _ s7 _ H7 x u _ I7' r7 (step x H7 y7)) fun _ s8 ⟨σ8, H8, I8, hw8, q8⟩ => ?_
      refine thnF (pt.run _ s8 σ8 H8 _ I8 q8) fun b s9 ⟨H9, I9, q9⟩ => ?_
      have fin : ∀ {s' : Shared} {H' : Hp}, Inv (X.blk s3 H3 scope ce fp) ([] ++ pinsAt fp s7.heap) σ8 H' s' → Nx H' →
          ∃ m, m < n ∧ ∃ i H', Inv (X.blk s3 H3 scope ce fp) [] (wipe σ (own.map (·.2))) H' s' ∧ tn i s'.heap ∧ (∀ b ∈ fp, H' b = none) ∧ W i m H' := by
        intro s' H' I' nx
        obtain ⟨m', hm, w'⟩ := hNx H' nx
        have pinned : ∀ b ∈ fp, ∀ o, s7.heap.get? b = some o → s'.heap.get? b = some o ∧ H' b = none := fun b hb o e => by
          have z := I'.pin (b, o) (List.mem_append_right _ (List.mem_append_right _ (mem_pinsAt hb e)))
          exact ⟨z.1, z.2.1⟩
        have len : (wipe σ (own.map (·.2))).length = σ8.length := by rw [← hw8, wipe_length]
        refine ⟨m', hm, i + 1, H', (I'.unpinned (pins := [])).weak len (fun j v e => (wipe_some (hw8 ▸ e)).1), T.keep _ _ _ st7 fun b hb o e => (pinned b hb o e).1, fun b hb => ?_, w'⟩
        obtain ⟨o, e, _⟩ := T.obj _ _ st7 b hb
        exact (pinned b hb o e).2
      cases b with
      | false =>
        rw [if_neg Bool.false_ne_true] at q9 ⊢
        exact fin I9 q9
      | true =>
        rw [if_pos rfl] at q9 ⊢
        refine thnF (pe.run _ s9 σ8 H9 _ I9 q9) fun z s10 ⟨yv, H10, I10, r10, c, S0, n0, ey, hD10, room, nx⟩ => ?_
        subst ey
        obtain ⟨tk, rfl⟩ : ∃ t, z = Value.int c t := r10
        exact addI_ok (X := X.blk s3 H3 scope ce fp) I10 hD10 room fun s11 I11 => fin I11 nx
  exact codeAny_compStart_set loop (T.self X.A 0 _ _ _ st4 loop)
open PpSet in
theorem pe_scI {X : Cx} {elt tg iter : Expr} {ifs : List Expr} {scope : Scope} {own : List (PySem.Str × Nat)} {pos : Pos} {wi : TI} {g : TG} {tt : TT} {te : TE} (hc : X.calm = true) (hN : X.N.Nodup) (hi : PI X tg iter wi)
    (ok : BlkOk X.N X.env.scope scope own) (hg : ∀ (s : Shared) (H : Hp) (C : Addr) (cl : List (PySem.Str × Addr)) (fp : List Addr), PG (X.blk s H scope (compEnvC scope cl C X.env) fp) tg g)
    (ht : ∀ (s : Shared) (H : Hp) (C : Addr) (cl : List (PySem.Str × Addr)) (fp : List Addr), PTs (X.blk s H scope (compEnvC scope cl C X.env) fp) ifs tt)
    (he : ∀ (s : Shared) (H : Hp) (C : Addr) (cl : List (PySem.Str × Addr)) (fp : List Addr), PE (X.blk s H scope (compEnvC scope cl C X.env) fp) elt te) (hs : ∀ x, foldedSetIterable iter X.env x = pure x := by intro _; rfl) :
    PE X (.SetComp elt [⟨tg, iter, ifs, 0⟩] scope pos) (tScI X.w wi g tt te (own.map (·.2))) := by
  refine ⟨fun pins s σ H Q I h => ?_⟩
  rw [eval_SetComp]
  refine scI_core hc hN I hi ok hg ht he hs h fun D C s' m H' I' q hn f => ⟨m, hn, fun h'' sb => ⟨.ref D, H', ?_, rfl, q⟩⟩
  exact I'.turned (t' := s'.toks) (fun b o hb e => (sb.2 b hb).trans e) f.1 f.2.1 f.2.2.2.1 f.2.2.2.2.1 f.2.2.2.2.2
/-- over a tuple that stands still -/
theorem scI_tup {w : World} {K : PySem.W.Frag} {a : Addr} {xs : List V} {g : TG} {tt : TT} {te : TE} {vs : List Nat} {σ : L2.St} {H1 : Hp} {D : Addr} {Qd : Hp → Prop} (Pv : Nat → Hp → Prop) (h0 : Pv 0 (upd H1 D (SetO w D (fun _ => false) 0)))
    (hl : ∀ i H, i ≤ xs.length → Pv i H → SqT K H a xs)
    (hs : ∀ i x H, xs[i]? = some x → Pv i H → g x (wipe σ vs) H fun σ2 H2 => wipe σ2 vs = wipe σ vs ∧ tt σ2 H2 fun b H3 => if b = true then te σ2 H3 fun y H4 =>
      ∃ (c : Int) (S : Int → Bool) (n : Nat), y = .int c ∧ H4 D = some (SetO w D S n) ∧ n + 1 < scanBound ∧ Pv (i + 1) (upd H4 D (SetO w D (fun j => S j || decide (j = c)) (if S c = true then n else n + 1))) else Pv (i + 1) H3)
    (hd : ∀ H, Pv xs.length H → Qd H) : ∃ W : Nat → Nat → Hp → Prop, (∃ m, W 0 m (upd H1 D (SetO w D (fun _ => false) 0))) ∧ ∀ i m H, W i m H → ((Itt K a).stop i H ∧ Qd H) ∨
      ((Itt K a).go i H ∧ ∃ Nx : Hp → Prop, (∀ H', Nx H' → ∃ m', m' < m ∧ W (i + 1) m' H') ∧ ∀ x H', (Itt K a).yld i H x H' → g x (wipe σ vs) H' fun σ2 H2 => wipe σ2 vs = wipe σ vs ∧ tt σ2 H2 fun b H3 =>
        if b = true then te σ2 H3 fun y H4 => ∃ (c : Int) (S : Int → Bool) (n : Nat), y = .int c ∧ H4 D = some (SetO w D S n) ∧ n + 1 < scanBound ∧ Nx (upd H4 D (SetO w D (fun j => S j || decide (j = c)) (if S c = true then n else n + 1))) else Nx H3) := by
  refine ⟨fun i m H => m = xs.length - i ∧ i ≤ xs.length ∧ Pv i H, ⟨_, rfl, Nat.zero_le _, h0⟩, ?_⟩
  rintro i _ H ⟨rfl, hi, p⟩
  by_cases lt : i < xs.length
  · refine .inr ⟨⟨xs, xs[i], hl i H hi p, by simp [lt]⟩, Pv (i + 1), fun H' p' => ⟨xs.length - (i + 1), by omega, rfl, lt, p'⟩, fun x H' ⟨e, y⟩ => ?_⟩
    subst e
    exact hs i x _ (y xs (hl i _ hi p)) p
  · obtain rfl : i = xs.length := by omega
    exact .inl ⟨⟨xs, hl _ H hi p, Nat.le_refl _⟩, hd H p⟩

end R
namespace R
open PySem PySem.Spec PyProof.Rows L2
/-! ## set(xs) of a list of ints, sorted(set(xs)) -/
/-- how many members such a set may have -/
def Capped (w : World) (ns : List Int) (cap : Nat) : Prop := ∀ (i : Nat) (h : Heap) (a : Addr) (c : Nat), SetR w h a (fun j => decide (j ∈ ns.take i)) c → c ≤ cap
theorem nodup_le : ∀ {xs ys : List Int}, xs.Nodup → (∀ x ∈ xs, x ∈ ys) → xs.length ≤ ys.length
  | [], _, _, _ => Nat.zero_le _
  | x :: xs, ys, nd, sub => by
    obtain ⟨n1, n2⟩ := List.nodup_cons.mp nd
    have hx : x ∈ ys := sub x List.mem_cons_self
    have e := nodup_le (ys := ys.erase x) n2 fun z hz => (List.mem_erase_of_ne fun q => n1 (by rw [← q]; exact hz)).mpr (sub z (List.mem_cons_of_mem _ hz))
    rw [List.length_erase_of_mem hx] at e
    have := List.length_pos_of_mem hx
    show xs.length + 1 ≤ ys.length
    omega
theorem capBy {w : World} {ns ys : List Int} (sub : ∀ x ∈ ns, x ∈ ys) : Capped w ns ys.length := by
  rintro i h a c ⟨o, es, ep, t, _, _, _, _, nd, mem, _, _, cnt, _⟩
  have e := nodup_le nd fun x hx => sub x (List.mem_of_mem_take (of_decide_eq_true ((mem x).mpr hx)))
  rw [List.length_map, Array.length_toList, cnt] at e
  exact e
theorem capRange {w : World} {ns : List Int} {m : Nat} (h : ∀ x ∈ ns, 0 ≤ x ∧ x < (m : Int)) : Capped w ns m := by
  have e := capBy (w := w) (ns := ns) (ys := (List.range m).map fun i : Nat => (i : Int)) fun x hx => by
    obtain ⟨h1, h2⟩ := h x hx
    exact List.mem_map.mpr ⟨x.toNat, List.mem_range.mpr (by omega), by omega⟩
  rw [List.length_map, List.length_range] at e
  exact e
theorem capLen {w : World} (ns : List Int) : Capped w ns ns.length := capBy fun _ h => h
/-- the walk of set.update over ints -/
theorem upd_ints {P : Program} {w : World} {A : Around} {I : Addr} {fp wr : List Addr} {G : Array GenState → Array GenState → Prop} {n : Nat} {Pv : Nat → Value → Prop} {St : Nat → Shared → Prop} {R : Result → Shared → Prop}
    (W : WalksS P w A.in1 I fp wr G n Pv St) (S : Addr) (far : S ∉ fp) (ns : List Int) (hn : n = ns.length) (cap : Nat) (few : cap + 1 < scanBound) (cp : Capped w ns cap) (val : ∀ i v, Pv i v → ∃ k t, ns[i]? = some k ∧ v = .int k t) :
    ∀ (k i : Nat) (s : Shared), n - i = k → i ≤ n → St i s → (∃ c, SetR w s.heap S (fun j => decide (j ∈ ns.take i)) c) →
      (∀ s' c, Moved (S :: wr) G s s' → c ≤ cap → SetR w s'.heap S (fun j => decide (j ∈ ns)) c → R (.ok (.ret .none)) s') →
      codeAny (model P w) A (.builtin "set.update.loop" ⟨[.ref S, .ref I], []⟩) R s := by
  have farW : S ∉ wr := fun z => far (W.sub _ z)
  have more : ∀ b ∈ wr, b ∈ S :: wr := fun b z => List.mem_cons_of_mem _ z
  intro k
  induction k with
  | zero =>
    rintro i s ek le st ⟨c, hS⟩ hR
    obtain rfl : i = n := by omega
    refine codeAny_builtin F.entry_set_update_loop ?_
    rw [Around.under_plainId F.plain_set_update_loop _]
    show wpAny _ A.in1 (pyNext (.ref I) >>= _) _ _ s
    refine wpAny_bind (W.done s _ _ st fun s' mv => ?_)
    show wpAny _ A.in1 (ret Value.none) _ _ s'
    rw [List.take_of_length_le (by omega)] at hS
    have hS' := hS.at (h' := s'.heap) fun o e => mv.heap S o farW e
    exact wpAny_pure (hR s' c (mv.mono more) (cp ns.length _ S c (by rw [List.take_length]; exact hS')) hS')
  | succ k ih =>
    rintro i s ek le st ⟨c, hS⟩ hR
    have lt : i < n := by omega
    refine codeAny_builtin F.entry_set_update_loop ?_
    rw [Around.under_plainId F.plain_set_update_loop _]
    show wpAny _ A.in1 (pyNext (.ref I) >>= _) _ _ s
    refine wpAny_bind (W.item i s _ _ lt st fun v s' pv st' mv => ?_)
    obtain ⟨z, t, hz, rfl⟩ := val i v pv
    have hS1 : SetR w s'.heap S (fun j => decide (j ∈ ns.take i)) c := hS.at fun o e => mv.heap S o farW e
    have hc := cp i _ S c hS1
    show wpAny _ A.in1 (holding [Value.int z t] (setAdd S (.int z t)) >>= _) _ _ s'
    refine wpAny_bind (wpAny_holding ?_)
    unfold setAdd
    refine wpAny_holding (wpAny_bind ((intKind P w).pyHash (k := z) (intKind_is _ _ _ _) ?_))
    refine setR_add_hashed (s := { s' with toks := s'.toks + 1 }) hS1 (by omega) fun h' sb hS2 => ?_
    have hS3 := hS2.congr (S' := fun j => decide (j ∈ ns.take (i + 1))) fun j => by
      rw [List.take_add_one, hz]
      simp [List.mem_append]
    refine wpAny_pure ⟨plainId_quiet F.plain_set_update_loop _, ih (i + 1) _ (by omega) lt (W.frame _ s' _ _ st' (Nat.le_succ _) fun b hb o e => ?_) ⟨_, hS3⟩ fun s2 c2 mv2 hc2 hS4 => ?_⟩
    · rw [sb.2 b (fun q : b = S => far (by rw [← q]; exact hb))]; exact e
    · refine hR s2 c2 (Moved.trans W.gtrans ((mv.mono more).then_heap (Nat.le_succ _) fun b o hb e => ?_) mv2) hc2 hS4
      rw [sb.2 b (fun q : b = S => hb (by rw [q]; exact List.mem_cons_self))]; exact e
set_option maxHeartbeats 8000000 in
theorem call_setG {P : Program} {w : World} {A : Around} {E : Value → Shared → Prop} {s : Shared} {l : Addr} {items : Array Value} (ns : List Int) {Q : Value → Shared → Prop} (hh : A.handled = none) (hl : s.heap.IsList l items)
    (hit : IntsAre items.toList ns) (cap : Nat) (few : cap + 1 < scanBound) (cp : Capped w ns cap)
    (h : ∀ (h' : Heap) (tk c : Nat), c ≤ cap → SetR w h' s.heap.objs.size (fun j => decide (j ∈ ns)) c → (∀ b o, s.heap.get? b = some o → h'.get? b = some o) → Q (.ref s.heap.objs.size) { s with heap := h', toks := tk }) :
    wpAny (model P w) A (call (.type "set") [.ref l]) Q E s := by
  have size_ : items.size = ns.length := Array.length_toList.symm.trans (IntsAre.length hit)
  obtain ⟨c, tl, hmro⟩ := F.called_set.mro
  have m1 := F.called_set.made
  have m2 := F.called_set.sub
  refine wpAny_call (codeAny_of_tree (show wpAny _ _ (callAny (.type "set") _) _ _ _ from wpAny_pure ⟨Code.quiet_builtin _ (by decide +kernel), codeAny_builtin F.entry_type_call ?_⟩))
  rw [Around.under_plain (weight_type_call_type "set" [.ref l] []) rfl]
  have m3 := F.called_set.notType
  have m4 := F.called_set.canCreate
  have m5 := F.typeCall_set_1 (.ref l)
  repeat (any_goals (first | assumption | wp_step))
  refine codeAny_mono (code_set_led1 (.ref l) (E := E) (Q₁ := fun ob s1 => ob = .ref s.heap.objs.size ∧ s1 = { s with heap := s.heap.push (noSet w) }) ⟨rfl, rfl⟩) fun r s1 hr => ?_
  cases r with
  | error e => exact hr
  | ok fl =>
    cases fl with
    | ret ob =>
      obtain ⟨rfl, rfl⟩ := hr
      have gS : (s.heap.push (noSet w)).get? s.heap.objs.size = some (noSet w) := Heap.get?_push_size _ rfl
      have tS : Shared.TypeIs { s with heap := s.heap.push (noSet w) } (.ref s.heap.objs.size) "set" := ⟨_, gS, rfl⟩
      have m6 := F.called_set.init.lookup
      have m7 := F.called_set.init.bind (.ref s.heap.objs.size)
      repeat (any_goals (first | assumption | wp_step))
      refine codeAny_mono (codeAny_call_builtin (R := wants (fun r s2 => r = .none ∧ ∃ h' tk c, s2 = { s with heap := h', toks := tk } ∧ c ≤ cap ∧ SetR w h' s.heap.objs.size (fun j => decide (j ∈ ns)) c ∧ (∀ b o, s.heap.get? b = some o → h'.get? b = some o)) E)
        F.called_set.init.plain F.entry_set_init (check_set_init_1 tS ?_)) fun r2 s2 hr2 => ?_
      · obtain ⟨⟨oc, od, odt, osl⟩, gL, e1, nl, e2⟩ := hl
        dsimp only at e1 e2
        subst e1 e2
        have gL' : (s.heap.push (noSet w)).get? l = some { cls := .type "list", dict := od, data := .seq items nl, slots := osl } := Heap.get?_push_of_some _ gL
        have n1 := F.sub_list_set
        have n2 := F.sub_list_frozenset
        have n3 : (Value.type "list" == Value.type "dict") = false := by decide
        have lL : (s.heap.push (noSet w)).IsList l items := ⟨_, gL', rfl, nl, rfl⟩
        unfold Builtin.«set.__init__» noKeywords Builtin.Frozenset.updateFrom
        generalize iter_ : pyIter = PI
        wp_walk
        subst iter_
        refine wpAny_pyIter_list lL (wpAny_bind (wpAny_runValue ?_))
        have lt : l < s.heap.objs.size := Heap.lt_size gL
        have sz : (s.heap.push (noSet w)).objs.size = s.heap.objs.size + 1 := Heap.size_push ..
        have far : l ≠ (s.heap.push (noSet w)).objs.size := by rw [sz]; exact Nat.ne_of_lt (Nat.lt_succ_of_lt lt)
        have out : s.heap.objs.size ∉ [(s.heap.push (noSet w)).objs.size, l] := by
          rw [sz]
          simp only [List.mem_cons, List.not_mem_nil, or_false, not_or]
          exact ⟨Nat.ne_of_lt (Nat.lt_succ_self _), Nat.ne_of_gt lt⟩
        have val : ∀ (i : Nat) (v : Value), items[i]? = some v → ∃ k t, ns[i]? = some k ∧ v = .int k t := fun i v hv => by
          have hi : i < ns.length := size_ ▸ (Array.getElem?_eq_some_iff.mp hv).1
          obtain ⟨t, e⟩ := PyProof.Rows.IntsAre.int_at hit i v (by rw [Array.getElem?_toList]; exact hv)
          exact ⟨ns[i], t, List.getElem?_eq_getElem hi, by rw [e, List.getD_eq_getElem?_getD, List.getElem?_eq_getElem hi]; rfl⟩
        refine upd_ints ((Walks.list (A := A.in1.in1.in1) (by simp [hh]) _ l far items).toS) s.heap.objs.size out ns size_ cap few cp val (items.size - 0) 0 _ (by omega) (Nat.zero_le _)
          ⟨⟨_, Heap.get?_push_size _ rfl, rfl, rfl⟩, lL.push _⟩ ⟨0, setR_new_at (Heap.get?_push_of_some _ gS)⟩ fun s' c' mv hc' hS' => ?_
        obtain ⟨h', g2, d', tk', os'⟩ := s'
        obtain rfl : g2 = s.gens := mv.gens
        obtain rfl : d' = s.drawn := mv.drawn
        obtain rfl : os' = s.os := mv.os
        refine wpAny_pure (show wpAny _ _ (ret Value.none) _ _ _ from wpAny_pure ⟨rfl, h', tk', c', rfl, hc', hS', fun b o e => ?_⟩)
        have b0 : b < s.heap.objs.size := Heap.lt_size e
        refine mv.heap b o ?_ (Heap.get?_push_of_some _ (Heap.get?_push_of_some _ e))
        rw [sz]
        simp only [List.mem_cons, List.not_mem_nil, or_false, not_or]
        exact ⟨Nat.ne_of_lt b0, Nat.ne_of_lt (Nat.lt_succ_of_lt b0)⟩
      · cases r2 with
        | error e => exact hr2
        | ok fl2 =>
          cases fl2 with
          | ret r =>
            obtain ⟨rfl, h', tk, c', rfl, hc', hS', hk'⟩ := hr2
            repeat (any_goals (first | assumption | wp_step))
            exact h _ _ _ hc' hS' hk'
          | _ => exact hr2.elim
    | _ => exact hr.elim
/-- set(xs), xs a list of ints -/
def rSetG (K : PySem.W.Frag) (w : World) : List V → Hp → VK → Prop := fun vs H Q => ∃ (a : Addr) (ns : List Int) (cap : Nat), vs = [.ref a] ∧ SqL K H a (ns.map V.int) ∧ Capped w ns cap ∧ cap ≤ 4000 ∧
  ∀ p c, c ≤ cap → H p = none → Q (.ref p) (upd H p (SetO w p (fun j => decide (j ∈ ns)) c))
theorem cr_setG {X : Cx} (hc : X.calm = true) : CallR X (.type "set") (rSetG X.K X.w) := by
  intro pn st σ H vs us Q I r h
  obtain ⟨a, ns, cap, rfl, ha, cp, few, q⟩ := h
  rw [Vals.ref1 r]
  obtain ⟨its, rv, p, _⟩ := I.list ha
  have new : H st.heap.objs.size = none := I.hok.fresh (Nat.le_refl _)
  have b4 : (4001 : Nat) < scanBound := by decide
  refine call_setG ns (I.ok.hd hc) p.isList (by simpa using ints_of_vals rv) cap (by omega) cp fun h' tk c hc R k => ?_
  exact ⟨.ref _, _, I.laid (t' := tk) k (Nat.le_refl _) (setO_new R), rfl, q _ _ hc new⟩

end R
namespace R
open PySem PySem.Spec PyProof.Rows L2
/-! ## sorted of a set of ints, any number of them -/
theorem run_sortedS {P : Program} {w : World} {A : Around} {E : Value → Shared → Prop} {st : Shared} {a : Addr} {S : Int → Bool} {n : Nat} {Q : Value → Shared → Prop} (R : SetR w st.heap a S n) (nh : A.handled = none)
    (fin : ∀ s' p (out : Array Value) (c : Nat) (ns : List Int), (∀ b o, st.heap.get? b = some o → s'.heap.get? b = some o) → s'.gens = st.gens → s'.os = st.os → st.heap.objs.size ≤ p →
      s'.heap.get? p = some (seqObj "list" out c) → IntsAre out.toList ns → ns.Pairwise (· < ·) ∧ (∀ k, k ∈ ns ↔ S k = true) ∧ ns.length = n → Q (.ref p) s') :
    wpAny (model P w) A (call (.builtin "sorted") [.ref a]) Q E st := by
  obtain ⟨o, es, ep, t, ho, hex, hd, g, nd, mem, bound, fit, cnt, ris, led⟩ := R
  refine Calls.call_function_entry PyProof.Rows.kind_sorted PyProof.Rows.plain_sorted PyProof.Rows.entry_sorted (PyProof.Rows.args_sorted1 _) ?_
  unfold Builtin.«sorted»
  refine wpAny_bind (m := checkCount "sorted" 1 1 _) <| wpAny_pure ?_
  refine wpAny_bind (collect_set (A := A.in1) nh ⟨o, ho, hex.1, hd⟩ fit bound ris led fun s1 vs kp sz gn os pm => ?_)
  have lv : vs.length = n := by rw [pm.length_eq, List.length_map, Array.length_toList, cnt]
  have iv : IntsAre vs (vs.map Builtin.Re.reRawOf) := L2.ints_of vs fun v hv => by
    obtain ⟨e, he, ev⟩ := List.mem_map.mp (pm.mem_iff.mp hv)
    obtain ⟨k, tk, ek, _⟩ := g e he
    exact ⟨k, tk, ev ▸ ek⟩
  have kk : (vs.map Builtin.Re.reRawOf).Perm (es.toList.map keyOf) := by
    have q := pm.map Builtin.Re.reRawOf
    rw [List.map_map] at q
    exact q
  have small : vs.length ≤ sizeLine := by
    rw [lv, ← cnt]
    exact fits_of_scanBound bound
  refine wpAny_bind (wpAny_newList ?_ small)
  have at1 : (s1.heap.push (seqObj "list" vs.toArray 0)).get? s1.heap.objs.size = some (seqObj "list" vs.toArray 0) := Heap.get?_push_size _ rfl
  refine wpAny_bind (wpAny_holding (wpAny_call_entry PyProof.Rows.slot_list_sort ⟨_, at1, rfl⟩ PyProof.Rows.entry_list_sort
    (SrtO.list_sort_ord SrtO.swo_int at1 small (fun two => SrtO.ints_sortable iv two) fun out o1 o2 => ⟨_, rfl, ?_⟩) (PyProof.Rows.args_list_sort _)))
  obtain ⟨c, hc⟩ := PyProof.Rows.sortedHeap_at (vs := vs) (out := out.toArray) at1
  obtain ⟨k1, k2, k3⟩ := SrtO.ints_out iv o1 o2
  have pn := k2.trans kk
  refine wpAny_pure ⟨_, rfl, fin _ s1.heap.objs.size out.toArray c (out.map SrtO.iv) (fun b u e => ?_) gn os sz hc k1 ⟨L2.lt_of_le_nodup _ k3 (pn.nodup_iff.mpr nd), fun k => by rw [pn.mem_iff, ← mem k], ?_⟩⟩
  · have q := kp b u e
    have lt := Heap.lt_size q
    show (PyProof.Rows.sortedHeap (s1.heap.push (seqObj "list" vs.toArray 0)) s1.heap.objs.size vs out.toArray).get? b = some u
    rw [PyProof.Rows.sortedHeap_old (Nat.ne_of_lt lt) (by rw [size_push']; exact Nat.lt_succ_of_lt lt)]
    exact Heap.get?_push_of_some _ q
  · rw [pn.length_eq, List.length_map, Array.length_toList]; exact cnt
def rSortedSL (w : World) : List V → Hp → VK → Prop := fun vs H Q => ∃ (a : Addr) (S : Int → Bool) (n : Nat), vs = [V.ref a] ∧ H a = some (SetO w a S n) ∧ n ≤ 100000 ∧
  ∀ (ns : List Int) (p : Addr), ns.Pairwise (· < ·) → (∀ k : Int, k ∈ ns ↔ S k = true) → ns.length = n → H p = none → Q (.ref p) (upd H p (.lst (ns.map V.int)))
theorem cr_sortedSL {X : Cx} (hc : X.calm = true) : CallR X (.builtin "sorted") (rSortedSL X.w) := by
  intro pn st σ H vs us Q I r h
  obtain ⟨a, S, n, rfl, ha, few, q⟩ := h
  rw [Vals.ref1 r]
  refine run_sortedS (setO_get I ha) (I.ok.hd hc) fun s' p out c ns k g o hp hg hi ⟨h1, h2, h3⟩ => ?_
  have new : H p = none := I.hok.fresh hp
  have small : (ns.map V.int).length ≤ sizeLine := by rw [List.length_map, h3]; exact sizeOk few
  have J : Inv X pn σ (upd H p (.lst (ns.map V.int))) { st with heap := s'.heap, gens := s'.gens, drawn := s'.drawn, toks := s'.toks } :=
    I.call (ch := []) (Un.laid k hp new) (I.hok.laid k hp ⟨small, out.toList, c, vals_of_ints hi, hg⟩) (by rw [g]; exact I.bare) fun _ z => nomatch z
  have e : s' = { st with heap := s'.heap, gens := s'.gens, drawn := s'.drawn, toks := s'.toks } := by
    cases s'
    cases st
    cases o
    rfl
  rw [e]
  exact ⟨.ref p, _, J, rfl, q ns p h1 h2 h3 new⟩

end R
namespace R
open PySem PySem.Spec PyProof.Rows L2
/-! ## set(xs) of a tuple of ints -/
set_option maxHeartbeats 8000000 in
theorem call_setGT {P : Program} {w : World} {A : Around} {E : Value → Shared → Prop} {s : Shared} {l : Addr} {items : Array Value} (ns : List Int) {Q : Value → Shared → Prop} (hh : A.handled = none) (hl : s.heap.IsTuple l items)
    (hit : IntsAre items.toList ns) (cap : Nat) (few : cap + 1 < scanBound) (cp : Capped w ns cap)
    (h : ∀ (h' : Heap) (tk c : Nat), c ≤ cap → SetR w h' s.heap.objs.size (fun j => decide (j ∈ ns)) c → (∀ b o, s.heap.get? b = some o → h'.get? b = some o) → Q (.ref s.heap.objs.size) { s with heap := h', toks := tk }) :
    wpAny (model P w) A (call (.type "set") [.ref l]) Q E s := by
  have size_ : items.size = ns.length := Array.length_toList.symm.trans (IntsAre.length hit)
  obtain ⟨c, tl, hmro⟩ := F.called_set.mro
  have m1 := F.called_set.made
  have m2 := F.called_set.sub
  refine wpAny_call (codeAny_of_tree (show wpAny _ _ (callAny (.type "set") _) _ _ _ from wpAny_pure ⟨Code.quiet_builtin _ (by decide +kernel), codeAny_builtin F.entry_type_call ?_⟩))
  rw [Around.under_plain (weight_type_call_type "set" [.ref l] []) rfl]
  have m3 := F.called_set.notType
  have m4 := F.called_set.canCreate
  have m5 := F.typeCall_set_1 (.ref l)
  repeat (any_goals (first | assumption | wp_step))
  refine codeAny_mono (code_set_led1 (.ref l) (E := E) (Q₁ := fun ob s1 => ob = .ref s.heap.objs.size ∧ s1 = { s with heap := s.heap.push (noSet w) }) ⟨rfl, rfl⟩) fun r s1 hr => ?_
  cases r with
  | error e => exact hr
  | ok fl =>
    cases fl with
    | ret ob =>
      obtain ⟨rfl, rfl⟩ := hr
      have gS : (s.heap.push (noSet w)).get? s.heap.objs.size = some (noSet w) := Heap.get?_push_size _ rfl
      have tS : Shared.TypeIs { s with heap := s.heap.push (noSet w) } (.ref s.heap.objs.size) "set" := ⟨_, gS, rfl⟩
      have m6 := F.called_set.init.lookup
      have m7 := F.called_set.init.bind (.ref s.heap.objs.size)
      repeat (any_goals (first | assumption | wp_step))
      refine codeAny_mono (codeAny_call_builtin (R := wants (fun r s2 => r = .none ∧ ∃ h' tk c, s2 = { s with heap := h', toks := tk } ∧ c ≤ cap ∧ SetR w h' s.heap.objs.size (fun j => decide (j ∈ ns)) c ∧ (∀ b o, s.heap.get? b = some o → h'.get? b = some o)) E)
        F.called_set.init.plain F.entry_set_init (check_set_init_1 tS ?_)) fun r2 s2 hr2 => ?_
      · obtain ⟨⟨oc, od, odt, osl⟩, gL, e1, nl, e2⟩ := hl
        dsimp only at e1 e2
        subst e1 e2
        have gL' : (s.heap.push (noSet w)).get? l = some { cls := .type "tuple", dict := od, data := .seq items nl, slots := osl } := Heap.get?_push_of_some _ gL
        have n1 := F.sub_tuple_set
        have n2 := F.sub_tuple_frozenset
        have n3 : (Value.type "tuple" == Value.type "dict") = false := by decide
        have lL : (s.heap.push (noSet w)).IsTuple l items := ⟨_, gL', rfl, nl, rfl⟩
        unfold Builtin.«set.__init__» noKeywords Builtin.Frozenset.updateFrom
        generalize iter_ : pyIter = PI
        wp_walk
        subst iter_
        refine wpAny_pyIter_tuple lL (wpAny_bind (wpAny_runValue ?_))
        have lt : l < s.heap.objs.size := Heap.lt_size gL
        have sz : (s.heap.push (noSet w)).objs.size = s.heap.objs.size + 1 := Heap.size_push ..
        have far : l ≠ (s.heap.push (noSet w)).objs.size := by rw [sz]; exact Nat.ne_of_lt (Nat.lt_succ_of_lt lt)
        have out : s.heap.objs.size ∉ [(s.heap.push (noSet w)).objs.size, l] := by
          rw [sz]
          simp only [List.mem_cons, List.not_mem_nil, or_false, not_or]
          exact ⟨Nat.ne_of_lt (Nat.lt_succ_self _), Nat.ne_of_gt lt⟩
        have val : ∀ (i : Nat) (v : Value), items[i]? = some v → ∃ k t, ns[i]? = some k ∧ v = .int k t := fun i v hv => by
          have hi : i < ns.length := size_ ▸ (Array.getElem?_eq_some_iff.mp hv).1
          obtain ⟨t, e⟩ := PyProof.Rows.IntsAre.int_at hit i v (by rw [Array.getElem?_toList]; exact hv)
          exact ⟨ns[i], t, List.getElem?_eq_getElem hi, by rw [e, List.getD_eq_getElem?_getD, List.getElem?_eq_getElem hi]; rfl⟩
        refine upd_ints ((Walks.tuple (A := A.in1.in1.in1) (by simp [hh]) _ l far items).toS) s.heap.objs.size out ns size_ cap few cp val (items.size - 0) 0 _ (by omega) (Nat.zero_le _)
          ⟨⟨_, Heap.get?_push_size _ rfl, rfl, rfl⟩, lL.push _⟩ ⟨0, setR_new_at (Heap.get?_push_of_some _ gS)⟩ fun s' c' mv hc' hS' => ?_
        obtain ⟨h', g2, d', tk', os'⟩ := s'
        obtain rfl : g2 = s.gens := mv.gens
        obtain rfl : d' = s.drawn := mv.drawn
        obtain rfl : os' = s.os := mv.os
        refine wpAny_pure (show wpAny _ _ (ret Value.none) _ _ _ from wpAny_pure ⟨rfl, h', tk', c', rfl, hc', hS', fun b o e => ?_⟩)
        have b0 : b < s.heap.objs.size := Heap.lt_size e
        refine mv.heap b o ?_ (Heap.get?_push_of_some _ (Heap.get?_push_of_some _ e))
        rw [sz]
        simp only [List.mem_cons, List.not_mem_nil, or_false, not_or]
        exact ⟨Nat.ne_of_lt b0, Nat.ne_of_lt (Nat.lt_succ_of_lt b0)⟩
      · cases r2 with
        | error e => exact hr2
        | ok fl2 =>
          cases fl2 with
          | ret r =>
            obtain ⟨rfl, h', tk, c', rfl, hc', hS', hk'⟩ := hr2
            repeat (any_goals (first | assumption | wp_step))
            exact h _ _ _ hc' hS' hk'
          | _ => exact hr2.elim
    | _ => exact hr.elim
/-- set(xs), xs a tuple of ints -/
def rSetGT (K : PySem.W.Frag) (w : World) : List V → Hp → VK → Prop := fun vs H Q => ∃ (a : Addr) (ns : List Int) (cap : Nat), vs = [.ref a] ∧ SqT K H a (ns.map V.int) ∧ Capped w ns cap ∧ cap ≤ 4000 ∧
  ∀ p c, c ≤ cap → H p = none → Q (.ref p) (upd H p (SetO w p (fun j => decide (j ∈ ns)) c))
theorem cr_setGT {X : Cx} (hc : X.calm = true) : CallR X (.type "set") (rSetGT X.K X.w) := by
  intro pn st σ H vs us Q I r h
  obtain ⟨a, ns, cap, rfl, ha, cp, few, q⟩ := h
  rw [Vals.ref1 r]
  obtain ⟨its, rv, p, _⟩ := I.tuple ha
  have new : H st.heap.objs.size = none := I.hok.fresh (Nat.le_refl _)
  have b4 : (4001 : Nat) < scanBound := by decide
  refine call_setGT ns (I.ok.hd hc) p (by simpa using ints_of_vals rv) cap (by omega) cp fun h' tk c hc R k => ?_
  exact ⟨.ref _, _, I.laid (t' := tk) k (Nat.le_refl _) (setO_new R), rfl, q _ _ hc new⟩

end R
namespace R
open PySem PySem.Spec PyProof.Rows L2
/-! ## a < b < c < d -/
/-- a op b op' c op'' d -/
def tChain3 (r r' r'' : R2) (ta tb tc td : TE) : TE := fun σ H Q => ta σ H fun x H1 => tb σ H1 fun y H2 => r x y H2 fun z H3 => ∃ k, z = .bl k ∧
  if k = true then tc σ H3 fun u H4 => r' y u H4 fun z H5 => ∃ k, z = .bl k ∧ if k = true then td σ H5 fun v H6 => r'' u v H6 Q else Q (.bl false) H5 else Q (.bl false) H3
theorem pe_chain3 {X : Cx} {a b c d : Expr} {ta tb tc td : TE} {pos : Pos} {op op' op'' : CmpOp} {r r' r'' : R2} (h1 : OpR X (compareOp op) r) (h2 : OpR X (compareOp op') r') (h3 : OpR X (compareOp op'') r'')
  (ha : PE X a ta) (hb : PE X b tb) (hc : PE X c tc) (hd : PE X d td) (hm : markedEach [op, op', op''] [b, c, d] (evalEach [b, c, d] X.env) = [eval b X.env, eval c X.env, eval d X.env] := by rfl) : PE X (a.Compare [op, op', op''] [b, c, d] pos) (tChain3 r r' r'' ta tb tc td) := by
  refine ⟨fun pins s σ H Q I h => ?_⟩
  unfold eval
  rw [hm]
  refine wpAny_bind (thn (ha.run pins s σ H _ I h) ?_)
  rintro v s1 ⟨x, H1, I1, r1, q1⟩
  rw [compareChain.eq_2 _ _ _ _ _ _ (fun z => by cases z)]
  refine wpAny_bind (wpAny_holding (thn (hb.run pins s1 σ H1 _ I1 q1) ?_))
  rintro v2 s2 ⟨y, H2, I2, r2, q2⟩
  refine wpAny_bind (wpAny_standAt (wpAny_bind (wpAny_holding (thn (h1 pins s2 σ H2 x y v v2 _ I2 r1 r2 q2) ?_))))
  rintro w1 s3 ⟨z, H3, I3, r3, k, rfl, q3⟩
  obtain rfl : w1 = .bool k := r3
  refine wpAny_bind (wpAny_release (wpAny_bind (wpAny_holding (wpAny_truthy_bool ?_))))
  cases k with
  | false => exact wpAny_pure ⟨.bl false, H3, I3, rfl, q3⟩
  | true =>
    rw [if_pos rfl] at q3 ⊢
    rw [compareChain.eq_2 _ _ _ _ _ _ (fun z => by cases z)]
    refine wpAny_bind (wpAny_holding (thn (hc.run pins s3 σ H3 _ I3 q3) ?_))
    rintro v4 s4 ⟨u, H4, I4, r4, q4⟩
    refine wpAny_bind (wpAny_standAt (wpAny_bind (wpAny_holding (thn (h2 pins s4 σ H4 y u v2 v4 _ I4 r2 r4 q4) ?_))))
    rintro w2 s5 ⟨z, H5, I5, r5, k, rfl, q5⟩
    obtain rfl : w2 = .bool k := r5
    refine wpAny_bind (wpAny_release (wpAny_bind (wpAny_holding (wpAny_truthy_bool ?_))))
    cases k with
    | false => exact wpAny_pure ⟨.bl false, H5, I5, rfl, q5⟩
    | true =>
      rw [if_pos rfl] at q5 ⊢
      rw [compareChain.eq_1]
      refine wpAny_bind (wpAny_holding (thn (hd.run pins s5 σ H5 _ I5 q5) ?_))
      rintro v6 s6 ⟨t, H6, I6, r6, q6⟩
      refine wpAny_bind (wpAny_standAt ?_)
      unfold operate
      refine wpAny_bind (wpAny_holding (thn (h3 pins s6 σ H6 u t v4 v6 _ I6 r4 r6 q6) ?_))
      intro w7 s7 h7
      exact wpAny_bind (wpAny_release (wpAny_pure h7))
theorem pt_chain3 {X : Cx} {a b c d : Expr} {ta tb tc td : TE} {pos : Pos} {op op' op'' : CmpOp} {r r' r'' : R2} (h1 : OpR X (compareOp op) r) (h2 : OpR X (compareOp op') r') (h3 : OpR X (compareOp op'') r'')
  (ha : PE X a ta) (hb : PE X b tb) (hc : PE X c tc) (hd : PE X d td) (hm : markedEach [op, op', op''] [b, c, d] (evalEach [b, c, d] X.env) = [eval b X.env, eval c X.env, eval d X.env] := by rfl) : PT X (a.Compare [op, op', op''] [b, c, d] pos) (tTest (tChain3 r r' r'' ta tb tc td)) := by
  refine ⟨fun pins s σ H Q I h => ?_⟩
  rw [arm_isTrue_Compare, hm]
  refine wpAny_bind (thn (ha.run pins s σ H _ I h) ?_)
  rintro v s1 ⟨x, H1, I1, r1, q1⟩
  rw [testChain.eq_2 _ _ _ _ _ _ (fun z => by cases z)]
  refine wpAny_bind (wpAny_holding (thn (hb.run pins s1 σ H1 _ I1 q1) ?_))
  rintro v2 s2 ⟨y, H2, I2, r2, q2⟩
  refine wpAny_bind (wpAny_standAt (wpAny_bind (wpAny_holding (thn (h1 pins s2 σ H2 x y v v2 _ I2 r1 r2 q2) ?_))))
  rintro w1 s3 ⟨z, H3, I3, r3, k, rfl, q3⟩
  obtain rfl : w1 = .bool k := r3
  refine wpAny_bind (wpAny_release (wpAny_bind (wpAny_holding (wpAny_truthy_bool ?_))))
  cases k with
  | false =>
    obtain ⟨k, e, q3⟩ := q3
    cases e
    exact wpAny_pure ⟨H3, I3, q3⟩
  | true =>
    rw [if_pos rfl] at q3 ⊢
    rw [testChain.eq_2 _ _ _ _ _ _ (fun z => by cases z)]
    refine wpAny_bind (wpAny_holding (thn (hc.run pins s3 σ H3 _ I3 q3) ?_))
    rintro v4 s4 ⟨u, H4, I4, r4, q4⟩
    refine wpAny_bind (wpAny_standAt (wpAny_bind (wpAny_holding (thn (h2 pins s4 σ H4 y u v2 v4 _ I4 r2 r4 q4) ?_))))
    rintro w2 s5 ⟨z, H5, I5, r5, k, rfl, q5⟩
    obtain rfl : w2 = .bool k := r5
    refine wpAny_bind (wpAny_release (wpAny_bind (wpAny_holding (wpAny_truthy_bool ?_))))
    cases k with
    | false =>
      obtain ⟨k, e, q5⟩ := q5
      cases e
      exact wpAny_pure ⟨H5, I5, q5⟩
    | true =>
      rw [if_pos rfl] at q5 ⊢
      rw [testChain.eq_1]
      refine wpAny_bind (wpAny_holding (thn (hd.run pins s5 σ H5 _ I5 q5) ?_))
      rintro v6 s6 ⟨t, H6, I6, r6, q6⟩
      refine wpAny_bind (wpAny_standAt ?_)
      unfold operate
      refine wpAny_bind (wpAny_bind (wpAny_holding (thn (h3 pins s6 σ H6 u t v4 v6 _ I6 r4 r6 q6) ?_)))
      rintro w7 s7 ⟨z, H7, I7, r7, k, rfl, q7⟩
      obtain rfl : w7 = .bool k := r7
      exact wpAny_bind (wpAny_release (wpAny_pure (wpAny_holding (wpAny_truthy_bool ⟨H7, I7, q7⟩))))

end R
namespace R
open PySem PySem.Spec PyProof.Rows L2
/-! ## places: the fitting numbers in a row -/
def below (c : List Int) (y : Int) : Nat := (c.filter fun z => decide (z < y)).length
/-- the place of the least fitting number from x on -/
def pl (bs : List Bar) (x : Int) : Int := x / (wh bs : Int) * ((cls bs).length : Int) + (below (cls bs) (x % (wh bs : Int)) : Int)
theorem below_succ {c : List Int} (h : c.Pairwise (· < ·)) (y : Int) : below c (y + 1) = below c y + (if y ∈ c then 1 else 0) := by
  induction c with
  | nil => rfl
  | cons a r ih =>
    obtain ⟨h1, h2⟩ := List.pairwise_cons.mp h
    have ih := ih h2
    unfold below at ih ⊢
    by_cases e : a = y
    · subst e
      have n : a ∉ r := fun z => by have := h1 a z; omega
      rw [if_neg n] at ih
      rw [List.filter_cons_of_pos (by simp; omega), List.filter_cons_of_neg (by simp), List.length_cons, if_pos List.mem_cons_self, ih]
    · have em : (y ∈ a :: r) = (y ∈ r) := by
        rw [List.mem_cons]
        exact propext ⟨fun z => z.elim (fun w => absurd w.symm e) id, .inr⟩
      simp only [em]
      by_cases l : a < y
      · rw [List.filter_cons_of_pos (by simp; omega), List.filter_cons_of_pos (by simp; omega), List.length_cons, List.length_cons, ih]
        omega
      · rw [List.filter_cons_of_neg (by simp; omega), List.filter_cons_of_neg (by simp; omega), ih]
theorem below_zero {c : List Int} (h : ∀ z ∈ c, 0 ≤ z) : below c 0 = 0 := by
  unfold below
  rw [List.filter_eq_nil_iff.mpr fun z hz => by have := h z hz; simp; omega]
  rfl
theorem below_all {c : List Int} {w : Int} (h : ∀ z ∈ c, z < w) : below c w = c.length := by
  unfold below
  rw [List.filter_eq_self.mpr fun z hz => by have := h z hz; simp; omega]
theorem cls_mem {bs : List Bar} {x : Int} : x ∈ cls bs ↔ 0 ≤ x ∧ x < (wh bs : Int) ∧ fitsB bs x = true := (cls_is bs).mem x
theorem divStep {x w : Int} (hw : 0 < w) : (x % w + 1 < w ∧ (x + 1) / w = x / w ∧ (x + 1) % w = x % w + 1) ∨ (x % w + 1 = w ∧ (x + 1) / w = x / w + 1 ∧ (x + 1) % w = 0) := by
  have h0 := Int.emod_nonneg x (Int.ne_of_gt hw)
  have h1 := Int.emod_lt_of_pos x hw
  have h2 := Int.mul_ediv_add_emod x w
  by_cases h : x % w + 1 < w
  · refine .inl ⟨h, ?_⟩
    have e : x + 1 = (x % w + 1) + w * (x / w) := by omega
    rw [e, Int.add_mul_ediv_left _ _ (Int.ne_of_gt hw), Int.add_mul_emod_self_left, Int.ediv_eq_zero_of_lt (by omega) h, Int.emod_eq_of_lt (by omega) h]
    exact ⟨by omega, rfl⟩
  · refine .inr ⟨by omega, ?_⟩
    have e : x + 1 = 0 + w * (x / w + 1) := by rw [Int.mul_add]; omega
    rw [e, Int.add_mul_ediv_left _ _ (Int.ne_of_gt hw), Int.add_mul_emod_self_left]
    exact ⟨by rw [Int.zero_ediv, Int.zero_add], Int.zero_emod _⟩
def PosOk (bs : List Bar) : Prop := 0 < wh bs
theorem pl_succ {bs : List Bar} (hw : 0 < wh bs) (x : Int) : pl bs (x + 1) = pl bs x + (if fitsB bs x = true then 1 else 0) := by
  have hw' : (0 : Int) < (wh bs : Int) := by omega
  have r0 := Int.emod_nonneg x (Int.ne_of_gt hw')
  have r1 := Int.emod_lt_of_pos x hw'
  have key : (below (cls bs) (x % (wh bs : Int) + 1) : Int) = (below (cls bs) (x % (wh bs : Int)) : Int) + (if fitsB bs x = true then 1 else 0) := by
    rw [below_succ (cls_up bs)]
    have em : (x % (wh bs : Int) ∈ cls bs) ↔ fitsB bs x = true := by
      rw [cls_mem, fitsB_mod]
      exact ⟨fun h => h.2.2, fun h => ⟨r0, r1, h⟩⟩
    by_cases f : fitsB bs x = true
    · rw [if_pos (em.mpr f), if_pos f]
      rfl
    · rw [if_neg (fun z => f (em.mp z)), if_neg f]
      rfl
  unfold pl
  rcases divStep (x := x) hw' with ⟨_, e1, e2⟩ | ⟨h, e1, e2⟩
  · rw [e1, e2, key]
    omega
  · rw [e1, e2, below_zero fun z hz => (cls_mem.mp hz).1]
    rw [h, below_all fun z hz => (cls_mem.mp hz).2.1] at key
    rw [Int.add_mul, Int.one_mul]
    omega
/-- how many fit from a on, k numbers -/
def cnt (bs : List Bar) (a : Int) (k : Nat) : Nat := ((List.range k).filter fun i : Nat => fitsB bs (a + i)).length
theorem cnt_succ (bs : List Bar) (a : Int) (k : Nat) : cnt bs a (k + 1) = cnt bs a k + (if fitsB bs (a + k) = true then 1 else 0) := by
  unfold cnt
  rw [List.range_succ, List.filter_append, List.length_append]
  by_cases f : fitsB bs (a + k) = true
  · rw [List.filter_cons_of_pos (p := fun i : Nat => fitsB bs (a + i)) f, if_pos f]
    rfl
  · rw [List.filter_cons_of_neg (p := fun i : Nat => fitsB bs (a + i)) f, if_neg f]
    rfl
theorem pl_add {bs : List Bar} (hw : 0 < wh bs) (a : Int) (k : Nat) : pl bs (a + k) = pl bs a + (cnt bs a k : Int) := by
  induction k with
  | zero =>
    show pl bs (a + 0) = pl bs a + ((0 : Nat) : Int)
    rw [Int.add_zero]
    omega
  | succ k ih =>
    rw [cnt_succ, show a + ((k + 1 : Nat) : Int) = (a + k) + 1 by omega, pl_succ hw, ih]
    by_cases f : fitsB bs (a + k) = true
    · rw [if_pos f, if_pos f]
      omega
    · rw [if_neg f, if_neg f]
      omega
theorem pl_whole {bs : List Bar} (hw : 0 < wh bs) (x j : Int) : pl bs (x + j * (wh bs : Int)) = pl bs x + j * ((cls bs).length : Int) := by
  unfold pl
  rw [Int.add_mul_ediv_right _ _ (by omega), Int.add_mul_emod_self_right, Int.add_mul]
  omega
theorem pl_mono {bs : List Bar} (hw : 0 < wh bs) {a b : Int} (h : a ≤ b) : pl bs a ≤ pl bs b := by
  have e := pl_add hw a (b - a).toNat
  rw [show a + (((b - a).toNat : Nat) : Int) = b by omega] at e
  omega
theorem pl_fit {bs : List Bar} (hw : 0 < wh bs) {a b : Int} (f : fitsB bs a = true) (h : a < b) : pl bs a < pl bs b := by
  have e := pl_succ hw a
  rw [if_pos f] at e
  have := pl_mono hw (show a + 1 ≤ b by omega)
  omega
theorem fit_unique {bs : List Bar} (hw : 0 < wh bs) {a b : Int} (fa : fitsB bs a = true) (fb : fitsB bs b = true) (e : pl bs a = pl bs b) : a = b := by
  by_cases h : a = b
  · exact h
  · by_cases l : a < b
    · have := pl_fit hw fa l
      omega
    · have := pl_fit hw fb (show b < a by omega)
      omega
/-- the fitting number at a place -/
def st (bs : List Bar) (q : Int) : Int := q / ((cls bs).length : Int) * (wh bs : Int) + (cls bs).getD (q % ((cls bs).length : Int)).toNat 0
theorem below_at {c : List Int} (h : c.Pairwise (· < ·)) : ∀ {j : Nat} {x : Int}, c[j]? = some x → below c x = j := by
  induction c with
  | nil => intro j x e; simp at e
  | cons a r ih =>
    obtain ⟨h1, h2⟩ := List.pairwise_cons.mp h
    intro j x e
    cases j with
    | zero =>
      cases Option.some.inj e
      unfold below
      rw [List.filter_eq_nil_iff.mpr fun z hz => ?_]
      · rfl
      · rcases List.mem_cons.mp hz with rfl | hz
        · simp
        · have := h1 z hz
          simp
          omega
    | succ j =>
      have e' : r[j]? = some x := e
      have q := ih h2 e'
      have lt := h1 x (List.mem_of_getElem? e')
      unfold below at q ⊢
      rw [List.filter_cons_of_pos (by simp; omega), List.length_cons, q]
section
variable {bs : List Bar} {q : Int}
theorem st_parts (hw : 0 < wh bs) (hn : 0 < (cls bs).length) : ∃ x, (cls bs)[(q % ((cls bs).length : Int)).toNat]? = some x ∧ st bs q = x + q / ((cls bs).length : Int) * (wh bs : Int) ∧ 0 ≤ x ∧ x < (wh bs : Int) ∧ fitsB bs x = true := by
  have r0 := Int.emod_nonneg q (show ((cls bs).length : Int) ≠ 0 by omega)
  have r1 := Int.emod_lt_of_pos q (show (0 : Int) < ((cls bs).length : Int) by omega)
  have hj : (q % ((cls bs).length : Int)).toNat < (cls bs).length := by omega
  have e := List.getElem?_eq_getElem hj
  refine ⟨_, e, ?_, cls_mem.mp (List.mem_of_getElem? e)⟩
  unfold st
  rw [List.getD_eq_getElem?_getD, e, Int.add_comm]
  rfl
theorem fits_st (hw : 0 < wh bs) (hn : 0 < (cls bs).length) : fitsB bs (st bs q) = true := by
  obtain ⟨x, _, e, x0, x1, f⟩ := st_parts (q := q) hw hn
  rw [e, ← fitsB_mod, Int.add_mul_emod_self_right, fitsB_mod]
  exact f
theorem pl_st (hw : 0 < wh bs) (hn : 0 < (cls bs).length) : pl bs (st bs q) = q := by
  obtain ⟨x, h, e, x0, x1, f⟩ := st_parts (q := q) hw hn
  have r0 := Int.emod_nonneg q (show ((cls bs).length : Int) ≠ 0 by omega)
  have d := Int.mul_ediv_add_emod q ((cls bs).length : Int)
  rw [e, pl_whole hw]
  unfold pl
  rw [Int.emod_eq_of_lt x0 x1, Int.ediv_eq_zero_of_lt x0 x1, Int.zero_mul, Int.zero_add, below_at (cls_up bs) h, Int.mul_comm]
  omega
theorem st_pl (hw : 0 < wh bs) {x : Int} (f : fitsB bs x = true) : st bs (pl bs x) = x := by
  have hn : 0 < (cls bs).length := List.length_pos_of_mem (cls_mem.mpr ⟨Int.emod_nonneg x (by omega), Int.emod_lt_of_pos x (by omega), by rw [fitsB_mod]; exact f⟩)
  exact fit_unique hw (fits_st hw hn) f (pl_st hw hn)
end
theorem cls_empty {bs : List Bar} (hw : 0 < wh bs) (h : cls bs = []) (x : Int) : fitsB bs x = false := by
  cases f : fitsB bs x with
  | false => rfl
  | true =>
    have := cls_mem.mpr ⟨Int.emod_nonneg x (show (wh bs : Int) ≠ 0 by omega), Int.emod_lt_of_pos x (show (0 : Int) < (wh bs : Int) by omega), by rw [fitsB_mod]; exact f⟩
    rw [h] at this
    simp at this
theorem cnt_le (bs : List Bar) (a : Int) (k : Nat) : cnt bs a k ≤ k := by
  unfold cnt
  have h := List.length_filter_le (fun i : Nat => fitsB bs (a + i)) (List.range k)
  rw [List.length_range] at h
  exact h
theorem below_le (c : List Int) (y : Int) : below c y ≤ c.length := List.length_filter_le _ _
/-- how great a place may be -/
theorem pl_size {bs : List Bar} (hw : 0 < wh bs) {x : Int} {N : Nat} (hx : x.natAbs ≤ N) : (pl bs x).natAbs ≤ N * (cls bs).length + (cls bs).length := by
  unfold pl
  have h1 : (x / (wh bs : Int)).natAbs ≤ N := Nat.le_trans (Int.natAbs_ediv_le_natAbs _ _) hx
  have h2 := below_le (cls bs) (x % (wh bs : Int))
  have h3 : (x / (wh bs : Int) * ((cls bs).length : Int)).natAbs ≤ N * (cls bs).length := by
    rw [Int.natAbs_mul, Int.natAbs_natCast]
    exact Nat.mul_le_mul_right _ h1
  omega

end R
namespace R
open PySem PySem.Spec PyProof.Rows L2
theorem below_split {c : List Int} {y : Int} {n : Nat} (hn : n ≤ c.length) (h1 : ∀ (j : Nat) x, j < n → c[j]? = some x → x < y) (h2 : ∀ (j : Nat) x, n ≤ j → c[j]? = some x → ¬ x < y) : below c y = n := by
  unfold below
  have e : c = c.take n ++ c.drop n := (List.take_append_drop n c).symm
  rw [e, List.filter_append]
  rw [List.filter_eq_self.mpr fun z hz => ?_, List.filter_eq_nil_iff.mpr fun z hz => ?_, List.append_nil, List.length_take]
  · omega
  · obtain ⟨j, hj, ez⟩ := List.mem_iff_getElem.mp hz
    rw [List.length_drop] at hj
    rw [List.getElem_drop] at ez
    have q := h2 (n + j) z (by omega) (by rw [List.getElem?_eq_getElem (by omega), ez])
    simpa using q
  · obtain ⟨j, hj, ez⟩ := List.mem_iff_getElem.mp hz
    rw [List.length_take] at hj
    rw [List.getElem_take] at ez
    have q := h1 j z (by omega) (by rw [List.getElem?_eq_getElem (by omega), ez])
    simpa using q
theorem ups {c : List Int} (h : c.Pairwise (· < ·)) {i j : Nat} {x y : Int} (hi : c[i]? = some x) (hj : c[j]? = some y) (l : i ≤ j) : x ≤ y := by
  obtain ⟨a, ea⟩ := List.getElem?_eq_some_iff.mp hi
  obtain ⟨b, eb⟩ := List.getElem?_eq_some_iff.mp hj
  by_cases e : i = j
  · subst e
    rw [← ea, ← eb]
    exact Int.le_refl _
  · have := List.pairwise_iff_getElem.mp h i j a b (by omega)
    omega
/-- divmod of numbers that are not too great -/
theorem divp_small {i j : Int} (hj : 0 < j) (hi : i.natAbs < 2 ^ 3000) : CDivP i j := by
  refine divp_ok hj ?_
  have := PyProof.Rows.intBits_le hi
  omega
theorem nodup_len : ∀ {xs ys : List Int}, xs.Nodup → (∀ x ∈ xs, x ∈ ys) → xs.length ≤ ys.length
  | [], _, _, _ => Nat.zero_le _
  | x :: r, ys, n, h => by
    obtain ⟨n1, n2⟩ := List.nodup_cons.mp n
    have hx := h x List.mem_cons_self
    have ih := nodup_len (ys := ys.erase x) n2 fun y hy => (List.mem_erase_of_ne (fun e => n1 (by rw [← e]; exact hy))).mpr (h y (List.mem_cons_of_mem _ hy))
    rw [List.length_erase_of_mem hx] at ih
    have := List.length_pos_of_mem hx
    show r.length + 1 ≤ ys.length
    omega
theorem cls_choices {bs : List Bar} (S : SvOk bs) : (cls bs).length ≤ choices bs := by
  have h : ∀ bs : List Bar, (∀ b ∈ bs, BarOk b) → ∃ xs, ClsIs bs xs ∧ xs.length ≤ choices bs := by
    refine snocInd (fun _ => ⟨[0], ClsIs.nil, Nat.le_refl _⟩) fun bs b ih h => ?_
    obtain ⟨xs, C, hl⟩ := ih fun c hc => h c (List.mem_append_left _ hc)
    have B := h b (List.mem_append_right _ (List.mem_singleton.mpr rfl))
    have w1 : 0 < wh bs := wh_pos bs fun c hc => (h c (List.mem_append_left _ hc)).pos
    have m1 := B.pos
    have hg : 0 < Nat.gcd (wh bs) b.1.toNat := Nat.gcd_pos_of_pos_left _ w1
    obtain ⟨back, hb⟩ : ∃ back : Int, ((b.1.toNat / Nat.gcd (wh bs) b.1.toNat : Nat) : Int) ∣ ((wh bs / Nat.gcd (wh bs) b.1.toNat : Nat) : Int) * back - 1 := by
      have cop : Nat.gcd (wh bs / Nat.gcd (wh bs) b.1.toNat) (b.1.toNat / Nat.gcd (wh bs) b.1.toNat) = 1 := by
        rw [Nat.gcd_div (Nat.gcd_dvd_left _ _) (Nat.gcd_dvd_right _ _)]
        exact Nat.div_self hg
      have v1 : 1 ≤ wh bs / Nat.gcd (wh bs) b.1.toNat := Nat.div_pos (Nat.gcd_le_left _ w1) hg
      generalize wh bs / Nat.gcd (wh bs) b.1.toNat = n at cop v1
      generalize b.1.toNat / Nat.gcd (wh bs) b.1.toNat = m at cop
      have walk : ∀ (k : Nat) (r a F G : Nat) (f g : Int), a ≤ k → Euc n m r a F G f g → ∃ back : Int, (m : Int) ∣ (n : Int) * back - 1 := by
        intro k
        induction k with
        | zero =>
          intro r a F G f g ha E
          obtain rfl : a = 0 := by omega
          exact ⟨_, E.last⟩
        | succ k ih =>
          intro r a F G f g ha E
          by_cases h0 : a = 0
          · subst h0
            exact ⟨_, E.last⟩
          · exact ih _ _ _ _ _ _ (by have := Nat.mod_lt r (Nat.pos_of_ne_zero h0); omega) (E.step h0)
      exact walk m n m 1 0 1 0 (Nat.le_refl _) (Euc.start v1 cop)
    have ew : Nat.gcd (wh bs) b.1.toNat * (wh bs / Nat.gcd (wh bs) b.1.toNat) = wh bs := Nat.mul_div_cancel' (Nat.gcd_dvd_left _ _)
    have em : Nat.gcd (wh bs) b.1.toNat * (b.1.toNat / Nat.gcd (wh bs) b.1.toNat) = b.1.toNat := Nat.mul_div_cancel' (Nat.gcd_dvd_right _ _)
    have t1 : 1 ≤ b.1.toNat / Nat.gcd (wh bs) b.1.toNat := Nat.div_pos (Nat.gcd_le_right _ (by omega)) hg
    have M : Meet (Nat.gcd (wh bs) b.1.toNat : Nat) (b.1.toNat / Nat.gcd (wh bs) b.1.toNat : Nat) back (wh bs : Nat) (wh bs / Nat.gcd (wh bs) b.1.toNat : Nat) b.1 :=
      ⟨by omega, by omega, by omega, by rw [← Int.natCast_mul, ew], by rw [← Int.natCast_mul, em]; omega, hb⟩
    refine ⟨_, C.add M B.lot ?_, ?_⟩
    · rw [wh_add, show b.1.natAbs = b.1.toNat by omega, ← Int.natCast_mul]
      congr 1
      exact Nat.mul_div_assoc _ (Nat.gcd_dvd_right _ _)
    · rw [choices_add]
      exact Nat.le_trans (joinL_len _ _ _ _ _ _) (Nat.mul_le_mul hl (by omega))
  obtain ⟨xs, C, hl⟩ := h bs S.bar
  have h1 := nodup_len (cls_is bs).nd (ys := xs) fun x hx => (C.mem x).mpr ((cls_is bs).mem x |>.mp hx)
  exact Nat.le_trans h1 hl
theorem choices_cls {bs : List Bar} (S : SvOk bs) : (cls bs).length ≤ 2000 := Nat.le_trans (cls_choices S) S.many

end R
namespace R
open PySem PySem.Spec PyProof.Rows L2
/-! ## rows of bars cut and joined -/
theorem cutTake (xs : List V) {i : Nat} (h : i ≤ xs.length) : cutV xs none (some (i : Int)) = xs.take i := by
  unfold cutV
  rw [HT.sIx_none, HT.sIx_nat, List.drop_zero, Nat.sub_zero, Nat.min_eq_left h]
theorem cutDrop (xs : List V) {i : Nat} (h : i ≤ xs.length) : cutV xs (some (i : Int)) none = xs.drop i := by
  unfold cutV
  rw [HT.sIx_none, HT.sIx_nat, Nat.min_eq_left h, List.take_of_length_le (by rw [List.length_drop]; exact Nat.le_refl _)]
theorem cutTake' (xs : List V) (i : Nat) : cutV xs none (some (i : Int)) = xs.take i := by
  unfold cutV
  rw [HT.sIx_none, HT.sIx_nat, List.drop_zero, Nat.sub_zero, ← List.take_take, List.take_length]
theorem barsTake' {K : PySem.W.Frag} {H : Hp} {v : V} {bs : List Bar} {i : Nat} {Q : V → Hp → Prop} (B : BarsAt K H v bs) (q : ∀ y H', Same H H' → BarsAt K H' y (bs.take i) → Q y H') : rSlA K v none (some (i : Int)) H Q := by
  obtain ⟨a, xs, rfl, tb, nb, hb⟩ := B.ex
  refine ⟨a, xs, rfl, tb, fun h => ?_, fun _ p np => ?_⟩
  · have h2 := h.2
    rw [HT.sIx_nat] at h2
    have e : bs.take i = bs := List.take_of_length_le (by omega)
    exact q _ _ (Same.refl _) (by rw [e]; exact B)
  · refine q _ _ (same_upd np) ?_
    rw [cutTake' xs i]
    refine ⟨p, _, rfl, tupOf upd_same, by rw [List.length_take, List.length_take, nb], fun j x b h1 h2 => ?_⟩
    rw [List.getElem?_take] at h1 h2
    by_cases hj : j < i
    · rw [if_pos hj] at h1 h2
      exact (hb j x b h1 h2).stay (.same (same_upd np))
    · rw [if_neg hj] at h1
      cases h1
theorem barsTake {K : PySem.W.Frag} {H : Hp} {v : V} {bs : List Bar} {i : Nat} {Q : V → Hp → Prop} (B : BarsAt K H v bs) (_ : i ≤ bs.length) (q : ∀ y H', Same H H' → BarsAt K H' y (bs.take i) → Q y H') : rSlA K v none (some (i : Int)) H Q := barsTake' B q
theorem barsDrop {K : PySem.W.Frag} {H : Hp} {v : V} {bs : List Bar} {i : Nat} {Q : V → Hp → Prop} (B : BarsAt K H v bs) (hi : i ≤ bs.length) (q : ∀ y H', Same H H' → BarsAt K H' y (bs.drop i) → Q y H') : rSlA K v (some (i : Int)) none H Q := by
  obtain ⟨a, xs, rfl, tb, nb, hb⟩ := B.ex
  refine ⟨a, xs, rfl, tb, fun h => ?_, fun _ p np => ?_⟩
  · have h1 := h.1
    rw [HT.sIx_nat] at h1
    by_cases z : i = 0
    · subst z
      exact q _ _ (Same.refl _) B
    · have e : bs = [] := List.length_eq_zero_iff.mp (by omega)
      subst e
      rw [List.drop_nil] at q
      exact q _ _ (Same.refl _) B
  · refine q _ _ (same_upd np) ?_
    rw [cutDrop xs (by omega)]
    refine ⟨p, _, rfl, tupOf upd_same, by rw [List.length_drop, List.length_drop, nb], fun j x b h1 h2 => ?_⟩
    rw [List.getElem?_drop] at h1 h2
    exact (hb _ x b h1 h2).stay (.same (same_upd np))
theorem catBars {K : PySem.W.Frag} {H : Hp} {v u : V} {bs cs : List Bar} {Q : V → Hp → Prop} (B : BarsAt K H v bs) (C : BarsAt K H u cs) (few : bs.length + cs.length ≤ 1000) (q : ∀ y H', Same H H' → BarsAt K H' y (bs ++ cs) → Q y H') : rCatA K v u H Q := by
  obtain ⟨a, xs, rfl, tb, nb, hb⟩ := B.ex
  obtain ⟨c, ys, rfl, tc, nc, hc⟩ := C.ex
  refine ⟨a, c, xs, ys, rfl, rfl, tb, tc, sizeOk (by omega), fun e => ?_, fun _ e => ?_, fun _ _ p np => ?_⟩
  · subst e
    have e2 : bs = [] := List.length_eq_zero_iff.mp nb.symm
    subst e2
    exact q _ _ (Same.refl _) C
  · subst e
    have e2 : cs = [] := List.length_eq_zero_iff.mp nc.symm
    subst e2
    rw [List.append_nil] at q
    exact q _ _ (Same.refl _) B
  · refine q _ _ (same_upd np) ⟨p, _, rfl, tupOf upd_same, by rw [List.length_append, List.length_append, nb, nc], fun j x b h1 h2 => ?_⟩
    by_cases hj : j < xs.length
    · rw [List.getElem?_append_left hj] at h1
      rw [List.getElem?_append_left (by omega)] at h2
      exact (hb j x b h1 h2).stay (.same (same_upd np))
    · rw [List.getElem?_append_right (by omega)] at h1
      rw [List.getElem?_append_right (by omega), ← nb] at h2
      exact (hc _ x b h1 h2).stay (.same (same_upd np))
/-- (a bar,) -/
theorem oneBar {K : PySem.W.Frag} {H : Hp} {p : Addr} {x : V} {b : Bar} (t : SqT K H p [x]) (h : BarAt K H x b) : BarsAt K H (.ref p) [b] :=
  ⟨p, [x], rfl, t, rfl, fun j y c h1 h2 => by
    cases j with
    | zero =>
      cases Option.some.inj h1
      cases Option.some.inj h2
      exact h
    | succ j => simp at h1⟩
theorem choices_app (xs : List Bar) : ∀ ys : List Bar, choices (xs ++ ys) = choices xs * choices ys := by
  refine snocInd (by rw [List.append_nil]; exact (Nat.mul_one _).symm) fun ys b ih => ?_
  rw [← List.append_assoc, choices_add, choices_add, ih, Nat.mul_assoc]
theorem choices_pos : ∀ ys : List Bar, 1 ≤ choices ys := by
  refine snocInd (Nat.le_refl _) fun ys b ih => ?_
  rw [choices_add]
  exact Nat.mul_le_mul ih (show 1 ≤ max 1 b.2.length by omega)
theorem wh_app (xs : List Bar) : ∀ ys : List Bar, wh (xs ++ ys) = Nat.lcm (wh xs) (wh ys) := by
  refine snocInd (by rw [List.append_nil]; exact (Nat.lcm_one_right _).symm) fun ys b ih => ?_
  rw [← List.append_assoc, wh_add, wh_add, ih, Nat.lcm_assoc]
theorem cutAt {bs : List Bar} {i : Nat} {b : Bar} (h : bs[i]? = some b) : bs = bs.take i ++ [b] ++ bs.drop (i + 1) := by
  obtain ⟨h1, h2⟩ := List.getElem?_eq_some_iff.mp h
  rw [← takeSucc h, List.take_append_drop]
theorem wh_out {xs ys : List Bar} {b : Bar} : wh (xs ++ ys) ∣ wh (xs ++ [b] ++ ys) := by
  rw [wh_app, wh_app, wh_app]
  exact Nat.lcm_dvd (Nat.dvd_trans (Nat.dvd_lcm_left _ _) (Nat.dvd_lcm_left _ _)) (Nat.dvd_lcm_right _ _)
/-- a bar left out -/
theorem SvOk.less {xs ys : List Bar} {b : Bar} (S : SvOk (xs ++ [b] ++ ys)) : SvOk (xs ++ ys) := by
  have hp : 0 < wh (xs ++ [b] ++ ys) := wh_pos _ fun c hc => (S.bar c hc).pos
  refine ⟨?_, fun c hc => S.bar c ?_, Nat.le_trans (Nat.le_of_dvd hp wh_out) S.great, ?_⟩
  · have := S.six
    rw [List.length_append, List.length_append] at this
    rw [List.length_append]
    omega
  · rcases List.mem_append.mp hc with h | h
    · exact List.mem_append_left _ (List.mem_append_left _ h)
    · exact List.mem_append_right _ h
  · have := S.many
    rw [choices_app, choices_app] at this
    rw [choices_app]
    have h1 : choices [b] = max 1 b.2.length := by
      show 1 * max 1 b.2.length = _
      rw [Nat.one_mul]
    have h2 := choices_pos xs
    refine Nat.le_trans (Nat.mul_le_mul_right _ ?_) this
    exact Nat.le_mul_of_pos_right _ (choices_pos [b])
/-- a bar with fewer rests in its place -/
theorem SvOk.swap {xs ys : List Bar} {b c : Bar} (S : SvOk (xs ++ [b] ++ ys)) (e : c.1 = b.1) (o : BarOk c) (l : c.2.length ≤ b.2.length) : SvOk (xs ++ [c] ++ ys) := by
  refine ⟨?_, fun d hd => ?_, ?_, ?_⟩
  · have := S.six
    rw [List.length_append, List.length_append] at this ⊢
    exact this
  · rcases List.mem_append.mp hd with h | h
    · rcases List.mem_append.mp h with h | h
      · exact S.bar d (List.mem_append_left _ (List.mem_append_left _ h))
      · rw [List.mem_singleton.mp h]
        exact o
    · exact S.bar d (List.mem_append_right _ h)
  · have := S.great
    rw [wh_app, wh_add] at this ⊢
    rw [e]
    exact this
  · have := S.many
    rw [choices_app, choices_add] at this ⊢
    exact Nat.le_trans (Nat.mul_le_mul_right _ (Nat.mul_le_mul_left _ (show max 1 c.2.length ≤ max 1 b.2.length by omega))) this
theorem LotOk.len {m : Int} {l : List Int} (h : LotOk m l) : l.length ≤ m.toNat := by
  have := nodup_len (ys := (List.range m.toNat).map fun i : Nat => (i : Int)) (h.up.imp fun {a b} (lt : a < b) => Int.ne_of_lt lt) fun x hx => by
    have h1 := h.ge x hx
    have h2 := h.lt x hx
    exact List.mem_map.mpr ⟨x.toNat, List.mem_range.mpr (by omega), by omega⟩
  rwa [List.length_map, List.length_range] at this
theorem choicesPow {N : Nat} : ∀ bs : List Bar, (∀ b ∈ bs, max 1 b.2.length ≤ N) → choices bs ≤ N ^ bs.length := by
  refine snocInd (fun _ => by rw [List.length_nil, Nat.pow_zero]; decide) fun bs b ih h => ?_
  rw [choices_add, List.length_append]
  exact Nat.mul_le_mul (ih fun c hc => h c (List.mem_append_left _ hc)) (h b (List.mem_append_right _ (List.mem_singleton.mpr rfl)))

end R
namespace R
open PySem PySem.Spec PyProof.Rows L2
/-! ## bars taken by times and moved -/
def scB (k o : Int) (b : Bar) : Bar := (b.1 * k, b.2.map fun r => r * k + o)
theorem whPow {N : Nat} : ∀ bs : List Bar, (∀ b ∈ bs, b.1.natAbs ≤ N) → wh bs ≤ N ^ bs.length := by
  refine snocInd (fun _ => by rw [List.length_nil, Nat.pow_zero]; decide) fun bs b ih h => ?_
  rw [wh_add, List.length_append]
  exact Nat.le_trans (lcm_le_mul _ _) (Nat.mul_le_mul (ih fun c hc => h c (List.mem_append_left _ hc)) (h b (List.mem_append_right _ (List.mem_singleton.mpr rfl))))
theorem scB_lot {k o m : Int} {l : List Int} (h : LotOk m l) (k1 : 1 ≤ k) (o0 : 0 ≤ o) (o1 : o < k) : LotOk (m * k) (l.map fun r => r * k + o) := by
  refine ⟨List.pairwise_map.mpr (h.up.imp fun {x y} lt => ?_), fun r hr => ?_, fun r hr => ?_, by rw [List.length_map]; exact h.few⟩
  · have := Int.mul_lt_mul_of_pos_right lt (show 0 < k by omega)
    omega
  · obtain ⟨x, hx, rfl⟩ := List.mem_map.mp hr
    have := Int.mul_nonneg (h.ge x hx) (show 0 ≤ k by omega)
    omega
  · obtain ⟨x, hx, rfl⟩ := List.mem_map.mp hr
    have h1 := h.lt x hx
    have h2 : (x + 1) * k ≤ m * k := Int.mul_le_mul_of_nonneg_right (by omega) (by omega)
    rw [Int.add_mul, Int.one_mul] at h2
    omega
theorem choices_sc (k o : Int) : ∀ bs : List Bar, choices (bs.map (scB k o)) = choices bs := by
  refine snocInd rfl fun bs b ih => ?_
  rw [List.map_append, choices_add, ← ih]
  show choices (bs.map (scB k o) ++ [scB k o b]) = _
  rw [choices_add]
  show _ * max 1 ((b.2.map _).length) = _
  rw [List.length_map]
theorem scB_one (bs : List Bar) : bs.map (scB 1 0) = bs := by
  have h : ∀ b : Bar, scB 1 0 b = b := fun b => by
    unfold scB
    rw [Int.mul_one, show (fun r : Int => r * 1 + 0) = id from funext fun r => by show r * 1 + 0 = r; omega, List.map_id]
  rw [show scB 1 0 = id from funext h, List.map_id]
theorem Drawn.scaled {most top : Nat} {bs : List Bar} {k o : Int} (D : Drawn most top bs) (h6 : most ≤ 3) (ht : top ≤ 60) (k1 : 1 ≤ k) (k2 : k ≤ 60) (o0 : 0 ≤ o) (o1 : o < k) :
    SvOk (bs.map (scB k o)) ∧ ∀ b ∈ bs.map (scB k o), 1 ≤ b.1 ∧ b.1 ≤ (top : Int) * k := by
  have mods : ∀ b ∈ bs.map (scB k o), 1 ≤ b.1 ∧ b.1 ≤ (top : Int) * k := fun b hb => by
    obtain ⟨c, hc, rfl⟩ := List.mem_map.mp hb
    obtain ⟨c1, c2, _⟩ := D.bar c hc
    have h1 : 1 * 1 ≤ c.1 * k := Int.mul_le_mul c1 k1 (by decide) (by omega)
    have h2 : c.1 * k ≤ (top : Int) * k := Int.mul_le_mul_of_nonneg_right c2 (by omega)
    exact ⟨by show 1 ≤ c.1 * k; omega, h2⟩
  have top60 : (top : Int) * k ≤ 60 * 60 := Int.mul_le_mul (by omega) k2 (by omega) (by decide)
  have len : (bs.map (scB k o)).length ≤ 3 := by
    rw [List.length_map]
    exact Nat.le_trans D.len h6
  refine ⟨⟨by omega, fun b hb => ?_, ?_, by rw [choices_sc]; exact D.many⟩, mods⟩
  · obtain ⟨h1, h2⟩ := mods b hb
    refine ⟨h1, by omega, ?_⟩
    obtain ⟨c, hc, rfl⟩ := List.mem_map.mp hb
    exact scB_lot (D.bar c hc).2.2 k1 o0 o1
  · have h := whPow (N := 3600) (bs.map (scB k o)) fun b hb => by have := mods b hb; omega
    exact Nat.le_trans h (Nat.le_trans (Nat.pow_le_pow_right (by decide) len) (by decide))
/-- a list of bars under way -/
structure BarLst (K : PySem.W.Frag) (H : Hp) (D : Addr) (bs : List Bar) : Prop where
  ex : ∃ ys : List V, H D = some (.lst ys) ∧ ys.length = bs.length ∧ ∀ (i : Nat) x b, ys[i]? = some x → bs[i]? = some b → BarAt K H x b
theorem BarLst.nil {K : PySem.W.Frag} {H : Hp} {D : Addr} (h : H D = some (.lst [])) : BarLst K H D [] := ⟨[], h, rfl, fun i x b a _ => by simp at a⟩
theorem BarLst.add {K : PySem.W.Frag} {H H' : Hp} {D : Addr} {bs : List Bar} {b : Bar} {ys : List V} {x : V} (n : ys.length = bs.length) (f : ∀ (i : Nat) x b, ys[i]? = some x → bs[i]? = some b → BarAt K H x b) (t : TupsStay K H H')
    (e : H' D = some (.lst (ys ++ [x]))) (hb : BarAt K H' x b) : BarLst K H' D (bs ++ [b]) := by
  refine ⟨ys ++ [x], e, by rw [List.length_append, List.length_append, n]; rfl, fun i u c h1 h2 => ?_⟩
  by_cases h : i < ys.length
  · rw [List.getElem?_append_left h] at h1
    rw [List.getElem?_append_left (by omega)] at h2
    exact (f i u c h1 h2).stay t
  · rw [List.getElem?_append_right (by omega)] at h1
    rw [List.getElem?_append_right (by omega), ← n] at h2
    cases z : i - ys.length with
    | zero =>
      rw [z] at h1 h2
      cases Option.some.inj h1
      cases Option.some.inj h2
      exact hb
    | succ j => rw [z] at h1; simp at h1
theorem BarLst.tup {K : PySem.W.Frag} {H : Hp} {u : Addr} {ys : List V} {bs : List Bar} (n : ys.length = bs.length) (f : ∀ (i : Nat) x b, ys[i]? = some x → bs[i]? = some b → BarAt K H x b) (nu : H u = none) :
    BarsAt K (upd H u (.tup ys)) (.ref u) bs := ⟨u, ys, rfl, tupOf upd_same, n, fun i x b h1 h2 => (f i x b h1 h2).stay (.same (same_upd nu))⟩
/-- a list's change leaves the tuples -/
theorem lstTups {K : PySem.W.Frag} {H : Hp} {D : Addr} {ys zs : List V} (e : H D = some (.lst ys)) : TupsStay K H (upd H D (.lst zs)) := fun b xs h => by
  rcases h with (h | ⟨o, h⟩) | h
  · exact .inl (.inl (by rw [upd_ne (ne_of h e (by intro z; cases z))]; exact h))
  · exact .inl (.inr ⟨o, by rw [upd_ne (ne_of h e (by intro z; cases z))]; exact h⟩)
  · exact .inr h

end R
namespace R
open PySem PySem.Spec PyProof.Rows L2
/-! ## the rests of a class, and the choices of rests that go together -/
theorem gcd_lcm_into {a b d : Nat} (h : d ∣ Nat.lcm a b) (d0 : 0 < d) : d ∣ Nat.lcm (Nat.gcd a d) (Nat.gcd b d) := by
  have ap : Nat.gcd a d ∣ a := Nat.gcd_dvd_left _ _
  have ad : Nat.gcd a d ∣ d := Nat.gcd_dvd_right _ _
  have bq : Nat.gcd b d ∣ b := Nat.gcd_dvd_left _ _
  have p0 : 0 < Nat.gcd a d := Nat.gcd_pos_of_pos_right _ d0
  have hp : Nat.gcd (Nat.gcd a d) (Nat.gcd b d) ∣ a := Nat.dvd_trans (Nat.gcd_dvd_left _ _) ap
  have hb : Nat.gcd (Nat.gcd a d) (Nat.gcd b d) ∣ b := Nat.dvd_trans (Nat.gcd_dvd_right _ _) bq
  have hd : Nat.gcd (Nat.gcd a d) (Nat.gcd b d) ∣ d := Nat.dvd_trans (Nat.gcd_dvd_left _ _) ad
  have h0 : 0 < Nat.gcd (Nat.gcd a d) (Nat.gcd b d) := Nat.gcd_pos_of_pos_left _ p0
  have gl : Nat.gcd (Nat.gcd a d) (Nat.gcd b d) * Nat.lcm (Nat.gcd a d) (Nat.gcd b d) = Nat.gcd a d * Nat.gcd b d := Nat.gcd_mul_lcm _ _
  generalize Nat.gcd (Nat.gcd a d) (Nat.gcd b d) = g at *
  have key : d * g ∣ Nat.gcd a d * Nat.gcd b d := by
    rw [← Nat.gcd_mul_left]
    refine Nat.dvd_gcd ?_ ?_
    · rw [← Nat.gcd_mul_right]
      refine Nat.dvd_gcd ?_ (Nat.mul_dvd_mul (Nat.dvd_refl _) hb)
      have : Nat.gcd a b * Nat.lcm a b = a * b := Nat.gcd_mul_lcm _ _
      rw [← this, Nat.mul_comm d g]
      exact Nat.mul_dvd_mul (Nat.dvd_gcd hp hb) h
    · rw [← Nat.gcd_mul_right]
      refine Nat.dvd_gcd ?_ (Nat.mul_dvd_mul (Nat.dvd_refl _) hd)
      rw [Nat.mul_comm a d]
      exact Nat.mul_dvd_mul (Nat.dvd_refl _) hp
  rw [← gl, Nat.mul_comm d g] at key
  exact Nat.dvd_of_mul_dvd_mul_left h0 key
theorem gcd_lcm_dvd {a b m y : Nat} (m0 : 0 < m) (h1 : Nat.gcd a m ∣ y) (h2 : Nat.gcd b m ∣ y) : Nat.gcd (Nat.lcm a b) m ∣ y := by
  have d0 : 0 < Nat.gcd (Nat.lcm a b) m := Nat.gcd_pos_of_pos_right _ m0
  refine Nat.dvd_trans (gcd_lcm_into (Nat.gcd_dvd_left _ m) d0) (Nat.lcm_dvd (Nat.dvd_trans ?_ h1) (Nat.dvd_trans ?_ h2))
  · exact Nat.dvd_gcd (Nat.gcd_dvd_left _ _) (Nat.dvd_trans (Nat.gcd_dvd_right _ _) (Nat.gcd_dvd_right _ _))
  · exact Nat.dvd_gcd (Nat.gcd_dvd_left _ _) (Nat.dvd_trans (Nat.gcd_dvd_right _ _) (Nat.gcd_dvd_right _ _))
theorem gcd_wh_dvd {m y : Nat} (m0 : 0 < m) : ∀ bs : List Bar, (∀ b ∈ bs, Nat.gcd b.1.natAbs m ∣ y) → Nat.gcd (wh bs) m ∣ y := by
  refine snocInd (fun _ => ?_) fun bs b ih h => ?_
  · show Nat.gcd 1 m ∣ y
    rw [Nat.gcd_one_left]
    exact Nat.one_dvd _
  · rw [wh_add]
    exact gcd_lcm_dvd m0 (ih fun c hc => h c (List.mem_append_left _ hc)) (h b (List.mem_append_right _ (List.mem_singleton.mpr rfl)))
theorem dvd_all3 {N : Nat} : ∀ bs : List Bar, (∀ b ∈ bs, b.1.natAbs ∣ N) → wh bs ∣ N := by
  refine snocInd (fun _ => Nat.one_dvd _) fun bs b ih h => ?_
  rw [wh_add]
  exact Nat.lcm_dvd (ih fun c hc => h c (List.mem_append_left _ hc)) (h b (List.mem_append_right _ (List.mem_singleton.mpr rfl)))
theorem cls_m3 {bs : List Bar} {x : Int} : x ∈ cls bs ↔ 0 ≤ x ∧ x < (wh bs : Int) ∧ fitsB bs x = true := (cls_is bs).mem x
/-- the rests of x by the moduli -/
def toldOf (bs : List Bar) (x : Int) : List Int := bs.map fun b => x % b.1
/-- whether r goes with the rests c, for the first k of them -/
def goes (bs : List Bar) (c : List Int) (m r : Int) (k : Nat) : Bool := (List.range k).all fun j => decide ((c.getD j 0 - r) % ((Nat.gcd (bs.getD j (1, [])).1.toNat m.toNat : Nat) : Int) = 0)
theorem goes_succ (bs : List Bar) (c : List Int) (m r : Int) (k : Nat) : goes bs c m r (k + 1) = (goes bs c m r k && decide ((c.getD k 0 - r) % ((Nat.gcd (bs.getD k (1, [])).1.toNat m.toNat : Nat) : Int) = 0)) := by
  unfold goes
  rw [List.range_succ, List.all_append]
  simp
/-- what follows a choice -/
def longer (bs : List Bar) (b : Bar) (c : List Int) (lot : List Int) : List (List Int) := (lot.filter fun r => goes bs c b.1 r c.length).map fun r => c ++ [r]
def chTo (bs : List Bar) : Nat → List (List Int)
  | 0 => [[]]
  | i + 1 => (chTo bs i).flatMap fun c => longer bs (bs.getD i (1, [])) c (bs.getD i (1, [])).2
theorem longer_len (bs : List Bar) (b : Bar) (c lot : List Int) : (longer bs b c lot).length ≤ lot.length := by
  unfold longer
  rw [List.length_map]
  exact List.length_filter_le _ _
theorem flat_len {α β : Type} {f : α → List β} {n : Nat} (h : ∀ x, (f x).length ≤ n) : ∀ xs : List α, (xs.flatMap f).length ≤ xs.length * n
  | [] => Nat.zero_le _
  | x :: xs => by
    rw [List.flatMap_cons, List.length_append, List.length_cons, Nat.succ_mul]
    have := flat_len h xs
    have := h x
    omega
theorem chTo_len {bs : List Bar} (h : ∀ b ∈ bs, b.2.length ≤ 5) : ∀ i, i ≤ bs.length → (chTo bs i).length ≤ 5 ^ i
  | 0, _ => Nat.le_refl _
  | i + 1, hi => by
    have ih := chTo_len h i (by omega)
    have hb : bs.getD i (1, []) = bs[i] := by rw [List.getD_eq_getElem?_getD, List.getElem?_eq_getElem (by omega)]; rfl
    have := flat_len (f := fun c => longer bs (bs.getD i (1, [])) c (bs.getD i (1, [])).2) (n := 5) (fun c => Nat.le_trans (longer_len _ _ _ _) (by rw [hb]; exact h _ (List.getElem_mem _))) (chTo bs i)
    show ((chTo bs i).flatMap _).length ≤ _
    rw [Nat.pow_succ]
    exact Nat.le_trans this (Nat.mul_le_mul_right _ ih)
theorem chTo_rowlen (bs : List Bar) : ∀ i, ∀ c ∈ chTo bs i, c.length = i
  | 0, c, hc => by rw [List.mem_singleton.mp (show c ∈ [[]] from hc)]; rfl
  | i + 1, c, hc => by
    obtain ⟨d, hd, hl⟩ := List.mem_flatMap.mp (show c ∈ (chTo bs i).flatMap _ from hc)
    obtain ⟨r, _, rfl⟩ := List.mem_map.mp hl
    rw [List.length_append, chTo_rowlen bs i d hd]
    rfl
theorem told_at {bs : List Bar} {x : Int} {j : Nat} (h : j < bs.length) : (toldOf bs x).getD j 0 = x % (bs.getD j (1, [])).1 := by
  unfold toldOf
  rw [List.getD_eq_getElem?_getD, List.getElem?_map, List.getD_eq_getElem?_getD, List.getElem?_eq_getElem h]
  rfl
theorem getD_take {bs : List Bar} {i j : Nat} (h : j < i) : (bs.take i).getD j (1, []) = bs.getD j (1, []) := by
  rw [List.getD_eq_getElem?_getD, List.getD_eq_getElem?_getD, List.getElem?_take, if_pos h]
theorem told_goes {bs : List Bar} {i : Nat} (hi : i ≤ bs.length) (hm : ∀ b ∈ bs, 1 ≤ b.1) {x m r : Int} (m1 : 1 ≤ m) : goes bs (toldOf (bs.take i) x) m r i = true ↔ ((Nat.gcd (wh (bs.take i)) m.toNat : Nat) : Int) ∣ r - x := by
  have lt : ∀ j, j < i → j < (bs.take i).length := fun j hj => by rw [List.length_take]; omega
  have e1 : ∀ j, j < i → ((toldOf (bs.take i) x).getD j 0 - r) % ((Nat.gcd (bs.getD j (1, [])).1.toNat m.toNat : Nat) : Int) = (x - r) % ((Nat.gcd (bs.getD j (1, [])).1.toNat m.toNat : Nat) : Int) := fun j hj => by
    rw [told_at (lt j hj), getD_take hj]
    have hb : bs.getD j (1, []) = bs[j]'(by omega) := by rw [List.getD_eq_getElem?_getD, List.getElem?_eq_getElem (by omega)]; rfl
    have h1 := hm _ (List.getElem_mem (show j < bs.length by omega))
    rw [hb]
    generalize bs[j]'(by omega) = b at h1
    have d : ((Nat.gcd b.1.toNat m.toNat : Nat) : Int) ∣ b.1 := by
      rw [show b.1 = ((b.1.toNat : Nat) : Int) by omega, Int.toNat_natCast]
      exact Int.natCast_dvd_natCast.mpr (Nat.gcd_dvd_left _ _)
    rw [Int.sub_emod, Int.emod_emod_of_dvd _ d, ← Int.sub_emod]
  have e2 : goes bs (toldOf (bs.take i) x) m r i = true ↔ ∀ j, j < i → (Nat.gcd (bs.getD j (1, [])).1.natAbs m.toNat) ∣ (r - x).natAbs := by
    unfold goes
    rw [List.all_eq_true]
    constructor
    · intro h j hj
      have := of_decide_eq_true (h j (List.mem_range.mpr hj))
      rw [e1 j hj] at this
      have d := Int.natAbs_dvd_natAbs.mpr (Int.dvd_of_emod_eq_zero this)
      rw [Int.natAbs_natCast, show (x - r).natAbs = (r - x).natAbs by omega] at d
      have hb : bs.getD j (1, []) = bs[j]'(by omega) := by rw [List.getD_eq_getElem?_getD, List.getElem?_eq_getElem (by omega)]; rfl
      have h1 := hm _ (List.getElem_mem (show j < bs.length by omega))
      rw [hb] at d ⊢
      rw [show (bs[j]'(by omega)).1.natAbs = (bs[j]'(by omega)).1.toNat by omega]
      exact d
    · intro h j hj
      refine decide_eq_true ?_
      rw [e1 j (List.mem_range.mp hj)]
      have d := h j (List.mem_range.mp hj)
      have hjl := List.mem_range.mp hj
      have hb : bs.getD j (1, []) = bs[j]'(by omega) := by rw [List.getD_eq_getElem?_getD, List.getElem?_eq_getElem (by omega)]; rfl
      have h1 := hm _ (List.getElem_mem (show j < bs.length by omega))
      rw [hb] at d ⊢
      rw [show (bs[j]'(by omega)).1.natAbs = (bs[j]'(by omega)).1.toNat by omega, show (r - x).natAbs = (x - r).natAbs by omega] at d
      exact Int.emod_eq_zero_of_dvd (Int.ofNat_dvd_left.mpr d)
  rw [e2]
  constructor
  · intro h
    refine Int.ofNat_dvd_left.mpr (gcd_wh_dvd (by omega) _ fun b hb => ?_)
    obtain ⟨j, hj, e⟩ := List.getElem_of_mem hb
    have hj' : j < i := by
      rw [List.length_take] at hj
      omega
    have := h j hj'
    rw [← getD_take hj', List.getD_eq_getElem?_getD, List.getElem?_eq_getElem hj] at this
    rw [← e]
    exact this
  · intro h j hj
    have d := Int.ofNat_dvd_left.mp h
    refine Nat.dvd_trans (Nat.dvd_gcd (Nat.dvd_trans (Nat.gcd_dvd_left _ _) ?_) (Nat.gcd_dvd_right _ _)) d
    have hb : (bs.take i).getD j (1, []) = (bs.take i)[j]'(lt j hj) := by rw [List.getD_eq_getElem?_getD, List.getElem?_eq_getElem (lt j hj)]; rfl
    rw [← getD_take hj, hb]
    exact dvd_wh _ _ (List.getElem_mem _)
theorem mem_chTo {bs : List Bar} (hm : ∀ b ∈ bs, 1 ≤ b.1) (hl : ∀ b ∈ bs, LotOk b.1 b.2) : ∀ i, i ≤ bs.length → ∀ c, c ∈ chTo bs i ↔ ∃ x ∈ cls (bs.take i), c = toldOf (bs.take i) x
  | 0, _, c => by
    show c ∈ [[]] ↔ _
    rw [List.mem_singleton, List.take_zero]
    constructor
    · rintro rfl
      exact ⟨0, by decide, rfl⟩
    · rintro ⟨x, _, rfl⟩
      rfl
  | i + 1, hi, c => by
    have hb : bs[i]? = some (bs[i]'(by omega)) := List.getElem?_eq_getElem (by omega)
    have hd : bs.getD i (1, []) = bs[i]'(by omega) := by rw [List.getD_eq_getElem?_getD, hb]; rfl
    have bm := List.getElem_mem (show i < bs.length by omega)
    have hw : 0 < wh (bs.take i) := wh_pos _ fun b h => hm b (List.mem_of_mem_take h)
    show c ∈ (chTo bs i).flatMap (fun c => longer bs (bs.getD i (1, [])) c (bs.getD i (1, [])).2) ↔ _
    rw [hd, takeSucc hb]
    generalize bs[i]'(by omega) = b at bm
    have b1 := hm b bm
    have bl := hl b bm
    have app : ∀ x, toldOf (bs.take i ++ [b]) x = toldOf (bs.take i) x ++ [x % b.1] := fun x => by
      unfold toldOf
      rw [List.map_append]
      rfl
    have eb : b.1 = ((b.1.toNat : Nat) : Int) := by omega
    constructor
    · intro h
      obtain ⟨d, hdm, hl'⟩ := List.mem_flatMap.mp h
      obtain ⟨x, hx, rfl⟩ := (mem_chTo hm hl i (by omega) d).mp hdm
      obtain ⟨r, hr, rfl⟩ := List.mem_map.mp hl'
      obtain ⟨hr, hg⟩ := List.mem_filter.mp hr
      have ll : (toldOf (bs.take i) x).length = i := by
        unfold toldOf
        rw [List.length_map, List.length_take]
        omega
      rw [ll] at hg
      have dv := (told_goes (by omega) hm b1).mp hg
      obtain ⟨y, y0, y1, y2, y3⟩ := crt hw (show 0 < b.1.toNat by omega) dv
      rw [← eb] at y3
      rw [Int.emod_eq_of_lt (bl.ge r hr) (bl.lt r hr)] at y3
      have fx := (cls_m3.mp hx)
      have told : toldOf (bs.take i) y = toldOf (bs.take i) x := by
        unfold toldOf
        refine List.map_congr_left fun c hc => ?_
        rw [← emod_emod_wh hc y, y2, emod_emod_wh hc x]
      refine ⟨y, cls_m3.mpr ⟨y0, ?_, ?_⟩, ?_⟩
      · rw [wh_add, show b.1.natAbs = b.1.toNat by omega]
        exact y1
      · rw [fitsB_add, Bool.and_eq_true, ← fitsB_mod, y2, fitsB_mod, y3]
        exact ⟨fx.2.2, decide_eq_true hr⟩
      · rw [app, told, y3]
    · rintro ⟨x, hx, rfl⟩
      obtain ⟨x0, x1, fx⟩ := cls_m3.mp hx
      rw [fitsB_add, Bool.and_eq_true] at fx
      have ym := emod_cls hw fx.1
      have told : toldOf (bs.take i) (x % (wh (bs.take i) : Int)) = toldOf (bs.take i) x := by
        unfold toldOf
        exact List.map_congr_left fun c hc => emod_emod_wh hc x
      rw [app]
      refine List.mem_flatMap.mpr ⟨toldOf (bs.take i) x, (mem_chTo hm hl i (by omega) _).mpr ⟨_, ym, told.symm⟩, List.mem_map.mpr ⟨x % b.1, List.mem_filter.mpr ⟨of_decide_eq_true fx.2, ?_⟩, rfl⟩⟩
      have ll : (toldOf (bs.take i) x).length = i := by
        unfold toldOf
        rw [List.length_map, List.length_take]
        omega
      rw [ll]
      refine (told_goes (by omega) hm b1).mpr ?_
      refine Int.dvd_trans (Int.natCast_dvd_natCast.mpr (Nat.gcd_dvd_right (wh (bs.take i)) b.1.toNat)) ?_
      rw [← eb]
      exact ⟨-(x / b.1), by have := Int.mul_ediv_add_emod x b.1; rw [Int.mul_neg]; omega⟩
theorem nodup_chTo {bs : List Bar} (hl : ∀ b ∈ bs, LotOk b.1 b.2) : ∀ i, i ≤ bs.length → (chTo bs i).Nodup
  | 0, _ => List.nodup_cons.mpr ⟨by simp, List.nodup_nil⟩
  | i + 1, hi => by
    have hd : bs.getD i (1, []) = bs[i]'(by omega) := by rw [List.getD_eq_getElem?_getD, List.getElem?_eq_getElem (by omega)]; rfl
    have bl := hl _ (List.getElem_mem (show i < bs.length by omega))
    show ((chTo bs i).flatMap (fun c => longer bs (bs.getD i (1, [])) c (bs.getD i (1, [])).2)).Pairwise (· ≠ ·)
    rw [hd, List.pairwise_flatMap]
    refine ⟨fun c _ => ?_, (nodup_chTo hl i (by omega)).imp_of_mem fun {c d} hc hd ne x hx y hy => ?_⟩
    · unfold longer
      rw [List.pairwise_map]
      exact (bl.up.imp fun {a b} (lt : a < b) => fun e => by
        have := (List.append_inj_right' e rfl)
        have := (List.cons.inj this).1
        omega).filter _
    · obtain ⟨r, _, rfl⟩ := List.mem_map.mp hx
      obtain ⟨q, _, rfl⟩ := List.mem_map.mp hy
      intro e
      exact ne (List.append_inj_left' e rfl)
theorem told_perm {bs : List Bar} (hm : ∀ b ∈ bs, 1 ≤ b.1) (hl : ∀ b ∈ bs, LotOk b.1 b.2) : ((cls bs).map (toldOf bs)).Perm (chTo bs bs.length) := by
  have hw : 0 < wh bs := wh_pos _ hm
  refine (List.perm_ext_iff_of_nodup ?_ (nodup_chTo hl _ (Nat.le_refl _))).mpr fun c => ?_
  · rw [List.nodup_iff_pairwise_ne, List.pairwise_map]
    refine (cls_up bs).imp_of_mem fun {x y} hx hy lt e => ?_
    obtain ⟨x0, x1, _⟩ := cls_m3.mp hx
    obtain ⟨y0, y1, _⟩ := cls_m3.mp hy
    have d : wh bs ∣ (y - x).natAbs := by
      refine dvd_all3 bs fun b hb => ?_
      have eb : x % b.1 = y % b.1 := by
        have := List.map_inj_left.mp e
        exact this b hb
      have := Int.emod_eq_emod_iff_emod_sub_eq_zero.mp eb.symm
      exact Int.natAbs_dvd_natAbs.mpr (Int.dvd_of_emod_eq_zero this)
    have := Nat.le_of_dvd (by omega) d
    omega
  · rw [mem_chTo hm hl _ (Nat.le_refl _), List.take_length, List.mem_map]
    constructor
    · rintro ⟨x, hx, rfl⟩
      exact ⟨x, hx, rfl⟩
    · rintro ⟨x, hx, rfl⟩
      exact ⟨x, hx, rfl⟩
theorem TupsAt.push3 {K : PySem.W.Frag} {H : Hp} {D t : Addr} {LL : List (List Int)} {l : List Int} (h : TupsAt K H D LL) (ht : SqT K H t (l.map V.int)) :
    ∃ ts : List Addr, H D = some (.lst (ts.map V.ref)) ∧ ts.length = LL.length ∧ TupsAt K (upd H D (.lst (ts.map V.ref ++ [V.ref t]))) D (LL ++ [l]) := by
  obtain ⟨ts, e, n, f⟩ := h.ex
  have up := lstTups (K := K) (zs := ts.map V.ref ++ [V.ref t]) e
  exact ⟨ts, e, n, TupsAt.add upd_same n (fun i u k a b => up _ _ (f i u k a b)) (up _ _ ht)⟩
theorem atI_last {α : Type} {xs : List α} {v : α} (h : xs[xs.length - 1]? = some v) : atI xs (-1) = some v := by
  have l := (List.getElem?_eq_some_iff.mp h).1
  unfold atI
  have e : ixN xs.length (-1) = some (xs.length - 1) := by
    unfold ixN
    first
      | (rw [if_neg (by omega), if_pos (by omega)]; exact congrArg some (by omega))
      | (simp; omega)
  rw [e]
  exact h
theorem lex_anti3 : ∀ a b : List Int, HT.lexLt a b = false → HT.lexLt b a = false → a = b
  | [], [], _, _ => rfl
  | [], y :: ys, h, _ => by cases h
  | x :: xs, [], _, h => by cases h
  | x :: xs, y :: ys, h, k => by
    rw [HT.lexLt_cons] at h k
    by_cases e : x = y
    · rw [if_pos e] at h
      rw [if_pos e.symm] at k
      rw [e, lex_anti3 xs ys h k]
    · rw [if_neg e] at h
      rw [if_neg (fun z => e z.symm)] at k
      have := of_decide_eq_false h
      have := of_decide_eq_false k
      omega
theorem srt3 : ∀ {a b : List (List Int)}, a.Perm b → a.Pairwise (fun x y => HT.lexLt y x = false) → b.Pairwise (fun x y => HT.lexLt y x = false) → a = b
  | [], b, p, _, _ => (List.Perm.eq_nil p.symm).symm
  | x :: a, [], p, _, _ => absurd p.length_eq (by simp)
  | x :: a, y :: b, p, ha, hb => by
    obtain ⟨a1, a2⟩ := List.pairwise_cons.mp ha
    obtain ⟨b1, b2⟩ := List.pairwise_cons.mp hb
    have e : x = y := by
      rcases List.mem_cons.mp (p.mem_iff.mp (List.mem_cons_self (a := x) (l := a))) with e | hx
      · exact e
      · rcases List.mem_cons.mp (p.mem_iff.mpr (List.mem_cons_self (a := y) (l := b))) with e | hy
        · exact e.symm
        · exact lex_anti3 _ _ (b1 x hx) (a1 y hy)
    subst e
    rw [srt3 p.cons_inv a2 b2]

end R
namespace R
open PySem PySem.Spec PyProof.Rows L2
/-! ## the law -/
open LamX hiding takes0
open NdefX
structure Sm (i : Nat) (bs : List Bar) : Prop where
  len : bs.length ≤ i
  bar : ∀ b ∈ bs, 1 ≤ b.1 ∧ b.1 ≤ 900000 ∧ LotOk b.1 b.2 ∧ b.2.length ≤ 5
theorem Sm.sv {bs : List Bar} (h : Sm 4 bs) : SvOk bs := by
  have l4 := h.len
  refine ⟨by omega, fun b hb => ?_, ?_, ?_⟩
  · obtain ⟨x, y, z, _⟩ := h.bar b hb
    exact ⟨x, by omega, z⟩
  · have := whPow (N := 900000) bs fun b hb => by have := h.bar b hb; omega
    exact Nat.le_trans this (Nat.le_trans (Nat.pow_le_pow_right (by decide) l4) (by decide))
  · have := choicesPow (N := 5) bs fun b hb => by
      have h1 := (h.bar b hb).2.2.2
      omega
    exact Nat.le_trans this (Nat.le_trans (Nat.pow_le_pow_right (by decide) l4) (by decide))
theorem lot_of {m : Int} {l ns : List Int} (up : ns.Pairwise (· < ·)) (mem : ∀ k, k ∈ ns ↔ decide (k ∈ l) = true) (h : ∀ x ∈ l, 0 ≤ x ∧ x < m) (few : ns.length ≤ 5) : LotOk m ns :=
  ⟨up, fun k hk => (h k (of_decide_eq_true ((mem k).mp hk))).1, fun k hk => (h k (of_decide_eq_true ((mem k).mp hk))).2, by omega⟩
section
variable {P : Program} {w : World} {K : PySem.W.Frag} {mg : Str → Option Value} {base : Heap}
set_option maxHeartbeats 1600000 in
theorem ok_law (T : Txt K mg) : FnOk P w K mg base CX0 12 T.f_law T.fd_law ["_law_script"] (sp_law K) := by
  refine T.F_law.ok sc_law (fun vs H Q E h => ?_) (fun cdv A outer s H vs Q E hr h => ?_)
  · obtain ⟨a, ns, rfl, _⟩ := h
    rfl
  · obtain ⟨a, ns, rfl, hS, hl, q⟩ := h
    refine ⟨_, (pss_cons (ps_set (i := 1) sc_law.nd rfl (by first | exact .inl rfl | exact .inr rfl) (pe_call (ok_l_draws T) (hr.mono (by decide)) (by rfl) T.g_l_draws T.F_l_draws.kp T.b_l_draws .nil pass0 (pa_cons (pv 0) pa_nil)))
      (pss_cons (ps_asg (pe_tup (pa_cons (pe_tup pa_nil) (pa_cons (pe_op op_add pe_int (pe_call (ok_l_pick T) (hr.mono (by decide)) (by rfl) T.g_l_pick T.F_l_pick.kp T.b_l_pick .nil pass0 (pa_cons (pv 1) (pa_cons pe_int pa_nil)))) pa_nil))) (pg_tup (by rfl) (pgs_cons (pg_name (i := 2) sc_law.nd rfl (by first | exact .inl rfl | exact .inr rfl)) (pgs_cons (pg_name (i := 3) sc_law.nd rfl (by first | exact .inl rfl | exact .inr rfl)) pgs_nil))))
      (pss_cons (ps_for PassesOwn.never rfl (pi_range1 (by rfl) T.z_range (pa_cons (pe_op op_add pe_int (pe_call (ok_l_pick T) (hr.mono (by decide)) (by rfl) T.g_l_pick T.F_l_pick.kp T.b_l_pick .nil pass0 (pa_cons (pv 1) (pa_cons pe_int pa_nil)))) pa_nil)) (pg_name (i := 4) sc_law.nd rfl (by first | exact .inl rfl | exact .inr rfl)) (pss_cons (ps_set (i := 5) sc_law.nd rfl (by first | exact .inl rfl | exact .inr rfl) (pe_op op_mulW (pv 3) (pe_op op_add pe_int (pe_call (ok_l_pick T) (hr.mono (by decide)) (by rfl) T.g_l_pick T.F_l_pick.kp T.b_l_pick .nil pass0 (pa_cons (pv 1) (pa_cons pe_int pa_nil))))))
      (pss_cons (ps_set (i := 6) sc_law.nd rfl (by first | exact .inl rfl | exact .inr rfl) (pe_callB (cr_sortedSL rfl) (by rfl) T.z_sorted (by decide +kernel) (pa_cons (pe_callTy (cr_setG rfl) (by rfl) T.z_set (by decide +kernel) (pa_cons (pe_lc (own := [("_law_j", 15)]) rfl sc_law.nd (pi_range1 (by rfl) T.z_range (pa_cons (pe_op op_add pe_int (pe_call (ok_l_pick T) (hr.mono (by decide)) (by rfl) T.g_l_pick T.F_l_pick.kp T.b_l_pick .nil pass0 (pa_cons (pv 1) (pa_cons pe_int pa_nil)))) pa_nil)) (blkOk_by (N := ["_law_script", "_law_row", "_law_bars", "_law_common", "_law_k", "_law_modulus", "_law_lot", "_law_sieve", "_law_choices", "_law_longer", "_law_choice", "_law_rest", "_law_good", "_law_found", "_law_told_of", "_law_j", "_law_one", "_law_number"]) (sc := defScope s_law) (by decide +kernel)) (fun _ _ _ _ _ => (pg_name (i := 15) sc_law.nd rfl (by first | exact .inl rfl | exact .inr rfl))) (fun _ _ _ _ _ => pts_nil) (fun _ _ _ _ _ => (pe_call (ok_l_pick T) (hr.mono (by decide)) (by rfl) T.g_l_pick T.F_l_pick.kp T.b_l_pick .nil pass0 (pa_cons (pv 1) (pa_cons (pv 5) pa_nil))))) pa_nil)) pa_nil)))
      (C8.pss_cut (ps_if (pt_cmpR op_eq (pe_call (ok_l_pick T) (hr.mono (by decide)) (by rfl) T.g_l_pick T.F_l_pick.kp T.b_l_pick .nil pass0 (pa_cons (pv 1) (pa_cons pe_int pa_nil))) pe_int (nomark _)) (pss_one (ps_set (i := 6) sc_law.nd rfl (by first | exact .inl rfl | exact .inr rfl) (pe_callB (cr_sortedSL rfl) (by rfl) T.z_sorted (by decide +kernel) (pa_cons (pe_callTy (cr_setG rfl) (by rfl) T.z_set (by decide +kernel) (pa_cons (pe_lc (own := [("_law_one", 16)]) rfl sc_law.nd (pi_list (pv 6)) (blkOk_by (N := ["_law_script", "_law_row", "_law_bars", "_law_common", "_law_k", "_law_modulus", "_law_lot", "_law_sieve", "_law_choices", "_law_longer", "_law_choice", "_law_rest", "_law_good", "_law_found", "_law_told_of", "_law_j", "_law_one", "_law_number"]) (sc := defScope s_law) (by decide +kernel)) (fun _ _ _ _ _ => (pg_name (i := 16) sc_law.nd rfl (by first | exact .inl rfl | exact .inr rfl))) (fun _ _ _ _ _ => pts_nil) (fun _ _ _ _ _ => (pe_op op_sub (pv 16) (pe_op op_mod (pv 16) (pv 3))))) pa_nil)) pa_nil)))) pss_nil)
      (pss_one (ps_set (i := 2) sc_law.nd rfl (by first | exact .inl rfl | exact .inr rfl) (pe_op op_catA (pv 2) (pe_tup (pa_cons (pe_tup (pa_cons (pv 5) (pa_cons (pe_callTy call_tuple_of (by rfl) T.z_tuple (by decide +kernel) (pa_cons (pv 6) pa_nil)) pa_nil))) pa_nil)))))))))
      (pss_cons (ps_par (i := 7) (j := 8) (by rfl) sc_law.nd rfl rfl (by decide) rfl rfl (pa_cons (pe_make T.mkC (ok_m_Sieve_init T) (hr.mono (by decide)) (by rfl) T.g_Sieve T.b_m_Sieve_init .nil pass0 (pa_cons (pv 2) pa_nil)) (pa_cons (pe_lst (pa_cons (pe_tup pa_nil) pa_nil)) pa_nil)) (by rfl))
      (pss_cons (ps_for PassesOwn.never rfl (pi_tup (pv 2)) (pg_tup (by rfl) (pgs_cons (pg_name (i := 5) sc_law.nd rfl (by first | exact .inl rfl | exact .inr rfl)) (pgs_cons (pg_name (i := 6) sc_law.nd rfl (by first | exact .inl rfl | exact .inr rfl)) pgs_nil))) (pss_cons (ps_set (i := 9) sc_law.nd rfl (by first | exact .inl rfl | exact .inr rfl) (pe_lst pa_nil))
      (pss_cons (ps_for PassesOwn.never rfl (pi_list (pv 8)) (pg_name (i := 10) sc_law.nd rfl (by first | exact .inl rfl | exact .inr rfl)) (pss_one (ps_for PassesOwn.never rfl (pi_tup (pv 6)) (pg_name (i := 11) sc_law.nd rfl (by first | exact .inl rfl | exact .inr rfl)) (pss_cons (ps_set (i := 12) sc_law.nd rfl (by first | exact .inl rfl | exact .inr rfl) pe_bl)
      (pss_cons (ps_for PassesOwn.never rfl (pi_range1 (by rfl) T.z_range (pa_cons (pe_callB call_len_seq (by rfl) T.z_len (by decide +kernel) (pa_cons (pv 10) pa_nil)) pa_nil)) (pg_name (i := 4) sc_law.nd rfl (by first | exact .inl rfl | exact .inr rfl)) (pss_one (ps_if (pt_cmpR op_ne (pe_op op_mod (pe_op op_sub (pe_ix ix_tup (pv 10) (pv 4) (fun _ _ => rfl)) (pv 11)) (pe_call (ok_l_gcd T) (hr.mono (by decide)) (by rfl) T.g_l_gcd T.F_l_gcd.kp T.b_l_gcd .nil pass0 (pa_cons (pe_ix ix_tup (pe_ix ix_tup (pv 2) (pv 4) (fun _ _ => rfl)) pe_int (fun _ _ => rfl)) (pa_cons (pv 5) pa_nil)))) pe_int (nomark _)) (pss_one (ps_set (i := 12) sc_law.nd rfl (by first | exact .inl rfl | exact .inr rfl) pe_bl)) pss_nil)))
      (pss_one (ps_if (pt_val (pv 12)) (pss_one (ps_expr (pe_bm PySem.F.plainAttrs_list PySem.F.slot_list_append PySem.F.type_list_append mt_append (pv 9) (pa_cons (pe_op op_catA (pv 10) (pe_tup (pa_cons (pv 11) pa_nil))) pa_nil)))) pss_nil)))))))
      (pss_one (ps_set (i := 8) sc_law.nd rfl (by first | exact .inl rfl | exact .inr rfl) (pv 9))))))
      (pss_cons (ps_set (i := 13) sc_law.nd rfl (by first | exact .inl rfl | exact .inr rfl) (pe_prop (pv 7) T.cl T.pp_classes (ok_m_Sieve_classes T) (hr.mono (by decide)) T.b_m_Sieve_classes .nil pass0 (by rfl)))
      (pss_cons (ps_if (PW.pt (pw_or (pt_cmpR op_ne (pe_prop (pv 7) T.cl T.pp_whole (ok_m_Sieve_whole T) (hr.mono (by decide)) T.b_m_Sieve_whole .nil pass0 (by rfl)) (pe_call (ok_l_whole T) (hr.mono (by decide)) (by rfl) T.g_l_whole T.F_l_whole.kp T.b_l_whole .nil pass0 (pa_cons (pv 2) pa_nil)) (nomark _)) (pw_or (pt_cmpR op_ne (pe_callB call_len_seq (by rfl) T.z_len (by decide +kernel) (pa_cons (pv 13) pa_nil)) (pe_callB call_len_seq (by rfl) T.z_len (by decide +kernel) (pa_cons (pv 8) pa_nil)) (nomark _)) (pw_or1 (pt_cmpR (op_neD hr.units) (pe_callTy call_list_of (by rfl) T.z_list (by decide +kernel) (pa_cons (pv 13) pa_nil)) (pe_callB (cr_sortedSL rfl) (by rfl) T.z_sorted (by decide +kernel) (pa_cons (pe_callTy (cr_setGT rfl) (by rfl) T.z_set (by decide +kernel) (pa_cons (pv 13) pa_nil)) pa_nil)) (nomark _)))))) (pss_one (ps_ret pe_bl)) pss_nil)
      (C8.pss_cut (ps_if (PW.pt (pw_and (pt_cmpR (op_neD hr.units) (pv 13) (pe_tup pa_nil) (nomark _)) (pw_and1 (pt_not (pt_chain3 op_le op_le op_lt pe_int (pe_ix ix_tup (pv 13) pe_int (fun _ _ => rfl)) (pe_ix ix_tup (pv 13) (pe_un un_neg pe_int) (fun _ _ => rfl)) (pe_prop (pv 7) T.cl T.pp_whole (ok_m_Sieve_whole T) (hr.mono (by decide)) T.b_m_Sieve_whole .nil pass0 (by rfl))))))) (pss_one (ps_ret pe_bl)) pss_nil)
      (pss_cons (ps_setLc (i := 14) (own := [("_law_number", 17)]) rfl sc_law.nd rfl rfl (sw_true rfl rfl rfl (by decide +kernel)) (pi_tup (pv 13)) (blkOk_by (N := ["_law_script", "_law_row", "_law_bars", "_law_common", "_law_k", "_law_modulus", "_law_lot", "_law_sieve", "_law_choices", "_law_longer", "_law_choice", "_law_rest", "_law_good", "_law_found", "_law_told_of", "_law_j", "_law_one", "_law_number"]) (sc := defScope s_law) (by decide +kernel)) (fun _ _ _ _ _ => (pg_name (i := 17) sc_law.nd rfl (by first | exact .inl rfl | exact .inr rfl))) (fun _ _ _ _ _ => pts_nil) (fun _ _ _ _ _ => (pe_callTy (r := rTupOf K) call_tuple_of (by rfl) T.z_tuple (by decide +kernel) (pa_cons (by exact (pe_lc (own := [("_law_modulus", 5), ("_law_lot", 6)]) (g := gTup K 2 (gCons (gName 5) (gCons (gName 6) (gNil)))) rfl sc_law.nd (pi_tupK (K := K) rfl (pv 2)) (blkOk_by (N := ["_law_script", "_law_row", "_law_bars", "_law_common", "_law_k", "_law_modulus", "_law_lot", "_law_sieve", "_law_choices", "_law_longer", "_law_choice", "_law_rest", "_law_good", "_law_found", "_law_told_of", "_law_j", "_law_one", "_law_number"]) (by kernel_rfl)) (fun _ _ _ _ _ => (pg_tup (by rfl) (pgs_cons (pg_name (i := 5) sc_law.nd rfl (by first | exact .inl rfl | exact .inr rfl)) (pgs_cons (pg_name (i := 6) sc_law.nd rfl (by first | exact .inl rfl | exact .inr rfl)) pgs_nil)))) (fun _ _ _ _ _ => pts_nil) (fun _ _ _ _ _ => (pe_op op_mod (pv 17) (pv 5))))) pa_nil))))
      (pss_one (ps_ret (pe_cmpR (op_eqD hr.units) (pe_callB (cr_sortedTL (in2u hr)) (by rfl) T.z_sorted (by decide +kernel) (pa_cons (pv 14) pa_nil)) (pe_callB (cr_sortedTL (in2u hr)) (by rfl) T.z_sorted (by decide +kernel) (pa_cons (pv 8) pa_nil)) (nomark _))))))))))))), ?_⟩
    refine ⟨_, rfl, a, ns, rfl, hS, fun r L H1 s1 R1 => ?_⟩
    refine ⟨sizeOk (by show (0 : Nat) ≤ 100000; decide), fun p0 np0 => ?_⟩
    have s0 : Same H1 (upd H1 p0 (.tup [])) := same_upd np0
    refine ⟨_, rfl, r, L, 30, rfl, R1.stay s0, by decide, by decide, fun c0 H2 c00 c01 k2 R2 => ⟨_, _, rfl, rfl, sizeOk (by show (2 : Nat) ≤ 100000; decide), fun p1 np1 => ⟨p1, _, rfl, tupOf upd_same, rfl, _, _, rfl, _, _, rfl, rfl, ?_⟩⟩⟩
    have t0 : SqT K H2 p0 [] := (R1.stay s0).tups k2 _ _ (tupOf upd_same)
    have s2 : Same H2 (upd H2 p1 (.tup [.ref p0, .int (1 + c0)])) := same_upd np1
    replace R2 := R2.stay s2
    replace t0 := Same.seqTT s2 t0
    clear s2
    generalize upd H2 p1 (.tup [.ref p0, .int (1 + c0)]) = H3 at R2 t0 ⊢
    have b0 : BarsAt K H3 (.ref p0) [] := ⟨p0, [], rfl, t0, rfl, fun i x b h => by simp at h⟩
    obtain ⟨c, hc⟩ : ∃ c : Int, c = 1 + c0 := ⟨_, rfl⟩
    refine ⟨_, rfl, r, L, 4, rfl, R2, by decide, by decide, fun n H4 n0 n1 k4 R4 => ⟨_, _, rfl, rfl, 1 + n, rfl, by omega, by omega, ?_⟩⟩
    refine for_range (lo := 0) (n := (1 + n).toNat) (fun i σ H2 => ∃ (v : V) (bs : List Bar) (x4 x5 x6 : Option V), σ = [some (.ref a), some (.ref r), some v, some (.int c), x4, x5, x6, none, none, none, none, none, none, none, none, none, none, none] ∧ BarsAt K H2 v bs ∧ Sm i bs ∧ bs.length = i ∧ RowAt H2 r L)
      ⟨.ref p0, [], none, none, none, by rw [hc]; rfl, b0.stay (R2.tups k4), ⟨Nat.le_refl _, fun b h => by simp at h⟩, rfl, R4⟩ ?_ ?_
    · clear R1 k2 R2 b0 k4 R4 t0
      rintro i σ H2 hi ⟨v, bs, x4, x5, x6, rfl, B2, G2, li, R2⟩
      refine ⟨_, rfl, _, rfl, r, L, 30000, rfl, R2, by decide, by decide, fun m0 H3 m00 m01 k3 R3 => ⟨_, _, rfl, rfl, _, _, rfl, rfl, wide_mul (a := 12) (b := 20) (by omega) (by omega) (by decide) (by decide) (by decide), ?_⟩⟩
      have hm0 : 1 ≤ c * (1 + m0) := Int.mul_le_mul (a := 1) (b := 1) (by omega) (by omega) (by decide) (by omega)
      have hm1 : c * (1 + m0) ≤ 30 * 30000 := Int.mul_le_mul (by omega) (by omega) (by omega) (by decide)
      obtain ⟨m, hm⟩ : ∃ m : Int, m = c * (1 + m0) := ⟨_, rfl⟩
      rw [← hm] at hm0 hm1
      refine ⟨_, rfl, r, L, 5, rfl, R3, by decide, by decide, fun j0 H4 j1 j2 k4 R4 => ⟨_, _, rfl, rfl, 1 + j0, rfl, by omega, by omega, fun D nD => ?_⟩⟩
      have nDr := R4.new nD
      refine lc_range (lo := 0) (n := (1 + j0).toNat) (fun j Hj => ∃ l : List Int, Hj D = some (.lst (l.map V.int)) ∧ l.length = j ∧ (∀ x ∈ l, 0 ≤ x ∧ x < m) ∧ Kp r H4 Hj ∧ RowAt Hj r L)
        ⟨[], upd_same, rfl, fun x h => by simp at h, Kp.new nD, R4.upd nDr⟩ ?_ ?_
      · rintro j Hj hj ⟨l, ej, lj, gj, kj, Rj⟩
        refine ⟨rfl, _, rfl, _, rfl, r, L, m, by rw [hm]; rfl, Rj, by omega, by omega, fun z H5 z0 z1 k5 R5 => ?_⟩
        refine ⟨_, k5 _ _ nDr.1 ej, ?_, l ++ [z], ?_, by rw [List.length_append, lj]; rfl, fun x h => ?_, ?_, R5.upd nDr⟩
        · rw [List.length_map]
          exact sizeLt (by omega)
        · rw [upd_same, List.map_append]
          rfl
        · rcases List.mem_append.mp h with h | h
          · exact gj x h
          · rw [List.mem_singleton.mp h]
            exact ⟨z0, z1⟩
        · exact (kj.trans k5).add nD
      · rintro H5 ⟨l, e5, l5, g5, k5, R5⟩
        refine ⟨D, l, _, rfl, lstOf e5, capLen l, by omega, fun p6 cc hcc n6 => ⟨p6, _, cc, rfl, upd_same, by omega, fun ns p7 up mem len n7 => ?_⟩⟩
        have len7 : ns.length ≤ 5 := by omega
        have lo7 : LotOk m ns := lot_of up mem g5 len7
        have k7 : Kp r H2 (upd (upd H5 p6 (SetO w p6 (fun j => decide (j ∈ l)) cc)) p7 (.lst (ns.map V.int))) := ((k3.trans k4).trans k5).trans ((Kp.new n6).trans (Kp.new n7))
        have R6 : RowAt (upd H5 p6 (SetO w p6 (fun j => decide (j ∈ l)) cc)) r L := R5.upd (R5.new n6)
        have R7 : RowAt (upd (upd H5 p6 (SetO w p6 (fun j => decide (j ∈ l)) cc)) p7 (.lst (ns.map V.int))) r L := R6.upd (R6.new n7)
        refine ⟨fun σ H' => ∃ (d : Addr) (l' : List Int), σ = [some (.ref a), some (.ref r), some v, some (.int c), some (.int (0 + (i : Int))), some (.int m), some (.ref d), none, none, none, none, none, none, none, none, none, none, none] ∧
          SqL K H' d (l'.map V.int) ∧ LotOk m l' ∧ l'.length ≤ 5 ∧ Kp r H2 H' ∧ RowAt H' r L, ?_, ?_⟩
        · refine ⟨_, rfl, r, L, 2, rfl, R7, by decide, by decide, fun u H8 u0 u1 k8 R8 => ⟨rfl, _, rfl, ite2 (fun _ => ?_) (fun _ => ?_)⟩⟩
          · have e8 : H8 p7 = some (.lst (ns.map V.int)) := k8 _ _ (R6.new n7).1 upd_same
            refine ⟨_, rfl, p7, rfl, ⟨_, lstOf e8⟩, fun D9 n9 => lc_list (xs := ns.map V.int) (fun m9 H9 => H9 D9 = some (.lst (((ns.take m9).map fun x => x - x % c).map V.int)) ∧ Same H8 H9) ⟨upd_same, same_upd n9⟩ (fun m9 H9 _ z => lstOf (z.2 _ _ e8)) ?_ ?_⟩
            · rintro j z H9 hz ⟨e9, s9⟩
              rw [List.getElem?_map] at hz
              obtain ⟨x, hx, rfl⟩ := Option.map_eq_some_iff.mp hz
              refine ⟨rfl, _, rfl, _, rfl, _, rfl, _, _, rfl, rfl, by omega, _, _, rfl, rfl, _, e9, ?_, ?_, samePut s9 n9⟩
              · rw [List.length_map, List.length_map, List.length_take]
                exact sizeLt (by omega)
              · rw [upd_same, List.take_add_one, hx, List.map_append, List.map_append]
                rfl
            · rintro H9 ⟨e9, s9⟩
              rw [List.length_map, List.take_length] at e9
              refine ⟨D9, _, _, rfl, lstOf e9, capLen _, by rw [List.length_map]; omega, fun p10 c10 hc10 n10 => ⟨p10, _, c10, rfl, upd_same, by rw [List.length_map] at hc10; omega, fun ns2 p11 up2 mem2 len2 n11 => ?_⟩⟩
              rw [List.length_map] at hc10
              have g9 : ∀ x ∈ (ns.map fun x => x - x % c), 0 ≤ x ∧ x < m := fun x h => by
                obtain ⟨y, hy, rfl⟩ := List.mem_map.mp h
                have y0 := lo7.ge y hy
                have y1 := lo7.lt y hy
                have e1 := Int.emod_nonneg y (show c ≠ 0 by omega)
                have e2 := Int.mul_ediv_add_emod y c
                have e3 : 0 ≤ c * (y / c) := Int.mul_nonneg (by omega) (Int.ediv_nonneg y0 (by omega))
                exact ⟨by omega, by omega⟩
              have R10 := ((R8.stay s9).upd ((R8.stay s9).new n10) (o := SetO w p10 (fun j => decide (j ∈ ns.map fun x => x - x % c)) c10))
              exact ⟨p11, ns2, by rw [hm]; rfl, lstOf upd_same, lot_of up2 mem2 g9 (by omega), by omega, k7.trans ((k8.trans (Kp.of s9)).trans ((Kp.new n10).trans (Kp.new n11))), R10.upd (R10.new n11)⟩
          · exact ⟨p7, ns, by rw [hm]; rfl, lstOf (k8 _ _ (R6.new n7).1 upd_same), lo7, len7, k7.trans k8, R8⟩
        · rintro σ H' ⟨d, l', rfl, sa, lok, l5', k9, R9⟩
          refine ⟨_, rfl, _, rfl, _, rfl, d, _, rfl, .inl ⟨sa, fun t nt => ⟨sizeOk (by show (2 : Nat) ≤ 100000; decide), fun p np => ⟨sizeOk (by show (1 : Nat) ≤ 100000; decide), fun p2 np2 => ?_⟩⟩⟩⟩
          have q1 := same_upd nt (o := .tup (l'.map V.int))
          have q2 := same_upd np (o := .tup [.int m, .ref t])
          have q3 := same_upd np2 (o := .tup [.ref p])
          have qq := q1.trans (q2.trans q3)
          have ft := q3 _ _ (q2 _ _ (upd_same (H := H') (a := t) (o := .tup (l'.map V.int))))
          have fp := q3 _ _ (upd_same (H := upd H' t (.tup (l'.map V.int))) (a := p) (o := .tup [.int m, .ref t]))
          have f2 := upd_same (H := upd (upd H' t (.tup (l'.map V.int))) p (.tup [.int m, .ref t])) (a := p2) (o := .tup [.ref p])
          refine catBars ((B2.stay (R2.tups k9)).stay (.same qq)) (oneBar (b := (m, l')) (tupOf f2) ⟨p, .ref t, rfl, tupOf fp, ⟨t, rfl, tupOf ft⟩⟩) (by rw [List.length_singleton]; omega) fun y2 H10 s10 B10 => ?_
          refine ⟨_, _, _, _, _, rfl, B10, ⟨by rw [List.length_append, List.length_singleton]; omega, fun b hb => ?_⟩, by rw [List.length_append, li]; rfl, R9.stay (qq.trans s10)⟩
          rcases List.mem_append.mp hb with hb | hb
          · exact G2.bar b hb
          · rw [List.mem_singleton.mp hb]
            exact ⟨hm0, by omega, lok, l5'⟩
    · rintro σ H4 ⟨v, bs, x4, x5, x6, rfl, B4, G, li, R4⟩
      have M : Sm 4 bs := ⟨by omega, G.bar⟩
      have hp := M.sv.mods.pos
      have hb1 : ∀ b ∈ bs, 1 ≤ b.1 := fun b hb => (M.bar b hb).1
      have hbl : ∀ b ∈ bs, LotOk b.1 b.2 := fun b hb => (M.bar b hb).2.2.1
      have hb5 : ∀ b ∈ bs, b.2.length ≤ 5 := fun b hb => (M.bar b hb).2.2.2
      have bl4 := M.len
      refine ⟨_, rfl, fun p dx np ndx _ => make_sieve B4 M.sv np ndx fun t H5 s5 A5 => ⟨rfl, sizeOk (by show (0 : Nat) ≤ 100000; decide), fun t0 nt0 => ⟨sizeOk (by show (1 : Nat) ≤ 100000; decide), fun l0 nl0 => ⟨_, _, rfl, ?_⟩⟩⟩⟩
      have q1 := same_upd nt0 (o := .tup [])
      have q2 := same_upd nl0 (o := .lst [.ref t0])
      have s6 := s5.trans (q1.trans q2)
      have A6 := A5.stay (q1.trans q2)
      have C6 : TupsAt K (upd (upd H5 t0 (.tup [])) l0 (.lst [.ref t0])) l0 (chTo bs 0) := ⟨[t0], upd_same, rfl, fun i t l a b => by
        cases i with
        | zero =>
          cases Option.some.inj a
          cases Option.some.inj b
          exact tupOf (q2 _ _ upd_same)
        | succ i => simp at a⟩
      generalize upd (upd H5 t0 (.tup [])) l0 (.lst [.ref t0]) = H6 at A6 C6 s6 ⊢
      clear q1 q2 A5 s5
      have B6 := B4.stay (.same s6)
      obtain ⟨va, xs, rfl, tb, nb, hx⟩ := B6.ex
      refine ⟨_, rfl, va, rfl, ⟨_, tb⟩, for_tup (K := K) (a := va) (xs := xs) (fun i σ Hi => ∃ (C : Addr) (x4 x5 x6 x9 x10 x11 x12 : Option V), σ = [some (.ref a), some (.ref r), some (.ref va), some (.int c), x4, x5, x6, some (.ref p), some (.ref C), x9, x10, x11, x12, none, none, none, none, none] ∧ TupsAt K Hi C (chTo bs i) ∧ Same H6 Hi)
        ⟨l0, _, _, _, _, _, _, _, rfl, C6, Same.refl _⟩ (fun i σ Hi _ ⟨_, _, _, _, _, _, _, _, _, _, si⟩ => Same.seqTT si tb) ?_ ?_⟩
      · rintro i x σ Hi hi ⟨C, x4, x5, x6, x9, x10, x11, x12, rfl, TC, si⟩
        have il : i < bs.length := by
          have := (List.getElem?_eq_some_iff.mp hi).1
          omega
        have hb : bs[i]? = some bs[i] := List.getElem?_eq_getElem il
        obtain ⟨pb, lv, rfl, tp, ⟨lc, rfl, tl⟩⟩ := (hx i x _ hi hb).ex
        have hgd : bs.getD i (1, []) = bs[i] := by rw [List.getD_eq_getElem?_getD, hb]; rfl
        obtain ⟨o1, o2, ol, o5⟩ := M.bar _ (List.getElem_mem il)
        have clen := chTo_len hb5 i (by omega)
        have pw5 : (5 : Nat) ^ i ≤ 125 := Nat.le_trans (Nat.pow_le_pow_right (by decide) (show i ≤ 3 by omega)) (by decide)
        refine ⟨pb, [_, _], rfl, Same.seqTT si tp, rfl, _, _, rfl, _, _, rfl, rfl, ?_⟩
        refine ⟨Nat.zero_le _, fun g ng => ?_⟩
        obtain ⟨ts, eC, lt, at_⟩ := TC.ex
        have sg := same_upd ng (o := .lst [])
        refine ⟨_, rfl, C, rfl, ⟨_, lstOf (sg _ _ eC)⟩, for_list (K := K) (a := C) (xs := ts.map V.ref) (fun j σ Hj => ∃ x4 x10 x11 x12 : Option V, σ = [some (.ref a), some (.ref r), some (.ref va), some (.int c), x4, some (.int bs[i].1), some (.ref lc), some (.ref p), some (.ref C), some (.ref g), x10, x11, x12, none, none, none, none, none] ∧
          TupsAt K Hj g (((chTo bs i).take j).flatMap fun c => longer bs bs[i] c bs[i].2) ∧ Same Hi Hj) ⟨_, _, _, _, rfl, TupsAt.nil upd_same, sg⟩ (fun j σ Hj _ ⟨_, _, _, _, _, _, sj⟩ => lstOf (sj _ _ eC)) ?_ ?_⟩
        · rintro j y σ Hj hj ⟨x4, x10, x11, x12, rfl, Tg, sj⟩
          rw [List.getElem?_map] at hj
          obtain ⟨u, hu, rfl⟩ := Option.map_eq_some_iff.mp hj
          have jl := (List.getElem?_eq_some_iff.mp hu).1
          obtain ⟨ch, hch⟩ : ∃ ch, (chTo bs i)[j]? = some ch := ⟨_, List.getElem?_eq_getElem (by omega)⟩
          have rl := chTo_rowlen bs i ch (List.mem_of_getElem? hch)
          have tu := Same.seqTT sj (at_ j u ch hu hch)
          refine ⟨_, rfl, lc, rfl, ⟨_, Same.seqTT (si.trans sj) tl⟩, for_tup (K := K) (a := lc) (xs := bs[i].2.map V.int) (fun k σ Hk => ∃ x4 x11 x12 : Option V, σ = [some (.ref a), some (.ref r), some (.ref va), some (.int c), x4, some (.int bs[i].1), some (.ref lc), some (.ref p), some (.ref C), some (.ref g), some (.ref u), x11, x12, none, none, none, none, none] ∧
            TupsAt K Hk g ((((chTo bs i).take j).flatMap fun c => longer bs bs[i] c bs[i].2) ++ longer bs bs[i] ch (bs[i].2.take k)) ∧ Same Hi Hk) ⟨_, _, _, rfl, by rw [List.take_zero]; show TupsAt K Hj g (_ ++ []); rw [List.append_nil]; exact Tg, sj⟩ (fun k σ Hk _ ⟨_, _, _, _, _, sk⟩ => Same.seqTT (si.trans sk) tl) ?_ ?_⟩
          · rintro k y σ Hk hk ⟨x4, x11, x12, rfl, Tg, sk⟩
            obtain ⟨rr, hrr, rfl⟩ := getMapInt' hk
            have tuk := Same.seqTT sk (at_ j u ch hu hch)
            refine ⟨_, rfl, u, _, rfl, .inr tuk, _, rfl, by omega, by rw [List.length_map]; omega, ?_⟩
            rw [List.length_map, rl, Int.toNat_natCast]
            refine for_range (lo := 0) (n := i) (fun n σ Hn => ∃ x4 : Option V, σ = [some (.ref a), some (.ref r), some (.ref va), some (.int c), x4, some (.int bs[i].1), some (.ref lc), some (.ref p), some (.ref C), some (.ref g), some (.ref u), some (.int rr), some (.bl (goes bs ch bs[i].1 rr n)), none, none, none, none, none] ∧ Hn = Hk)
              ⟨_, rfl, rfl⟩ ?_ ?_
            · rintro n σ Hn hn ⟨y4, rfl, rfl⟩
              have hn' : n < bs.length := by omega
              have hbn : bs[n]? = some bs[n] := List.getElem?_eq_getElem hn'
              obtain ⟨xn, hxn⟩ : ∃ xn, xs[n]? = some xn := ⟨_, List.getElem?_eq_getElem (show n < xs.length by omega)⟩
              obtain ⟨pn, ln, en, tn, _⟩ := (hx n _ _ hxn hbn).ex
              have hcn : ch[n]? = some (ch[n]'(by omega)) := List.getElem?_eq_getElem _
              have m1 := hb1 _ (List.getElem_mem hn')
              have m2 := (M.bar _ (List.getElem_mem hn')).2.1
              have hgn : bs.getD n (1, []) = bs[n] := by rw [List.getD_eq_getElem?_getD, hbn]; rfl
              refine ⟨_, rfl, _, rfl, u, _, _, _, rfl, rfl, tuk, by rw [Int.zero_add]; exact atI_nat (j := n) (by rw [List.getElem?_map, hcn]; rfl), ?_⟩
              have tbk := Same.seqTT (si.trans sk) tb
              have tnk := Same.seqTT (si.trans sk) tn
              subst en
              have em1 : (bs[i].1 : Int) = ((bs[i].1.toNat : Nat) : Int) := by omega
              have em2 : (bs[n].1 : Int) = ((bs[n].1.toNat : Nat) : Int) := by omega
              have gpos : 0 < Nat.gcd bs[n].1.toNat bs[i].1.toNat := Nat.gcd_pos_of_pos_right _ (by omega)
              refine ⟨_, rfl, _, _, rfl, rfl, ?_⟩
              refine ⟨_, rfl, _, rfl, va, xs, _, _, rfl, rfl, tbk, by rw [Int.zero_add]; exact atI_nat hxn, pn, _, _, _, rfl, rfl, tnk, atI_nat (j := 0) rfl, _, rfl, bs[n].1.toNat, bs[i].1.toNat, ?_, Nat.lt_of_le_of_lt (show bs[n].1.toNat ≤ 900000 by omega) (by decide), Nat.lt_of_le_of_lt (show bs[i].1.toNat ≤ 900000 by omega) (by decide), ?_⟩
              · rw [← em1, ← em2]
                rfl
              refine ⟨_, _, rfl, rfl, by show (0 : Int) < _; omega, ?_⟩
              have egs : goes bs ch bs[i].1 rr (n + 1) = (goes bs ch bs[i].1 rr n && decide ((ch[n]'(by omega) - rr) % ((Nat.gcd bs[n].1.toNat bs[i].1.toNat : Nat) : Int) = 0)) := by
                rw [goes_succ, hgn, List.getD_eq_getElem?_getD, hcn]
                rfl
              refine ⟨rfl, _, rfl, ite2 (fun e => ?_) (fun e => ?_)⟩
              · have e' : ¬ (ch[n]'(by omega) - rr) % ((Nat.gcd bs[n].1.toNat bs[i].1.toNat : Nat) : Int) = 0 := fun z => by
                  have e2 : (!decide (V.int ((ch[n]'(by omega) - rr) % ((Nat.gcd bs[n].1.toNat bs[i].1.toNat : Nat) : Int)) = V.int 0)) = true := e
                  rw [z] at e2
                  exact absurd e2 (by decide)
                rw [egs, decide_eq_false e', Bool.and_false]
                exact ⟨_, rfl, rfl⟩
              · have e' : (ch[n]'(by omega) - rr) % ((Nat.gcd bs[n].1.toNat bs[i].1.toNat : Nat) : Int) = 0 := by
                  by_cases z : (ch[n]'(by omega) - rr) % ((Nat.gcd bs[n].1.toNat bs[i].1.toNat : Nat) : Int) = 0
                  · exact z
                  · exact absurd (show (!decide (V.int ((ch[n]'(by omega) - rr) % ((Nat.gcd bs[n].1.toNat bs[i].1.toNat : Nat) : Int)) = V.int 0)) = true by rw [decide_eq_false (fun y => z (V.int.inj y))]; rfl) e
                rw [egs, decide_eq_true e', Bool.and_true]
                exact ⟨_, rfl, rfl⟩
            · rintro σ Hn ⟨y4, rfl, rfl⟩
              have e5 : (bs[i].2.take (k + 1)).filter (fun r => goes bs ch bs[i].1 r ch.length) = (bs[i].2.take k).filter (fun r => goes bs ch bs[i].1 r ch.length) ++ (if goes bs ch bs[i].1 rr i = true then [rr] else []) := by
                rw [takeSucc hrr, List.filter_append]
                by_cases e : goes bs ch bs[i].1 rr i = true
                · rw [if_pos e, List.filter_cons_of_pos (by rw [rl]; exact e)]
                  rfl
                · rw [if_neg e, List.filter_cons_of_neg (by rw [rl]; exact e)]
                  rfl
              have el : longer bs bs[i] ch (bs[i].2.take (k + 1)) = longer bs bs[i] ch (bs[i].2.take k) ++ (if goes bs ch bs[i].1 rr i = true then [ch ++ [rr]] else []) := by
                unfold longer
                rw [e5, List.map_append]
                by_cases e : goes bs ch bs[i].1 rr i = true
                · rw [if_pos e, if_pos e]
                  rfl
                · rw [if_neg e, if_neg e]
                  rfl
              refine ⟨_, rfl, _, rfl, ite2 (fun e => ?_) (fun e => ?_)⟩
              · have l1 : ((((chTo bs i).take j).flatMap fun c => longer bs bs[i] c bs[i].2) ++ longer bs bs[i] ch (bs[i].2.take k)).length ≤ 1000 := by
                  have h1 := flat_len (f := fun c => longer bs bs[i] c bs[i].2) (n := 5) (fun c => Nat.le_trans (longer_len _ _ _ _) o5) ((chTo bs i).take j)
                  have h2 := longer_len bs bs[i] ch (bs[i].2.take k)
                  rw [List.length_take] at h1 h2
                  rw [List.length_append]
                  have h3 : min j (chTo bs i).length * 5 ≤ 125 * 5 := Nat.mul_le_mul_right _ (by omega)
                  omega
                have fin : ∀ (t' : Addr) (H' : Hp), Same Hn H' → SqT K H' t' ((ch ++ [rr]).map V.int) → ∃ ys : List V, H' g = some (.lst ys) ∧ ys.length < sizeLine ∧ TupsAt K (upd H' g (.lst (ys ++ [.ref t']))) g (((((chTo bs i).take j).flatMap fun c => longer bs bs[i] c bs[i].2) ++ longer bs bs[i] ch (bs[i].2.take k)) ++ [ch ++ [rr]]) ∧ Same Hi (upd H' g (.lst (ys ++ [.ref t']))) := fun t' H' s' tt => by
                  obtain ⟨us, eg, nu, Tn⟩ := (Tg.stay s').push3 tt
                  exact ⟨_, eg, by rw [List.length_map, nu]; exact sizeLt (by omega), Tn, samePut (sk.trans s') ng⟩
                refine ⟨_, rfl, .inl ⟨rfl, _, lstOf Tg.ex.choose_spec.1⟩, _, rfl, _, rfl, sizeOk (by show (1 : Nat) ≤ 100000; decide), fun t1 nt1 => ?_⟩
                have st := same_upd nt1 (o := .tup [.int rr])
                refine ⟨u, t1, _, _, rfl, rfl, Same.seqTT st tuk, tupOf upd_same, ?_, fun e0 => ?_, fun _ e0 => absurd e0 (List.cons_ne_nil _ _), fun _ _ t2 nt2 => ?_⟩
                · rw [List.length_map]
                  exact sizeOk (by show ch.length + 1 ≤ 100000; omega)
                · have ch0 : ch = [] := List.map_eq_nil_iff.mp e0
                  obtain ⟨ys, eg, ly, Tn, sn⟩ := fin t1 _ st (by rw [ch0]; exact tupOf upd_same)
                  refine ⟨g, _, _, rfl, rfl, eg, ly, _, _, _, rfl, ?_, sn⟩
                  rw [el, if_pos e, ← List.append_assoc]
                  exact Tn
                · obtain ⟨ys, eg, ly, Tn, sn⟩ := fin t2 _ (st.trans (same_upd nt2)) (by rw [List.map_append]; exact tupOf upd_same)
                  refine ⟨g, _, _, rfl, rfl, eg, ly, _, _, _, rfl, ?_, sn⟩
                  rw [el, if_pos e, ← List.append_assoc]
                  exact Tn
              · exact ⟨_, _, _, rfl, by rw [el, if_neg e, List.append_nil]; exact Tg, sk⟩
          · rintro σ Hk ⟨x4, x11, x12, rfl, Tg, sk⟩
            rw [List.length_map, List.take_length] at Tg
            refine ⟨_, _, _, _, rfl, ?_, sk⟩
            rw [takeSucc hch, List.flatMap_append]
            simp only [List.flatMap_cons, List.flatMap_nil, List.append_nil]
            exact Tg
        · rintro σ Hj ⟨x4, x10, x11, x12, rfl, Tg, sj⟩
          rw [List.length_map, lt, List.take_length] at Tg
          refine ⟨_, rfl, g, _, _, _, _, _, _, _, rfl, ?_, si.trans sj⟩
          show TupsAt K Hj g ((chTo bs i).flatMap fun c => longer bs (bs.getD i (1, [])) c (bs.getD i (1, [])).2)
          rw [hgd]
          exact Tg
      · rintro σ H7 ⟨C, x4, x5, x6, x9, x10, x11, x12, rfl, TC, s7⟩
        rw [nb] at TC
        have A7 := A6.stay s7
        have B7 := B6.stay (.same s7)
        have pm := told_perm hb1 hbl
        obtain ⟨ts, eC, lt, at_⟩ := TC.ex
        have ll : (cls bs).length = (chTo bs bs.length).length := by
          rw [← pm.length_eq, List.length_map]
        have clen := chTo_len hb5 bs.length (Nat.le_refl _)
        have pw5 : (5 : Nat) ^ bs.length ≤ 625 := Nat.le_trans (Nat.pow_le_pow_right (by decide) (show bs.length ≤ 4 by omega)) (by decide)
        refine ⟨_, rfl, p, _, _, rfl, A7.ob.choose_spec, p, _, t, bs, rfl, A7, ?_⟩
        refine ⟨_, rfl, p, _, _, rfl, A7.ob.choose_spec, p, _, t, bs, rfl, A7, ?_⟩
        refine ⟨_, rfl, .ref va, bs, rfl, B7, M.sv.mods, rfl, _, rfl, ?_⟩
        rw [decide_eq_true rfl]
        refine iteF ⟨_, rfl, t, _, rfl, .inr A7.cls, _, rfl, C, _, rfl, .inl (lstOf eC), rfl, _, rfl, ?_⟩
        rw [List.length_map, List.length_map, lt, ll, decide_eq_true rfl]
        refine iteF ⟨_, rfl, t, _, rfl, .inr A7.cls, fun l1 nl1 => ?_⟩
        have s8 := same_upd nl1 (o := .lst ((cls bs).map V.int))
        have e8 := upd_same (H := H7) (a := l1) (o := .lst ((cls bs).map V.int))
        generalize upd H7 l1 (.lst ((cls bs).map V.int)) = H8 at s8 e8 ⊢
        have A8 := A7.stay s8
        refine ⟨_, rfl, t, cls bs, _, rfl, A8.cls, capLen _, by omega, fun p1 c1 hc1 np1 => ⟨p1, _, c1, rfl, upd_same, by omega, fun ns2 p2 up2 mem2 len2 np2 => ?_⟩⟩
        have s9 : Same H8 (upd H8 p1 (SetO w p1 (fun j => decide (j ∈ cls bs)) c1)) := same_upd np1
        have s10 := s9.trans (same_upd np2 (o := .lst (ns2.map V.int)))
        obtain rfl : ns2 = cls bs := sorted_unique up2 (cls_up bs) fun x => ⟨fun h => of_decide_eq_true ((mem2 x).mp h), fun h => (mem2 x).mpr (decide_eq_true h)⟩
        refine ⟨_, _, dpLst (l := cls bs) (lstOf (s10 _ _ e8)), dpLst (l := cls bs) (lstOf upd_same), (okD.lst (okInts _)).shaped (by decide), (okD.lst (okInts _)).shaped (by decide), _, rfl, ?_⟩
        rw [(okD.lst (okInts _)).eqv]
        have A10 := A8.stay s10
        have T10 := (TC.stay s8).stay s10
        refine iteF ⟨fun σ H' => σ = [some (.ref a), some (.ref r), some (.ref va), some (.int c), x4, x5, x6, some (.ref p), some (.ref C), x9, x10, x11, x12, some (.ref t), none, none, none, none] ∧ SvAt K T.C H' p (.ref va) t bs ∧ TupsAt K H' C (chTo bs bs.length), ?_, ?_⟩
        · refine ⟨_, rfl, Nat.zero_le _, fun e0 ne0 => ?_⟩
          have s11 := same_upd ne0 (o := .tup [])
          have A11 := A10.stay s11
          refine ⟨_, _, dpTup (l := cls bs) A11.cls, .tup (tupOf upd_same) .nil, (okD.tup (okInts _)).shaped (by decide), by decide, _, rfl, ?_⟩
          rw [eqvNilT]
          have T11 := T10.stay s11
          by_cases hc : cls bs = []
          · rw [decide_eq_true hc]
            exact iteF ⟨rfl, A11, T11⟩
          · rw [decide_eq_false hc]
            have c0 : 0 < (cls bs).length := List.length_pos_iff.mpr hc
            obtain ⟨f, hf⟩ : ∃ f, (cls bs)[0]? = some f := ⟨_, List.getElem?_eq_getElem c0⟩
            obtain ⟨z, hz⟩ : ∃ z, (cls bs)[(cls bs).length - 1]? = some z := ⟨_, List.getElem?_eq_getElem (by omega)⟩
            obtain ⟨f0, f1, _⟩ := cls_m3.mp (List.mem_of_getElem? hf)
            obtain ⟨z0, z1, _⟩ := cls_m3.mp (List.mem_of_getElem? hz)
            have fz : f ≤ z := by
              by_cases e : (cls bs).length - 1 = 0
              · rw [e, hf] at hz
                cases hz
                exact Int.le_refl _
              · have := List.pairwise_iff_getElem.mp (cls_up bs) 0 ((cls bs).length - 1) c0 (by omega) (by omega)
                rw [(List.getElem?_eq_some_iff.mp hf).2, (List.getElem?_eq_some_iff.mp hz).2] at this
                omega
            refine iteT ⟨_, rfl, t, _, _, _, rfl, rfl, A11.cls, atI_nat (j := 0) (by rw [List.getElem?_map, hf]; rfl), _, _, rfl, rfl, _, rfl, ?_⟩
            rw [decide_eq_true f0]
            refine iteT ⟨_, rfl, _, rfl, t, _, _, _, rfl, rfl, A11.cls, atI_last (by rw [List.length_map, List.getElem?_map, hz]; rfl), _, _, rfl, rfl, _, rfl, ?_⟩
            rw [decide_eq_true fz]
            refine iteT ⟨_, rfl, p, _, _, rfl, A11.ob.choose_spec, p, _, t, bs, rfl, A11, _, _, rfl, rfl, _, rfl, ?_⟩
            rw [decide_eq_true z1]
            exact iteF ⟨rfl, A11, T11⟩
        · rintro σ H12 ⟨rfl, A12, T12⟩
          obtain ⟨vb, zs, evb, tb12, nz, hz⟩ := A12.bars.ex
          cases evb
          refine ⟨_, rfl, t, rfl, ⟨_, A12.cls⟩, fun D nD => ?_⟩
          refine lc_tup (K := K) (a := t) (xs := (cls bs).map V.int) (fun k Hk => TupsAt K Hk D (((cls bs).take k).map (toldOf bs)) ∧ Same H12 Hk) ⟨TupsAt.nil upd_same, same_upd nD⟩ (fun k Hk _ ⟨_, sk⟩ => Same.seqTT sk A12.cls) ?_ ?_
          · rintro k y Hk hk ⟨TD, sk⟩
            obtain ⟨x, hx', rfl⟩ := getMapInt' hk
            refine ⟨rfl, _, rfl, va, rfl, ⟨_, Same.seqTT sk tb12⟩, fun F nF => ?_⟩
            refine lc_tup (K := K) (a := va) (xs := zs) (fun n Hn => Hn F = some (.lst ((toldOf (bs.take n) x).map V.int)) ∧ Same Hk Hn) ⟨upd_same, same_upd nF⟩ (fun n Hn _ ⟨_, sn⟩ => Same.seqTT (sk.trans sn) tb12) ?_ ?_
            · rintro n y Hn hn ⟨eF, sn⟩
              have nl : n < zs.length := (List.getElem?_eq_some_iff.mp hn).1
              have hbn : bs[n]? = some bs[n] := List.getElem?_eq_getElem (by omega)
              obtain ⟨pb, lv, rfl, tp, ⟨lc, rfl, _⟩⟩ := (hz n _ _ hn hbn).ex
              have m1 := hb1 _ (List.getElem_mem (show n < bs.length by omega))
              refine ⟨pb, [_, _], rfl, Same.seqTT (sk.trans sn) tp, rfl, _, _, rfl, _, _, rfl, rfl, rfl, _, rfl, _, rfl, _, _, rfl, rfl, by show (0 : Int) < bs[n].1; omega, _, eF, ?_, ?_, samePut sn nF⟩
              · unfold toldOf
                rw [List.length_map, List.length_map, List.length_take]
                exact sizeLt (by omega)
              · rw [upd_same, takeSucc hbn]
                unfold toldOf
                rw [List.map_append, List.map_append]
                rfl
            · rintro Hn ⟨eF, sn⟩
              rw [nz, List.take_length] at eF
              refine ⟨F, _, rfl, .inl ⟨lstOf eF, fun u nu => ?_⟩⟩
              have su := same_upd nu (o := .tup ((toldOf bs x).map V.int))
              obtain ⟨us, eu, lu, Tn⟩ := ((TD.stay sn).stay su).push3 (t := u) (l := toldOf bs x) (tupOf upd_same)
              refine ⟨_, eu, ?_, ?_, samePut (sk.trans (sn.trans su)) nD⟩
              · rw [List.length_map, lu, List.length_map, List.length_take]
                exact sizeLt (by omega)
              · rw [takeSucc hx', List.map_append]
                exact Tn
          · rintro H13 ⟨TD, s13⟩
            rw [List.length_map, List.take_length] at TD
            have T13 := T12.stay s13
            have cb : ∀ c ∈ chTo bs bs.length, c.length = bs.length := fun c hc => chTo_rowlen bs _ c hc
            have fit : ∀ MM : List (List Int), (∀ c ∈ MM, c.length = bs.length) → MM.Nodup → (∀ l ∈ MM, l ≠ []) ∨ ∃ r, MM = [] :: r := fun MM h nd => by
              by_cases b0 : bs.length = 0
              · cases MM with
                | nil => exact .inl fun l hl => by cases hl
                | cons c r => exact .inr ⟨r, by rw [List.eq_nil_of_length_eq_zero ((h c List.mem_cons_self).trans b0)]⟩
              · exact .inl fun l hl e => by
                  have := h l hl
                  rw [e] at this
                  exact b0 this.symm
            have nd2 := nodup_chTo hbl bs.length (Nat.le_refl _)
            have nd1 := pm.nodup_iff.mpr nd2
            refine ⟨_, rfl, D, _, rfl, TD, fit _ (fun c hc => ?_) nd1, fun p1 M1 H14 s14 _ t14 pm1 pw1 => ?_⟩
            · obtain ⟨x, _, rfl⟩ := List.mem_map.mp hc
              unfold toldOf
              rw [List.length_map]
            refine ⟨_, rfl, C, _, rfl, T13.stay s14, fit _ cb nd2, fun p2 M2 H15 s15 _ t15 pm2 pw2 => ?_⟩
            obtain rfl : M1 = M2 := srt3 ((pm1.trans pm).trans pm2.symm) pw1 pw2
            refine ⟨_, _, (t14.stay s15).dp, t15.dp, (okTups _).shaped (by decide), (okTups _).shaped (by decide), ?_⟩
            rw [(okTups _).eqv]
            exact q _
end

end R
namespace R
open PySem PySem.Spec PyProof.Rows L2
theorem kit_ref {K : PySem.W.Frag} {C : Addr} {t : Value} (h1 : PySem.W.hasDictIn K C = true) (h2 : PySem.W.typeIn K (.ref C) = some (.type "type")) (h3 : PySem.W.subIn K t (.ref C) = some true) : PySem.W.kitOne K t (.ref C) = some true := by
  obtain ⟨cd, hc, _⟩ := PySem.W.any_some h1
  unfold PySem.W.kitOne
  split
  · rfl
  · show (if ((PySem.W.clsIn K C).isSome && PySem.W.typeIn K (.ref C) == some (.type "type")) = true then PySem.W.subIn K t (.ref C) else none) = some true
    rw [hc, h2]
    exact h3
theorem all_mk {l : PySem.W.OpenLaw} {w : World} {K : PySem.W.Frag} {h : Heap} {mg : Str → Option Value} {fa : Addr} (X : K.In h) (G : h.Ns mainGlobals mg) (hfa : mg "law" = some (.ref fa))
    {f0 : Addr} {oc0 kV0 dc0 pm0 cd0 ct0 : Value} {od0 an0 : Option Addr} {sl0 : Array (Option Value)}
    (a0 : PySem.W.nsIn K mainGlobals "is_integer" = some (some (.ref f0)))
    {f1 : Addr} {oc1 kV1 dc1 pm1 cd1 ct1 : Value} {od1 an1 : Option Addr} {sl1 : Array (Option Value)}
    (a1 : PySem.W.nsIn K mainGlobals "integer_within" = some (some (.ref f1)))
    {f2 : Addr} {oc2 kV2 dc2 pm2 cd2 ct2 : Value} {od2 an2 : Option Addr} {sl2 : Array (Option Value)}
    (a2 : PySem.W.nsIn K mainGlobals "is_ascending" = some (some (.ref f2)))
    {f3 : Addr} {oc3 kV3 dc3 pm3 cd3 ct3 : Value} {od3 an3 : Option Addr} {sl3 : Array (Option Value)}
    (a3 : PySem.W.nsIn K mainGlobals "is_lot" = some (some (.ref f3)))
    {f4 : Addr} {oc4 kV4 dc4 pm4 cd4 ct4 : Value} {od4 an4 : Option Addr} {sl4 : Array (Option Value)}
    (a4 : PySem.W.nsIn K mainGlobals "is_pair" = some (some (.ref f4)))
    {f5 : Addr} {oc5 kV5 dc5 pm5 cd5 ct5 : Value} {od5 an5 : Option Addr} {sl5 : Array (Option Value)}
    (a5 : PySem.W.nsIn K mainGlobals "is_bar" = some (some (.ref f5)))
    {f6 : Addr} {oc6 kV6 dc6 pm6 cd6 ct6 : Value} {od6 an6 : Option Addr} {sl6 : Array (Option Value)}
    (a6 : PySem.W.nsIn K mainGlobals "inverse" = some (some (.ref f6)))
    {f7 : Addr} {oc7 kV7 dc7 pm7 cd7 ct7 : Value} {od7 an7 : Option Addr} {sl7 : Array (Option Value)}
    (a7 : PySem.W.nsIn K mainGlobals "joined" = some (some (.ref f7)))
    {f8 : Addr} {oc8 kV8 dc8 pm8 cd8 ct8 : Value} {od8 an8 : Option Addr} {sl8 : Array (Option Value)}
    (a8 : PySem.W.nsIn K mainGlobals "classes_of" = some (some (.ref f8)))
    {f9 : Addr} {oc9 kV9 dc9 pm9 cd9 ct9 : Value} {od9 an9 : Option Addr} {sl9 : Array (Option Value)}
    (a9 : PySem.W.nsIn K mainGlobals "check_bars" = some (some (.ref f9)))
    {f10 : Addr} {oc10 kV10 dc10 pm10 cd10 ct10 : Value} {od10 an10 : Option Addr} {sl10 : Array (Option Value)}
    (a10 : PySem.W.nsIn K mainGlobals "whole_of" = some (some (.ref f10)))
    {f11 : Addr} {oc11 kV11 dc11 pm11 cd11 ct11 : Value} {od11 an11 : Option Addr} {sl11 : Array (Option Value)}
    (a11 : PySem.W.nsIn K mainGlobals "check_choices" = some (some (.ref f11)))
    {f12 : Addr} {oc12 kV12 dc12 pm12 cd12 ct12 : Value} {od12 an12 : Option Addr} {sl12 : Array (Option Value)}
    (a12 : PySem.W.nsIn K mainGlobals "_law_draws" = some (some (.ref f12)))
    {f13 : Addr} {oc13 kV13 dc13 pm13 cd13 ct13 : Value} {od13 an13 : Option Addr} {sl13 : Array (Option Value)}
    (a13 : PySem.W.nsIn K mainGlobals "_law_pick" = some (some (.ref f13)))
    {f14 : Addr} {oc14 kV14 dc14 pm14 cd14 ct14 : Value} {od14 an14 : Option Addr} {sl14 : Array (Option Value)}
    (a14 : PySem.W.nsIn K mainGlobals "_law_gcd" = some (some (.ref f14)))
    {f15 : Addr} {oc15 kV15 dc15 pm15 cd15 ct15 : Value} {od15 an15 : Option Addr} {sl15 : Array (Option Value)}
    (a15 : PySem.W.nsIn K mainGlobals "_law_whole" = some (some (.ref f15)))
    {f16 : Addr} {oc16 kV16 dc16 pm16 cd16 ct16 : Value} {od16 an16 : Option Addr} {sl16 : Array (Option Value)}
    (a16 : PySem.W.nsIn K mainGlobals "law" = some (some (.ref f16)))
    {f17 : Addr} {oc17 kV17 dc17 pm17 cd17 ct17 : Value} {od17 an17 : Option Addr} {sl17 : Array (Option Value)}
    {f18 : Addr} {oc18 kV18 dc18 pm18 cd18 ct18 : Value} {od18 an18 : Option Addr} {sl18 : Array (Option Value)}
    {f19 : Addr} {oc19 kV19 dc19 pm19 cd19 ct19 : Value} {od19 an19 : Option Addr} {sl19 : Array (Option Value)}
    {f20 : Addr} {oc20 kV20 dc20 pm20 cd20 ct20 : Value} {od20 an20 : Option Addr} {sl20 : Array (Option Value)}
    {f21 : Addr} {oc21 kV21 dc21 pm21 cd21 ct21 : Value} {od21 an21 : Option Addr} {sl21 : Array (Option Value)}
    {C : Addr} {pB pW pC : Addr} {rB rW rC : List Value}
    (aC : PySem.W.nsIn K mainGlobals "Sieve" = some (some (.ref C)))
    (mI : PySem.W.findIn K (.ref C) "__init__" = some (some (.ref f17)))
    (iI : PySem.W.isFn K (.ref f17) = true)
    (mE : PySem.W.findIn K (.ref C) "__eq__" = some (some (.ref f18)))
    (pg : PySem.W.plainGet K C Str.empty = true)
    (hd : PySem.W.hasDictIn K C = true)
    (po : PySem.W.plainOver K C = true)
    (sa : PySem.W.findIn K (.ref C) "__setattr__" = some (some (.builtin "object.__setattr__")))
    (mk : PySem.W.makesIn K C = true)
    (kc : PySem.W.keepIn K (.ref C) = true)
    (n_bars : PySem.W.findIn K (.ref C) "_bars" = some none)
    (n_whole : PySem.W.findIn K (.ref C) "_whole" = some none)
    (n_classes : PySem.W.findIn K (.ref C) "_classes" = some none)
    (q1B : PySem.W.findIn K (.ref C) "bars" = some (some (.ref pB)))
    (q2B : PySem.W.specialIn K (.ref pB) "__get__" = some (some (.builtin "property.__get__")))
    (q3B : PySem.W.takesIn K (.ref pB) = some true)
    (q4B : PySem.W.recIn K pB "property" = some (.ref f19 :: rB))
    (q1W : PySem.W.findIn K (.ref C) "whole" = some (some (.ref pW)))
    (q2W : PySem.W.specialIn K (.ref pW) "__get__" = some (some (.builtin "property.__get__")))
    (q3W : PySem.W.takesIn K (.ref pW) = some true)
    (q4W : PySem.W.recIn K pW "property" = some (.ref f20 :: rW))
    (q1C : PySem.W.findIn K (.ref C) "classes" = some (some (.ref pC)))
    (q2C : PySem.W.specialIn K (.ref pC) "__get__" = some (some (.builtin "property.__get__")))
    (q3C : PySem.W.takesIn K (.ref pC) = some true)
    (q4C : PySem.W.recIn K pC "property" = some (.ref f21 :: rC))
    (l0 : K.lookup f0 = some ⟨oc0, od0, .func (PySem.W.fnOf "is_integer" "is_integer" (defArgs s_p_is_integer) (defBody s_p_is_integer) (defScope s_p_is_integer) .none kV0 dc0 pm0 an0 cd0 ct0), sl0⟩)
    (d0 : PySem.W.codeIn K cd0 "is_integer" = true)
    (k0 : PySem.W.keepIn K (.ref f0) = true)
    (l1 : K.lookup f1 = some ⟨oc1, od1, .func (PySem.W.fnOf "integer_within" "integer_within" (defArgs s_p_integer_within) (defBody s_p_integer_within) (defScope s_p_integer_within) .none kV1 dc1 pm1 an1 cd1 ct1), sl1⟩)
    (d1 : PySem.W.codeIn K cd1 "integer_within" = true)
    (k1 : PySem.W.keepIn K (.ref f1) = true)
    (l2 : K.lookup f2 = some ⟨oc2, od2, .func (PySem.W.fnOf "is_ascending" "is_ascending" (defArgs s_p_is_ascending) (defBody s_p_is_ascending) (defScope s_p_is_ascending) .none kV2 dc2 pm2 an2 cd2 ct2), sl2⟩)
    (d2 : PySem.W.codeIn K cd2 "is_ascending" = true)
    (k2 : PySem.W.keepIn K (.ref f2) = true)
    (l3 : K.lookup f3 = some ⟨oc3, od3, .func (PySem.W.fnOf "is_lot" "is_lot" (defArgs s_p_is_lot) (defBody s_p_is_lot) (defScope s_p_is_lot) .none kV3 dc3 pm3 an3 cd3 ct3), sl3⟩)
    (d3 : PySem.W.codeIn K cd3 "is_lot" = true)
    (k3 : PySem.W.keepIn K (.ref f3) = true)
    (l4 : K.lookup f4 = some ⟨oc4, od4, .func (PySem.W.fnOf "is_pair" "is_pair" (defArgs s_p_is_pair) (defBody s_p_is_pair) (defScope s_p_is_pair) .none kV4 dc4 pm4 an4 cd4 ct4), sl4⟩)
    (d4 : PySem.W.codeIn K cd4 "is_pair" = true)
    (k4 : PySem.W.keepIn K (.ref f4) = true)
    (l5 : K.lookup f5 = some ⟨oc5, od5, .func (PySem.W.fnOf "is_bar" "is_bar" (defArgs s_p_is_bar) (defBody s_p_is_bar) (defScope s_p_is_bar) .none kV5 dc5 pm5 an5 cd5 ct5), sl5⟩)
    (d5 : PySem.W.codeIn K cd5 "is_bar" = true)
    (k5 : PySem.W.keepIn K (.ref f5) = true)
    (l6 : K.lookup f6 = some ⟨oc6, od6, .func (PySem.W.fnOf "inverse" "inverse" (defArgs s_p_inverse) (defBody s_p_inverse) (defScope s_p_inverse) .none kV6 dc6 pm6 an6 cd6 ct6), sl6⟩)
    (d6 : PySem.W.codeIn K cd6 "inverse" = true)
    (k6 : PySem.W.keepIn K (.ref f6) = true)
    (l7 : K.lookup f7 = some ⟨oc7, od7, .func (PySem.W.fnOf "joined" "joined" (defArgs s_p_joined) (defBody s_p_joined) (defScope s_p_joined) .none kV7 dc7 pm7 an7 cd7 ct7), sl7⟩)
    (d7 : PySem.W.codeIn K cd7 "joined" = true)
    (k7 : PySem.W.keepIn K (.ref f7) = true)
    (l8 : K.lookup f8 = some ⟨oc8, od8, .func (PySem.W.fnOf "classes_of" "classes_of" (defArgs s_p_classes_of) (defBody s_p_classes_of) (defScope s_p_classes_of) .none kV8 dc8 pm8 an8 cd8 ct8), sl8⟩)
    (d8 : PySem.W.codeIn K cd8 "classes_of" = true)
    (k8 : PySem.W.keepIn K (.ref f8) = true)
    (l9 : K.lookup f9 = some ⟨oc9, od9, .func (PySem.W.fnOf "check_bars" "check_bars" (defArgs s_p_check_bars) (defBody s_p_check_bars) (defScope s_p_check_bars) .none kV9 dc9 pm9 an9 cd9 ct9), sl9⟩)
    (d9 : PySem.W.codeIn K cd9 "check_bars" = true)
    (k9 : PySem.W.keepIn K (.ref f9) = true)
    (l10 : K.lookup f10 = some ⟨oc10, od10, .func (PySem.W.fnOf "whole_of" "whole_of" (defArgs s_p_whole_of) (defBody s_p_whole_of) (defScope s_p_whole_of) .none kV10 dc10 pm10 an10 cd10 ct10), sl10⟩)
    (d10 : PySem.W.codeIn K cd10 "whole_of" = true)
    (k10 : PySem.W.keepIn K (.ref f10) = true)
    (l11 : K.lookup f11 = some ⟨oc11, od11, .func (PySem.W.fnOf "check_choices" "check_choices" (defArgs s_p_check_choices) (defBody s_p_check_choices) (defScope s_p_check_choices) .none kV11 dc11 pm11 an11 cd11 ct11), sl11⟩)
    (d11 : PySem.W.codeIn K cd11 "check_choices" = true)
    (k11 : PySem.W.keepIn K (.ref f11) = true)
    (l12 : K.lookup f12 = some ⟨oc12, od12, .func (PySem.W.fnOf "_law_draws" "_law_draws" (defArgs s_l_draws) (defBody s_l_draws) (defScope s_l_draws) .none kV12 dc12 pm12 an12 cd12 ct12), sl12⟩)
    (d12 : PySem.W.codeIn K cd12 "_law_draws" = true)
    (k12 : PySem.W.keepIn K (.ref f12) = true)
    (l13 : K.lookup f13 = some ⟨oc13, od13, .func (PySem.W.fnOf "_law_pick" "_law_pick" (defArgs s_l_pick) (defBody s_l_pick) (defScope s_l_pick) .none kV13 dc13 pm13 an13 cd13 ct13), sl13⟩)
    (d13 : PySem.W.codeIn K cd13 "_law_pick" = true)
    (k13 : PySem.W.keepIn K (.ref f13) = true)
    (l14 : K.lookup f14 = some ⟨oc14, od14, .func (PySem.W.fnOf "_law_gcd" "_law_gcd" (defArgs s_l_gcd) (defBody s_l_gcd) (defScope s_l_gcd) .none kV14 dc14 pm14 an14 cd14 ct14), sl14⟩)
    (d14 : PySem.W.codeIn K cd14 "_law_gcd" = true)
    (k14 : PySem.W.keepIn K (.ref f14) = true)
    (l15 : K.lookup f15 = some ⟨oc15, od15, .func (PySem.W.fnOf "_law_whole" "_law_whole" (defArgs s_l_whole) (defBody s_l_whole) (defScope s_l_whole) .none kV15 dc15 pm15 an15 cd15 ct15), sl15⟩)
    (d15 : PySem.W.codeIn K cd15 "_law_whole" = true)
    (k15 : PySem.W.keepIn K (.ref f15) = true)
    (l16 : K.lookup f16 = some ⟨oc16, od16, .func (PySem.W.fnOf "law" "law" (defArgs s_law) (defBody s_law) (defScope s_law) .none kV16 dc16 pm16 an16 cd16 ct16), sl16⟩)
    (d16 : PySem.W.codeIn K cd16 "law" = true)
    (k16 : PySem.W.keepIn K (.ref f16) = true)
    (l17 : K.lookup f17 = some ⟨oc17, od17, .func (PySem.W.fnOf "__init__" "Sieve.__init__" (defArgs s_m_Sieve_init) (defBody s_m_Sieve_init) (defScope s_m_Sieve_init) .none kV17 dc17 pm17 an17 cd17 ct17), sl17⟩)
    (d17 : PySem.W.codeIn K cd17 "Sieve.__init__" = true)
    (k17 : PySem.W.keepIn K (.ref f17) = true)
    (l18 : K.lookup f18 = some ⟨oc18, od18, .func (PySem.W.fnOf "__eq__" "Sieve.__eq__" (defArgs s_m_Sieve_eq) (defBody s_m_Sieve_eq) (defScope s_m_Sieve_eq) .none kV18 dc18 pm18 an18 cd18 ct18), sl18⟩)
    (d18 : PySem.W.codeIn K cd18 "Sieve.__eq__" = true)
    (k18 : PySem.W.keepIn K (.ref f18) = true)
    (l19 : K.lookup f19 = some ⟨oc19, od19, .func (PySem.W.fnOf "bars" "Sieve.bars" (defArgs s_m_Sieve_bars) (defBody s_m_Sieve_bars) (defScope s_m_Sieve_bars) .none kV19 dc19 pm19 an19 cd19 ct19), sl19⟩)
    (d19 : PySem.W.codeIn K cd19 "Sieve.bars" = true)
    (k19 : PySem.W.keepIn K (.ref f19) = true)
    (l20 : K.lookup f20 = some ⟨oc20, od20, .func (PySem.W.fnOf "whole" "Sieve.whole" (defArgs s_m_Sieve_whole) (defBody s_m_Sieve_whole) (defScope s_m_Sieve_whole) .none kV20 dc20 pm20 an20 cd20 ct20), sl20⟩)
    (d20 : PySem.W.codeIn K cd20 "Sieve.whole" = true)
    (k20 : PySem.W.keepIn K (.ref f20) = true)
    (l21 : K.lookup f21 = some ⟨oc21, od21, .func (PySem.W.fnOf "classes" "Sieve.classes" (defArgs s_m_Sieve_classes) (defBody s_m_Sieve_classes) (defScope s_m_Sieve_classes) .none kV21 dc21 pm21 an21 cd21 ct21), sl21⟩)
    (d21 : PySem.W.codeIn K cd21 "Sieve.classes" = true)
    (k21 : PySem.W.keepIn K (.ref f21) = true)
    (z_len : PySem.W.nsIn K mainGlobals "len" = some none)
    (z_max : PySem.W.nsIn K mainGlobals "max" = some none)
    (z_range : PySem.W.nsIn K mainGlobals "range" = some none)
    (z_int : PySem.W.nsIn K mainGlobals "int" = some none)
    (z_list : PySem.W.nsIn K mainGlobals "list" = some none)
    (z_tuple : PySem.W.nsIn K mainGlobals "tuple" = some none)
    (z_set : PySem.W.nsIn K mainGlobals "set" = some none)
    (z_sorted : PySem.W.nsIn K mainGlobals "sorted" = some none)
    (z_isinstance : PySem.W.nsIn K mainGlobals "isinstance" = some none)
    (z_enumerate : PySem.W.nsIn K mainGlobals "enumerate" = some none)
    (z_bool : PySem.W.nsIn K mainGlobals "bool" = some none)
    (g_gcd : PySem.W.nsIn K mainGlobals "gcd" = some (some (.builtin "math.gcd")))
    (g_lcm : PySem.W.nsIn K mainGlobals "lcm" = some (some (.builtin "math.lcm")))
    {t_GREATEST_MODULUS : Tok}
    (c_GREATEST_MODULUS : PySem.W.nsIn K mainGlobals "GREATEST_MODULUS" = some (some (.int 1000000 t_GREATEST_MODULUS)))
    {t_MOST_RESTS : Tok}
    (c_MOST_RESTS : PySem.W.nsIn K mainGlobals "MOST_RESTS" = some (some (.int 60 t_MOST_RESTS)))
    {t_MOST_BARS : Tok}
    (c_MOST_BARS : PySem.W.nsIn K mainGlobals "MOST_BARS" = some (some (.int 6 t_MOST_BARS)))
    {t_GREATEST_WHOLE : Tok}
    (c_GREATEST_WHOLE : PySem.W.nsIn K mainGlobals "GREATEST_WHOLE" = some (some (.int 1000000000000000000000000000000 t_GREATEST_WHOLE)))
    {t_MOST_CHOICES : Tok}
    (c_MOST_CHOICES : PySem.W.nsIn K mainGlobals "MOST_CHOICES" = some (some (.int 2000 t_MOST_CHOICES)))
    {C_RestError : Addr}
    (g_RestError : PySem.W.nsIn K mainGlobals "RestError" = some (some (.ref C_RestError)))
    (hR : PySem.W.hasDictIn K C_RestError = true)
    (tR : PySem.W.typeIn K (.ref C_RestError) = some (.type "type"))
    {C_TooGreat : Addr}
    (g_TooGreat : PySem.W.nsIn K mainGlobals "TooGreat" = some (some (.ref C_TooGreat)))
    (x_TooGreat : PySem.W.excIn K C_TooGreat [.type "ValueError", .type "Exception", .type "BaseException", .type "object"] "ValueError.__new__" = true)
    (k_TooGreat : PySem.W.keepIn K (.ref C_TooGreat) = true)
    (b_TooGreat : PySem.W.subIn K (.ref C_TooGreat) (.type "BaseException") = some true)
    (t_TooGreat : PySem.W.typeIn K (.ref C_TooGreat) = some (.type "type"))
    (e_TooGreat : PySem.W.subIn K (.ref C_TooGreat) (.ref C_TooGreat) = some true)
    (E1_TooGreat : PySem.W.findIn K (.ref C_TooGreat) "__getattribute__" = some (some (.builtin "BaseException.__getattribute__")))
    (E2_TooGreat : PySem.W.findIn K (.ref C_TooGreat) "__getattr__" = some none)
    (E3_TooGreat : PySem.W.hasDictIn K C_TooGreat = true)
    (E4_TooGreat : PySem.W.findIn K (.ref C_TooGreat) "__class__" = some (some (.builtin "object.__class__")))
    (E5_TooGreat : PySem.W.specialIn K (.builtin "object.__class__") "__get__" = some (some (.builtin "getset_descriptor.__get__")))
    (E6_TooGreat : PySem.W.takesIn K (.builtin "object.__class__") = some true)
    (E7_TooGreat : PySem.W.mroIn K C_TooGreat (.type "object") = some true)
    (r_TooGreat : PySem.W.subIn K (.ref C_TooGreat) (.ref C_RestError) = some true)
    {C_TooMany : Addr}
    (g_TooMany : PySem.W.nsIn K mainGlobals "TooMany" = some (some (.ref C_TooMany)))
    (x_TooMany : PySem.W.excIn K C_TooMany [.type "ValueError", .type "Exception", .type "BaseException", .type "object"] "ValueError.__new__" = true)
    (k_TooMany : PySem.W.keepIn K (.ref C_TooMany) = true)
    (b_TooMany : PySem.W.subIn K (.ref C_TooMany) (.type "BaseException") = some true)
    (t_TooMany : PySem.W.typeIn K (.ref C_TooMany) = some (.type "type"))
    (e_TooMany : PySem.W.subIn K (.ref C_TooMany) (.ref C_TooMany) = some true)
    (E1_TooMany : PySem.W.findIn K (.ref C_TooMany) "__getattribute__" = some (some (.builtin "BaseException.__getattribute__")))
    (E2_TooMany : PySem.W.findIn K (.ref C_TooMany) "__getattr__" = some none)
    (E3_TooMany : PySem.W.hasDictIn K C_TooMany = true)
    (E4_TooMany : PySem.W.findIn K (.ref C_TooMany) "__class__" = some (some (.builtin "object.__class__")))
    (E5_TooMany : PySem.W.specialIn K (.builtin "object.__class__") "__get__" = some (some (.builtin "getset_descriptor.__get__")))
    (E6_TooMany : PySem.W.takesIn K (.builtin "object.__class__") = some true)
    (E7_TooMany : PySem.W.mroIn K C_TooMany (.type "object") = some true)
    (r_TooMany : PySem.W.subIn K (.ref C_TooMany) (.ref C_RestError) = some true)
    (e_TooGreat_TooMany : PySem.W.subIn K (.ref C_TooGreat) (.ref C_TooMany) = some false)
    (e_TooMany_TooGreat : PySem.W.subIn K (.ref C_TooMany) (.ref C_TooGreat) = some false)
    : ∃ fd : FuncData, (∀ (s : Shared) (v : Value), BindsTo s fd ⟨[v], []⟩ [("_law_script", v)]) ∧ ∀ base : Heap, K.In base → base.Ns mainGlobals mg → FnOk l.prog w K mg base CX0 12 fa fd ["_law_script"] (sp_law K) := by
  have e := hfa.symm.trans (PySem.W.mg_of X G a16)
  cases e
  have F0 := fun_mk (st := s_p_is_integer) l0 d0 k0
  have b0 := F0.binds (ps := ["value"]) fun _ _ _ _ _ _ us hl => match us, hl with | [_], _ => rfl
  have F1 := fun_mk (st := s_p_integer_within) l1 d1 k1
  have b1 := F1.binds (ps := ["value", "least", "greatest"]) fun _ _ _ _ _ _ us hl => match us, hl with | [_, _, _], _ => rfl
  have F2 := fun_mk (st := s_p_is_ascending) l2 d2 k2
  have b2 := F2.binds (ps := ["value", "limit"]) fun _ _ _ _ _ _ us hl => match us, hl with | [_, _], _ => rfl
  have F3 := fun_mk (st := s_p_is_lot) l3 d3 k3
  have b3 := F3.binds (ps := ["value", "modulus"]) fun _ _ _ _ _ _ us hl => match us, hl with | [_, _], _ => rfl
  have F4 := fun_mk (st := s_p_is_pair) l4 d4 k4
  have b4 := F4.binds (ps := ["value"]) fun _ _ _ _ _ _ us hl => match us, hl with | [_], _ => rfl
  have F5 := fun_mk (st := s_p_is_bar) l5 d5 k5
  have b5 := F5.binds (ps := ["value"]) fun _ _ _ _ _ _ us hl => match us, hl with | [_], _ => rfl
  have F6 := fun_mk (st := s_p_inverse) l6 d6 k6
  have b6 := F6.binds (ps := ["number", "modulus"]) fun _ _ _ _ _ _ us hl => match us, hl with | [_, _], _ => rfl
  have F7 := fun_mk (st := s_p_joined) l7 d7 k7
  have b7 := F7.binds (ps := ["classes", "whole", "modulus", "lot"]) fun _ _ _ _ _ _ us hl => match us, hl with | [_, _, _, _], _ => rfl
  have F8 := fun_mk (st := s_p_classes_of) l8 d8 k8
  have b8 := F8.binds (ps := ["bars"]) fun _ _ _ _ _ _ us hl => match us, hl with | [_], _ => rfl
  have F9 := fun_mk (st := s_p_check_bars) l9 d9 k9
  have b9 := F9.binds (ps := ["bars"]) fun _ _ _ _ _ _ us hl => match us, hl with | [_], _ => rfl
  have F10 := fun_mk (st := s_p_whole_of) l10 d10 k10
  have b10 := F10.binds (ps := ["bars"]) fun _ _ _ _ _ _ us hl => match us, hl with | [_], _ => rfl
  have F11 := fun_mk (st := s_p_check_choices) l11 d11 k11
  have b11 := F11.binds (ps := ["bars"]) fun _ _ _ _ _ _ us hl => match us, hl with | [_], _ => rfl
  have F12 := fun_mk (st := s_l_draws) l12 d12 k12
  have b12 := F12.binds (ps := ["_law_script"]) fun _ _ _ _ _ _ us hl => match us, hl with | [_], _ => rfl
  have F13 := fun_mk (st := s_l_pick) l13 d13 k13
  have b13 := F13.binds (ps := ["_law_row", "_law_many"]) fun _ _ _ _ _ _ us hl => match us, hl with | [_, _], _ => rfl
  have F14 := fun_mk (st := s_l_gcd) l14 d14 k14
  have b14 := F14.binds (ps := ["_law_a", "_law_b"]) fun _ _ _ _ _ _ us hl => match us, hl with | [_, _], _ => rfl
  have F15 := fun_mk (st := s_l_whole) l15 d15 k15
  have b15 := F15.binds (ps := ["_law_bars"]) fun _ _ _ _ _ _ us hl => match us, hl with | [_], _ => rfl
  have F16 := fun_mk (st := s_law) l16 d16 k16
  have b16 := F16.binds (ps := ["_law_script"]) fun _ _ _ _ _ _ us hl => match us, hl with | [_], _ => rfl
  have F17 := fun_mk (st := s_m_Sieve_init) l17 d17 k17
  have b17 := F17.binds (ps := ["self", "bars"]) fun _ _ _ _ _ _ us hl => match us, hl with | [_, _], _ => rfl
  have F18 := fun_mk (st := s_m_Sieve_eq) l18 d18 k18
  have b18 := F18.binds (ps := ["self", "other"]) fun _ _ _ _ _ _ us hl => match us, hl with | [_, _], _ => rfl
  have F19 := fun_mk (st := s_m_Sieve_bars) l19 d19 k19
  have b19 := F19.binds (ps := ["self"]) fun _ _ _ _ _ _ us hl => match us, hl with | [_], _ => rfl
  have F20 := fun_mk (st := s_m_Sieve_whole) l20 d20 k20
  have b20 := F20.binds (ps := ["self"]) fun _ _ _ _ _ _ us hl => match us, hl with | [_], _ => rfl
  have F21 := fun_mk (st := s_m_Sieve_classes) l21 d21 k21
  have b21 := F21.binds (ps := ["self"]) fun _ _ _ _ _ _ us hl => match us, hl with | [_], _ => rfl
  let T : Txt K mg := {
    f_p_is_integer := _, fd_p_is_integer := _, F_p_is_integer := F0, b_p_is_integer := b0, g_p_is_integer := PySem.W.mg_of X G a0,
    f_p_integer_within := _, fd_p_integer_within := _, F_p_integer_within := F1, b_p_integer_within := b1, g_p_integer_within := PySem.W.mg_of X G a1,
    f_p_is_ascending := _, fd_p_is_ascending := _, F_p_is_ascending := F2, b_p_is_ascending := b2, g_p_is_ascending := PySem.W.mg_of X G a2,
    f_p_is_lot := _, fd_p_is_lot := _, F_p_is_lot := F3, b_p_is_lot := b3, g_p_is_lot := PySem.W.mg_of X G a3,
    f_p_is_pair := _, fd_p_is_pair := _, F_p_is_pair := F4, b_p_is_pair := b4, g_p_is_pair := PySem.W.mg_of X G a4,
    f_p_is_bar := _, fd_p_is_bar := _, F_p_is_bar := F5, b_p_is_bar := b5, g_p_is_bar := PySem.W.mg_of X G a5,
    f_p_inverse := _, fd_p_inverse := _, F_p_inverse := F6, b_p_inverse := b6, g_p_inverse := PySem.W.mg_of X G a6,
    f_p_joined := _, fd_p_joined := _, F_p_joined := F7, b_p_joined := b7, g_p_joined := PySem.W.mg_of X G a7,
    f_p_classes_of := _, fd_p_classes_of := _, F_p_classes_of := F8, b_p_classes_of := b8, g_p_classes_of := PySem.W.mg_of X G a8,
    f_p_check_bars := _, fd_p_check_bars := _, F_p_check_bars := F9, b_p_check_bars := b9, g_p_check_bars := PySem.W.mg_of X G a9,
    f_p_whole_of := _, fd_p_whole_of := _, F_p_whole_of := F10, b_p_whole_of := b10, g_p_whole_of := PySem.W.mg_of X G a10,
    f_p_check_choices := _, fd_p_check_choices := _, F_p_check_choices := F11, b_p_check_choices := b11, g_p_check_choices := PySem.W.mg_of X G a11,
    f_l_draws := _, fd_l_draws := _, F_l_draws := F12, b_l_draws := b12, g_l_draws := PySem.W.mg_of X G a12,
    f_l_pick := _, fd_l_pick := _, F_l_pick := F13, b_l_pick := b13, g_l_pick := PySem.W.mg_of X G a13,
    f_l_gcd := _, fd_l_gcd := _, F_l_gcd := F14, b_l_gcd := b14, g_l_gcd := PySem.W.mg_of X G a14,
    f_l_whole := _, fd_l_whole := _, F_l_whole := F15, b_l_whole := b15, g_l_whole := PySem.W.mg_of X G a15,
    f_law := _, fd_law := _, F_law := F16, b_law := b16, g_law := PySem.W.mg_of X G a16,
    f_m_Sieve_init := _, fd_m_Sieve_init := _, F_m_Sieve_init := F17, b_m_Sieve_init := b17,
    f_m_Sieve_eq := _, fd_m_Sieve_eq := _, F_m_Sieve_eq := F18, b_m_Sieve_eq := b18,
    f_m_Sieve_bars := _, fd_m_Sieve_bars := _, F_m_Sieve_bars := F19, b_m_Sieve_bars := b19,
    f_m_Sieve_whole := _, fd_m_Sieve_whole := _, F_m_Sieve_whole := F20, b_m_Sieve_whole := b20,
    f_m_Sieve_classes := _, fd_m_Sieve_classes := _, F_m_Sieve_classes := F21, b_m_Sieve_classes := b21,
    z_len := PySem.W.mg_none_of X G z_len,
    z_max := PySem.W.mg_none_of X G z_max,
    z_range := PySem.W.mg_none_of X G z_range,
    z_int := PySem.W.mg_none_of X G z_int,
    z_list := PySem.W.mg_none_of X G z_list,
    z_tuple := PySem.W.mg_none_of X G z_tuple,
    z_set := PySem.W.mg_none_of X G z_set,
    z_sorted := PySem.W.mg_none_of X G z_sorted,
    z_isinstance := PySem.W.mg_none_of X G z_isinstance,
    z_enumerate := PySem.W.mg_none_of X G z_enumerate,
    z_bool := PySem.W.mg_none_of X G z_bool,
    g_gcd := PySem.W.mg_of X G g_gcd,
    g_lcm := PySem.W.mg_of X G g_lcm,
    c_GREATEST_MODULUS := ⟨t_GREATEST_MODULUS, PySem.W.mg_of X G c_GREATEST_MODULUS⟩,
    c_MOST_RESTS := ⟨t_MOST_RESTS, PySem.W.mg_of X G c_MOST_RESTS⟩,
    c_MOST_BARS := ⟨t_MOST_BARS, PySem.W.mg_of X G c_MOST_BARS⟩,
    c_GREATEST_WHOLE := ⟨t_GREATEST_WHOLE, PySem.W.mg_of X G c_GREATEST_WHOLE⟩,
    c_MOST_CHOICES := ⟨t_MOST_CHOICES, PySem.W.mg_of X G c_MOST_CHOICES⟩,
    C := C, g_Sieve := PySem.W.mg_of X G aC, cl := ⟨pg, hd, po, sa⟩, mkC := ⟨mk, mI, iI, kc⟩, n_bars := n_bars, n_whole := n_whole, n_classes := n_classes,
    p_bars := pB, pp_bars := ⟨q1B, q2B, q3B, ⟨rB, q4B⟩⟩,
    p_whole := pW, pp_whole := ⟨q1W, q2W, q3W, ⟨rW, q4W⟩⟩,
    p_classes := pC, pp_classes := ⟨q1C, q2C, q3C, ⟨rC, q4C⟩⟩,
    C_RestError := _, g_RestError := PySem.W.mg_of X G g_RestError,
    C_TooGreat := _, g_TooGreat := PySem.W.mg_of X G g_TooGreat, x_TooGreat := x_TooGreat, k_TooGreat := k_TooGreat, b_TooGreat := b_TooGreat, t_TooGreat := t_TooGreat, e_TooGreat := PySem.W.exm_ref b_TooGreat E3_TooGreat t_TooGreat e_TooGreat, E_TooGreat := ⟨E1_TooGreat, E2_TooGreat, b_TooGreat, E3_TooGreat, E4_TooGreat, E5_TooGreat, E6_TooGreat, E7_TooGreat⟩, r_TooGreat := kit_ref hR tR r_TooGreat,
    C_TooMany := _, g_TooMany := PySem.W.mg_of X G g_TooMany, x_TooMany := x_TooMany, k_TooMany := k_TooMany, b_TooMany := b_TooMany, t_TooMany := t_TooMany, e_TooMany := PySem.W.exm_ref b_TooMany E3_TooMany t_TooMany e_TooMany, E_TooMany := ⟨E1_TooMany, E2_TooMany, b_TooMany, E3_TooMany, E4_TooMany, E5_TooMany, E6_TooMany, E7_TooMany⟩, r_TooMany := kit_ref hR tR r_TooMany,
    e_TooGreat_TooMany := PySem.W.exm_ref b_TooMany E3_TooMany t_TooMany e_TooGreat_TooMany,
    e_TooMany_TooGreat := PySem.W.exm_ref b_TooGreat E3_TooGreat t_TooGreat e_TooMany_TooGreat
  }
  exact ⟨PySem.W.fnOf "law" "law" (defArgs s_law) (defBody s_law) (defScope s_law) .none kV16 dc16 pm16 an16 cd16 ct16, fun s v => .of_eq rfl, fun base _ _ => ok_law T⟩
end R
open PySem PySem.W PyProof.Rows
set_option maxHeartbeats 0 in
theorem PySem.Challenge.cw_restlots_k03_great_classes_holds : PySem.Challenge.rw_restlots_k03_great_classes.Holds := by
  w_on; o_law; k_head; (case hw => w_witness2)
  k_fill
  refine L2.walk_of (l := PySem.Challenge.rw_restlots_k03_great_classes) (n := 63) (k := 12) (x := "_law_script") (CX := fun _ => L2.CX0) (sp := fun w => R.sp_law _) rfl (by decide) rfl ⟨rfl, by decide, by decide⟩ (fun w h Y => PySem.W.kIn_of Y) ?F (fun _ _ a ns hl _ hS => ⟨a, ns, rfl, hS, hl, fun _ => rfl⟩) (fun _ _ _ _ _ h => h)
  case F =>
    intro w mg fa h KX G hmg
    refine' R.all_mk KX G hmg ?a0 ?a1 ?a2 ?a3 ?a4 ?a5 ?a6 ?a7 ?a8 ?a9 ?a10 ?a11 ?a12 ?a13 ?a14 ?a15 ?a16 ?aC ?mI ?iI ?mE ?pg ?hd ?po ?sa ?mk ?kc ?n_bars ?n_whole ?n_classes ?q1B ?q2B ?q3B ?q4B ?q1W ?q2W ?q3W ?q4W ?q1C ?q2C ?q3C ?q4C ?l0 ?d0 ?k0 ?l1 ?d1 ?k1 ?l2 ?d2 ?k2 ?l3 ?d3 ?k3 ?l4 ?d4 ?k4 ?l5 ?d5 ?k5 ?l6 ?d6 ?k6 ?l7 ?d7 ?k7 ?l8 ?d8 ?k8 ?l9 ?d9 ?k9 ?l10 ?d10 ?k10 ?l11 ?d11 ?k11 ?l12 ?d12 ?k12 ?l13 ?d13 ?k13 ?l14 ?d14 ?k14 ?l15 ?d15 ?k15 ?l16 ?d16 ?k16 ?l17 ?d17 ?k17 ?l18 ?d18 ?k18 ?l19 ?d19 ?k19 ?l20 ?d20 ?k20 ?l21 ?d21 ?k21 ?z_len ?z_max ?z_range ?z_int ?z_list ?z_tuple ?z_set ?z_sorted ?z_isinstance ?z_enumerate ?z_bool ?g_gcd ?g_lcm ?c_GREATEST_MODULUS ?c_MOST_RESTS ?c_MOST_BARS ?c_GREATEST_WHOLE ?c_MOST_CHOICES ?g_RestError ?hR ?tR ?g_TooGreat ?x_TooGreat ?k_TooGreat ?b_TooGreat ?t_TooGreat ?e_TooGreat ?E1_TooGreat ?E2_TooGreat ?E3_TooGreat ?E4_TooGreat ?E5_TooGreat ?E6_TooGreat ?E7_TooGreat ?r_TooGreat ?g_TooMany ?x_TooMany ?k_TooMany ?b_TooMany ?t_TooMany ?e_TooMany ?E1_TooMany ?E2_TooMany ?E3_TooMany ?E4_TooMany ?E5_TooMany ?E6_TooMany ?E7_TooMany ?r_TooMany ?e_TooGreat_TooMany ?e_TooMany_TooGreat
    (case a0 => k_is)
    (case a1 => k_is)
    (case a2 => k_is)
    (case a3 => k_is)
    (case a4 => k_is)
    (case a5 => k_is)
    (case a6 => k_is)
    (case a7 => k_is)
    (case a8 => k_is)
    (case a9 => k_is)
    (case a10 => k_is)
    (case a11 => k_is)
    (case a12 => k_is)
    (case a13 => k_is)
    (case a14 => k_is)
    (case a15 => k_is)
    (case a16 => k_is)
    (case aC => k_is)
    (case mI => k_is)
    (case iI => k_is)
    (case mE => k_is)
    (case pg => k_is)
    (case hd => k_is)
    (case po => k_is)
    (case sa => k_is)
    (case mk => k_is)
    (case kc => k_is)
    (case n_bars => k_is)
    (case n_whole => k_is)
    (case n_classes => k_is)
    (case q1B => k_is)
    (case q2B => k_is)
    (case q3B => k_is)
    (case q4B => k_is)
    (case q1W => k_is)
    (case q2W => k_is)
    (case q3W => k_is)
    (case q4W => k_is)
    (case q1C => k_is)
    (case q2C => k_is)
    (case q3C => k_is)
    (case q4C => k_is)
    (case l0 => k_is)
    (case d0 => k_is)
    (case k0 => k_is)
    (case l1 => k_is)
    (case d1 => k_is)
    (case k1 => k_is)
    (case l2 => k_is)
    (case d2 => k_is)
    (case k2 => k_is)
    (case l3 => k_is)
    (case d3 => k_is)
    (case k3 => k_is)
    (case l4 => k_is)
    (case d4 => k_is)
    (case k4 => k_is)
    (case l5 => k_is)
    (case d5 => k_is)
    (case k5 => k_is)
    (case l6 => k_is)
    (case d6 => k_is)
    (case k6 => k_is)
    (case l7 => k_is)
    (case d7 => k_is)
    (case k7 => k_is)
    (case l8 => k_is)
    (case d8 => k_is)
    (case k8 => k_is)
    (case l9 => k_is)
    (case d9 => k_is)
    (case k9 => k_is)
    (case l10 => k_is)
    (case d10 => k_is)
    (case k10 => k_is)
    (case l11 => k_is)
    (case d11 => k_is)
    (case k11 => k_is)
    (case l12 => k_is)
    (case d12 => k_is)
    (case k12 => k_is)
    (case l13 => k_is)
    (case d13 => k_is)
    (case k13 => k_is)
    (case l14 => k_is)
    (case d14 => k_is)
    (case k14 => k_is)
    (case l15 => k_is)
    (case d15 => k_is)
    (case k15 => k_is)
    (case l16 => k_is)
    (case d16 => k_is)
    (case k16 => k_is)
    (case l17 => k_is)
    (case d17 => k_is)
    (case k17 => k_is)
    (case l18 => k_is)
    (case d18 => k_is)
    (case k18 => k_is)
    (case l19 => k_is)
    (case d19 => k_is)
    (case k19 => k_is)
    (case l20 => k_is)
    (case d20 => k_is)
    (case k20 => k_is)
    (case l21 => k_is)
    (case d21 => k_is)
    (case k21 => k_is)
    (case z_len => k_is)
    (case z_max => k_is)
    (case z_range => k_is)
    (case z_int => k_is)
    (case z_list => k_is)
    (case z_tuple => k_is)
    (case z_set => k_is)
    (case z_sorted => k_is)
    (case z_isinstance => k_is)
    (case z_enumerate => k_is)
    (case z_bool => k_is)
    (case g_gcd => k_is)
    (case g_lcm => k_is)
    (case c_GREATEST_MODULUS => k_is)
    (case c_MOST_RESTS => k_is)
    (case c_MOST_BARS => k_is)
    (case c_GREATEST_WHOLE => k_is)
    (case c_MOST_CHOICES => k_is)
    (case g_RestError => k_is)
    (case hR => k_is)
    (case tR => k_is)
    (case g_TooGreat => k_is)
    (case x_TooGreat => k_exc)
    (case k_TooGreat => k_is)
    (case b_TooGreat => k_is)
    (case t_TooGreat => k_is)
    (case e_TooGreat => k_is)
    (case E1_TooGreat => k_is)
    (case E2_TooGreat => k_is)
    (case E3_TooGreat => k_is)
    (case E4_TooGreat => k_is)
    (case E5_TooGreat => k_is)
    (case E6_TooGreat => k_is)
    (case E7_TooGreat => k_is)
    (case r_TooGreat => k_is)
    (case g_TooMany => k_is)
    (case x_TooMany => k_exc)
    (case k_TooMany => k_is)
    (case b_TooMany => k_is)
    (case t_TooMany => k_is)
    (case e_TooMany => k_is)
    (case E1_TooMany => k_is)
    (case E2_TooMany => k_is)
    (case E3_TooMany => k_is)
    (case E4_TooMany => k_is)
    (case E5_TooMany => k_is)
    (case E6_TooMany => k_is)
    (case E7_TooMany => k_is)
    (case r_TooMany => k_is)
    (case e_TooGreat_TooMany => k_is)
    (case e_TooMany_TooGreat => k_is)
