import PyProof.Rows.All
import Wide.All
import OpenK.AllK
import Wide.FinOn
import HandS.ForMost
import HandS.SortInts
import HandS.TupAny
import HandS.IsInst
import HandS.Wide
import HandS.Conv
import HandS.Gcd
import HandS.Property
import HandS.Codes
import HandS.Walk
import KE.GoesMore
import KE.KMathGC
import HandS.Exc
import HandS.ExcOwn
import HandS.TryOnly
import HandS.ExcIs
import HandS.WordsExc
import HandS.WideBits
import HandS.SetFor
import HandS.Strs
import HandS.SetBool
import PyProof.LongRange
import HandS.DictComp
import HandS.Style
import HandS.Small
import HandS.TupMul
import HandS.SortKw
import KE.KMinKey
import PySem.Challenge.RW_restlots_k30_stretched_and_shared
set_option Elab.async false
set_option linter.all false
set_option maxRecDepth 100000
set_option maxHeartbeats 4000000
set_option exponentiation.threshold 6000
namespace R
open PySem PySem.Spec PyProof.Rows L2
/-! the text by places -/
def top (i : Nat) : Stmt := (PySem.Challenge.pw_restlots_k30_stretched_and_shared.main.body).getD i (.Pass ⟨0, 0, 0, 0⟩)
abbrev s_p_is_integer : Stmt := top 10
abbrev s_p_integer_within : Stmt := top 11
abbrev s_p_is_ascending : Stmt := top 12
abbrev s_p_is_lot : Stmt := top 13
abbrev s_p_is_pair : Stmt := top 14
abbrev s_p_is_bar : Stmt := top 15
abbrev s_p_inverse : Stmt := top 17
abbrev s_p_joined : Stmt := top 18
abbrev s_p_classes_of : Stmt := top 19
abbrev s_p_check_bars : Stmt := top 24
abbrev s_p_whole_of : Stmt := top 25
abbrev s_p_check_choices : Stmt := top 26
abbrev s_p_check_factor : Stmt := top 30
abbrev s_p_stretched : Stmt := top 31
abbrev s_p_shared_bar : Stmt := top 32
abbrev s_p_shared : Stmt := top 33
abbrev s_l_draws : Stmt := top 35
abbrev s_l_pick : Stmt := top 36
abbrev s_l_bars : Stmt := top 37
abbrev s_l_gcd : Stmt := top 38
abbrev s_l_whole : Stmt := top 39
abbrev s_l_fits : Stmt := top 40
abbrev s_l_own : Stmt := top 41
abbrev s_l_wrong : Stmt := top 42
abbrev s_law : Stmt := top 43
abbrev s_m_Sieve_init : Stmt := inClass (top 27) 0
abbrev s_m_Sieve_eq : Stmt := inClass (top 27) 1
abbrev s_m_Sieve_bars : Stmt := inClass (top 27) 2
abbrev s_m_Sieve_whole : Stmt := inClass (top 27) 3
abbrev s_m_Sieve_classes : Stmt := inClass (top 27) 4
theorem sc_p_is_integer : FnScope ["value"] ["value"] (defScope s_p_is_integer) := ⟨rfl, rfl, rfl, by decide +kernel, rfl, by decide +kernel, by decide +kernel⟩
theorem sc_p_integer_within : FnScope ["value", "least", "greatest"] ["value", "least", "greatest"] (defScope s_p_integer_within) := ⟨rfl, rfl, rfl, by decide +kernel, rfl, by decide +kernel, by decide +kernel⟩
theorem sc_p_is_ascending : FnScope ["value", "limit", "least", "one"] ["value", "limit"] (defScope s_p_is_ascending) := ⟨rfl, rfl, rfl, by decide +kernel, rfl, by decide +kernel, by decide +kernel⟩
theorem sc_p_is_lot : FnScope ["value", "modulus"] ["value", "modulus"] (defScope s_p_is_lot) := ⟨rfl, rfl, rfl, by decide +kernel, rfl, by decide +kernel, by decide +kernel⟩
theorem sc_p_is_pair : FnScope ["value"] ["value"] (defScope s_p_is_pair) := ⟨rfl, rfl, rfl, by decide +kernel, rfl, by decide +kernel, by decide +kernel⟩
theorem sc_p_is_bar : FnScope ["value", "modulus", "lot"] ["value"] (defScope s_p_is_bar) := ⟨rfl, rfl, rfl, by decide +kernel, rfl, by decide +kernel, by decide +kernel⟩
theorem sc_p_inverse : FnScope ["number", "modulus", "rest", "after", "factor", "factor_after", "many"] ["number", "modulus"] (defScope s_p_inverse) := ⟨rfl, rfl, rfl, by decide +kernel, rfl, by decide +kernel, by decide +kernel⟩
theorem sc_p_joined : FnScope ["classes", "whole", "modulus", "lot", "common", "turns", "back", "found", "known", "rest", "apart"] ["classes", "whole", "modulus", "lot"] (defScope s_p_joined) := ⟨rfl, rfl, rfl, by decide +kernel, rfl, by decide +kernel, by decide +kernel⟩
theorem sc_p_classes_of : FnScope ["bars", "whole", "classes", "modulus", "lot"] ["bars"] (defScope s_p_classes_of) := ⟨rfl, rfl, rfl, by decide +kernel, rfl, by decide +kernel, by decide +kernel⟩
theorem sc_p_check_bars : FnScope ["bars", "index", "bar"] ["bars"] (defScope s_p_check_bars) := ⟨rfl, rfl, rfl, by decide +kernel, rfl, by decide +kernel, by decide +kernel⟩
theorem sc_p_whole_of : FnScope ["bars", "whole", "modulus", "_"] ["bars"] (defScope s_p_whole_of) := ⟨rfl, rfl, rfl, by decide +kernel, rfl, by decide +kernel, by decide +kernel⟩
theorem sc_p_check_choices : FnScope ["bars", "choices", "_", "lot"] ["bars"] (defScope s_p_check_choices) := ⟨rfl, rfl, rfl, by decide +kernel, rfl, by decide +kernel, by decide +kernel⟩
theorem sc_p_check_factor : FnScope ["value"] ["value"] (defScope s_p_check_factor) := ⟨rfl, rfl, rfl, by decide +kernel, rfl, by decide +kernel, by decide +kernel⟩
theorem sc_p_stretched : FnScope ["sieve", "by", "bars", "modulus", "lot", "rest", "_"] ["sieve", "by"] (defScope s_p_stretched) := ⟨rfl, rfl, rfl, by decide +kernel, rfl, by decide +kernel, by decide +kernel⟩
theorem sc_p_shared_bar : FnScope ["bar", "by", "modulus", "lot", "common", "smaller", "back", "rest"] ["bar", "by"] (defScope s_p_shared_bar) := ⟨rfl, rfl, rfl, by decide +kernel, rfl, by decide +kernel, by decide +kernel⟩
theorem sc_p_shared : FnScope ["sieve", "by", "bar"] ["sieve", "by"] (defScope s_p_shared) := ⟨rfl, rfl, rfl, by decide +kernel, rfl, by decide +kernel, by decide +kernel⟩
theorem sc_l_draws : FnScope ["_law_script"] ["_law_script"] (defScope s_l_draws) := ⟨rfl, rfl, rfl, by decide +kernel, rfl, by decide +kernel, by decide +kernel⟩
theorem sc_l_pick : FnScope ["_law_row", "_law_many", "_law_cell", "_law_found"] ["_law_row", "_law_many"] (defScope s_l_pick) := ⟨rfl, rfl, rfl, by decide +kernel, rfl, by decide +kernel, by decide +kernel⟩
theorem sc_l_bars : FnScope ["_law_row", "_law_most", "_law_top", "_law_found", "_law_many", "_law_k", "_law_modulus", "_law_thick", "_law_lot", "_law_rest"] ["_law_row", "_law_most", "_law_top"] (defScope s_l_bars) := ⟨rfl, rfl, rfl, by decide +kernel, rfl, by decide +kernel, by decide +kernel⟩
theorem sc_l_gcd : FnScope ["_law_a", "_law_b", "_law_k"] ["_law_a", "_law_b"] (defScope s_l_gcd) := ⟨rfl, rfl, rfl, by decide +kernel, rfl, by decide +kernel, by decide +kernel⟩
theorem sc_l_whole : FnScope ["_law_bars_here", "_law_found", "_law_modulus", "_law_lot"] ["_law_bars_here"] (defScope s_l_whole) := ⟨rfl, rfl, rfl, by decide +kernel, rfl, by decide +kernel, by decide +kernel⟩
theorem sc_l_fits : FnScope ["_law_bars_here", "_law_number", "_law_modulus", "_law_lot"] ["_law_bars_here", "_law_number"] (defScope s_l_fits) := ⟨rfl, rfl, rfl, by decide +kernel, rfl, by decide +kernel, by decide +kernel⟩
theorem sc_l_own : FnScope ["_law_bars_here", "_law_number"] ["_law_bars_here"] (defScope s_l_own) := ⟨rfl, rfl, rfl, by decide +kernel, rfl, by decide +kernel, by decide +kernel⟩
theorem sc_l_wrong : FnScope ["_law_sieve", "_law_by", "_law_is_shared", "_law_told_there", "e"] ["_law_sieve", "_law_by", "_law_is_shared"] (defScope s_l_wrong) := ⟨rfl, rfl, rfl, by decide +kernel, rfl, by decide +kernel, by decide +kernel⟩
theorem sc_law : FnScope ["_law_script", "_law_row", "_law_turn", "_law_bars_here", "_law_by", "_law_one", "_law_other", "_law_due", "_law_moduli", "_law_k", "_law_lot", "_law_modulus", "_law_found", "_law_rest"] ["_law_script"] (defScope s_law) := ⟨rfl, rfl, rfl, by decide +kernel, rfl, by decide +kernel, by decide +kernel⟩
theorem sc_m_Sieve_init : FnScope ["self", "bars"] ["self", "bars"] (defScope s_m_Sieve_init) := ⟨rfl, rfl, rfl, by decide +kernel, rfl, by decide +kernel, by decide +kernel⟩
theorem sc_m_Sieve_eq : FnScope ["self", "other"] ["self", "other"] (defScope s_m_Sieve_eq) := ⟨rfl, rfl, rfl, by decide +kernel, rfl, by decide +kernel, by decide +kernel⟩
theorem sc_m_Sieve_bars : FnScope ["self"] ["self"] (defScope s_m_Sieve_bars) := ⟨rfl, rfl, rfl, by decide +kernel, rfl, by decide +kernel, by decide +kernel⟩
theorem sc_m_Sieve_whole : FnScope ["self"] ["self"] (defScope s_m_Sieve_whole) := ⟨rfl, rfl, rfl, by decide +kernel, rfl, by decide +kernel, by decide +kernel⟩
theorem sc_m_Sieve_classes : FnScope ["self"] ["self"] (defScope s_m_Sieve_classes) := ⟨rfl, rfl, rfl, by decide +kernel, rfl, by decide +kernel, by decide +kernel⟩
/-! what stands behind the top -/
structure Txt (K : PySem.W.Frag) (mg : Str → Option Value) where
  f_p_is_integer : Addr
  fd_p_is_integer : FuncData
  F_p_is_integer : Fun K "is_integer" "is_integer" s_p_is_integer f_p_is_integer fd_p_is_integer
  b_p_is_integer : Binds K fd_p_is_integer ["value"] []
  g_p_is_integer : mg "is_integer" = some (.ref f_p_is_integer)
  f_p_integer_within : Addr
  fd_p_integer_within : FuncData
  F_p_integer_within : Fun K "integer_within" "integer_within" s_p_integer_within f_p_integer_within fd_p_integer_within
  b_p_integer_within : Binds K fd_p_integer_within ["value", "least", "greatest"] []
  g_p_integer_within : mg "integer_within" = some (.ref f_p_integer_within)
  f_p_is_ascending : Addr
  fd_p_is_ascending : FuncData
  F_p_is_ascending : Fun K "is_ascending" "is_ascending" s_p_is_ascending f_p_is_ascending fd_p_is_ascending
  b_p_is_ascending : Binds K fd_p_is_ascending ["value", "limit"] []
  g_p_is_ascending : mg "is_ascending" = some (.ref f_p_is_ascending)
  f_p_is_lot : Addr
  fd_p_is_lot : FuncData
  F_p_is_lot : Fun K "is_lot" "is_lot" s_p_is_lot f_p_is_lot fd_p_is_lot
  b_p_is_lot : Binds K fd_p_is_lot ["value", "modulus"] []
  g_p_is_lot : mg "is_lot" = some (.ref f_p_is_lot)
  f_p_is_pair : Addr
  fd_p_is_pair : FuncData
  F_p_is_pair : Fun K "is_pair" "is_pair" s_p_is_pair f_p_is_pair fd_p_is_pair
  b_p_is_pair : Binds K fd_p_is_pair ["value"] []
  g_p_is_pair : mg "is_pair" = some (.ref f_p_is_pair)
  f_p_is_bar : Addr
  fd_p_is_bar : FuncData
  F_p_is_bar : Fun K "is_bar" "is_bar" s_p_is_bar f_p_is_bar fd_p_is_bar
  b_p_is_bar : Binds K fd_p_is_bar ["value"] []
  g_p_is_bar : mg "is_bar" = some (.ref f_p_is_bar)
  f_p_inverse : Addr
  fd_p_inverse : FuncData
  F_p_inverse : Fun K "inverse" "inverse" s_p_inverse f_p_inverse fd_p_inverse
  b_p_inverse : Binds K fd_p_inverse ["number", "modulus"] []
  g_p_inverse : mg "inverse" = some (.ref f_p_inverse)
  f_p_joined : Addr
  fd_p_joined : FuncData
  F_p_joined : Fun K "joined" "joined" s_p_joined f_p_joined fd_p_joined
  b_p_joined : Binds K fd_p_joined ["classes", "whole", "modulus", "lot"] []
  g_p_joined : mg "joined" = some (.ref f_p_joined)
  f_p_classes_of : Addr
  fd_p_classes_of : FuncData
  F_p_classes_of : Fun K "classes_of" "classes_of" s_p_classes_of f_p_classes_of fd_p_classes_of
  b_p_classes_of : Binds K fd_p_classes_of ["bars"] []
  g_p_classes_of : mg "classes_of" = some (.ref f_p_classes_of)
  f_p_check_bars : Addr
  fd_p_check_bars : FuncData
  F_p_check_bars : Fun K "check_bars" "check_bars" s_p_check_bars f_p_check_bars fd_p_check_bars
  b_p_check_bars : Binds K fd_p_check_bars ["bars"] []
  g_p_check_bars : mg "check_bars" = some (.ref f_p_check_bars)
  f_p_whole_of : Addr
  fd_p_whole_of : FuncData
  F_p_whole_of : Fun K "whole_of" "whole_of" s_p_whole_of f_p_whole_of fd_p_whole_of
  b_p_whole_of : Binds K fd_p_whole_of ["bars"] []
  g_p_whole_of : mg "whole_of" = some (.ref f_p_whole_of)
  f_p_check_choices : Addr
  fd_p_check_choices : FuncData
  F_p_check_choices : Fun K "check_choices" "check_choices" s_p_check_choices f_p_check_choices fd_p_check_choices
  b_p_check_choices : Binds K fd_p_check_choices ["bars"] []
  g_p_check_choices : mg "check_choices" = some (.ref f_p_check_choices)
  f_p_check_factor : Addr
  fd_p_check_factor : FuncData
  F_p_check_factor : Fun K "check_factor" "check_factor" s_p_check_factor f_p_check_factor fd_p_check_factor
  b_p_check_factor : Binds K fd_p_check_factor ["value"] []
  g_p_check_factor : mg "check_factor" = some (.ref f_p_check_factor)
  f_p_stretched : Addr
  fd_p_stretched : FuncData
  F_p_stretched : Fun K "stretched" "stretched" s_p_stretched f_p_stretched fd_p_stretched
  b_p_stretched : Binds K fd_p_stretched ["sieve", "by"] []
  g_p_stretched : mg "stretched" = some (.ref f_p_stretched)
  f_p_shared_bar : Addr
  fd_p_shared_bar : FuncData
  F_p_shared_bar : Fun K "shared_bar" "shared_bar" s_p_shared_bar f_p_shared_bar fd_p_shared_bar
  b_p_shared_bar : Binds K fd_p_shared_bar ["bar", "by"] []
  g_p_shared_bar : mg "shared_bar" = some (.ref f_p_shared_bar)
  f_p_shared : Addr
  fd_p_shared : FuncData
  F_p_shared : Fun K "shared" "shared" s_p_shared f_p_shared fd_p_shared
  b_p_shared : Binds K fd_p_shared ["sieve", "by"] []
  g_p_shared : mg "shared" = some (.ref f_p_shared)
  f_l_draws : Addr
  fd_l_draws : FuncData
  F_l_draws : Fun K "_law_draws" "_law_draws" s_l_draws f_l_draws fd_l_draws
  b_l_draws : Binds K fd_l_draws ["_law_script"] []
  g_l_draws : mg "_law_draws" = some (.ref f_l_draws)
  f_l_pick : Addr
  fd_l_pick : FuncData
  F_l_pick : Fun K "_law_pick" "_law_pick" s_l_pick f_l_pick fd_l_pick
  b_l_pick : Binds K fd_l_pick ["_law_row", "_law_many"] []
  g_l_pick : mg "_law_pick" = some (.ref f_l_pick)
  f_l_bars : Addr
  fd_l_bars : FuncData
  F_l_bars : Fun K "_law_bars" "_law_bars" s_l_bars f_l_bars fd_l_bars
  b_l_bars : Binds K fd_l_bars ["_law_row", "_law_most", "_law_top"] []
  g_l_bars : mg "_law_bars" = some (.ref f_l_bars)
  f_l_gcd : Addr
  fd_l_gcd : FuncData
  F_l_gcd : Fun K "_law_gcd" "_law_gcd" s_l_gcd f_l_gcd fd_l_gcd
  b_l_gcd : Binds K fd_l_gcd ["_law_a", "_law_b"] []
  g_l_gcd : mg "_law_gcd" = some (.ref f_l_gcd)
  f_l_whole : Addr
  fd_l_whole : FuncData
  F_l_whole : Fun K "_law_whole" "_law_whole" s_l_whole f_l_whole fd_l_whole
  b_l_whole : Binds K fd_l_whole ["_law_bars_here"] []
  g_l_whole : mg "_law_whole" = some (.ref f_l_whole)
  f_l_fits : Addr
  fd_l_fits : FuncData
  F_l_fits : Fun K "_law_fits" "_law_fits" s_l_fits f_l_fits fd_l_fits
  b_l_fits : Binds K fd_l_fits ["_law_bars_here", "_law_number"] []
  g_l_fits : mg "_law_fits" = some (.ref f_l_fits)
  f_l_own : Addr
  fd_l_own : FuncData
  F_l_own : Fun K "_law_own" "_law_own" s_l_own f_l_own fd_l_own
  b_l_own : Binds K fd_l_own ["_law_bars_here"] []
  g_l_own : mg "_law_own" = some (.ref f_l_own)
  f_l_wrong : Addr
  fd_l_wrong : FuncData
  F_l_wrong : Fun K "_law_wrong" "_law_wrong" s_l_wrong f_l_wrong fd_l_wrong
  b_l_wrong : Binds K fd_l_wrong ["_law_sieve", "_law_by", "_law_is_shared"] []
  g_l_wrong : mg "_law_wrong" = some (.ref f_l_wrong)
  f_law : Addr
  fd_law : FuncData
  F_law : Fun K "law" "law" s_law f_law fd_law
  b_law : Binds K fd_law ["_law_script"] []
  g_law : mg "law" = some (.ref f_law)
  f_m_Sieve_init : Addr
  fd_m_Sieve_init : FuncData
  F_m_Sieve_init : Fun K "__init__" "Sieve.__init__" s_m_Sieve_init f_m_Sieve_init fd_m_Sieve_init
  b_m_Sieve_init : Binds K fd_m_Sieve_init ["self", "bars"] []
  f_m_Sieve_eq : Addr
  fd_m_Sieve_eq : FuncData
  F_m_Sieve_eq : Fun K "__eq__" "Sieve.__eq__" s_m_Sieve_eq f_m_Sieve_eq fd_m_Sieve_eq
  b_m_Sieve_eq : Binds K fd_m_Sieve_eq ["self", "other"] []
  f_m_Sieve_bars : Addr
  fd_m_Sieve_bars : FuncData
  F_m_Sieve_bars : Fun K "bars" "Sieve.bars" s_m_Sieve_bars f_m_Sieve_bars fd_m_Sieve_bars
  b_m_Sieve_bars : Binds K fd_m_Sieve_bars ["self"] []
  f_m_Sieve_whole : Addr
  fd_m_Sieve_whole : FuncData
  F_m_Sieve_whole : Fun K "whole" "Sieve.whole" s_m_Sieve_whole f_m_Sieve_whole fd_m_Sieve_whole
  b_m_Sieve_whole : Binds K fd_m_Sieve_whole ["self"] []
  f_m_Sieve_classes : Addr
  fd_m_Sieve_classes : FuncData
  F_m_Sieve_classes : Fun K "classes" "Sieve.classes" s_m_Sieve_classes f_m_Sieve_classes fd_m_Sieve_classes
  b_m_Sieve_classes : Binds K fd_m_Sieve_classes ["self"] []
  z_len : mg "len" = none
  z_max : mg "max" = none
  z_range : mg "range" = none
  z_int : mg "int" = none
  z_list : mg "list" = none
  z_tuple : mg "tuple" = none
  z_sorted : mg "sorted" = none
  z_isinstance : mg "isinstance" = none
  z_enumerate : mg "enumerate" = none
  z_bool : mg "bool" = none
  g_gcd : mg "gcd" = some (.builtin "math.gcd")
  g_lcm : mg "lcm" = some (.builtin "math.lcm")
  c_GREATEST_MODULUS : ∃ t, mg "GREATEST_MODULUS" = some (.int 1000000 t)
  c_MOST_RESTS : ∃ t, mg "MOST_RESTS" = some (.int 60 t)
  c_MOST_BARS : ∃ t, mg "MOST_BARS" = some (.int 6 t)
  c_GREATEST_WHOLE : ∃ t, mg "GREATEST_WHOLE" = some (.int 1000000000000000000000000000000 t)
  c_MOST_CHOICES : ∃ t, mg "MOST_CHOICES" = some (.int 2000 t)
  c_GREATEST_FACTOR : ∃ t, mg "GREATEST_FACTOR" = some (.int 1000 t)
  C : Addr
  g_Sieve : mg "Sieve" = some (.ref C)
  cl : Cls K C
  mkC : Mk K C f_m_Sieve_init
  n_bars : NoAttr K C "_bars"
  n_whole : NoAttr K C "_whole"
  n_classes : NoAttr K C "_classes"
  p_bars : Addr
  pp_bars : PropOf K C "bars" p_bars f_m_Sieve_bars
  p_whole : Addr
  pp_whole : PropOf K C "whole" p_whole f_m_Sieve_whole
  p_classes : Addr
  pp_classes : PropOf K C "classes" p_classes f_m_Sieve_classes
  C_RestError : Addr
  g_RestError : mg "RestError" = some (.ref C_RestError)
  C_BadNumber : Addr
  g_BadNumber : mg "BadNumber" = some (.ref C_BadNumber)
  x_BadNumber : PySem.W.excIn K C_BadNumber [.type "ValueError", .type "Exception", .type "BaseException", .type "object"] "ValueError.__new__" = true
  k_BadNumber : PySem.W.keepIn K (.ref C_BadNumber) = true
  b_BadNumber : PySem.W.subIn K (.ref C_BadNumber) (.type "BaseException") = some true
  t_BadNumber : PySem.W.typeIn K (.ref C_BadNumber) = some (.type "type")
  e_BadNumber : PySem.W.exmOne K (.ref C_BadNumber) (.ref C_BadNumber) = some true
  E_BadNumber : ExcC K C_BadNumber
  r_BadNumber : PySem.W.kitOne K (.ref C_BadNumber) (.ref C_RestError) = some true
  C_TooGreat : Addr
  g_TooGreat : mg "TooGreat" = some (.ref C_TooGreat)
  x_TooGreat : PySem.W.excIn K C_TooGreat [.type "ValueError", .type "Exception", .type "BaseException", .type "object"] "ValueError.__new__" = true
  k_TooGreat : PySem.W.keepIn K (.ref C_TooGreat) = true
  b_TooGreat : PySem.W.subIn K (.ref C_TooGreat) (.type "BaseException") = some true
  t_TooGreat : PySem.W.typeIn K (.ref C_TooGreat) = some (.type "type")
  e_TooGreat : PySem.W.exmOne K (.ref C_TooGreat) (.ref C_TooGreat) = some true
  E_TooGreat : ExcC K C_TooGreat
  r_TooGreat : PySem.W.kitOne K (.ref C_TooGreat) (.ref C_RestError) = some true
  C_TooMany : Addr
  g_TooMany : mg "TooMany" = some (.ref C_TooMany)
  x_TooMany : PySem.W.excIn K C_TooMany [.type "ValueError", .type "Exception", .type "BaseException", .type "object"] "ValueError.__new__" = true
  k_TooMany : PySem.W.keepIn K (.ref C_TooMany) = true
  b_TooMany : PySem.W.subIn K (.ref C_TooMany) (.type "BaseException") = some true
  t_TooMany : PySem.W.typeIn K (.ref C_TooMany) = some (.type "type")
  e_TooMany : PySem.W.exmOne K (.ref C_TooMany) (.ref C_TooMany) = some true
  E_TooMany : ExcC K C_TooMany
  r_TooMany : PySem.W.kitOne K (.ref C_TooMany) (.ref C_RestError) = some true
  e_BadNumber_TooGreat : PySem.W.exmOne K (.ref C_BadNumber) (.ref C_TooGreat) = some false
  e_BadNumber_TooMany : PySem.W.exmOne K (.ref C_BadNumber) (.ref C_TooMany) = some false
  e_TooGreat_BadNumber : PySem.W.exmOne K (.ref C_TooGreat) (.ref C_BadNumber) = some false
  e_TooGreat_TooMany : PySem.W.exmOne K (.ref C_TooGreat) (.ref C_TooMany) = some false
  e_TooMany_BadNumber : PySem.W.exmOne K (.ref C_TooMany) (.ref C_BadNumber) = some false
  e_TooMany_TooGreat : PySem.W.exmOne K (.ref C_TooMany) (.ref C_TooGreat) = some false
  eqS : PySem.W.findIn K (.ref C) "__eq__" = some (some (.ref f_m_Sieve_eq))
  eqF : PySem.W.isFn K (.ref f_m_Sieve_eq) = true
  neS : PySem.W.findIn K (.ref C) "__ne__" = some (some (.builtin "object.__ne__"))
  moC : PySem.W.mroIn K C (.type "object") = some true
  kt1 : PySem.W.findIn K (.ref C) "__class__" = some (some (.builtin "object.__class__"))
  kt2 : PySem.W.specialIn K (.builtin "object.__class__") "__get__" = some (some (.builtin "getset_descriptor.__get__"))
  kt3 : PySem.W.takesIn K (.builtin "object.__class__") = some true
  suS : PySem.W.subIn K (.type "str") (.ref C) = some false
  isC : PySem.W.kitOne K (.ref C) (.ref C) = some true
  noC : ∀ t : String, PySem.W.subIn K (.type t) (.ref C) = some false → PySem.W.kitOne K (.type t) (.ref C) = some false
end R
namespace R
open PySem PySem.Spec PyProof.Rows L2
/-! ## heaps: what stays -/
/-- every object but the one at r is as it was -/
def Kp (r : Addr) (H H' : Hp) : Prop := ∀ b o, b ≠ r → H b = some o → H' b = some o
theorem Kp.refl (r : Addr) (H : Hp) : Kp r H H := fun _ _ _ h => h
theorem Kp.trans {r : Addr} {H H1 H2 : Hp} (a : Kp r H H1) (b : Kp r H1 H2) : Kp r H H2 := fun c o n h => b c o n (a c o n h)
theorem Kp.of {r : Addr} {H H' : Hp} (s : Same H H') : Kp r H H' := fun b o _ h => s b o h
theorem Kp.at_ {r : Addr} {H : Hp} {o : HO} : Kp r H (upd H r o) := fun b u n h => by rw [upd_ne n]; exact h
theorem Kp.new {r p : Addr} {H : Hp} {o : HO} (h : H p = none) : Kp r H (upd H p o) := fun b u _ e => by rw [upd_ne (ne_of_none e h)]; exact e
theorem Kp.add {r p : Addr} {H H' : Hp} {o : HO} (s : Kp r H H') (h : H p = none) : Kp r H (upd H' p o) := fun b u n e => by rw [upd_ne (ne_of_none e h)]; exact s b u n e
/-- an address that is free stays no matter of the frame: what the frame keeps is not there -/
theorem Kp.none {r p : Addr} {H H' : Hp} (s : Kp r H H') (hp : p ≠ r) (h : H' p = Option.none) : H p = Option.none := by
  cases q : H p with
  | none => rfl
  | some o => rw [s p o hp q] at h; cases h
theorem Kp.rd {r a : Addr} {H H' : Hp} {u : HO} (s : Kp r H H') (n : a ≠ r) (h : Rd H a u) : Rd H' a u := by
  rcases h with h | ⟨o, h⟩
  · exact .inl (s _ _ n h)
  · exact .inr ⟨o, s _ _ n h⟩
theorem Kp.seqT {K : PySem.W.Frag} {r a : Addr} {H H' : Hp} {xs zs : List V} (s : Kp r H H') (hr : H r = some (.lst zs)) (h : SqT K H a xs) : SqT K H' a xs := by
  rcases h with h | h
  · refine .inl (s.rd ?_ h)
    rintro rfl
    rcases h with h | ⟨o, h⟩
    · rw [hr] at h; cases h
    · rw [hr] at h; cases h
  · exact .inr h
theorem Kp.seqL {K : PySem.W.Frag} {r a : Addr} {H H' : Hp} {xs : List V} (s : Kp r H H') (n : a ≠ r) (h : SqL K H a xs) : SqL K H' a xs := by
  rcases h with h | h
  · exact .inl (s.rd n h)
  · exact .inr h
theorem same_upd {H : Hp} {p : Addr} {o : HO} (h : H p = none) : Same H (upd H p o) := fun b x e => by
  rw [upd_ne (ne_of_none e h)]; exact e
theorem Same.seqTT {K : PySem.W.Frag} {H H' : Hp} {a : Addr} {xs : List V} (e : Same H H') (h : SqT K H a xs) : SqT K H' a xs := by
  rcases h with (h | ⟨o, h⟩) | h
  · exact .inl (.inl (e _ _ h))
  · exact .inl (.inr ⟨o, e _ _ h⟩)
  · exact .inr h
theorem tupOf {K : PySem.W.Frag} {H : Hp} {a : Addr} {xs : List V} (h : H a = some (.tup xs)) : SqT K H a xs := .inl (.inl h)
theorem lstOf {K : PySem.W.Frag} {H : Hp} {a : Addr} {xs : List V} (h : H a = some (.lst xs)) : SqL K H a xs := .inl (.inl h)
theorem getMapInt {ns : List Int} {i : Nat} (h : i < ns.length) : (ns.map V.int)[i]? = some (.int ns[i]) := by
  rw [List.getElem?_map, List.getElem?_eq_getElem h]; rfl
theorem getMapInt' {ns : List Int} {i : Nat} {x : V} (h : (ns.map V.int)[i]? = some x) : ∃ n, ns[i]? = some n ∧ x = .int n := by
  rw [List.getElem?_map] at h
  cases e : ns[i]? with
  | none => rw [e] at h; cases h
  | some n => rw [e] at h; exact ⟨n, rfl, (Option.some.inj h).symm⟩
theorem flatInts (ns : List Int) : (ns.map V.int).all flatV = true := by
  rw [List.all_eq_true]
  intro x hx
  obtain ⟨n, _, rfl⟩ := List.mem_map.mp hx
  rfl
theorem sizeOk {n : Nat} (h : n ≤ 100000) : n ≤ sizeLine := Nat.le_trans h (by decide)
theorem sizeLt {n : Nat} (h : n ≤ 100000) : n < sizeLine := Nat.lt_of_le_of_lt h (by decide)

/-- len by its wish, told over the written part alone -/
def rLenK (K : PySem.W.Frag) : List V → Hp → VK → Prop := fun xs H Q => ∃ p ys, xs = [.ref p] ∧ (SqL K H p ys ∨ SqT K H p ys) ∧ Q (.int ys.length) H
/-! ## bars -/
abbrev Bar := Int × List Int
/-- a lot: ascending rests by m -/
structure LotOk (m : Int) (l : List Int) : Prop where
  up : l.Pairwise (· < ·)
  ge : ∀ r ∈ l, 0 ≤ r
  lt : ∀ r ∈ l, r < m
  few : l.length ≤ 60
structure BarOk (b : Bar) : Prop where
  pos : 1 ≤ b.1
  most : b.1 ≤ 1000000
  lot : LotOk b.1 b.2
/-- the least common multiple of the moduli -/
def wh (bs : List Bar) : Nat := bs.foldl (fun w b => Nat.lcm w b.1.natAbs) 1
def choices (bs : List Bar) : Nat := bs.foldl (fun c b => c * max 1 b.2.length) 1
structure SvOk (bs : List Bar) : Prop where
  six : bs.length ≤ 6
  bar : ∀ b ∈ bs, BarOk b
  great : wh bs ≤ 10 ^ 30
  many : choices bs ≤ 2000
def fitsB (bs : List Bar) (x : Int) : Bool := bs.all fun b => decide (x % b.1 ∈ b.2)
/-- the numbers from 0 to whole - 1 that fit -/
def cls (bs : List Bar) : List Int := ((List.range (wh bs)).map fun i : Nat => (i : Int)).filter (fitsB bs)

/-! ## bars on the heap -/
structure LotAt (K : PySem.W.Frag) (H : Hp) (v : V) (l : List Int) : Prop where
  ex : ∃ a, v = .ref a ∧ SqT K H a (l.map V.int)
structure BarAt (K : PySem.W.Frag) (H : Hp) (v : V) (b : Bar) : Prop where
  ex : ∃ a x, v = .ref a ∧ SqT K H a [.int b.1, x] ∧ LotAt K H x b.2
structure BarsAt (K : PySem.W.Frag) (H : Hp) (v : V) (bs : List Bar) : Prop where
  ex : ∃ a xs, v = .ref a ∧ SqT K H a xs ∧ xs.length = bs.length ∧ ∀ (i : Nat) x b, xs[i]? = some x → bs[i]? = some b → BarAt K H x b
section
variable {K : PySem.W.Frag} {H H' : Hp} {v : V} {l : List Int} {b : Bar} {bs : List Bar}
/-- all tuples that may be read are as they were -/
def TupsStay (K : PySem.W.Frag) (H H' : Hp) : Prop := ∀ a xs, SqT K H a xs → SqT K H' a xs
theorem TupsStay.same (s : Same H H') : TupsStay K H H' := fun _ _ h => Same.seqTT s h
theorem TupsStay.sx {r : Addr} {zs : List V} (s : Kp r H H') (hr : H r = some (.lst zs)) : TupsStay K H H' := fun _ _ h => s.seqT hr h
theorem LotAt.stay (t : TupsStay K H H') (h : LotAt K H v l) : LotAt K H' v l := let ⟨a, e, q⟩ := h.ex; ⟨a, e, t _ _ q⟩
theorem BarAt.stay (t : TupsStay K H H') (h : BarAt K H v b) : BarAt K H' v b := let ⟨a, x, e, q, z⟩ := h.ex; ⟨a, x, e, t _ _ q, z.stay t⟩
theorem BarsAt.stay (t : TupsStay K H H') (h : BarsAt K H v bs) : BarsAt K H' v bs := let ⟨a, xs, e, q, n, z⟩ := h.ex; ⟨a, xs, e, t _ _ q, n, fun i x b h1 h2 => (z i x b h1 h2).stay t⟩
end

end R
namespace R
open PySem PySem.Spec PyProof.Rows L2
/-! ## rules of my own: enumerate over a tuple, lcm of great numbers -/
abbrev itTup (t : Addr) : Obj := { cls := .type "tuple_iterator", data := .fields #[.ref t, .int 0 0] }
abbrev enObj (i : Addr) : Obj := { cls := .type "enumerate", data := .fields #[.none, .bool false, .ref i, rawInt 0, .none, .none] }
abbrev enHeap (h : Heap) (t : Addr) : Heap := (h.push (itTup t)).push (enObj h.objs.size)
theorem meets_enT (t : Addr) (items : Array Value) : Meets (Builtin.«enumerate.__new__» ⟨[.type "enumerate", .ref t], []⟩)
    (fun _ R s => s.heap.IsTuple t items ∧ R (.ok (.ret (.ref (s.heap.push (itTup t)).objs.size))) { s with heap := enHeap s.heap t }) := by
  refine .of_wp fun prog w A R s ⟨ht, h⟩ => ?_
  obtain ⟨hp, g, d, tk, os⟩ := s
  have sub_ := PySem.sub_enumerate
  have it_ : ∀ {A' : Around} {E : Value → Shared → Prop} {Q : Value → Shared → Prop}, Q (.ref hp.objs.size) ⟨hp.push (itTup t), g, d, tk, os⟩ → wpAny (model prog w) A' (pyIter (.ref t)) Q E ⟨hp, g, d, tk, os⟩ :=
    fun q => wpAny_pyIter_tuple ht q
  wp_walk using it_
  refine wpAny_stack_any fun st => wpAny_pure ?_
  split
  · rename_i c _ _ _ _ _
    cases (c == Value.type "enumerate") <;> (wp_walk using it_; exact ⟨_, rfl, h⟩)
  · (wp_walk using it_; exact ⟨_, rfl, h⟩)
theorem call_enT {prog : Program} {w : World} {A : Around} {E : Value → Shared → Prop} {s : Shared} {t : Addr} {items : Array Value} {Q : Value → Shared → Prop} (ht : s.heap.IsTuple t items)
    (h : ∀ h', IsEnum h' (s.heap.objs.size + 1) s.heap.objs.size 0 .none → h'.IsTupleIter s.heap.objs.size t 0 → (∀ b o, s.heap.get? b = some o → h'.get? b = some o) → Q (.ref (s.heap.objs.size + 1)) { s with heap := h' }) :
    wpAny (model prog w) A (call (.type "enumerate") [.ref t]) Q E s := by
  have sz : (s.heap.push (itTup t)).objs.size = s.heap.objs.size + 1 := Heap.size_push ..
  have he : IsEnum (enHeap s.heap t) (s.heap.objs.size + 1) s.heap.objs.size 0 .none := by
    have q := Heap.get?_push_size (s.heap.push (itTup t)) (o := enObj s.heap.objs.size) rfl
    rw [sz] at q
    exact q
  have kp : ∀ b o, s.heap.get? b = some o → (enHeap s.heap t).get? b = some o := fun b o x => Heap.get?_push_of_some _ (Heap.get?_push_of_some _ x)
  refine callType_new F.called_enumerate (by decide) (F.typeCall_enumerate_1 _) (F.newCall_enumerate_1 _) (fun obj => F.args_object_init_2 obj _) F.entry_enumerate_new (meets_enT t items) ⟨ht, ?_⟩
  show _ ∧ _
  rw [sz]
  exact ⟨⟨_, he, rfl⟩, h _ he ⟨_, Heap.get?_push_of_some _ (Heap.get?_push_size _ rfl), rfl, rfl⟩ kp⟩
/-- the tuple at a, each item in a new pair with its place -/
def IteT (K : PySem.W.Frag) (a : Addr) : It :=
  ⟨fun i H => ∃ (xs : List V) (x : V), SqT K H a xs ∧ xs[i]? = some x,
   fun i H v H' => ∃ T x, v = .ref T ∧ H T = none ∧ H' = upd H T (.tup [.int (i : Nat), x]) ∧ ∀ xs, SqT K H a xs → xs[i]? = some x,
   fun i H => ∃ xs : List V, SqT K H a xs ∧ xs.length ≤ i⟩
theorem turn_enT {P : Program} {w : World} {K : PySem.W.Frag} {elts : List Expr} {kk : Nat} {tpos : Pos} (a e it : Addr) :
    Turn P w K (.Tuple elts kk tpos) (IteT K a) [e, it] e (fun i h => (∃ old, IsEnum h e it ((i : Nat) : Int) old) ∧ h.IsTupleIter it a i ∧ e ≠ it) where
  mem := List.mem_cons_self ..
  obj := fun i h ⟨⟨old, he⟩, ⟨o, ho, _, hd⟩, _⟩ b hb => by
    rcases List.mem_cons.mp hb with rfl | hb
    · exact ⟨_, he, fun v q => nomatch q⟩
    · rw [List.mem_singleton.mp hb]
      exact ⟨o, ho, fun v q => by rw [hd] at q; cases q⟩
  keep := fun i h h' ⟨⟨old, he⟩, hi, hne⟩ k => ⟨⟨old, k e (by simp) _ he⟩, hi.at fun o q => k it (by simp) o q, hne⟩
  item := by
    intro X hP hw hK hc i pins s σ H E I hf ⟨⟨old, he⟩, hit, hne⟩ ⟨xs, x, hq, hx⟩
    subst hP hw hK
    obtain ⟨its, rv, p, hz⟩ := I.tuple hq
    have hT : s.heap.IsTuple a its.toArray := p
    have nta : a ≠ it := fun z => by
      subst z
      obtain ⟨o, e1, c1, _⟩ := hT
      obtain ⟨o2, e2, c2, _⟩ := hit
      rw [e1] at e2
      cases e2
      rw [c1] at c2
      exact absurd c2 (by decide)
    have nea : e ≠ a := fun z => by
      subst z
      obtain ⟨o, e1, c1, _⟩ := hT
      rw [he] at e1
      cases e1
      exact absurd (show Value.type "enumerate" = Value.type "tuple" from c1) (by decide)
    have el : e < s.heap.objs.size := Heap.lt_size he
    have il : it < s.heap.objs.size := by obtain ⟨_, q, _⟩ := hit; exact Heap.lt_size q
    have hlt : i < its.toArray.size := by
      have := (List.getElem?_eq_some_iff.mp hx).1
      rw [rv.length] at this
      rw [List.size_toArray]
      exact this
    refine wpAny_pyNext_enum_itemD (Draws.tuple (A := X.A.in1) (I.ok.hd hc) it a nta its.toArray) he ⟨hit, hT⟩ hlt hne (by simp [hne, nea]) fun u h' tk hP ho st' ht' hsz hk => ?_
    obtain ⟨u', hu', ru⟩ := rv.get hx
    have eu : u = u' := by
      rw [List.getElem?_toArray] at hP
      exact Option.some.inj (hP.symm.trans hu')
    subst eu
    refine ⟨_, rfl, wpAny_letOwnedTupleGo_enum (s := { s with heap := h', toks := tk + 1 }) ho fun h2 he2 sb => ?_⟩
    have t2 := (sb.2 _ (Nat.ne_of_gt el)).trans ht'
    have new : ObjOk X.prog X.w (upd H s.heap.objs.size (.tup [.int (i : Nat), x])) h2 s.heap.objs.size (.tup [.int (i : Nat), x]) :=
      ⟨sizeOk (by show (2 : Nat) ≤ 100000; decide), [.int i tk, u], .cons ⟨_, rfl⟩ (.cons ru .nil), _, t2, rfl, _, rfl⟩
    have I1 : Inv X pins σ (upd H s.heap.objs.size (.tup [.int (i : Nat), x])) { s with heap := h2, toks := tk + 1 } := by
      refine I.turnedNew (ch := [e, it]) (fun b ob hb q => ?_) hf (Nat.le_refl _) new
      have hbe : b ≠ e := fun z => hb (by simp [z])
      exact (sb.2 b hbe).trans (hk b ob hbe (fun z => hb (by simp [z])) q)
    refine ⟨.ref s.heap.objs.size, _, I1, rfl, ⟨_, x, rfl, I.hok.fresh (Nat.le_refl _), rfl, fun ys hy => by rw [I.tuple_inj hy hq]; exact hx⟩, ⟨⟨u, ?_⟩, st'.1.at fun o q => (sb.2 it (Ne.symm hne)).trans q, hne⟩, fun b hb => ?_⟩
    · rw [show ((i + 1 : Nat) : Int) = (i : Int) + 1 from rfl]
      exact he2
    · have lt : b < s.heap.objs.size := by
        rcases List.mem_cons.mp hb with rfl | hb
        · exact el
        · rw [List.mem_singleton.mp hb]; exact il
      rw [upd_ne (Nat.ne_of_lt lt)]
      exact (hf b hb).1
  done := by
    intro X hP hw hK hc i pins s σ H E I hf ⟨⟨old, he⟩, hit, hne⟩ ⟨xs, hq, hx⟩
    subst hP hw hK
    obtain ⟨its, rv, p, hz⟩ := I.tuple hq
    have hT : s.heap.IsTuple a its.toArray := p
    obtain ⟨f0, f1, f2, f3, f4, f5⟩ := hf it (by simp)
    have hT' : s.TypeIs (.ref e) "enumerate" := ⟨_, he, rfl⟩
    unfold pyNext
    refine wpAny_bind (wpAny_attempt (wpAny_callSpecial?_slot (name := Str.ofString "__next__") hT' F.slot_enumerate_next (wpAny_call_entry F.slot_enumerate_next hT' F.entry_enumerate_next ?_ (F.args_enumerate_next_1 _))))
    show wpAny _ _ (field (.ref e) 2 >>= _) _ _ _
    refine wpAny_bind (wpAny_field he rfl (x := .ref it) rfl ?_)
    refine wpAny_bind (PySem.wpAny_nextOf_tuple_end (I.ok.hd hc) hit hT (Array.getElem?_eq_none (by rw [List.size_toArray, ← rv.length]; exact hx)) fun h' y eb hy => ?_)
    obtain ⟨o, ho, hcl⟩ := hy
    refine wpAny_bind (wpAny_isInstance (T := "StopIteration") (b := true) ⟨o, ho, hcl⟩ isSubtype_stop ?_)
    exact wpAny_pure ⟨rfl, I.turned (t' := s.toks) (fun b o hb q => eb b o hb q) f0 f1 f3 f4 f5⟩
  self := fun A i s Q E ⟨⟨_, he⟩, _⟩ h => wpAny_pyIter_enum he h
def iEnT (K : PySem.W.Frag) (ta : TA) : TI := fun σ H R => ta σ H fun vs H1 => ∃ a xs, vs = [.ref a] ∧ SqT K H1 a xs ∧ R (IteT K a) H1
theorem pi_enT {X : Cx} {e : Expr} {ta : TA} {p pos tpos : Pos} {elts : List Expr} {kk : Nat} (hg : Gl X "enumerate") (hm : X.mg "enumerate" = none) (ha : PA X [e] ta)
    (hs : starEach [e] X.env = [(false, eval e X.env)] := by rfl) : PI X (.Tuple elts kk tpos) (.Call (.Name "enumerate" p) [e] [] pos) (iEnT X.K ta) := by
  refine ⟨fun pins s σ H R I h => Call_ (ld_blt I hg hm boot_enumerate (PyProof.Rows.callWith_type1 (thn (ha.run pos pins s σ H _ I h) fun us s1 ⟨vs, H1, I1, r1, a, xs, ex, hq, q⟩ => ?_) hs rfl))⟩
  subst ex
  obtain ⟨u, us', rfl⟩ : ∃ u us', us = u :: us' := by
    cases r1 with
    | cons r rr => exact ⟨_, _, rfl⟩
  cases r1 with
  | cons r rr =>
    cases rr
    cases r
    obtain ⟨its, rv, p', hz⟩ := I1.tuple hq
    refine call_enT (show s1.heap.IsTuple a its.toArray from p') fun h' he hit hk => wpAny_pyIter_enum he ?_
    have I2 : Inv X pins σ H1 { s1 with heap := h' } := I1.kept (t' := s1.toks) hk
    refine ⟨s1.heap.objs.size + 1, [s1.heap.objs.size + 1, s1.heap.objs.size], _, _, H1, rfl, I2, turn_enT a _ _, ⟨⟨.none, he⟩, hit, Nat.succ_ne_self _⟩, fun b hb => ?_, q⟩
    have hle : s1.heap.objs.size ≤ b := by
      rcases List.mem_cons.mp hb with rfl | hb
      · exact Nat.le_succ _
      · rw [List.mem_singleton.mp hb]; exact Nat.le_refl _
    exact I1.fpOk hle (I1.hok.fresh hle)
theorem walk_enT {K : PySem.W.Frag} {a : Addr} {xs : List V} : Walk (IteT K a) xs.length (fun H => SqT K H a xs) (YPair (fun i => some (.int (i : Nat))) (fun i => xs[i]?)) := by
  refine ⟨fun i H hi hG => ⟨xs, xs[i], hG, by simp [hi]⟩, fun H hG => ⟨xs, hG, Nat.le_refl _⟩, fun i H x H' hi hG ⟨T, y, h1, h2, h3, h4⟩ => ?_⟩
  exact ⟨T, .int (i : Nat), y, h1, h2, h3, rfl, h4 xs hG⟩
/-- lcm of two numbers below 2 ^ 5000 -/
def rLcmW : List V → Hp → VK → Prop := fun vs H Q => ∃ a b : Nat, vs = [.int a, .int b] ∧ a < 2 ^ 5000 ∧ b < 2 ^ 5000 ∧ Q (.int (Nat.lcm a b : Nat)) H
theorem logLe {n k : Nat} (h : n < 2 ^ (k + 1)) : n.log2 ≤ k := PySem.W.mg_log h
theorem cr_lcmW {X : Cx} : CallR X (.builtin "math.lcm") rLcmW := by
  intro pins s σ H vs us Q I r ⟨a, b, e, ha, hb, q⟩
  subst e
  obtain ⟨t, u, rfl⟩ := Vals.int2 r
  have h1 : (max 1 (a : Int).natAbs).log2 ≤ 4999 := logLe (by rw [Int.natAbs_natCast]; show max 1 a < 2 ^ 5000; have : 1 < 2 ^ 5000 := by decide
                                                              omega)
  have h2 : (max (a : Int).natAbs (b : Int).natAbs).log2 ≤ 4999 := logLe (by rw [Int.natAbs_natCast, Int.natAbs_natCast]; show max a b < 2 ^ 5000; omega)
  have ee : (((Nat.lcm 1 (a : Int).natAbs).lcm (b : Int).natAbs : Nat) : Int) = ((Nat.lcm a b : Nat) : Int) := by
    rw [Int.natAbs_natCast, Int.natAbs_natCast, PySem.W.mc_lcm_one]
  have hm : Nat.lcm a b < 2 ^ 10000 := by
    have h3 : Nat.lcm a b ≤ a * b := Nat.div_le_self _ _
    have h4 : a * b < 2 ^ 5000 * 2 ^ 5000 := Nat.mul_lt_mul'' ha hb
    rw [← Nat.pow_add] at h4
    exact Nat.lt_of_le_of_lt h3 h4
  have hz : ((((Nat.lcm 1 (a : Int).natAbs).lcm (b : Int).natAbs : Nat) : Int)).natAbs.log2 < bitsLine := by
    rw [ee, Int.natAbs_natCast]
    have h5 : (Nat.lcm a b).log2 ≤ 9999 := logLe hm
    rw [PySem.bitsLine_eq]
    omega
  have g := PySem.W.mg_run_lcm a t b u (by omega) (by omega) hz
  rw [ee] at g
  exact PySem.call_function_meets PySem.W.MGF.kind_lcm PySem.W.MGF.plain_lcm PySem.W.MGF.entry_lcm (PySem.W.MGF.args_lcm _ _) g.meets ⟨.int _, H, I.tok _, ⟨_, rfl⟩, q⟩
theorem tyTup {K : PySem.W.Frag} {H : Hp} {a : Addr} {xs : List V} (h : SqT K H a xs) : TyX K H (.ref a) (.type "tuple") := by
  rcases h with (h | ⟨o, h⟩) | ⟨o, its, n, e, c, _⟩
  · exact .base (.tup h)
  · exact .fTuple h
  · exact .kTuple e c

end R
namespace R
open PySem PySem.Spec PyProof.Rows L2
/-! ## an exception that a suite holds -/
def rIsE' (K : PySem.W.Frag) (D a : Addr) (cls : Value) (d : Option Addr) : List V → Hp → VK → Prop := fun xs H Q => cls = .ref D ∧ d = none ∧ rIsE K D a xs H Q
theorem call_isE' {X : Cx} {a D : Addr} {oe : Obj} {pn : List (Addr × Obj)} {cls : Value} {d : Option Addr} (C : ExcC X.K D) (hz : Zc cls d oe) (hf : ∃ vs, oe.data = .fields vs) :
    CallR (X.suite a ((a, oe) :: pn)) (.builtin "isinstance") (rIsE' X.K D a cls d) := by
  intro pins s σ H xs us Q I r h
  obtain ⟨h1, h2, h3⟩ := h
  subst h1 h2
  exact call_isE C hz hf pins s σ H xs us Q I r h3
/-! ## try with several clauses that name the exception -/
abbrev Suites := List (Value × (Addr → Value → Option Addr → TS))
/-- what the clauses wish, one behind the other; the name's slot is i -/
def wAsM (K : PySem.W.Frag) (i : Nat) (Wout : WX) (D : Ends) : Suites → WX
  | [] => Wout
  | p :: r => fun cls d σ H => ∃ b, PySem.W.exmOne K cls p.1 = some b ∧
      (b = true → ∀ a, H a = none → p.2 a cls d ⟨fun τ G => D.nx (τ.set i none) G, D.rt, fun τ G => D.bk (τ.set i none) G, fun τ G => D.ct (τ.set i none) G⟩ (σ.set i (some (.ref a))) H) ∧ (b = false → wAsM K i Wout D r cls d σ H)
/-- the clauses, each «except x as n», with their suites' readings -/
inductive HdsAs (X : Cx) (n : Str) : List ExceptHandler → Suites → Prop
  | nil : HdsAs X n [] []
  | cons {x : Str} {c : Value} {ts : Addr → Value → Option Addr → TS} {b0 : Stmt} {su : List Stmt} {p1 p2 : Pos} {hds : List ExceptHandler} {l : Suites} (hc : Names X x c)
      (hsu : ∀ (a : Addr) (oe : Obj) (cls : Value) (d : Option Addr) (pn : List (Addr × Obj)), Zc cls d oe → (∃ vs, oe.data = .fields vs) → PSs (X.suite a ((a, oe) :: pn)) (b0 :: su) (ts a cls d)) (r : HdsAs X n hds l) :
      HdsAs X n (.ExceptHandler (some (.Name x p1)) (some n) (b0 :: su) p2 :: hds) ((c, ts) :: l)
/-- what is done where the body let an exception out -/
theorem hds_run {X : Cx} {n : Str} {i : Nat} {pins : List (Addr × Obj)} {τ : L2.St} {G : Hp} {D : Ends} {Wout : WX} {e0 : Addr} {B h3 : Heap} {sJ s2 : Shared} {cls : Value} {d : Option Addr} (ok : X.Ok)
    (hst : X.stack = X.env :: X.outer) (hfr : X.env.frame = some X.env.locals) (nod : X.N.Nodup) (hi : X.N[i]? = some n) (hloc : X.env.kindOf n = some .local) (tk : Takes X Wout) (J : Inv X pins τ G sJ)
    (nb : ∀ b o, sJ.heap.get? b = some o → b ∉ frs X.stack → B.get? b = some o) (up : sJ.heap.UpToSlots s2.heap) (up3 : s2.heap.UpToSlots h3) (na : G e0 = none) (os : s2.os = sJ.os) (ag : AllBare s2.gens)
    (fl : HandSPX.FlyingZ B (X.env :: X.outer) e0 (Zc cls d) h3) : ∀ {hds : List ExceptHandler} {l : Suites}, HdsAs X n hds l → wAsM X.K i Wout D l cls d τ G →
      wpAny (model X.prog X.w) X.A (handleBy (.ref e0) X.env hds) (SP X pins D) X.xe { s2 with heap := h3 } := by
  have J3 : Inv X pins τ G { s2 with heap := h3 } := J.landed nb fl.1 (up.trans up3) os ag
  obtain ⟨ob, vb, he3, hz3, hd3⟩ := fl.there
  have out : e0 ∉ frs (X.env :: X.outer) := fun hm => by
    obtain ⟨_, o2, q1, q2⟩ := fl.2.2.1.mem hm
    rw [he3] at q1
    cases q1
    exact q2 _ hd3
  have nL : e0 ≠ X.env.locals := fun z => out (List.mem_filterMap.mpr ⟨_, List.mem_cons_self, z ▸ hfr⟩)
  have nF : e0 ∉ X.fs := fun hm => let ⟨q1, q2, q3⟩ := List.mem_filterMap.mp hm; out (List.mem_filterMap.mpr ⟨q1, List.mem_cons_of_mem _ q2, q3⟩)
  have S3 := J3.suite he3 hd3 na nL nF
  intro hds l hk
  induction hk with
  | nil =>
    intro w
    refine wpAny_handleBy_nil ?_
    obtain ⟨_, _, _, o1, v1, tb, _, _, g1, _, g3, g4, _⟩ := id fl
    unfold PySem.passOn
    refine wpAny_bind (wpAny_field g1 g3 g4 ?_)
    rw [if_neg (by simp : ¬ ((Value.ref tb == Value.none) = true))]
    have last : wpAny (model X.prog X.w) X.A (setFlight (.ref e0) X.env.frame) (fun _ s4 => wpAny (model X.prog X.w) X.A (throw (.ref e0) : Sem Flow) (SP X pins D) X.xe s4) X.xe { s2 with heap := h3 } := by
      rw [hfr]
      refine HandSPX.setFlight_upZ fl fun h4 hh4 up4 => wpAny_throw (tk _ _ ⟨e0, B, sJ, pins, τ, G, cls, d, rfl, J, nb, (up.trans up3).trans up4, .inr (.inr ?_), na, os, ag, w⟩)
      rw [hst]
      exact hh4
    first | exact wpAny_bind (wpAny_pure (wpAny_bind last)) | exact wpAny_bind last
  | @cons x c ts b0 su p1 p2 hds2 l2 hc hsu r ih =>
    rintro ⟨b, hb1, yes, no⟩
    refine wpAny_handleBy_cons (codeAny_handlers_test ?_) (by intro q; cases q)
    have LM := PySem.W.exm_one (M := model X.prog X.w) J3.kIn (fun A Q E s k q => wpAny_typeOf_ref (k _ _ he3) (by rw [hz3.1]; exact q)) hb1
    have named : ∀ {Q E : Value → Shared → Prop}, Q c { s2 with heap := h3 } → wpAny (model X.prog X.w) (X.A.mark (some (.ref e0))) (eval (.Name x p1) X.env) Q E { s2 with heap := h3 } := by
      intro Q E q
      obtain ⟨k1, k2, k3 | ⟨k3, k4, k5⟩⟩ := hc
      · exact ld_glob (X := X.suite e0 ((e0, ob) :: (X.pn ++ pins))) S3 k1 k3 q k2
      · exact ld_blt (X := X.suite e0 ((e0, ob) :: (X.pn ++ pins))) S3 k1 k3 k4 q k5 k2
    refine named (LM.here ?_)
    cases b with
    | false => exact ih (no rfl)
    | true =>
      refine codeAny_handlers_suite_as (HandSPX.lands_againZ fl fun h4 fl4 up4 => ?_)
      have J4 : Inv X pins τ G { s2 with heap := h4 } := J.landed nb fl4.1 ((up.trans up3).trans up4) os ag
      obtain ⟨o4, v4, he4, hz4, hd4⟩ := fl4.there
      refine store_ok (X := X.suite e0 ((e0, o4) :: (X.pn ++ pins))) (v := .ref e0) (J4.suite he4 hd4 na nL nF) nod hi (.inl hloc) rfl (fun s5 S5 => ?_) (.inr hloc)
      refine wpAny_mono ((hsu e0 o4 cls d (X.pn ++ pins) hz4 ⟨_, hd4⟩).run [] s5 _ G _ S5 (yes rfl e0 na)) (fun f s6 sp => ?_) (fun _ _ z => z.elim)
      have close : ∀ {τ6 : L2.St} {G6 : Hp} {Q : Shared → Prop}, Inv (X.suite e0 ((e0, o4) :: (X.pn ++ pins))) [] τ6 G6 s6 → (∀ s7, Inv X pins (τ6.set i none) G6 s7 → Q s7) →
          wpAny (model X.prog X.w) X.A (do bindName X.env n .none; unbindBehindTheSuite X.env n p2) (fun _ s7 => Q s7) X.xe s6 := fun S6 k => gone_ok (S6.unsuite ok) nod hi hloc k
      cases f with
      | ret u => obtain ⟨_, _, _, S6, r6, q6⟩ := sp; exact close S6 fun s7 J7 => ⟨_, _, _, J7, r6, q6⟩
      | next => obtain ⟨_, _, S6, q6⟩ := sp; exact close S6 fun s7 J7 => ⟨_, _, J7, q6⟩
      | brk => obtain ⟨_, _, S6, q6⟩ := sp; exact close S6 fun s7 J7 => ⟨_, _, J7, q6⟩
      | cont => obtain ⟨_, _, S6, q6⟩ := sp; exact close S6 fun s7 J7 => ⟨_, _, J7, q6⟩
theorem ps_try_asM {X : Cx} {n : Str} {i : Nat} {body : List Stmt} {hd : ExceptHandler} {hds : List ExceptHandler} {l : Suites} {pos : Pos} {tb : WX → TS} {Wout : WX} (hst : X.stack = X.env :: X.outer)
    (hfr : X.env.frame = some X.env.locals) (nod : X.N.Nodup) (hi : X.N[i]? = some n) (hloc : X.env.kindOf n = some .local) (tk : Takes X Wout)
    (hb : ∀ (W : WX) (pn : List (Addr × Obj)) (xe : Value → Shared → Prop), Takes (X.tr pn xe) W → PassesOwn (model X.prog X.w) X.A X.env xe → PSs (X.tr pn xe) body (tb W))
    (hh : HdsAs X n (hd :: hds) l) : PS X (.Try body (hd :: hds) [] [] pos) (fun D σ H => tb (wAsM X.K i Wout D l) D σ H) := by
  refine ⟨fun pins s σ H D I h => wpAny_Try_except ?_⟩
  have ok := I.ok
  have fr : X.A.frames = some (X.env :: X.outer) := ok.frames.trans (congrArg some hst)
  let caught : Value → Shared → Prop := fun e s1 => wpAny (model X.prog X.w) X.A (noteFrame e X.env) (fun _ s2 => wpAny (model X.prog X.w) X.A (setFlight e none)
    (fun _ s3 => wpAny (model X.prog X.w) X.A (handleBy e X.env (hd :: hds)) (SP X pins D) X.xe s3) X.xe s2) X.xe s1
  have takes : Takes (X.tr (X.pn ++ pins) caught) (wAsM X.K i Wout D l) := by
    rintro _ s' ⟨a, B, sI, pins', σ', H', cls, d, rfl, J', nb, up, sky, na, os, ag, w⟩
    have sky' : Sky B (X.env :: X.outer) a (Zc cls d) X.env.locals s'.heap := hst ▸ sky
    show wpAny (model X.prog X.w) X.A (noteFrame (.ref a) X.env) _ _ _
    exact Sky.land Zc.steady fr hfr sky' fun h3 fl3 up3 => hds_run ok hst hfr nod hi hloc tk (J'.ofTry ok) nb up up3 na os ag fl3 hh w
  refine wpAny_mono ((hb _ (X.pn ++ pins) caught takes PassesOwn.looking).run [] s σ H D (I.toTry _) h) (fun f s1 sp => ?_) (fun e s1 he => he)
  cases f with
  | ret u => obtain ⟨v, τ, G, J', r, q⟩ := sp; exact ⟨v, τ, G, J'.ofTry ok, r, q⟩
  | next => obtain ⟨τ, G, J', q⟩ := sp; exact wpAny_execs_nil ⟨τ, G, J'.ofTry ok, q⟩
  | brk => obtain ⟨τ, G, J', q⟩ := sp; exact ⟨τ, G, J'.ofTry ok, q⟩
  | cont => obtain ⟨τ, G, J', q⟩ := sp; exact ⟨τ, G, J'.ofTry ok, q⟩

end R
namespace R
open PySem PySem.Spec PyProof.Rows L2
/-! ## the law's draws -/
/-- the row of a law's draws: the script's copy (at L), how far it is read, two numbers -/
structure RowAt (H : Hp) (r L : Addr) : Prop where
  ex : ∃ (ns : List Int) (i : Nat) (b s : Int), H r = some (.lst [.ref L, .int i, .int b, .int s]) ∧ H L = some (.lst (ns.map V.int)) ∧ 0 ≤ b
  ne : L ≠ r
section
variable {H H' : Hp} {r L p : Addr} {o : HO}
theorem RowAt.lst (h : RowAt H r L) : ∃ zs, H r = some (.lst zs) := let ⟨_, _, _, _, e, _⟩ := h.ex; ⟨_, e⟩
theorem RowAt.stay (h : RowAt H r L) (s : Same H H') : RowAt H' r L := by
  obtain ⟨ns, i, b, z, e, q, n⟩ := h.ex
  exact ⟨⟨ns, i, b, z, s _ _ e, s _ _ q, n⟩, h.ne⟩
theorem RowAt.tups {K : PySem.W.Frag} (h : RowAt H r L) (s : Kp r H H') : TupsStay K H H' := let ⟨_, e⟩ := h.lst; .sx s e
theorem RowAt.new (h : RowAt H r L) (hp : H p = none) : p ≠ r ∧ p ≠ L := by
  obtain ⟨ns, i, b, z, e, q, n⟩ := h.ex
  exact ⟨(ne_of_none e hp).symm, (ne_of_none q hp).symm⟩
theorem RowAt.upd (h : RowAt H r L) (n : p ≠ r ∧ p ≠ L) : RowAt (upd H p o) r L := by
  obtain ⟨ns, i, b, z, e, q, h0⟩ := h.ex
  exact ⟨⟨ns, i, b, z, by rw [upd_ne n.1.symm]; exact e, by rw [upd_ne n.2.symm]; exact q, h0⟩, h.ne⟩
end
def sp_l_draws (K : PySem.W.Frag) : Sp := fun vs H Q _ => ∃ (a : Addr) (ns : List Int), vs = [.ref a] ∧ SqL K H a (ns.map V.int) ∧ ∀ r L H', Same H H' → RowAt H' r L → Q (.ref r) H'
def sp_l_pick : Sp := fun vs H Q _ => ∃ (r L : Addr) (m : Int), vs = [.ref r, .int m] ∧ RowAt H r L ∧ 0 < m ∧ m.natAbs < 2 ^ 200 ∧
  ∀ v H', 0 ≤ v → v < m → Kp r H H' → RowAt H' r L → Q (.int v) H'
section
variable {P : Program} {w : World} {K : PySem.W.Frag} {mg : Str → Option Value} {base : Heap}
theorem ok_l_draws (T : Txt K mg) : FnOk P w K mg base CX0 2 T.f_l_draws T.fd_l_draws ["_law_script"] (sp_l_draws K) := by
  refine T.F_l_draws.ok sc_l_draws (fun vs H Q E h => ?_) (fun cdv A outer s H vs Q E hr h => ?_)
  · obtain ⟨a, ns, rfl, _⟩ := h
    rfl
  · obtain ⟨a, ns, rfl, hS, q⟩ := h
    refine ⟨_, (pss_one (ps_ret (pe_lst (pa_cons (pe_callTy call_list_of (by rfl) T.z_list (by decide +kernel) (pa_cons (pv 0) pa_nil)) (pa_cons pe_int (pa_cons pe_int (pa_cons pe_int pa_nil))))))), ?_⟩
    refine ⟨_, rfl, a, _, rfl, .inl hS, fun L nL => ⟨sizeOk (by show (4 : Nat) ≤ 100000; decide), fun r nr => ?_⟩⟩
    have n1 : L ≠ r := fun e => by
      subst e
      rw [upd_same] at nr
      cases nr
    refine q r L _ (Same.trans (same_upd nL) (same_upd nr)) ⟨⟨ns, 0, 0, 7, upd_same, ?_, Int.le_refl 0⟩, n1⟩
    rw [upd_ne n1, upd_same]
theorem ok_l_pick (T : Txt K mg) : FnOk P w K mg base CX0 2 T.f_l_pick T.fd_l_pick ["_law_row", "_law_many"] sp_l_pick := by
  refine T.F_l_pick.ok sc_l_pick (fun vs H Q E h => ?_) (fun cdv A outer s H vs Q E hr h => ?_)
  · obtain ⟨r, L, m, rfl, _⟩ := h
    rfl
  · obtain ⟨r, L, m, rfl, ⟨⟨ns, i, b, z, hr0, hL0, hb⟩, hLr⟩, hm, hm2, q⟩ := h
    have hL : SqL K H L (ns.map V.int) := lstOf hL0
    have S : SqL K H r [.ref L, .int i, .int b, .int z] := lstOf hr0
    refine ⟨_, (C8.pss_cut (ps_if (pt_cmpR op_eq (pe_ix ix_list (pv 0) pe_int (fun _ _ => rfl)) pe_int (nomark _)) (pss_one (ps_if (pt_cmpR op_lt (pe_ix ix_list (pv 0) pe_int (fun _ _ => rfl)) (pe_callB call_len_seq (by rfl) T.z_len (by decide +kernel) (pa_cons (pe_ix ix_list (pv 0) pe_int (fun _ _ => rfl)) pa_nil)) (nomark _)) (pss_cons (ps_set (i := 2) sc_l_pick.nd rfl (by first | exact .inl rfl | exact .inr rfl) (pe_ix ix_list (pe_ix ix_list (pv 0) pe_int (fun _ _ => rfl)) (pe_ix ix_list (pv 0) pe_int (fun _ _ => rfl)) (fun _ _ => rfl)))
      (pss_cons (ps_asg (pe_op op_add (pe_ix ix_list (pv 0) pe_int (fun _ _ => rfl)) pe_int) (pg_sub (pv 0) pe_int set_list))
      (pss_one (ps_if (pt_cmpR op_ge (pv 2) (pe_op op_pow pe_int pe_int) (nomark _)) (pss_one (ps_asg (pv 2) (pg_sub (pv 0) pe_int set_list))) (pss_one (ps_asg (pe_op op_mod (pe_callTy call_int1 (by rfl) T.z_int (by decide +kernel) (pa_cons (pe_op op_add (pe_op op_add (pe_op op_mul (pe_ix ix_list (pv 0) pe_int (fun _ _ => rfl)) pe_int) (pe_op op_mul (pv 2) pe_int)) pe_int) pa_nil)) pe_int) (pg_sub (pv 0) pe_int set_list))))))) (pss_one (ps_asg (pe_op op_mod (pe_callTy call_int1 (by rfl) T.z_int (by decide +kernel) (pa_cons (pe_op op_add (pe_op op_mul (pe_ix ix_list (pv 0) pe_int (fun _ _ => rfl)) pe_int) pe_int) pa_nil)) pe_int) (pg_sub (pv 0) pe_int set_list))))) pss_nil)
      (pss_cons (ps_if (pt_cmpR op_gt (pe_ix ix_list (pv 0) pe_int (fun _ _ => rfl)) pe_int (nomark _)) (pss_cons (ps_set (i := 3) sc_l_pick.nd rfl (by first | exact .inl rfl | exact .inr rfl) (pe_op op_mod (pe_callTy call_int1 (by rfl) T.z_int (by decide +kernel) (pa_cons (pe_ix ix_list (pv 0) pe_int (fun _ _ => rfl)) pa_nil)) (pv 1)))
      (pss_cons (ps_asg (pe_op op_fdivW (pe_ix ix_list (pv 0) pe_int (fun _ _ => rfl)) (pv 1)) (pg_sub (pv 0) pe_int set_list))
      (pss_one (ps_ret (pv 3))))) pss_nil)
      (pss_one (ps_ret (pe_op op_mod (pe_op op_mod (pe_callTy call_int1 (by rfl) T.z_int (by decide +kernel) (pa_cons (pe_op op_mul (pe_ix ix_list (pv 0) pe_int (fun _ _ => rfl)) pe_int) pa_nil)) pe_int) (pv 1)))))), ?_⟩
    refine ⟨fun σ H' => ∃ (c : Option V) (i' : Nat) (b' z' : Int), σ = [some (.ref r), some (.int m), c, none] ∧ Kp r H H' ∧ H' r = some (.lst [.ref L, .int i', .int b', .int z']) ∧ 0 ≤ b', ?_, ?_⟩
    · refine ⟨_, rfl, r, _, 2, _, rfl, rfl, S, atI_nat (j := 2) rfl, rfl, _, rfl, ite2 (fun _ => ?_) (fun _ => ?_)⟩
      · refine ⟨_, rfl, r, _, 1, _, rfl, rfl, S, atI_nat (j := 1) rfl, _, rfl, r, _, 0, _, rfl, rfl, S, atI_nat (j := 0) rfl, L, _, rfl, .inl hL, _, _, rfl, rfl, _, rfl, ite2 (fun e => ?_) (fun e => ?_)⟩
        · have hi : i < ns.length := by
            have e' := of_decide_eq_true e
            rw [List.length_map] at e'
            omega
          refine ⟨_, rfl, r, _, 0, _, rfl, rfl, S, atI_nat (j := 0) rfl, _, rfl, r, _, 1, _, rfl, rfl, S, atI_nat (j := 1) rfl, L, _, i, .int ns[i], rfl, rfl, hL, atI_nat (j := i) (getMapInt hi), ?_⟩
          refine ⟨_, rfl, r, _, 1, _, rfl, rfl, S, atI_nat (j := 1) rfl, _, _, rfl, rfl, _, rfl, r, _, 1, 1, rfl, rfl, hr0, rfl, ?_⟩
          have hr1 : (upd H r (.lst [.ref L, .int ((i : Int) + 1), .int b, .int z])) r = some (.lst [.ref L, .int ((i + 1 : Nat) : Int), .int b, .int z]) := upd_same
          have S1 : SqL K (upd H r (.lst [.ref L, .int ((i : Int) + 1), .int b, .int z])) r _ := lstOf hr1
          have x1 : Kp r H (upd H r (.lst [.ref L, .int ((i : Int) + 1), .int b, .int z])) := Kp.at_
          refine ⟨_, rfl, _, _, rfl, rfl, ⟨by decide, by decide, by decide⟩, _, _, rfl, rfl, _, rfl, ite2 (fun e2 => ?_) (fun e2 => ?_)⟩
          · refine ⟨_, rfl, _, rfl, r, _, 2, 2, rfl, rfl, hr1, rfl, ?_⟩
            refine ⟨_, i + 1, ns[i], z, rfl, fun b o n h => ?_, upd_same, ?_⟩
            · rw [upd_ne n]; exact x1 b o n h
            · have := of_decide_eq_true e2
              have : (0 : Int) ≤ 10 ^ (18 : Int).toNat := by decide
              omega
          · refine ⟨_, rfl, r, _, 3, _, rfl, rfl, S1, atI_nat (j := 3) rfl, _, _, rfl, rfl, .inr (by decide), _, rfl, _, _, rfl, rfl, .inr (by decide), _, _, rfl, rfl, _, _, rfl, rfl, .inl ⟨_, rfl, _, _, rfl, rfl, (show (0 : Int) < 2147483647 by decide), ?_⟩⟩
            refine ⟨_, rfl, r, _, 3, 3, rfl, rfl, hr1, rfl, ?_⟩
            refine ⟨_, i + 1, b, _, rfl, fun b o n h => ?_, upd_same, hb⟩
            rw [upd_ne n]; exact x1 b o n h
        · refine ⟨_, rfl, r, _, 3, _, rfl, rfl, S, atI_nat (j := 3) rfl, _, _, rfl, rfl, .inr (by decide), _, _, rfl, rfl, .inl ⟨_, rfl, _, _, rfl, rfl, (show (0 : Int) < 2147483647 by decide), ?_⟩⟩
          refine ⟨_, rfl, r, _, 3, 3, rfl, rfl, hr0, rfl, ?_⟩
          exact ⟨_, i, b, _, rfl, Kp.at_, upd_same, hb⟩
      · exact ⟨_, i, b, z, rfl, Kp.refl r H, hr0, hb⟩
    · rintro σ H' ⟨c, i', b', z', rfl, sx, hr', hb'⟩
      have S' : SqL K H' r [.ref L, .int i', .int b', .int z'] := lstOf hr'
      have hL' : H' L = some (.lst (ns.map V.int)) := sx _ _ hLr hL0
      refine ⟨_, rfl, r, _, 2, _, rfl, rfl, S', atI_nat (j := 2) rfl, _, _, rfl, rfl, _, rfl, ite2 (fun e => ?_) (fun e => ?_)⟩
      · have e' := of_decide_eq_true e
        refine ⟨_, rfl, r, _, 2, _, rfl, rfl, S', atI_nat (j := 2) rfl, .inl ⟨_, rfl, _, rfl, _, _, rfl, rfl, hm, ?_⟩⟩
        refine ⟨_, rfl, r, _, 2, _, rfl, rfl, S', atI_nat (j := 2) rfl, _, rfl, _, _, rfl, rfl, wide_div hm hm2 (by decide) (by decide), _, rfl, r, _, 2, 2, rfl, rfl, hr', rfl, ?_⟩
        refine ⟨_, rfl, q _ _ (Int.emod_nonneg _ (by omega)) (Int.emod_lt_of_pos _ hm) (fun c o n h => ?_) ⟨⟨ns, i', b' / m, z', upd_same, ?_, Int.ediv_nonneg hb' (by omega)⟩, hLr⟩⟩
        · rw [upd_ne n]; exact sx c o n h
        · rw [upd_ne hLr]; exact hL'
      · refine ⟨_, rfl, r, _, 3, _, rfl, rfl, S', atI_nat (j := 3) rfl, _, _, rfl, rfl, .inr (by decide), .inl ⟨_, rfl, _, _, rfl, rfl, (show (0 : Int) < 2147483629 by decide), _, rfl, _, _, rfl, rfl, hm, ?_⟩⟩
        exact q _ _ (Int.emod_nonneg _ (by omega)) (Int.emod_lt_of_pos _ hm) sx ⟨⟨ns, i', b', z', hr', hL', hb'⟩, hLr⟩
end

end R
namespace R
open PySem PySem.Spec PyProof.Rows L2
/-! ## the law's bars -/
theorem choices_add (bs : List Bar) (b : Bar) : choices (bs ++ [b]) = choices bs * max 1 b.2.length := by
  unfold choices
  rw [List.foldl_append]
  rfl
theorem wh_add (bs : List Bar) (b : Bar) : wh (bs ++ [b]) = Nat.lcm (wh bs) b.1.natAbs := by
  unfold wh
  rw [List.foldl_append]
  rfl
theorem LotAt.mk' {K : PySem.W.Frag} {H : Hp} {a : Addr} {l : List Int} (h : SqT K H a (l.map V.int)) : LotAt K H (.ref a) l := ⟨a, rfl, h⟩
theorem BarsAt.add {K : PySem.W.Frag} {H : Hp} {p : Addr} {xs : List V} {x : V} {bs : List Bar} {b : Bar} (hp : SqT K H p (xs ++ [x])) (n : xs.length = bs.length)
    (h : ∀ (i : Nat) x b, xs[i]? = some x → bs[i]? = some b → BarAt K H x b) (hx : BarAt K H x b) : BarsAt K H (.ref p) (bs ++ [b]) := by
  refine ⟨p, xs ++ [x], rfl, hp, by rw [List.length_append, List.length_append, n]; rfl, fun i y c h1 h2 => ?_⟩
  by_cases hi : i < xs.length
  · rw [List.getElem?_append_left hi] at h1
    rw [List.getElem?_append_left (by omega)] at h2
    exact h i y c h1 h2
  · have hl := (List.getElem?_eq_some_iff.mp h1).1
    rw [List.length_append] at hl
    have e : i = xs.length := by
      have : [x].length = 1 := rfl
      omega
    subst e
    rw [List.getElem?_append_right (Nat.le_refl _), Nat.sub_self] at h1
    rw [n, List.getElem?_append_right (Nat.le_refl _), Nat.sub_self] at h2
    cases Option.some.inj h1
    cases Option.some.inj h2
    exact hx
structure Drawn (most top : Nat) (bs : List Bar) : Prop where
  len : bs.length ≤ most
  bar : ∀ b ∈ bs, 1 ≤ b.1 ∧ b.1 ≤ top ∧ LotOk b.1 b.2
  many : choices bs ≤ 2000
def sp_l_bars (K : PySem.W.Frag) : Sp := fun vs H Q _ => ∃ (r L : Addr) (most top : Nat), vs = [.ref r, .int most, .int top] ∧ RowAt H r L ∧ most ≤ 6 ∧ 1 ≤ top ∧ top ≤ 60 ∧
  ∀ v bs H', Drawn most top bs → BarsAt K H' v bs → Kp r H H' → RowAt H' r L → Q v H'
/-- a lot that grows -/
structure Grown (i : Nat) (l : List Int) : Prop where
  up : l.Pairwise (· < ·)
  ge : ∀ x ∈ l, 0 ≤ x
  lt : ∀ x ∈ l, x < (i : Int)
  len : l.length ≤ i
theorem Grown.skip {i : Nat} {l : List Int} (g : Grown i l) : Grown (i + 1) l := ⟨g.up, g.ge, fun x h => by have := g.lt x h; omega, Nat.le_succ_of_le g.len⟩
theorem Grown.add {i : Nat} {l : List Int} (g : Grown i l) : Grown (i + 1) (l ++ [(i : Int)]) := by
  refine ⟨List.pairwise_append.mpr ⟨g.up, List.pairwise_singleton _ _, fun x h y hy => ?_⟩, fun x h => ?_, fun x h => ?_, ?_⟩
  · rw [List.mem_singleton.mp hy]
    exact g.lt x h
  · rcases List.mem_append.mp h with h | h
    · exact g.ge x h
    · rw [List.mem_singleton.mp h]; omega
  · rcases List.mem_append.mp h with h | h
    · have := g.lt x h; omega
    · rw [List.mem_singleton.mp h]; omega
  · rw [List.length_append]
    have := g.len
    show l.length + 1 ≤ i + 1
    omega
theorem cutOne (l : List Int) : cutV (l.map V.int) none (some 1) = (l.take 1).map V.int := by
  unfold cutV
  rw [HT.sIx_none, show HT.sIx (l.map V.int).length (l.map V.int).length (some 1) = min 1 (l.map V.int).length from HT.sIx_nat _ _ 1]
  cases l with
  | nil => rfl
  | cons x r =>
    rw [show min 1 ((x :: r).map V.int).length = 1 by rw [List.length_map, List.length_cons]; omega]
    rfl
theorem maxIte (n : Nat) : (if (n : Int) > 1 then (n : Int) else 1) = ((max 1 n : Nat) : Int) := by
  split <;> omega

end R
namespace R
open PySem PySem.Spec PyProof.Rows L2
/-! ## the law's own reckoning -/
theorem fade_step {a b i M : Nat} (hb : 0 < b) (hab : b < a) (h : a * b * 2 ^ i < M) : b * (a % b) * 2 ^ (i + 1) < M := by
  have h1 : a % b < b := Nat.mod_lt _ hb
  have h2 := Nat.mod_add_div a b
  have h3 : 1 ≤ a / b := Nat.div_pos (Nat.le_of_lt hab) hb
  have h4 : b * 1 ≤ b * (a / b) := Nat.mul_le_mul_left b h3
  have h5 : (a % b) * 2 ≤ a := by omega
  have h6 : b * ((a % b) * 2) ≤ b * a := Nat.mul_le_mul_left b h5
  have h7 : b * ((a % b) * 2) * 2 ^ i ≤ b * a * 2 ^ i := Nat.mul_le_mul_right _ h6
  have e : b * (a % b) * 2 ^ (i + 1) = b * ((a % b) * 2) * 2 ^ i := by
    rw [Nat.pow_succ, Nat.mul_comm (2 ^ i) 2, ← Nat.mul_assoc, ← Nat.mul_assoc]
  rw [e]
  rw [Nat.mul_comm b a] at h7
  omega
/-- how the two numbers of Euclid's walk fade -/
def Fade (M i a b : Nat) : Prop := (i = 0 ∧ a * b < M ∧ ∀ c, c < b → b * c < M) ∨ (∃ j, i = j + 1 ∧ b < a ∧ a * b * 2 ^ j < M)
theorem Fade.step {M i a b : Nat} (hb : b ≠ 0) (h : Fade M i a b) : Fade M (i + 1) b (a % b) := by
  have hb' : 0 < b := Nat.pos_of_ne_zero hb
  refine .inr ⟨i, rfl, Nat.mod_lt _ hb', ?_⟩
  rcases h with ⟨rfl, h1, h2⟩ | ⟨j, rfl, h1, h2⟩
  · rw [Nat.pow_zero, Nat.mul_one]
    exact h2 _ (Nat.mod_lt _ hb')
  · exact fade_step hb' h1 h2
theorem Fade.end_ {a b : Nat} (h : Fade (2 ^ 280) 300 a b) : b = 0 := by
  rcases h with ⟨h, _⟩ | ⟨j, hj, h1, h2⟩
  · omega
  · obtain rfl : j = 299 := by omega
    by_cases hb : b = 0
    · exact hb
    · have h3 : 1 * 1 ≤ a * b := Nat.mul_le_mul (by omega) (by omega)
      have h4 : 1 * 2 ^ 299 ≤ a * b * 2 ^ 299 := Nat.mul_le_mul_right _ h3
      exact absurd (Nat.lt_of_le_of_lt h4 h2) (by decide)
theorem Fade.start {a b : Nat} (ha : a < 2 ^ 140) (hb : b < 2 ^ 140) : Fade (2 ^ 280) 0 a b := by
  have e : (2 : Nat) ^ 140 * 2 ^ 140 = 2 ^ 280 := by rw [← Nat.pow_add]
  refine .inl ⟨rfl, ?_, fun c hc => ?_⟩
  · rw [← e]
    exact Nat.mul_lt_mul'' ha hb
  · rw [← e]
    exact Nat.mul_lt_mul'' hb (Nat.lt_trans hc hb)
def sp_l_gcd : Sp := fun vs H Q _ => ∃ a b : Nat, vs = [.int a, .int b] ∧ a < 2 ^ 140 ∧ b < 2 ^ 140 ∧ Q (.int (Nat.gcd a b : Nat)) H
theorem modNat (a b : Nat) : (a : Int) % (b : Int) = ((a % b : Nat) : Int) := (Int.natCast_emod a b).symm
theorem divNat (a b : Nat) : (a : Int) / (b : Int) = ((a / b : Nat) : Int) := (Int.natCast_ediv a b).symm
/-! the whole -/
theorem lcm_le_mul (m n : Nat) : Nat.lcm m n ≤ m * n := Nat.div_le_self _ _
theorem lcm_div (w m : Nat) : w / Nat.gcd w m * m = Nat.lcm w m := by
  unfold Nat.lcm
  exact Nat.div_mul_right_comm (Nat.gcd_dvd_left w m) m
theorem snocInd {α : Type} {p : List α → Prop} (h0 : p []) (hs : ∀ l x, p l → p (l ++ [x])) : ∀ l, p l := by
  intro l
  rw [← List.reverse_reverse l]
  induction l.reverse with
  | nil => exact h0
  | cons x r ih =>
    rw [List.reverse_cons]
    exact hs _ _ ih
theorem wh_pos : ∀ (bs : List Bar), (∀ b ∈ bs, 1 ≤ b.1) → 0 < wh bs := by
  refine snocInd (fun _ => by decide) fun bs b ih h => ?_
  · skip
    rw [wh_add]
    have h1 := ih fun c hc => h c (List.mem_append_left _ hc)
    have h2 := h b (List.mem_append_right _ (List.mem_singleton.mpr rfl))
    exact Nat.lcm_pos h1 (by omega)
theorem wh_le : ∀ (bs : List Bar), (∀ b ∈ bs, b.1.natAbs ≤ 1000000) → wh bs ≤ 1000000 ^ bs.length := by
  refine snocInd (fun _ => by decide) fun bs b ih h => ?_
  · skip
    rw [wh_add, List.length_append]
    have h1 := ih fun c hc => h c (List.mem_append_left _ hc)
    have h2 := h b (List.mem_append_right _ (List.mem_singleton.mpr rfl))
    exact Nat.le_trans (lcm_le_mul _ _) (Nat.mul_le_mul h1 h2)
structure ModsOk (bs : List Bar) : Prop where
  six : bs.length ≤ 6
  mod : ∀ b ∈ bs, 1 ≤ b.1 ∧ b.1 ≤ 1000000
theorem ModsOk.lt {bs : List Bar} (h : ModsOk bs) : wh bs < 2 ^ 130 := by
  have h1 := wh_le bs fun b hb => by have := h.mod b hb; omega
  have h2 : (1000000 : Nat) ^ bs.length ≤ 1000000 ^ 6 := Nat.pow_le_pow_right (by decide) h.six
  exact Nat.lt_of_le_of_lt (Nat.le_trans h1 h2) (by decide)
theorem ModsOk.take {bs : List Bar} (h : ModsOk bs) (n : Nat) : ModsOk (bs.take n) := ⟨by rw [List.length_take]; have := h.six; omega, fun b hb => h.mod b (List.mem_of_mem_take hb)⟩
theorem ModsOk.pos {bs : List Bar} (h : ModsOk bs) : 0 < wh bs := wh_pos bs fun b hb => (h.mod b hb).1
def sp_l_whole (K : PySem.W.Frag) : Sp := fun vs H Q _ => ∃ (v : V) (bs : List Bar), vs = [v] ∧ BarsAt K H v bs ∧ ModsOk bs ∧ Q (.int (wh bs : Nat)) H
theorem takeSucc {α : Type} {l : List α} {i : Nat} {x : α} (h : l[i]? = some x) : l.take (i + 1) = l.take i ++ [x] := by
  rw [List.take_add_one, h]
  rfl

/-! what fits -/
theorem inVInt (x : Int) (l : List Int) : inV (.int x) (l.map V.int) = decide (x ∈ l) := by
  unfold inV
  rw [List.any_map]
  by_cases h : x ∈ l
  · rw [decide_eq_true h]
    exact List.any_eq_true.mpr ⟨x, h, by show (x == x) = true; exact beq_self_eq_true x⟩
  · rw [decide_eq_false h]
    refine List.any_eq_false.mpr fun y hy e => h ?_
    have e' : (y == x) = true := e
    rw [← beq_iff_eq.mp e']
    exact hy
theorem fitsB_add (bs : List Bar) (b : Bar) (x : Int) : fitsB (bs ++ [b]) x = (fitsB bs x && decide (x % b.1 ∈ b.2)) := by
  unfold fitsB
  rw [List.all_append]
  simp
theorem fitsB_take {bs : List Bar} {x : Int} {i : Nat} {b : Bar} (hb : bs[i]? = some b) (h : x % b.1 ∉ b.2) : fitsB bs x = false := by
  unfold fitsB
  refine List.all_eq_false.mpr ⟨b, List.mem_of_getElem? hb, ?_⟩
  rw [decide_eq_false h]
  exact Bool.false_ne_true
def sp_l_fits (K : PySem.W.Frag) : Sp := fun vs H Q _ => ∃ (v : V) (bs : List Bar) (x : Int), vs = [v, .int x] ∧ BarsAt K H v bs ∧ (∀ b ∈ bs, 1 ≤ b.1) ∧ Q (.bl (fitsB bs x)) H
def sp_l_own (K : PySem.W.Frag) : Sp := fun vs H Q _ => ∃ (v : V) (bs : List Bar), vs = [v] ∧ BarsAt K H v bs ∧ ModsOk bs ∧ wh bs ≤ 100000 ∧
  ∀ D H', Same H H' → H D = none → H' D = some (.lst ((cls bs).map V.int)) → Q (.ref D) H'
def clsTo (bs : List Bar) (n : Nat) : List Int := ((List.range n).map fun i : Nat => (i : Int)).filter (fitsB bs)
theorem clsTo_succ (bs : List Bar) (n : Nat) : clsTo bs (n + 1) = clsTo bs n ++ (if fitsB bs n = true then [(n : Int)] else []) := by
  unfold clsTo
  rw [List.range_succ, List.map_append, List.filter_append]
  by_cases h : fitsB bs n = true
  · rw [if_pos h, List.map_singleton, List.filter_cons_of_pos h]
    rfl
  · rw [if_neg h, List.map_singleton, List.filter_cons_of_neg h]
    rfl
theorem clsTo_len (bs : List Bar) (n : Nat) : (clsTo bs n).length ≤ n := by
  have h := List.length_filter_le (fitsB bs) ((List.range n).map fun i : Nat => (i : Int))
  rw [List.length_map, List.length_range] at h
  exact h

end R
namespace R
open PySem PySem.Spec PyProof.Rows L2
section
variable {P : Program} {w : World} {K : PySem.W.Frag} {mg : Str → Option Value} {base : Heap}
theorem ok_l_bars (T : Txt K mg) : FnOk P w K mg base CX0 3 T.f_l_bars T.fd_l_bars ["_law_row", "_law_most", "_law_top"] (sp_l_bars K) := by
  refine T.F_l_bars.ok sc_l_bars (fun vs H Q E h => ?_) (fun cdv A outer s H vs Q E hr h => ?_)
  · obtain ⟨r, L, most, top, rfl, _⟩ := h
    rfl
  · obtain ⟨r, L, most, top, rfl, R0, hm, ht0, ht, q⟩ := h
    refine ⟨_, (pss_cons (ps_asg (pe_tup (pa_cons (pe_tup pa_nil) (pa_cons pe_int pa_nil))) (pg_tup (by rfl) (pgs_cons (pg_name (i := 3) sc_l_bars.nd rfl (by first | exact .inl rfl | exact .inr rfl)) (pgs_cons (pg_name (i := 4) sc_l_bars.nd rfl (by first | exact .inl rfl | exact .inr rfl)) pgs_nil))))
      (pss_cons (ps_for PassesOwn.never rfl (pi_range1 (by rfl) T.z_range (pa_cons (pe_call (ok_l_pick T) (hr.mono (by decide)) (by rfl) T.g_l_pick T.F_l_pick.kp T.b_l_pick .nil pass0 (pa_cons (pv 0) (pa_cons (pe_op op_add (pv 1) pe_int) pa_nil))) pa_nil)) (pg_name (i := 5) sc_l_bars.nd rfl (by first | exact .inl rfl | exact .inr rfl)) (pss_cons (ps_set (i := 6) sc_l_bars.nd rfl (by first | exact .inl rfl | exact .inr rfl) (pe_op op_add pe_int (pe_call (ok_l_pick T) (hr.mono (by decide)) (by rfl) T.g_l_pick T.F_l_pick.kp T.b_l_pick .nil pass0 (pa_cons (pv 0) (pa_cons (pv 2) pa_nil)))))
      (pss_cons (ps_set (i := 7) sc_l_bars.nd rfl (by first | exact .inl rfl | exact .inr rfl) (pe_op op_add pe_int (pe_call (ok_l_pick T) (hr.mono (by decide)) (by rfl) T.g_l_pick T.F_l_pick.kp T.b_l_pick .nil pass0 (pa_cons (pv 0) (pa_cons pe_int pa_nil)))))
      (pss_cons (ps_set (i := 8) sc_l_bars.nd rfl (by first | exact .inl rfl | exact .inr rfl) (pe_callTy call_tuple_of (by rfl) T.z_tuple (by decide +kernel) (pa_cons (pe_lc (own := [("_law_rest", 9)]) rfl sc_l_bars.nd (pi_range1 (by rfl) T.z_range (pa_cons (pv 6) pa_nil)) (blkOk_by (N := ["_law_row", "_law_most", "_law_top", "_law_found", "_law_many", "_law_k", "_law_modulus", "_law_thick", "_law_lot", "_law_rest"]) (sc := defScope s_l_bars) (by decide +kernel)) (fun _ _ _ _ _ => (pg_name (i := 9) sc_l_bars.nd rfl (by first | exact .inl rfl | exact .inr rfl))) (fun _ _ _ _ _ => (pts_one (pt_cmpR op_lt (pe_call (ok_l_pick T) (hr.mono (by decide)) (by rfl) T.g_l_pick T.F_l_pick.kp T.b_l_pick .nil pass0 (pa_cons (pv 0) (pa_cons pe_int pa_nil))) (pv 7) (nomark _)))) (fun _ _ _ _ _ => (pv 9))) pa_nil)))
      (C8.pss_cut (ps_if (pt_cmpR op_gt (pe_op op_mulW (pv 4) (pe_callB call_len_seq (by rfl) T.z_len (by decide +kernel) (pa_cons (pv 8) pa_nil))) pe_int (nomark _)) (pss_one (ps_set (i := 8) sc_l_bars.nd rfl (by first | exact .inl rfl | exact .inr rfl) (pe_slice sl_tupA (pv 8) po_none (po_some pe_int)))) pss_nil)
      (pss_cons (ps_set (i := 4) sc_l_bars.nd rfl (by first | exact .inl rfl | exact .inr rfl) (pe_op op_mulW (pv 4) (pe_callB (call_max2 rfl) (by rfl) T.z_max (by decide +kernel) (pa_cons pe_int (pa_cons (pe_callB call_len_seq (by rfl) T.z_len (by decide +kernel) (pa_cons (pv 8) pa_nil)) pa_nil)))))
      (pss_one (ps_set (i := 3) sc_l_bars.nd rfl (by first | exact .inl rfl | exact .inr rfl) (pe_op op_catA (pv 3) (pe_tup (pa_cons (pe_tup (pa_cons (pv 6) (pa_cons (pv 8) pa_nil))) pa_nil)))))))))))
      (pss_one (ps_ret (pv 3))))), ?_⟩
    refine ⟨sizeOk (by show (0 : Nat) ≤ 100000; decide), fun p0 np0 => ⟨sizeOk (by show (2 : Nat) ≤ 100000; decide), fun p1 np1 => ?_⟩⟩
    have s0 : Same H (upd H p0 (.tup [])) := same_upd np0
    have s1 := s0.trans (same_upd np1 (o := .tup [.ref p0, .int 1]))
    refine ⟨p1, _, rfl, tupOf upd_same, rfl, _, _, rfl, _, _, rfl, rfl, ?_⟩
    have n01 : p0 ≠ p1 := fun e => by
      subst e
      rw [upd_same] at np1
      cases np1
    refine ⟨_, rfl, _, rfl, _, _, rfl, rfl, r, L, _, rfl, R0.stay s1, by omega, by omega, fun n H1 hn0 hn1 k1 R1 => ⟨n, rfl, by omega, by omega, ?_⟩⟩
    have kp0 : Kp r H H1 := (Kp.of s1).trans k1
    have b0 : BarsAt K H1 (.ref p0) [] := ⟨p0, [], rfl, (R0.stay s1).tups k1 _ _ (tupOf (by rw [upd_ne n01]; exact upd_same)), rfl, fun i x b h => by simp at h⟩
    refine for_range (lo := 0) (n := n.toNat) (fun i σ H2 => ∃ (v : V) (bs : List Bar) (c : Int) (x5 x6 x7 x8 : Option V), σ = [some (.ref r), some (.int most), some (.int top), some v, some (.int c), x5, x6, x7, x8, none] ∧
        BarsAt K H2 v bs ∧ bs.length = i ∧ (choices bs : Int) = c ∧ Drawn i top bs ∧ Kp r H H2 ∧ RowAt H2 r L)
      ⟨.ref p0, [], 1, none, none, none, none, rfl, b0, rfl, rfl, ⟨Nat.le_refl _, fun b h => by simp at h, by decide⟩, kp0, R1⟩ ?_ ?_
    · rintro i σ H2 hi ⟨v, bs, c, x5, x6, x7, x8, rfl, B2, hl, hc, D2, k2, R2⟩
      -- the modulus
      refine ⟨_, rfl, _, rfl, r, L, _, rfl, R2, by omega, by omega, fun m0 H3 hm0 hm1 k3 R3 => ⟨_, _, rfl, rfl, ?_⟩⟩
      -- how thick
      refine ⟨_, rfl, r, L, 3, rfl, R3, by decide, by decide, fun t0 H4 ht0 ht1 k4 R4 => ⟨_, _, rfl, rfl, ?_⟩⟩
      -- the lot
      refine ⟨_, rfl, 1 + m0, rfl, by omega, by omega, fun D nD => ?_⟩
      have nDr := R4.new nD
      have kD : Kp r H4 (upd H4 D (.lst [])) := Kp.new nD
      refine lc_range (lo := 0) (n := (1 + m0).toNat) (fun j Hj => ∃ l : List Int, Hj D = some (.lst (l.map V.int)) ∧ Grown j l ∧ Kp r H4 Hj ∧ RowAt Hj r L)
        ⟨[], upd_same, ⟨List.Pairwise.nil, fun x h => by simp at h, fun x h => by simp at h, Nat.le_refl _⟩, kD, R4.upd nDr⟩ ?_ ?_
      · rintro j Hj hj ⟨l, ej, gj, kj, Rj⟩
        refine ⟨rfl, _, rfl, r, L, 5, rfl, Rj, by decide, by decide, fun p5 H5 _ _ k5 R5 => ⟨_, rfl, _, _, rfl, rfl, _, rfl, ?_⟩⟩
        have e5 : H5 D = some (.lst (l.map V.int)) := k5 _ _ nDr.1 ej
        refine ite2 (fun _ => ?_) (fun _ => ?_)
        · refine ⟨_, rfl, _, e5, ?_, ?_⟩
          · rw [List.length_map]
            have := gj.len
            exact sizeLt (by omega)
          · refine ⟨l ++ [(j : Int)], ?_, gj.add, fun b o n h => ?_, R5.upd nDr⟩
            · rw [upd_same, List.map_append, Int.zero_add]
              rfl
            · have nb : b ≠ D := ne_of_none h nD
              rw [upd_ne nb]
              exact k5 b o n (kj b o n h)
        · exact ⟨l, e5, gj.skip, kj.trans k5, R5⟩
      · rintro H5 ⟨l, e5, g5, k5, R5⟩
        -- tuple(..)
        refine ⟨D, _, rfl, .inl ⟨lstOf e5, fun t nt => ?_⟩⟩
        have k6 : Kp r H2 (upd H5 t (.tup (l.map V.int))) := ((k3.trans k4).trans k5).trans (Kp.new nt)
        have R6 : RowAt (upd H5 t (.tup (l.map V.int))) r L := R5.upd (R5.new nt)
        have t6 : SqT K (upd H5 t (.tup (l.map V.int))) t (l.map V.int) := tupOf upd_same
        generalize upd H5 t (.tup (l.map V.int)) = H6 at k6 R6 t6 ⊢
        have hm : (1 + m0).toNat ≤ top := by omega
        have ll : l.length ≤ top := Nat.le_trans g5.len hm
        have hc2 := D2.many
        have lot5 : LotOk (1 + m0) l := ⟨g5.up, g5.ge, fun x h => by have := g5.lt x h; omega, by omega⟩
        -- the cut
        refine ⟨fun σ H' => ∃ (a : Addr) (l' : List Int), σ = [some (.ref r), some (.int most), some (.int top), some v, some (.int c), some (.int (0 + (i : Int))), some (.int (1 + m0)), some (.int (2 + t0)), some (.ref a), none] ∧
          SqT K H' a (l'.map V.int) ∧ LotOk (1 + m0) l' ∧ choices bs * max 1 l'.length ≤ 2000 ∧ Kp r H2 H' ∧ RowAt H' r L, ?_, ?_⟩
        · refine ⟨_, rfl, _, rfl, t, _, rfl, .inr t6, _, _, rfl, rfl, wide_mul (a := 12) (b := 12) (by omega) (by rw [List.length_map]; omega) (by decide) (by decide) (by decide), _, _, rfl, rfl, _, rfl, ite2 (fun e => ?_) (fun e => ?_)⟩
          · refine ⟨_, rfl, 1, rfl, t, _, rfl, t6, fun e2 => ?_, fun _ p np => ?_⟩
            · have h1 : min 1 (l.map V.int).length = (l.map V.int).length := Eq.trans (HT.sIx_nat _ _ 1).symm e2.2
              have e' := of_decide_eq_true e
              rw [List.length_map] at h1 e'
              have h2 : l.length = 0 ∨ l.length = 1 := by omega
              rcases h2 with h2 | h2 <;> (rw [h2] at e'; omega)
            · rw [cutOne] at *
              refine ⟨p, l.take 1, rfl, tupOf upd_same, ?_, ?_, k6.trans (Kp.new np), R6.upd (R6.new np)⟩
              · exact ⟨lot5.up.sublist (List.take_sublist _ _), fun x h => lot5.ge x (List.mem_of_mem_take h), fun x h => lot5.lt x (List.mem_of_mem_take h), by rw [List.length_take]; omega⟩
              · have : max 1 (l.take 1).length = 1 := by rw [List.length_take]; omega
                rw [this]
                omega
          · refine ⟨t, l, rfl, t6, lot5, ?_, k6, R6⟩
            have e' : ¬ (2000 < c * ((l.map V.int).length : Int)) := fun h => e (decide_eq_true h)
            rw [List.length_map, ← hc, ← Int.natCast_mul] at e'
            by_cases h0 : l.length = 0
            · rw [h0]
              show choices bs * 1 ≤ 2000
              omega
            · rw [show max 1 l.length = l.length by omega]
              omega
        · rintro σ H' ⟨a, l', rfl, ta, lok, hch, k7, R7⟩
          refine ⟨_, rfl, _, rfl, a, _, rfl, .inr ta, _, _, rfl, _, _, rfl, rfl, wide_mul (a := 12) (b := 12) (by omega) ?_ (by decide) (by decide) (by decide), ?_⟩
          · rw [List.length_map, maxIte]
            have := lok.few
            omega
          · refine ⟨_, rfl, _, rfl, _, rfl, sizeOk (by show (2 : Nat) ≤ 100000; decide), fun p np => ⟨sizeOk (by show (1 : Nat) ≤ 100000; decide), fun p2 np2 => ?_⟩⟩
            obtain ⟨b, xs, rfl, tb, nb, hb⟩ := B2.ex
            have s8 : Same H' (upd H' p (.tup [.int (1 + m0), .ref a])) := same_upd np
            have s9 := s8.trans (same_upd np2 (o := .tup [.ref p]))
            have T9 : TupsStay K H2 _ := fun _ _ h => Same.seqTT s9 (R2.tups k7 _ _ h)
            have np12 : p ≠ p2 := fun e => by
              subst e
              rw [upd_same] at np2
              cases np2
            have bar9 : BarAt K (upd (upd H' p (.tup [.int (1 + m0), .ref a])) p2 (.tup [.ref p])) (.ref p) (1 + m0, l') :=
              ⟨p, .ref a, rfl, tupOf (by rw [upd_ne np12]; exact upd_same), ⟨a, rfl, Same.seqTT s9 ta⟩⟩
            have fin : ∀ (c' : Addr) H9, Same (upd (upd H' p (.tup [.int (1 + m0), .ref a])) p2 (.tup [.ref p])) H9 → SqT K H9 c' (xs ++ [.ref p]) → BarsAt K H9 (.ref c') (bs ++ [(1 + m0, l')]) ∧ (bs ++ [(1 + m0, l')]).length = i + 1 ∧
                ((choices (bs ++ [(1 + m0, l')]) : Nat) : Int) = c * (if ((l'.map V.int).length : Int) > 1 then ((l'.map V.int).length : Int) else 1) ∧ Drawn (i + 1) top (bs ++ [(1 + m0, l')]) ∧ Kp r H H9 ∧ RowAt H9 r L := by
              intro c' H9 s10 t10
              refine ⟨BarsAt.add t10 nb (fun j x d h1 h2 => (hb j x d h1 h2).stay fun _ _ h => Same.seqTT s10 (T9 _ _ h)) (bar9.stay (.same s10)), by rw [List.length_append, hl]; rfl, ?_, ⟨by rw [List.length_append, hl]; exact Nat.le_refl _, fun d h => ?_, ?_⟩, k2.trans (k7.trans ((Kp.of s9).trans (Kp.of s10))), (R7.stay s9).stay s10⟩
              · rw [choices_add, List.length_map, maxIte, ← hc, Int.natCast_mul]
              · rcases List.mem_append.mp h with h | h
                · exact D2.bar d h
                · rw [List.mem_singleton.mp h]
                  exact ⟨by show 1 ≤ 1 + m0; omega, by show 1 + m0 ≤ (top : Int); omega, lok⟩
              · rw [choices_add]
                exact hch
            have hxl : xs.length ≤ 6 := by omega
            refine ⟨b, p2, xs, [.ref p], rfl, rfl, T9 _ _ tb, tupOf upd_same, sizeOk (by show xs.length + 1 ≤ 100000; omega), fun e => ?_, fun _ e => absurd e (List.cons_ne_nil _ _), fun _ _ q' nq' => ?_⟩
            · subst e
              obtain ⟨f1, f2, f3, f4, f5, f6⟩ := fin p2 _ (Same.refl _) (tupOf upd_same)
              exact ⟨_, _, _, _, _, _, _, rfl, f1, f2, f3, f4, f5, f6⟩
            · obtain ⟨f1, f2, f3, f4, f5, f6⟩ := fin q' _ (same_upd nq') (tupOf upd_same)
              exact ⟨_, _, _, _, _, _, _, rfl, f1, f2, f3, f4, f5, f6⟩
    · rintro σ H2 ⟨v, bs, c, x5, x6, x7, x8, rfl, B2, hl, hc, D2, k2, R2⟩
      exact ⟨_, rfl, q v bs H2 ⟨by omega, fun b h => D2.bar b h, D2.many⟩ B2 k2 R2⟩
end

end R
namespace R
open PySem PySem.Spec PyProof.Rows L2
section
variable {P : Program} {w : World} {K : PySem.W.Frag} {mg : Str → Option Value} {base : Heap}
theorem ok_l_gcd (T : Txt K mg) : FnOk P w K mg base CX0 2 T.f_l_gcd T.fd_l_gcd ["_law_a", "_law_b"] sp_l_gcd := by
  refine T.F_l_gcd.ok sc_l_gcd (fun vs H Q E h => ?_) (fun cdv A outer s H vs Q E hr h => ?_)
  · obtain ⟨a, b, rfl, _⟩ := h
    rfl
  · obtain ⟨a, b, rfl, ha, hb, q⟩ := h
    refine ⟨_, (pss_cons (ps_for PassesOwn.never rfl (pi_range1 (by rfl) T.z_range (pa_cons pe_int pa_nil)) (pg_name (i := 2) sc_l_gcd.nd rfl (by first | exact .inl rfl | exact .inr rfl)) (pss_cons (ps_if (pt_cmpR op_eq (pv 1) pe_int (nomark _)) (pss_one (ps_ret (pv 0))) pss_nil)
      (pss_one (ps_par (i := 0) (j := 1) (by rfl) sc_l_gcd.nd rfl rfl (by decide) rfl rfl (pa_cons (pv 1) (pa_cons (pe_op op_mod (pv 0) (pv 1)) pa_nil)) (by rfl)))))
      (pss_one (ps_ret (pv 0)))), ?_⟩
    refine ⟨300, rfl, by decide, by decide, for_range (lo := 0) (n := 300) (fun i σ H2 => ∃ (a' b' : Nat) (x : Option V), σ = [some (.int a'), some (.int b'), x] ∧ Nat.gcd a' b' = Nat.gcd a b ∧ Fade (2 ^ 280) i a' b' ∧ H2 = H)
      ⟨a, b, none, rfl, rfl, Fade.start ha hb, rfl⟩ ?_ ?_⟩
    · rintro i σ H2 hi ⟨a', b', x, rfl, eg, F, rfl⟩
      refine ⟨_, rfl, rfl, _, rfl, ite2 (fun e => ?_) (fun e => ?_)⟩
      · have e0 : (b' : Int) = 0 := V.int.inj (of_decide_eq_true e)
        have e1 : b' = 0 := by omega
        refine ⟨_, rfl, ?_⟩
        subst e1
        rw [Nat.gcd_zero_right] at eg
        rw [eg]
        exact q
      · have h0 : b' ≠ 0 := fun z => by
          subst z
          exact e (decide_eq_true rfl)
        refine ⟨_, rfl, _, rfl, _, rfl, _, _, rfl, rfl, by show (0 : Int) < (b' : Int); omega, _, _, rfl, ?_⟩
        refine ⟨b', a' % b', some (.int (0 + (i : Int))), ?_, ?_, F.step h0, rfl⟩
        · show [some (V.int b'), some (V.int ((a' : Int) % (b' : Int))), some (V.int (0 + (i : Int)))] = _
          rw [modNat]
        · rw [← eg, Nat.gcd_comm b' (a' % b'), ← Nat.gcd_rec, Nat.gcd_comm]
    · rintro σ H2 ⟨a', b', x, rfl, eg, F, rfl⟩
      refine ⟨_, rfl, ?_⟩
      have e1 := F.end_
      subst e1
      rw [Nat.gcd_zero_right] at eg
      rw [eg]
      exact q
end

end R
namespace R
open PySem PySem.Spec PyProof.Rows L2
section
variable {P : Program} {w : World} {K : PySem.W.Frag} {mg : Str → Option Value} {base : Heap}
theorem ok_l_whole (T : Txt K mg) : FnOk P w K mg base CX0 3 T.f_l_whole T.fd_l_whole ["_law_bars_here"] (sp_l_whole K) := by
  refine T.F_l_whole.ok sc_l_whole (fun vs H Q E h => ?_) (fun cdv A outer s H vs Q E hr h => ?_)
  · obtain ⟨v, bs, rfl, _⟩ := h
    rfl
  · obtain ⟨v, bs, rfl, B, M, q⟩ := h
    refine ⟨_, (pss_cons (ps_set (i := 1) sc_l_whole.nd rfl (by first | exact .inl rfl | exact .inr rfl) pe_int)
      (pss_cons (ps_for PassesOwn.never rfl (pi_tup (pv 0)) (pg_tup (by rfl) (pgs_cons (pg_name (i := 2) sc_l_whole.nd rfl (by first | exact .inl rfl | exact .inr rfl)) (pgs_cons (pg_name (i := 3) sc_l_whole.nd rfl (by first | exact .inl rfl | exact .inr rfl)) pgs_nil))) (pss_one (ps_set (i := 1) sc_l_whole.nd rfl (by first | exact .inl rfl | exact .inr rfl) (pe_op op_mulW (pe_op op_fdivW (pv 1) (pe_call (ok_l_gcd T) (hr.mono (by decide)) (by rfl) T.g_l_gcd T.F_l_gcd.kp T.b_l_gcd .nil pass0 (pa_cons (pv 1) (pa_cons (pv 2) pa_nil)))) (pv 2)))))
      (pss_one (ps_ret (pv 1))))), ?_⟩
    obtain ⟨a, xs, rfl, ta, nx, hx⟩ := B.ex
    refine ⟨_, rfl, a, rfl, ⟨_, ta⟩, for_tup (K := K) (a := a) (xs := xs) (fun i σ H2 => ∃ x y : Option V, σ = [some (.ref a), some (.int (wh (bs.take i) : Nat)), x, y] ∧ H2 = H)
      ⟨none, none, rfl, rfl⟩ (fun i σ H2 _ ⟨_, _, _, e⟩ => by rw [e]; exact ta) ?_ ?_⟩
    · rintro i x σ H2 hi ⟨y1, y2, rfl, rfl⟩
      have hl : i < bs.length := by
        have := (List.getElem?_eq_some_iff.mp hi).1
        omega
      have hb : bs[i]? = some bs[i] := List.getElem?_eq_getElem hl
      obtain ⟨p, l, rfl, tp, _⟩ := (hx i x _ hi hb).ex
      have hm := M.mod _ (List.getElem_mem hl)
      generalize bs[i] = b at hb tp hm
      have M' := M.take i
      have hw := M'.lt
      have hp := M'.pos
      have hmn : b.1 = ((b.1.toNat : Nat) : Int) := by omega
      refine ⟨p, [_, _], rfl, tp, rfl, _, _, rfl, _, _, rfl, rfl, ?_⟩
      refine ⟨_, rfl, _, rfl, _, rfl, wh (bs.take i), b.1.toNat, by rw [← hmn]; rfl, Nat.lt_trans hw (by decide), by omega, ?_⟩
      have hg : 0 < Nat.gcd (wh (bs.take i)) b.1.toNat := Nat.gcd_pos_of_pos_left _ hp
      have hg2 : Nat.gcd (wh (bs.take i)) b.1.toNat ≤ wh (bs.take i) := Nat.gcd_le_left _ hp
      refine ⟨_, _, rfl, rfl, wide_div (b := 131) (by omega) (by omega) (by decide) (by decide), _, rfl, _, _, rfl, rfl, ?_, ?_⟩
      · rw [divNat]
        have : wh (bs.take i) / Nat.gcd (wh (bs.take i)) b.1.toNat ≤ wh (bs.take i) := Nat.div_le_self _ _
        exact wide_mul (a := 131) (b := 31) (by rw [Int.natAbs_natCast]; omega) (by omega) (by decide) (by decide) (by decide)
      · have ew : ((wh (bs.take i) : Nat) : Int) / ((Nat.gcd (wh (bs.take i)) b.1.toNat : Nat) : Int) * b.1 = ((wh (bs.take (i + 1)) : Nat) : Int) := by
          rw [takeSucc hb, wh_add, show b.1.natAbs = b.1.toNat by omega, ← lcm_div, Int.natCast_mul, Int.natCast_ediv, ← hmn]
        refine ⟨some (.int b.1), some l, ?_, rfl⟩
        rw [← ew]
        rfl
    · rintro σ H2 ⟨y1, y2, rfl, rfl⟩
      rw [nx, List.take_length]
      exact ⟨_, rfl, q⟩
end

end R
namespace R
open PySem PySem.Spec PyProof.Rows L2
section
variable {P : Program} {w : World} {K : PySem.W.Frag} {mg : Str → Option Value} {base : Heap}
theorem ok_l_fits (T : Txt K mg) : FnOk P w K mg base CX0 2 T.f_l_fits T.fd_l_fits ["_law_bars_here", "_law_number"] (sp_l_fits K) := by
  refine T.F_l_fits.ok sc_l_fits (fun vs H Q E h => ?_) (fun cdv A outer s H vs Q E hr h => ?_)
  · obtain ⟨v, bs, x, rfl, _⟩ := h
    rfl
  · obtain ⟨v, bs, x, rfl, B, M, q⟩ := h
    refine ⟨_, (pss_cons (ps_for PassesOwn.never rfl (pi_tup (pv 0)) (pg_tup (by rfl) (pgs_cons (pg_name (i := 2) sc_l_fits.nd rfl (by first | exact .inl rfl | exact .inr rfl)) (pgs_cons (pg_name (i := 3) sc_l_fits.nd rfl (by first | exact .inl rfl | exact .inr rfl)) pgs_nil))) (pss_one (ps_if (pt_cmpR op_notIn_seq (pe_op op_mod (pv 1) (pv 2)) (pv 3) (by rfl)) (pss_one (ps_ret pe_bl)) pss_nil)))
      (pss_one (ps_ret pe_bl))), ?_⟩
    obtain ⟨a, xs, rfl, ta, nx, hx⟩ := B.ex
    refine ⟨_, rfl, a, rfl, ⟨_, ta⟩, for_tup (K := K) (a := a) (xs := xs) (fun i σ H2 => ∃ y z : Option V, σ = [some (.ref a), some (.int x), y, z] ∧ fitsB (bs.take i) x = true ∧ H2 = H)
      ⟨none, none, rfl, rfl, rfl⟩ (fun i σ H2 _ ⟨_, _, _, _, e⟩ => by rw [e]; exact ta) ?_ ?_⟩
    · rintro i y σ H2 hi ⟨y1, y2, rfl, hf, rfl⟩
      have hl : i < bs.length := by
        have := (List.getElem?_eq_some_iff.mp hi).1
        omega
      have hb : bs[i]? = some bs[i] := List.getElem?_eq_getElem hl
      obtain ⟨p, l, rfl, tp, ⟨c, rfl, tc⟩⟩ := (hx i y _ hi hb).ex
      have hm := M _ (List.getElem_mem hl)
      generalize bs[i] = b at hb tp hm tc
      refine ⟨p, [_, _], rfl, tp, rfl, _, _, rfl, _, _, rfl, rfl, ?_⟩
      refine ⟨_, rfl, _, rfl, _, _, rfl, rfl, by show 0 < b.1; omega, _, rfl, c, _, rfl, .inr tc, rfl, flatInts _, _, rfl, ite2 (fun e => ?_) (fun e => ?_)⟩
      · have e' : (!inV (.int (x % b.1)) (b.2.map V.int)) = true := e
        rw [inVInt] at e'
        have h : x % b.1 ∉ b.2 := by simpa using e'
        show Q (.bl false) H2
        rw [fitsB_take hb h] at q
        exact q
      · have e' : ¬ (!inV (.int (x % b.1)) (b.2.map V.int)) = true := e
        rw [inVInt] at e'
        have h : x % b.1 ∈ b.2 := by simpa using e'
        refine ⟨_, _, rfl, ?_, rfl⟩
        rw [takeSucc hb, fitsB_add, hf, decide_eq_true h]
        rfl
    · rintro σ H2 ⟨y1, y2, rfl, hf, rfl⟩
      rw [nx, List.take_length] at hf
      rw [hf] at q
      exact q
end

end R
namespace R
open PySem PySem.Spec PyProof.Rows L2
section
variable {P : Program} {w : World} {K : PySem.W.Frag} {mg : Str → Option Value} {base : Heap}
theorem ok_l_own (T : Txt K mg) : FnOk P w K mg base CX0 4 T.f_l_own T.fd_l_own ["_law_bars_here"] (sp_l_own K) := by
  refine T.F_l_own.ok sc_l_own (fun vs H Q E h => ?_) (fun cdv A outer s H vs Q E hr h => ?_)
  · obtain ⟨v, bs, rfl, _⟩ := h
    rfl
  · obtain ⟨v, bs, rfl, B, M, hw, q⟩ := h
    refine ⟨_, (pss_one (ps_ret (pe_lc (own := [("_law_number", 1)]) rfl sc_l_own.nd (pi_range1 (by rfl) T.z_range (pa_cons (pe_call (ok_l_whole T) (hr.mono (by decide)) (by rfl) T.g_l_whole T.F_l_whole.kp T.b_l_whole .nil pass0 (pa_cons (pv 0) pa_nil)) pa_nil)) (blkOk_by (N := ["_law_bars_here", "_law_number"]) (sc := defScope s_l_own) (by decide +kernel)) (fun _ _ _ _ _ => (pg_name (i := 1) sc_l_own.nd rfl (by first | exact .inl rfl | exact .inr rfl))) (fun _ _ _ _ _ => (pts_one (pt_val (pe_call (ok_l_fits T) (hr.mono (by decide)) (by rfl) T.g_l_fits T.F_l_fits.kp T.b_l_fits .nil pass0 (pa_cons (pv 0) (pa_cons (pv 1) pa_nil)))))) (fun _ _ _ _ _ => (pv 1))))), ?_⟩
    refine ⟨_, rfl, v, bs, rfl, B, M, _, rfl, by omega, by omega, fun D nD => ?_⟩
    refine lc_range (lo := 0) (n := wh bs) (fun i H2 => H2 D = some (.lst ((clsTo bs i).map V.int)) ∧ Same H H2) ⟨upd_same, same_upd nD⟩ ?_ ?_
    · rintro i H2 hi ⟨e, sm⟩
      refine ⟨rfl, _, rfl, _, rfl, v, bs, 0 + (i : Int), rfl, B.stay (.same sm), fun b hb => (M.mod b hb).1, _, rfl, ite2 (fun f => ?_) (fun f => ?_)⟩
      · refine ⟨_, rfl, _, e, ?_, ?_, ?_⟩
        · rw [List.length_map]
          have := clsTo_len bs i
          exact sizeLt (by omega)
        · rw [Int.zero_add] at f ⊢
          rw [upd_same, clsTo_succ, if_pos f, List.map_append]
          rfl
        · intro b o h
          rw [upd_ne (ne_of_none h nD)]
          exact sm b o h
      · refine ⟨?_, sm⟩
        rw [Int.zero_add] at f
        rw [e, clsTo_succ, if_neg f, List.append_nil]
    · rintro H2 ⟨e, sm⟩
      exact q D H2 sm nD e
end

end R
namespace R
open PySem PySem.Spec PyProof.Rows L2
/-! ## joining rests: the mathematics -/
theorem emod_of_dvd_sub {a b m : Int} (h0 : 0 ≤ b) (h1 : b < m) (h : m ∣ a - b) : a % m = b := by
  obtain ⟨k, hk⟩ := h
  have e : a = b + m * k := by omega
  rw [e, Int.add_mul_emod_self_left]
  exact Int.emod_eq_of_lt h0 h1
def rowL (g turns back whole known : Int) (lot : List Int) : List Int := (lot.filter fun r => decide ((r - known) % g = 0)).map fun r => known + whole * ((r - known) / g * back % turns)
def joinL (g turns back whole : Int) (classes lot : List Int) : List Int := classes.flatMap fun k => rowL g turns back whole k lot
theorem rowL_add (g turns back whole known r : Int) (lot : List Int) : rowL g turns back whole known (lot ++ [r]) = rowL g turns back whole known lot ++ (if (r - known) % g = 0 then [known + whole * ((r - known) / g * back % turns)] else []) := by
  unfold rowL
  rw [List.filter_append, List.map_append]
  by_cases h : (r - known) % g = 0
  · rw [if_pos h, List.filter_cons_of_pos (by rw [decide_eq_true h])]
    rfl
  · rw [if_neg h, List.filter_cons_of_neg (by rw [decide_eq_false h]; exact Bool.false_ne_true)]
    rfl
theorem joinL_add (g turns back whole k : Int) (classes lot : List Int) : joinL g turns back whole (classes ++ [k]) lot = joinL g turns back whole classes lot ++ rowL g turns back whole k lot := by
  unfold joinL
  rw [List.flatMap_append]
  congr 1
  exact List.append_nil _
theorem mem_rowL {g turns back whole known y : Int} {lot : List Int} : y ∈ rowL g turns back whole known lot ↔ ∃ r ∈ lot, (r - known) % g = 0 ∧ y = known + whole * ((r - known) / g * back % turns) := by
  unfold rowL
  rw [List.mem_map]
  constructor
  · rintro ⟨r, hr, e⟩
    obtain ⟨h1, h2⟩ := List.mem_filter.mp hr
    exact ⟨r, h1, of_decide_eq_true h2, e.symm⟩
  · rintro ⟨r, h1, h2, e⟩
    exact ⟨r, List.mem_filter.mpr ⟨h1, decide_eq_true h2⟩, e.symm⟩
theorem mem_joinL {g turns back whole y : Int} {classes lot : List Int} : y ∈ joinL g turns back whole classes lot ↔ ∃ k ∈ classes, ∃ r ∈ lot, (r - k) % g = 0 ∧ y = k + whole * ((r - k) / g * back % turns) := by
  unfold joinL
  rw [List.mem_flatMap]
  constructor
  · rintro ⟨k, hk, h⟩
    exact ⟨k, hk, mem_rowL.mp h⟩
  · rintro ⟨k, hk, h⟩
    exact ⟨k, hk, mem_rowL.mpr h⟩
/-- what the joining leans on: g the common measure, w = g * w', m = g * turns, back the inverse of w' by turns -/
structure Meet (g turns back w w' m : Int) : Prop where
  g0 : 0 < g
  t0 : 0 < turns
  w0 : 0 < w
  ew : w = g * w'
  em : m = g * turns
  inv : turns ∣ w' * back - 1
section
variable {g turns back w w' m : Int}
theorem Meet.m0 (M : Meet g turns back w w' m) : 0 < m := by rw [M.em]; exact Int.mul_pos M.g0 M.t0
theorem Meet.out (M : Meet g turns back w w' m) {k r : Int} (hd : (r - k) % g = 0) : m ∣ (k + w * ((r - k) / g * back % turns)) - r := by
  obtain ⟨e, he⟩ := M.inv
  have hq : g * ((r - k) / g) = r - k := Int.mul_ediv_cancel' (Int.dvd_of_emod_eq_zero hd)
  generalize (r - k) / g = q at hq ⊢
  have ht := Int.mul_ediv_add_emod (q * back) turns
  generalize (q * back) % turns = t at ht ⊢
  generalize (q * back) / turns = j at ht
  refine ⟨q * e - w' * j, ?_⟩
  have h1 : w' * t - q = turns * (q * e - w' * j) := by
    have : t = q * back - turns * j := by omega
    rw [this, Int.mul_sub, Int.mul_sub]
    have a1 : w' * (q * back) = q * (w' * back) := by rw [← Int.mul_assoc, Int.mul_comm w' q, Int.mul_assoc]
    have a2 : w' * back = turns * e + 1 := by omega
    have a3 : w' * (turns * j) = turns * (w' * j) := by rw [← Int.mul_assoc, Int.mul_comm w' turns, Int.mul_assoc]
    have a4 : q * (turns * e + 1) = turns * (q * e) + q := by rw [Int.mul_add, Int.mul_one, ← Int.mul_assoc, Int.mul_comm q turns, Int.mul_assoc]
    rw [a1, a2, a3, a4]
    omega
  have h2 : k + w * t - r = g * (w' * t - q) := by
    rw [Int.mul_sub, hq, M.ew, ← Int.mul_assoc]
    omega
  rw [h2, h1, M.em, Int.mul_assoc]
theorem Meet.into (M : Meet g turns back w w' m) {y : Int} (h0 : 0 ≤ y) (h1 : y < w * turns) : (y % m - y % w) % g = 0 ∧ y = y % w + w * ((y % m - y % w) / g * back % turns) := by
  obtain ⟨e, he⟩ := M.inv
  have hw := Int.mul_ediv_add_emod y w
  have hm := Int.mul_ediv_add_emod y m
  have k0 := Int.emod_nonneg y (Int.ne_of_gt M.w0)
  have t0 : 0 ≤ y / w := Int.ediv_nonneg h0 (Int.le_of_lt M.w0)
  have t1 : y / w < turns := Int.ediv_lt_of_lt_mul M.w0 (by rw [Int.mul_comm]; exact h1)
  generalize y / w = t at hw t0 t1
  generalize y / m = s at hm
  generalize y % w = k at hw k0 ⊢
  generalize y % m = r at hm ⊢
  have hd : r - k = g * (w' * t - turns * s) := by
    have a1 : w * t = g * (w' * t) := by rw [M.ew, Int.mul_assoc]
    have a2 : m * s = g * (turns * s) := by rw [M.em, Int.mul_assoc]
    rw [Int.mul_sub, ← a1, ← a2]
    omega
  rw [hd]
  refine ⟨Int.mul_emod_right _ _, ?_⟩
  rw [Int.mul_ediv_cancel_left _ (Int.ne_of_gt M.g0)]
  have hq : (w' * t - turns * s) * back = t + turns * (e * t - s * back) := by
    have a2 : w' * back = turns * e + 1 := by omega
    rw [Int.sub_mul, Int.mul_sub]
    have a3 : w' * t * back = (w' * back) * t := by rw [Int.mul_assoc, Int.mul_comm t back, ← Int.mul_assoc]
    have a4 : (turns * e + 1) * t = turns * (e * t) + t := by rw [Int.add_mul, Int.one_mul, Int.mul_assoc]
    have a5 : turns * s * back = turns * (s * back) := Int.mul_assoc _ _ _
    rw [a3, a2, a4, a5]
    omega
  rw [hq, Int.add_mul_emod_self_left, Int.emod_eq_of_lt t0 t1]
  omega
/-- a number made of known and rest tells both -/
theorem Meet.tells (M : Meet g turns back w w' m) {k r : Int} (hk : 0 ≤ k ∧ k < w) (hr : 0 ≤ r ∧ r < m) (hd : (r - k) % g = 0) :
    (k + w * ((r - k) / g * back % turns)) % w = k ∧ (k + w * ((r - k) / g * back % turns)) % m = r := by
  refine ⟨?_, emod_of_dvd_sub hr.1 hr.2 (M.out hd)⟩
  rw [Int.add_mul_emod_self_left]
  exact Int.emod_eq_of_lt hk.1 hk.2
theorem Meet.rowNodup (M : Meet g turns back w w' m) {k : Int} {lot : List Int} (hk : 0 ≤ k ∧ k < w) (hl : ∀ r ∈ lot, 0 ≤ r ∧ r < m) (nd : lot.Nodup) : (rowL g turns back w k lot).Nodup := by
  unfold rowL
  have nf : (lot.filter fun r => decide ((r - k) % g = 0)).Nodup := nd.filter _
  refine List.pairwise_map.mpr (List.Pairwise.imp_of_mem (fun {a b} ha hb hne e => hne ?_) nf)
  obtain ⟨a1, a2⟩ := List.mem_filter.mp ha
  obtain ⟨b1, b2⟩ := List.mem_filter.mp hb
  have q1 := (M.tells hk (hl _ a1) (of_decide_eq_true a2)).2
  have q2 := (M.tells hk (hl _ b1) (of_decide_eq_true b2)).2
  rw [← q1, ← q2, e]
theorem Meet.joinNodup (M : Meet g turns back w w' m) {cs lot : List Int} (hc : ∀ k ∈ cs, 0 ≤ k ∧ k < w) (nc : cs.Nodup) (hl : ∀ r ∈ lot, 0 ≤ r ∧ r < m) (nd : lot.Nodup) : (joinL g turns back w cs lot).Nodup := by
  induction cs with
  | nil => exact List.nodup_nil
  | cons k r ih =>
    obtain ⟨n1, n2⟩ := List.nodup_cons.mp nc
    show (rowL g turns back w k lot ++ joinL g turns back w r lot).Nodup
    refine List.nodup_append.mpr ⟨M.rowNodup (hc k List.mem_cons_self) hl nd, ih (fun x hx => hc x (List.mem_cons_of_mem _ hx)) n2, fun a ha b hb e => ?_⟩
    obtain ⟨r1, hr1, d1, e1⟩ := mem_rowL.mp ha
    obtain ⟨k2, hk2, r2, hr2, d2, e2⟩ := mem_joinL.mp hb
    have q1 := (M.tells (hc k List.mem_cons_self) (hl _ hr1) d1).1
    have q2 := (M.tells (hc k2 (List.mem_cons_of_mem _ hk2)) (hl _ hr2) d2).1
    rw [← e1] at q1
    rw [← e2] at q2
    rw [e] at q1
    rw [← q1, q2] at n1
    exact n1 hk2
end
/-! what fits by a row of bars hangs on the rest by the whole alone -/
theorem dvd_wh : ∀ (bs : List Bar) (b : Bar), b ∈ bs → b.1.natAbs ∣ wh bs := by
  refine snocInd (fun b h => by simp at h) fun bs c ih b h => ?_
  rw [wh_add]
  rcases List.mem_append.mp h with h | h
  · exact Nat.dvd_trans (ih b h) (Nat.dvd_lcm_left _ _)
  · rw [List.mem_singleton.mp h]
    exact Nat.dvd_lcm_right _ _
theorem emod_emod_wh {bs : List Bar} {b : Bar} (h : b ∈ bs) (x : Int) : x % (wh bs : Int) % b.1 = x % b.1 := by
  refine Int.emod_emod_of_dvd x ?_
  have := dvd_wh bs b h
  exact Int.natAbs_dvd.mp (Int.natCast_dvd_natCast.mpr this)
theorem fitsB_iff {bs : List Bar} {x : Int} : fitsB bs x = true ↔ ∀ b ∈ bs, x % b.1 ∈ b.2 := by
  unfold fitsB
  rw [List.all_eq_true]
  exact ⟨fun h b hb => of_decide_eq_true (h b hb), fun h b hb => decide_eq_true (h b hb)⟩
theorem fitsB_mod (bs : List Bar) (x : Int) : fitsB bs (x % (wh bs : Int)) = fitsB bs x := by
  rw [Bool.eq_iff_iff, fitsB_iff, fitsB_iff]
  exact ⟨fun h b hb => by rw [← emod_emod_wh hb]; exact h b hb, fun h b hb => by rw [emod_emod_wh hb]; exact h b hb⟩
/-- xs: each number from 0 to w - 1 that fits, once -/
structure ClsIs (bs : List Bar) (xs : List Int) : Prop where
  nd : xs.Nodup
  mem : ∀ x, x ∈ xs ↔ 0 ≤ x ∧ x < (wh bs : Int) ∧ fitsB bs x = true
theorem ClsIs.nil : ClsIs [] [0] := by
  refine ⟨by simp, fun x => ?_⟩
  rw [List.mem_singleton]
  have e : (wh [] : Int) = 1 := rfl
  rw [e]
  constructor
  · rintro rfl
    exact ⟨by decide, by decide, rfl⟩
  · rintro ⟨a, b, _⟩
    omega
theorem ClsIs.add {g turns back w' : Int} {bs : List Bar} {b : Bar} {xs : List Int} (M : Meet g turns back (wh bs : Int) w' b.1) (h : ClsIs bs xs) (L : LotOk b.1 b.2) (hw : (wh (bs ++ [b]) : Int) = (wh bs : Int) * turns) :
    ClsIs (bs ++ [b]) (joinL g turns back (wh bs : Int) xs b.2) := by
  have hc : ∀ k ∈ xs, 0 ≤ k ∧ k < (wh bs : Int) := fun k hk => let ⟨a, c, _⟩ := (h.mem k).mp hk; ⟨a, c⟩
  have hl : ∀ r ∈ b.2, 0 ≤ r ∧ r < b.1 := fun r hr => ⟨L.ge r hr, L.lt r hr⟩
  refine ⟨M.joinNodup hc h.nd hl (L.up.imp fun h => Int.ne_of_lt h), fun y => ?_⟩
  rw [mem_joinL, hw, fitsB_add]
  constructor
  · rintro ⟨k, hk, r, hr, hd, e⟩
    obtain ⟨q1, q2⟩ := M.tells (hc k hk) (hl r hr) hd
    obtain ⟨k0, k1, kf⟩ := (h.mem k).mp hk
    have t0 := Int.emod_nonneg ((r - k) / g * back) (Int.ne_of_gt M.t0)
    have t1 := Int.emod_lt_of_pos ((r - k) / g * back) M.t0
    rw [← e] at q1 q2
    generalize (r - k) / g * back % turns = t at e t0 t1
    have p0 : 0 ≤ (wh bs : Int) * t := Int.mul_nonneg (Int.le_of_lt M.w0) t0
    have p1 : (wh bs : Int) * (t + 1) ≤ (wh bs : Int) * turns := Int.mul_le_mul_of_nonneg_left (by omega) (Int.le_of_lt M.w0)
    rw [Int.mul_add, Int.mul_one] at p1
    refine ⟨by omega, by omega, ?_⟩
    rw [q2, decide_eq_true hr, Bool.and_true, ← fitsB_mod, q1]
    exact kf
  · rintro ⟨y0, y1, yf⟩
    obtain ⟨f1, f2⟩ := Bool.and_eq_true_iff.mp yf
    obtain ⟨d1, d2⟩ := M.into y0 y1
    refine ⟨y % (wh bs : Int), (h.mem _).mpr ⟨Int.emod_nonneg _ (Int.ne_of_gt M.w0), Int.emod_lt_of_pos _ M.w0, by rw [fitsB_mod]; exact f1⟩, y % b.1, of_decide_eq_true f2, d1, d2⟩
/-- sorted, it is the list of them in order -/
theorem cls_is (bs : List Bar) : ClsIs bs (cls bs) := by
  refine ⟨?_, fun x => ?_⟩
  · refine List.Pairwise.filter _ (List.pairwise_map.mpr (List.nodup_range.imp fun h e => h (by omega)))
  · unfold cls
    rw [List.mem_filter, List.mem_map]
    constructor
    · rintro ⟨⟨n, hn, rfl⟩, f⟩
      have := List.mem_range.mp hn
      exact ⟨by omega, by omega, f⟩
    · rintro ⟨x0, x1, f⟩
      exact ⟨⟨x.toNat, List.mem_range.mpr (by omega), by omega⟩, f⟩
theorem cls_up (bs : List Bar) : (cls bs).Pairwise (· < ·) := by
  unfold cls
  refine List.Pairwise.filter _ (List.pairwise_map.mpr (List.pairwise_lt_range.imp fun h => by omega))
theorem sorted_unique : ∀ {xs ys : List Int}, xs.Pairwise (· < ·) → ys.Pairwise (· < ·) → (∀ x, x ∈ xs ↔ x ∈ ys) → xs = ys
  | [], [], _, _, _ => rfl
  | [], y :: r, _, _, h => absurd ((h y).mpr List.mem_cons_self) (by simp)
  | x :: r, [], _, _, h => absurd ((h x).mp List.mem_cons_self) (by simp)
  | x :: r, y :: s, p, q, h => by
    obtain ⟨p1, p2⟩ := List.pairwise_cons.mp p
    obtain ⟨q1, q2⟩ := List.pairwise_cons.mp q
    have e : x = y := by
      rcases List.mem_cons.mp ((h x).mp List.mem_cons_self) with e | e
      · exact e
      · rcases List.mem_cons.mp ((h y).mpr List.mem_cons_self) with f | f
        · exact f.symm
        · have := q1 x e
          have := p1 y f
          omega
    subst e
    congr 1
    refine sorted_unique p2 q2 fun z => ⟨fun hz => ?_, fun hz => ?_⟩
    · rcases List.mem_cons.mp ((h z).mp (List.mem_cons_of_mem _ hz)) with e | e
      · have := p1 z hz
        omega
      · exact e
    · rcases List.mem_cons.mp ((h z).mpr (List.mem_cons_of_mem _ hz)) with e | e
      · have := q1 z hz
        omega
      · exact e
theorem le_nodup_lt {xs : List Int} (h : xs.Pairwise (· ≤ ·)) (n : xs.Nodup) : xs.Pairwise (· < ·) := by
  refine (h.and n).imp fun ⟨a, b⟩ => ?_
  omega
theorem ClsIs.sorted {bs : List Bar} {xs ys : List Int} (h : ClsIs bs xs) (p : ys.Perm xs) (s : ys.Pairwise (· ≤ ·)) : ys = cls bs := by
  refine sorted_unique (le_nodup_lt s (p.nodup_iff.mpr h.nd)) (cls_up bs) fun x => ?_
  rw [p.mem_iff, h.mem, (cls_is bs).mem]
theorem joinL_len (g turns back whole : Int) (classes lot : List Int) : (joinL g turns back whole classes lot).length ≤ classes.length * lot.length := by
  induction classes with
  | nil => exact Nat.zero_le _
  | cons k r ih =>
    show (rowL g turns back whole k lot ++ joinL g turns back whole r lot).length ≤ (r.length + 1) * lot.length
    have h1 : (rowL g turns back whole k lot).length ≤ lot.length := by
      unfold rowL
      rw [List.length_map]
      exact List.length_filter_le _ _
    rw [List.length_append, Nat.add_mul, Nat.one_mul]
    omega

end R
namespace R
open PySem PySem.Spec PyProof.Rows L2
/-! ## the program's own: the checks, the joining, the sieve -/
/-- Euclid's walk with its factors: r, a the two numbers, F, G the factors' sizes -/
structure Euc (n m r a F G : Nat) (f g : Int) : Prop where
  r1 : 1 ≤ r
  co : Nat.gcd r a = 1
  sum : r * G + a * F = m
  sg : (f = F ∧ g = -(G : Int)) ∨ (f = -(F : Int) ∧ g = G)
  df : (m : Int) ∣ f * n - r
  dg : (m : Int) ∣ g * n - a
theorem Euc.start {n m : Nat} (h1 : 1 ≤ n) (co : Nat.gcd n m = 1) : Euc n m n m 1 0 1 0 := by
  refine ⟨h1, co, by omega, .inl ⟨rfl, rfl⟩, ⟨0, by omega⟩, ⟨-1, by omega⟩⟩
theorem Euc.step {n m r a F G : Nat} {f g : Int} (E : Euc n m r a F G f g) (ha : a ≠ 0) : Euc n m a (r % a) G (F + r / a * G) g (f - ((r / a : Nat) : Int) * g) := by
  have hd := Nat.div_add_mod r a
  refine ⟨Nat.pos_of_ne_zero ha, ?_, ?_, ?_, E.dg, ?_⟩
  · rw [Nat.gcd_comm a (r % a), ← Nat.gcd_rec, Nat.gcd_comm]
    exact E.co
  · have e := E.sum
    rw [← hd] at e
    rw [← e, Nat.mul_add, Nat.add_mul, Nat.mul_assoc]
    omega
  · rcases E.sg with ⟨h1, h2⟩ | ⟨h1, h2⟩
    · refine .inr ⟨h2, ?_⟩
      rw [h1, h2, Int.mul_neg, Int.natCast_add, Int.natCast_mul]
      omega
    · refine .inl ⟨h2, ?_⟩
      rw [h1, h2, Int.natCast_add, Int.natCast_mul]
      omega
  · obtain ⟨x, hx⟩ := E.df
    obtain ⟨y, hy⟩ := E.dg
    refine ⟨x - ((r / a : Nat) : Int) * y, ?_⟩
    have e1 : ((r : Nat) : Int) = (a : Int) * ((r / a : Nat) : Int) + ((r % a : Nat) : Int) := by
      rw [← Int.natCast_mul, ← Int.natCast_add, hd]
    have e2 : f * n = (m : Int) * x + r := by omega
    have e3 : g * n = (m : Int) * y + a := by omega
    rw [Int.sub_mul, Int.mul_assoc, e2, e3, Int.mul_sub, Int.mul_add]
    have e4 : ((r / a : Nat) : Int) * ((m : Int) * y) = (m : Int) * (((r / a : Nat) : Int) * y) := by rw [← Int.mul_assoc, Int.mul_comm _ (m : Int), Int.mul_assoc]
    have e5 : ((r / a : Nat) : Int) * (a : Int) = (a : Int) * ((r / a : Nat) : Int) := Int.mul_comm _ _
    rw [e4, e5]
    omega
theorem Euc.last {n m r F G : Nat} {f g : Int} (E : Euc n m r 0 F G f g) : (m : Int) ∣ (n : Int) * (f % (m : Int)) - 1 := by
  have h1 := E.co
  rw [Nat.gcd_zero_right] at h1
  obtain ⟨x, hx⟩ := E.df
  have hm := Int.mul_ediv_add_emod f (m : Int)
  generalize f / (m : Int) = q at hm
  refine ⟨x - (n : Int) * q, ?_⟩
  have e : f % (m : Int) = f - (m : Int) * q := by omega
  have e2 : (n : Int) * f = (m : Int) * x + 1 := by
    rw [Int.mul_comm]
    omega
  rw [e, Int.mul_sub, e2, Int.mul_sub]
  have e4 : (n : Int) * ((m : Int) * q) = (m : Int) * ((n : Int) * q) := by rw [← Int.mul_assoc, Int.mul_comm (n : Int), Int.mul_assoc]
  rw [e4]
  omega
def sp_p_inverse : Sp := fun vs H Q _ => ∃ n m : Nat, vs = [.int n, .int m] ∧ 1 ≤ n ∧ n < 2 ^ 150 ∧ 1 ≤ m ∧ m < 2 ^ 150 ∧ Nat.gcd n m = 1 ∧ ∀ (v : Int) (H' : Hp), Same H H' → 0 ≤ v → v < m → (m : Int) ∣ (n : Int) * v - 1 → Q (.int v) H'
section
variable {P : Program} {w : World} {K : PySem.W.Frag} {mg : Str → Option Value} {base : Heap}
theorem ok_p_inverse (T : Txt K mg) : FnOk P w K mg base CX0 2 T.f_p_inverse T.fd_p_inverse ["number", "modulus"] sp_p_inverse := by
  refine T.F_p_inverse.ok sc_p_inverse (fun vs H Q E h => ?_) (fun cdv A outer s H vs Q E hr h => ?_)
  · obtain ⟨n, m, rfl, _⟩ := h
    rfl
  · obtain ⟨n, m, rfl, h1, h2, h3, h4, co, q⟩ := h
    refine ⟨_, (pss_cons (ps_par (i := 2) (j := 3) (by rfl) sc_p_inverse.nd rfl rfl (by decide) rfl rfl (pa_cons (pv 0) (pa_cons (pv 1) pa_nil)) (by rfl))
      (pss_cons (ps_asg (pe_tup (pa_cons pe_int (pa_cons pe_int pa_nil))) (pg_tup (by rfl) (pgs_cons (pg_name (i := 4) sc_p_inverse.nd rfl (by first | exact .inl rfl | exact .inr rfl)) (pgs_cons (pg_name (i := 5) sc_p_inverse.nd rfl (by first | exact .inl rfl | exact .inr rfl)) pgs_nil))))
      (pss_cons (ps_while PassesOwn.never (pt_cmpR op_ne (pv 3) pe_int (nomark _)) (pss_cons (ps_set (i := 6) sc_p_inverse.nd rfl (by first | exact .inl rfl | exact .inr rfl) (pe_op op_fdivW (pv 2) (pv 3)))
      (pss_cons (ps_par (i := 2) (j := 3) (by rfl) sc_p_inverse.nd rfl rfl (by decide) rfl rfl (pa_cons (pv 3) (pa_cons (pe_op op_sub (pv 2) (pe_op op_mulW (pv 6) (pv 3))) pa_nil)) (by rfl))
      (pss_one (ps_par (i := 4) (j := 5) (by rfl) sc_p_inverse.nd rfl rfl (by decide) rfl rfl (pa_cons (pv 5) (pa_cons (pe_op op_sub (pv 4) (pe_op op_mulW (pv 6) (pv 5))) pa_nil)) (by rfl))))))
      (pss_one (ps_ret (pe_op op_mod (pv 4) (pv 1))))))), ?_⟩
    refine ⟨_, rfl, _, rfl, _, _, rfl, ?_⟩
    refine ⟨sizeOk (by show (2 : Nat) ≤ 100000; decide), fun p np => ⟨p, _, rfl, tupOf upd_same, rfl, _, _, rfl, _, _, rfl, rfl, ?_⟩⟩
    have s1 : Same H (upd H p (.tup [.int 1, .int 0])) := same_upd np
    generalize upd H p (.tup [.int 1, .int 0]) = H1 at s1
    refine while_by (fun σ H2 => ∃ (r a F G : Nat) (f g : Int) (x : Option V), σ = [some (.int n), some (.int m), some (.int r), some (.int a), some (.int f), some (.int g), x] ∧ Euc n m r a F G f g ∧ r < 2 ^ 150 ∧ a < 2 ^ 150 ∧ H2 = H1)
      (fun σ _ => match σ with | [_, _, _, some (.int a), _, _, _] => a.toNat | _ => 0) ⟨n, m, 1, 0, 1, 0, none, rfl, Euc.start h1 co, h2, h4, rfl⟩ ?_ ?_
    · rintro σ H2 ⟨r, a, F, G, f, g, x, rfl, U, hr1, ha1, rfl⟩
      refine ⟨_, rfl, rfl, _, rfl, ite2 (fun e => ?_) (fun e => ?_)⟩
      · have h0 : a ≠ 0 := fun z => by
          subst z
          have e' : (!decide (V.int ((0 : Nat) : Int) = V.int 0)) = true := e
          exact absurd e' (by decide)
        have ap : 0 < a := Nat.pos_of_ne_zero h0
        have hd := Nat.div_add_mod r a
        have q1 : r / a ≤ r := Nat.div_le_self _ _
        have sm := U.sum
        have g1 : 1 * G ≤ r * G := Nat.mul_le_mul_right _ U.r1
        have f1 : 1 * F ≤ a * F := Nat.mul_le_mul_right _ ap
        have gl : g.natAbs < 2 ^ 150 := by
          rcases U.sg with ⟨_, z⟩ | ⟨_, z⟩ <;> omega
        refine ⟨_, rfl, _, rfl, _, _, rfl, rfl, wide_div (b := 150) (by omega) (by rw [Int.natAbs_natCast]; exact ha1) (by decide) (by decide), ?_⟩
        refine ⟨_, rfl, _, rfl, _, rfl, _, rfl, _, _, rfl, rfl, ?_, _, _, rfl, rfl, _, _, rfl, ?_⟩
        · rw [divNat]
          exact wide_mul (a := 150) (b := 150) (by rw [Int.natAbs_natCast]; omega) (by rw [Int.natAbs_natCast]; exact ha1) (by decide) (by decide) (by decide)
        refine ⟨_, rfl, _, rfl, _, rfl, _, rfl, _, _, rfl, rfl, ?_, _, _, rfl, rfl, _, _, rfl, ?_, ?_⟩
        · rw [divNat]
          exact wide_mul (a := 150) (b := 150) (by rw [Int.natAbs_natCast]; omega) gl (by decide) (by decide) (by decide)
        · refine ⟨a, r % a, G, F + r / a * G, g, f - ((r / a : Nat) : Int) * g, some (.int ((r / a : Nat) : Int)), ?_, U.step h0, ha1, Nat.lt_of_le_of_lt (Nat.mod_le _ _) hr1, rfl⟩
          have em : (r : Int) - (r : Int) / (a : Int) * (a : Int) = ((r % a : Nat) : Int) := by
            rw [← modNat, Int.emod_def, Int.mul_comm]
          show ([some (.int n), some (.int m), some (.int a), some (.int ((r : Int) - (r : Int) / (a : Int) * (a : Int))), some (.int g), some (.int (f - (r : Int) / (a : Int) * g)), some (.int ((r : Int) / (a : Int)))] : L2.St) = _
          rw [em, divNat]
        · show ((r : Int) - (r : Int) / (a : Int) * (a : Int)).toNat < ((a : Nat) : Int).toNat
          have em : (r : Int) - (r : Int) / (a : Int) * (a : Int) = ((r % a : Nat) : Int) := by
            rw [← modNat, Int.emod_def, Int.mul_comm]
          rw [em, Int.toNat_natCast, Int.toNat_natCast]
          exact Nat.mod_lt _ ap
      · have e' : ¬ (!decide (V.int (a : Int) = V.int 0)) = true := e
        have a0 : a = 0 := by
          by_cases z : V.int (a : Int) = V.int 0
          · have := V.int.inj z
            omega
          · rw [decide_eq_false z] at e'
            exact absurd rfl e'
        subst a0
        refine ⟨_, rfl, _, rfl, _, _, rfl, rfl, by show 0 < (m : Int); omega, ?_⟩
        exact q _ _ s1 (Int.emod_nonneg _ (by omega)) (Int.emod_lt_of_pos _ (by omega)) U.last
    · intro σ H2 Q1 Q2 hQ h
      obtain ⟨v, hv, hs, k, hk, hq⟩ := h
      exact ⟨v, hv, hs, k, hk, hQ _ _ hq⟩
end

end R
namespace R
open PySem PySem.Spec PyProof.Rows L2
theorem samePut {H H' : Hp} {p : Addr} {o : HO} (s : Same H H') (h : H p = none) : Same H (upd H' p o) := fun b u e => by
  rw [upd_ne (ne_of_none e h)]
  exact s b u e
theorem freshOf {H H' : Hp} {p : Addr} (s : Same H H') (h : H' p = none) : H p = none := s.free h
theorem rowL_len (g turns back whole known : Int) (lot : List Int) : (rowL g turns back whole known lot).length ≤ lot.length := by
  unfold rowL
  rw [List.length_map]
  exact List.length_filter_le _ _
theorem joinL_len2 {g turns back whole k : Int} {xs lot : List Int} {i j : Nat} (hi : i < xs.length) : (joinL g turns back whole (xs.take i) lot ++ rowL g turns back whole k (lot.take j)).length ≤ xs.length * lot.length := by
  have h1 := joinL_len g turns back whole (xs.take i) lot
  have h2 := rowL_len g turns back whole k (lot.take j)
  rw [List.length_take] at h1 h2
  rw [List.length_append]
  have h3 : (i + 1) * lot.length ≤ xs.length * lot.length := Nat.mul_le_mul_right _ hi
  rw [Nat.add_mul, Nat.one_mul] at h3
  have h4 : min i xs.length = i := by omega
  rw [h4] at h1
  omega
def sp_p_joined (K : PySem.W.Frag) : Sp := fun vs H Q _ => ∃ (c : Addr) (xs lot : List Int) (w m : Nat) (v : V), vs = [.ref c, .int w, .int m, v] ∧ SqL K H c (xs.map V.int) ∧ LotAt K H v lot ∧ 1 ≤ w ∧ w < 2 ^ 130 ∧ 1 ≤ m ∧ m ≤ 1000000 ∧
  (∀ x ∈ xs, 0 ≤ x ∧ x < (w : Int)) ∧ (∀ r ∈ lot, 0 ≤ r ∧ r < (m : Int)) ∧ xs.length * lot.length ≤ 100000 ∧
  ∀ (D : Addr) (H' : Hp) (g t b w' : Int), Same H H' → Meet g t b w w' m → ((Nat.lcm w m : Nat) : Int) = (w : Int) * t → H' D = some (.lst ((joinL g t b w xs lot).map V.int)) → Q (.ref D) H'
section
variable {P : Program} {w : World} {K : PySem.W.Frag} {mg : Str → Option Value} {base : Heap}
theorem ok_p_joined (T : Txt K mg) : FnOk P w K mg base CX0 3 T.f_p_joined T.fd_p_joined ["classes", "whole", "modulus", "lot"] (sp_p_joined K) := by
  refine T.F_p_joined.ok sc_p_joined (fun vs H Q E h => ?_) (fun cdv A outer s H vs Q E hr h => ?_)
  · obtain ⟨c, xs, lot, W, m, v, rfl, _⟩ := h
    rfl
  · obtain ⟨c, xs, lot, W, m, v, rfl, hc, hL, w1, w2, m1, m2, hx, hl, hsz, q⟩ := h
    refine ⟨_, (pss_cons (ps_set (i := 4) sc_p_joined.nd rfl (by first | exact .inl rfl | exact .inr rfl) (pe_callBfun cr_gcd (by rfl) T.g_gcd (pa_cons (pv 1) (pa_cons (pv 2) pa_nil))))
      (pss_cons (ps_set (i := 5) sc_p_joined.nd rfl (by first | exact .inl rfl | exact .inr rfl) (pe_op op_fdivW (pv 2) (pv 4)))
      (pss_cons (ps_set (i := 6) sc_p_joined.nd rfl (by first | exact .inl rfl | exact .inr rfl) (pe_call (ok_p_inverse T) (hr.mono (by decide)) (by rfl) T.g_p_inverse T.F_p_inverse.kp T.b_p_inverse .nil pass0 (pa_cons (pe_op op_fdivW (pv 1) (pv 4)) (pa_cons (pv 5) pa_nil))))
      (pss_cons (ps_set (i := 7) sc_p_joined.nd rfl (by first | exact .inl rfl | exact .inr rfl) (pe_lst pa_nil))
      (pss_cons (ps_for PassesOwn.never rfl (pi_list (pv 0)) (pg_name (i := 8) sc_p_joined.nd rfl (by first | exact .inl rfl | exact .inr rfl)) (pss_one (ps_for PassesOwn.never rfl (pi_tup (pv 3)) (pg_name (i := 9) sc_p_joined.nd rfl (by first | exact .inl rfl | exact .inr rfl)) (pss_cons (ps_set (i := 10) sc_p_joined.nd rfl (by first | exact .inl rfl | exact .inr rfl) (pe_op op_sub (pv 9) (pv 8)))
      (pss_one (ps_if (pt_cmpR op_eq (pe_op op_mod (pv 10) (pv 4)) pe_int (nomark _)) (pss_one (ps_expr (pe_bm PySem.F.plainAttrs_list PySem.F.slot_list_append PySem.F.type_list_append mt_append (pv 7) (pa_cons (pe_op op_add (pv 8) (pe_op op_mulW (pv 1) (pe_op op_mod (pe_op op_mulW (pe_op op_fdivW (pv 10) (pv 4)) (pv 6)) (pv 5)))) pa_nil)))) pss_nil))))))
      (pss_one (ps_ret (pv 7)))))))), ?_⟩
    have hg : 0 < Nat.gcd W m := Nat.gcd_pos_of_pos_left _ w1
    have gm : Nat.gcd W m ≤ m := Nat.gcd_le_right _ m1
    have gw : Nat.gcd W m ≤ W := Nat.gcd_le_left _ w1
    refine ⟨_, rfl, _, rfl, _, _, rfl, ?_⟩
    rw [Int.natAbs_natCast, Int.natAbs_natCast]
    have ew : Nat.gcd W m * (W / Nat.gcd W m) = W := Nat.mul_div_cancel' (Nat.gcd_dvd_left W m)
    have em : Nat.gcd W m * (m / Nat.gcd W m) = m := Nat.mul_div_cancel' (Nat.gcd_dvd_right W m)
    have cop : Nat.gcd (W / Nat.gcd W m) (m / Nat.gcd W m) = 1 := by rw [Nat.gcd_div (Nat.gcd_dvd_left W m) (Nat.gcd_dvd_right W m)]; exact Nat.div_self hg
    have lcmE : Nat.lcm W m = W * (m / Nat.gcd W m) := Nat.mul_div_assoc W (Nat.gcd_dvd_right W m)
    have t1 : 1 ≤ m / Nat.gcd W m := Nat.div_pos gm hg
    have t2 : m / Nat.gcd W m ≤ m := Nat.div_le_self _ _
    have v1 : 1 ≤ W / Nat.gcd W m := Nat.div_pos gw hg
    have v2 : W / Nat.gcd W m ≤ W := Nat.div_le_self _ _
    generalize Nat.gcd W m = g at *
    generalize ht : m / g = t at *
    generalize hw : W / g = w' at *
    have dm : (m : Int) / (g : Int) = (t : Int) := by rw [divNat, ht]
    have dw : (W : Int) / (g : Int) = (w' : Int) := by rw [divNat, hw]
    refine ⟨_, rfl, _, rfl, _, _, rfl, rfl, wide_div (b := 30) (by omega) (by rw [Int.natAbs_natCast]; omega) (by decide) (by decide), ?_⟩
    refine ⟨_, rfl, _, rfl, _, _, rfl, rfl, wide_div (b := 30) (by omega) (by rw [Int.natAbs_natCast]; omega) (by decide) (by decide), _, rfl, w', t, by rw [← dw, ← dm]; rfl, v1, by omega, t1, by omega, cop, fun back H1 s1 b0 b1 hb => ?_⟩
    have M : Meet (g : Int) (t : Int) back (W : Int) (w' : Int) (m : Int) := ⟨by omega, by omega, by omega, by rw [← Int.natCast_mul, ew], by rw [← Int.natCast_mul, em], hb⟩
    refine ⟨Nat.zero_le _, fun F nF => ?_⟩
    have nF0 := freshOf s1 nF
    obtain ⟨a, rfl, ta⟩ := hL.ex
    have s2 : Same H (upd H1 F (.lst [])) := samePut s1 nF0
    refine ⟨_, rfl, c, rfl, ⟨_, s2.seq hc⟩, for_list (K := K) (a := c) (xs := xs.map V.int) (fun i σ Hj => ∃ (x8 x9 x10 : Option V), σ = [some (.ref c), some (.int W), some (.int m), some (.ref a), some (.int g), some (.int ((m : Int) / (g : Int))), some (.int back), some (.ref F), x8, x9, x10] ∧
      Same H Hj ∧ Hj F = some (.lst ((joinL g t back W (xs.take i) lot).map V.int)))
      ⟨none, none, none, rfl, s2, upd_same⟩ (fun i σ Hj _ ⟨_, _, _, _, sj, _⟩ => sj.seq hc) ?_ ?_⟩
    · rintro i y σ Hj hi ⟨x8, x9, x10, rfl, sj, ej⟩
      obtain ⟨k, hk, rfl⟩ := getMapInt' hi
      have kx := hx k (List.mem_of_getElem? hk)
      refine ⟨_, rfl, a, rfl, ⟨_, Same.seqTT sj ta⟩, for_tup (K := K) (a := a) (xs := lot.map V.int) (fun j σ H2 => ∃ (x9 x10 : Option V), σ = [some (.ref c), some (.int W), some (.int m), some (.ref a), some (.int g), some (.int ((m : Int) / (g : Int))), some (.int back), some (.ref F), some (.int k), x9, x10] ∧
        Same H H2 ∧ H2 F = some (.lst ((joinL g t back W (xs.take i) lot ++ rowL g t back W k (lot.take j)).map V.int)))
        ⟨x9, x10, rfl, sj, by rw [ej]; show _ = some (HO.lst ((_ ++ []).map V.int)); rw [List.append_nil]⟩ (fun j σ H2 _ ⟨_, _, _, s3, _⟩ => Same.seqTT s3 ta) ?_ ?_⟩
      · rintro j z σ H2 hj ⟨y9, y10, rfl, s3, e3⟩
        obtain ⟨r, hr0, rfl⟩ := getMapInt' hj
        have rx := hl r (List.mem_of_getElem? hr0)
        refine ⟨_, rfl, _, rfl, _, _, rfl, rfl, ?_⟩
        refine ⟨_, rfl, _, rfl, _, _, rfl, rfl, by show (0 : Int) < (g : Int); omega, rfl, _, rfl, ite2 (fun e => ?_) (fun e => ?_)⟩
        · have e0 : (r - k) % (g : Int) = 0 := V.int.inj (of_decide_eq_true e)
          have nd : ((r - k) / (g : Int)).natAbs ≤ (r - k).natAbs := Int.natAbs_ediv_le_natAbs _ _
          refine ⟨_, rfl, .inl ⟨rfl, _, lstOf e3⟩, _, rfl, _, rfl, _, rfl, _, rfl, _, _, rfl, rfl, wide_div (b := 30) (by omega) (by rw [Int.natAbs_natCast]; omega) (by decide) (by decide), _, rfl, _, _, rfl, rfl,
            wide_mul (a := 150) (b := 30) (by omega) (by omega) (by decide) (by decide) (by decide), _, rfl, _, _, rfl, rfl, by show (0 : Int) < (m : Int) / (g : Int); rw [dm]; omega, _, _, rfl, rfl, ?_, _, _, rfl, rfl, ?_⟩
          · have u0 := Int.emod_nonneg ((r - k) / (g : Int) * back) (show ((m : Int) / (g : Int)) ≠ 0 by rw [dm]; omega)
            have u1 := Int.emod_lt_of_pos ((r - k) / (g : Int) * back) (show 0 < ((m : Int) / (g : Int)) by rw [dm]; omega)
            rw [dm] at u0 u1 ⊢
            exact wide_mul (a := 150) (b := 30) (by rw [Int.natAbs_natCast]; omega) (by omega) (by decide) (by decide) (by decide)
          · have hlen : (joinL g t back W (xs.take i) lot ++ rowL g t back W k (lot.take j)).length ≤ 100000 := Nat.le_trans (joinL_len2 (List.getElem?_eq_some_iff.mp hk).1) hsz
            refine ⟨F, _, _, rfl, rfl, e3, by rw [List.length_map]; exact sizeLt (by omega), ?_⟩
            refine ⟨_, _, rfl, samePut s3 nF0, ?_⟩
            rw [upd_same, takeSucc hr0, rowL_add, if_pos e0, ← List.append_assoc]
            generalize joinL g t back W (xs.take i) lot ++ rowL g t back W k (lot.take j) = L
            rw [List.map_append, dm]
            rfl
        · have e0 : ¬ (r - k) % (g : Int) = 0 := fun z => e (decide_eq_true (congrArg V.int z))
          refine ⟨_, _, rfl, s3, ?_⟩
          rw [e3, takeSucc hr0, rowL_add, if_neg e0, List.append_nil]
      · rintro σ H2 ⟨y9, y10, rfl, s3, e3⟩
        refine ⟨_, _, _, rfl, s3, ?_⟩
        rw [e3, List.length_map, List.take_length, takeSucc hk, joinL_add]
    · rintro σ H2 ⟨y8, y9, y10, rfl, s3, e3⟩
      rw [List.length_map, List.take_length] at e3
      exact ⟨_, rfl, q F H2 g t back w' s3 M (by rw [lcmE, Int.natCast_mul]) e3⟩
end

end R
namespace R
open PySem PySem.Spec PyProof.Rows L2
/-! ## what any value is: integers, lots, bars -/
def kOdd (K : PySem.W.Frag) (H : Hp) (x : V) : Prop := (∃ b, x = .bl b) ∨ ∃ t, TyX K H x (.type t) ∧ kitB t "int" = some false
theorem kOdd.ni {K : PySem.W.Frag} {H : Hp} {x : V} (h : kOdd K H x) (i : Int) : x ≠ .int i := by
  rintro rfl
  rcases h with ⟨b, e⟩ | ⟨t, h1, h2⟩
  · cases e
  · cases h1 with
    | base h =>
      cases h
      exact absurd h2 (by decide +kernel)
/-- an integer or something else whose kind is known -/
def Itm (K : PySem.W.Frag) (H : Hp) (x : V) : Prop := (∃ i, x = .int i) ∨ kOdd K H x
def NotTup (K : PySem.W.Frag) (H : Hp) (x : V) : Prop := ∃ t, TyX K H x (.type t) ∧ kitB t "tuple" = some false
def ascV (m : Int) : Int → List V → Bool
  | _, [] => true
  | lo, .int i :: r => (decide (lo ≤ i) && decide (i ≤ m - 1)) && ascV m (i + 1) r
  | _, _ :: _ => false
theorem ascV_ni {m lo : Int} {x : V} {r : List V} (h : ∀ i, x ≠ .int i) : ascV m lo (x :: r) = false := by
  cases x with
  | int i => exact absurd rfl (h i)
  | _ => rfl
theorem ascV_int {m lo i : Int} {r : List V} : ascV m lo (.int i :: r) = ((decide (lo ≤ i) && decide (i ≤ m - 1)) && ascV m (i + 1) r) := rfl
theorem ascV_iff {m : Int} : ∀ {l : List Int} {lo : Int}, ascV m lo (l.map V.int) = true ↔ l.Pairwise (· < ·) ∧ (∀ r ∈ l, lo ≤ r) ∧ ∀ r ∈ l, r < m
  | [], lo => ⟨fun _ => ⟨.nil, fun r h => by simp at h, fun r h => by simp at h⟩, fun _ => rfl⟩
  | x :: l, lo => by
    show ((decide (lo ≤ x) && decide (x ≤ m - 1)) && ascV m (x + 1) (l.map V.int)) = true ↔ _
    rw [Bool.and_eq_true, Bool.and_eq_true, decide_eq_true_iff, decide_eq_true_iff, ascV_iff (l := l) (lo := x + 1)]
    constructor
    · rintro ⟨⟨h1, h2⟩, h3, h4, h5⟩
      refine ⟨List.pairwise_cons.mpr ⟨fun z hz => by have := h4 z hz; omega, h3⟩, fun r hr => ?_, fun r hr => ?_⟩
      · rcases List.mem_cons.mp hr with rfl | hr
        · exact h1
        · have := h4 r hr
          omega
      · rcases List.mem_cons.mp hr with rfl | hr
        · omega
        · exact h5 r hr
    · rintro ⟨h1, h2, h3⟩
      obtain ⟨h4, h5⟩ := List.pairwise_cons.mp h1
      have := h3 x List.mem_cons_self
      exact ⟨⟨h2 x List.mem_cons_self, by omega⟩, h5, fun r hr => by have := h4 r hr; omega, fun r hr => h3 r (List.mem_cons_of_mem _ hr)⟩
theorem LotOk.asc {m : Int} {l : List Int} (h : LotOk m l) : ascV m 0 (l.map V.int) = true := ascV_iff.mpr ⟨h.up, h.ge, h.lt⟩
def barV : V → List V → Bool
  | .int m, zs => (decide (1 ≤ m) && decide (m ≤ 1000000)) && (ascV m 0 zs && decide (zs.length ≤ 60))
  | _, _ => false
theorem barV_ni {x : V} {r : List V} (h : ∀ i, x ≠ .int i) : barV x r = false := by
  cases x with
  | int i => exact absurd rfl (h i)
  | _ => rfl
theorem itmInts {K : PySem.W.Frag} {H : Hp} (l : List Int) : ∀ y ∈ l.map V.int, Itm K H y := fun y h => by
  obtain ⟨i, _, rfl⟩ := List.mem_map.mp h
  exact .inl ⟨i, rfl⟩
def sp_p_is_integer (K : PySem.W.Frag) : Sp := fun vs H Q _ => ∃ x : V, vs = [x] ∧ ((∃ i, x = .int i ∧ Q (.bl true) H) ∨ (kOdd K H x ∧ Q (.bl false) H))
def sp_p_integer_within (K : PySem.W.Frag) : Sp := fun vs H Q _ => ∃ (x : V) (lo hi : Int), vs = [x, .int lo, .int hi] ∧ ((∃ i, x = .int i ∧ Q (.bl (decide (lo ≤ i) && decide (i ≤ hi))) H) ∨ (kOdd K H x ∧ Q (.bl false) H))
def sp_p_is_ascending (K : PySem.W.Frag) : Sp := fun vs H Q _ => ∃ (x : V) (m : Int), vs = [x, .int m] ∧ ((NotTup K H x ∧ Q (.bl false) H) ∨ ∃ a xs, x = .ref a ∧ SqT K H a xs ∧ (∀ y ∈ xs, Itm K H y) ∧ Q (.bl (ascV m 0 xs)) H)
def sp_p_is_lot (K : PySem.W.Frag) : Sp := fun vs H Q _ => ∃ (x : V) (m : Int), vs = [x, .int m] ∧ ((NotTup K H x ∧ Q (.bl false) H) ∨ ∃ a xs, x = .ref a ∧ SqT K H a xs ∧ (∀ y ∈ xs, Itm K H y) ∧ Q (.bl (ascV m 0 xs && decide (xs.length ≤ 60))) H)
def sp_p_is_pair (K : PySem.W.Frag) : Sp := fun vs H Q _ => ∃ x : V, vs = [x] ∧ ((NotTup K H x ∧ Q (.bl false) H) ∨ ∃ a xs, x = .ref a ∧ SqT K H a xs ∧ Q (.bl (decide (xs.length = 2))) H)
def sp_p_is_bar (K : PySem.W.Frag) : Sp := fun vs H Q _ => ∃ x : V, vs = [x] ∧ ((NotTup K H x ∧ Q (.bl false) H) ∨ ∃ a xs, x = .ref a ∧ SqT K H a xs ∧ ((xs.length ≠ 2 ∧ Q (.bl false) H) ∨
  ∃ y z, xs = [y, z] ∧ Itm K H y ∧ ((NotTup K H z ∧ Q (.bl false) H) ∨ ∃ c zs, z = .ref c ∧ SqT K H c zs ∧ (∀ u ∈ zs, Itm K H u) ∧ Q (.bl (barV y zs)) H)))
section
variable {P : Program} {w : World} {K : PySem.W.Frag} {mg : Str → Option Value} {base : Heap}
theorem ok_p_is_integer (T : Txt K mg) : FnOk P w K mg base CX0 2 T.f_p_is_integer T.fd_p_is_integer ["value"] (sp_p_is_integer K) := by
  refine T.F_p_is_integer.ok sc_p_is_integer (fun vs H Q E h => ?_) (fun cdv A outer s H vs Q E hr h => ?_)
  · obtain ⟨x, rfl, _⟩ := h
    rfl
  · obtain ⟨x, rfl, h⟩ := h
    refine ⟨_, (pss_one (ps_ret (pe_and (pe_callB call_isi (by rfl) T.z_isinstance (by decide +kernel) (pa_cons (pv 0) (pa_cons (pe_bltn (v := .ty "int") (by rfl) T.z_int (by decide +kernel) rfl) pa_nil))) (pe_one (pe_not (pe_callB call_isi (by rfl) T.z_isinstance (by decide +kernel) (pa_cons (pv 0) (pa_cons (pe_bltn (v := .ty "bool") (by rfl) T.z_bool (by decide +kernel) rfl) pa_nil)))))))), ?_⟩
    rcases h with ⟨x, rfl, q⟩ | ⟨⟨b, rfl⟩ | ⟨t, ht, hk⟩, q⟩
    · refine ⟨_, rfl, _, _, _, _, _, rfl, .ty "int", .base (.int x), kit_ty (r := true) (by decide +kernel), true, rfl, iteT ?_⟩
      exact ⟨_, rfl, _, _, _, _, _, rfl, .ty "bool", .base (.int x), kit_ty (r := false) (by decide +kernel), false, rfl, q⟩
    · refine ⟨_, rfl, _, _, _, _, _, rfl, .ty "int", .base (.bl b), kit_ty (r := true) (by decide +kernel), true, rfl, iteT ?_⟩
      exact ⟨_, rfl, _, _, _, _, _, rfl, .ty "bool", .base (.bl b), kit_ty (r := true) (by decide +kernel), true, rfl, q⟩
    · exact ⟨_, rfl, _, _, _, _, _, rfl, .ty "int", ht, kit_ty (r := false) hk, false, rfl, iteF q⟩
theorem ok_p_integer_within (T : Txt K mg) : FnOk P w K mg base CX0 3 T.f_p_integer_within T.fd_p_integer_within ["value", "least", "greatest"] (sp_p_integer_within K) := by
  refine T.F_p_integer_within.ok sc_p_integer_within (fun vs H Q E h => ?_) (fun cdv A outer s H vs Q E hr h => ?_)
  · obtain ⟨x, lo, hi, rfl, _⟩ := h
    rfl
  · obtain ⟨x, lo, hi, rfl, h⟩ := h
    refine ⟨_, (pss_one (ps_ret (pe_and (pe_call (ok_p_is_integer T) (hr.mono (by decide)) (by rfl) T.g_p_is_integer T.F_p_is_integer.kp T.b_p_is_integer .nil pass0 (pa_cons (pv 0) pa_nil)) (pe_one (pe_chain op_le op_le (pv 1) (pv 0) (pv 2)))))), ?_⟩
    rcases h with ⟨x, rfl, q⟩ | ⟨o, q⟩
    · refine ⟨_, rfl, _, rfl, .inl ⟨x, rfl, true, rfl, iteT ⟨_, rfl, _, rfl, _, _, rfl, rfl, _, rfl, ?_⟩⟩⟩
      by_cases h : lo ≤ x
      · rw [decide_eq_true h] at q ⊢
        exact iteT ⟨_, rfl, _, _, rfl, rfl, q⟩
      · rw [decide_eq_false h] at q ⊢
        exact iteF q
    · exact ⟨_, rfl, _, rfl, .inr ⟨o, false, rfl, iteF q⟩⟩
theorem ok_p_is_ascending (T : Txt K mg) : FnOk P w K mg base CX0 4 T.f_p_is_ascending T.fd_p_is_ascending ["value", "limit"] (sp_p_is_ascending K) := by
  refine T.F_p_is_ascending.ok sc_p_is_ascending (fun vs H Q E h => ?_) (fun cdv A outer s H vs Q E hr h => ?_)
  · obtain ⟨v, m, rfl, _⟩ := h
    rfl
  · obtain ⟨v, m, rfl, h⟩ := h
    refine ⟨_, (pss_cons (ps_if (pt_not (pt_val (pe_callB call_isi (by rfl) T.z_isinstance (by decide +kernel) (pa_cons (pv 0) (pa_cons (pe_bltn (v := .ty "tuple") (by rfl) T.z_tuple (by decide +kernel) rfl) pa_nil))))) (pss_one (ps_ret pe_bl)) pss_nil)
      (pss_cons (ps_set (i := 2) sc_p_is_ascending.nd rfl (by first | exact .inl rfl | exact .inr rfl) pe_int)
      (pss_cons (ps_for PassesOwn.never rfl (pi_tup (pv 0)) (pg_name (i := 3) sc_p_is_ascending.nd rfl (by first | exact .inl rfl | exact .inr rfl)) (pss_cons (ps_if (pt_not (pt_val (pe_call (ok_p_integer_within T) (hr.mono (by decide)) (by rfl) T.g_p_integer_within T.F_p_integer_within.kp T.b_p_integer_within .nil pass0 (pa_cons (pv 3) (pa_cons (pv 2) (pa_cons (pe_op op_sub (pv 1) pe_int) pa_nil)))))) (pss_one (ps_ret pe_bl)) pss_nil)
      (pss_one (ps_set (i := 2) sc_p_is_ascending.nd rfl (by first | exact .inl rfl | exact .inr rfl) (pe_op op_add (pv 3) pe_int)))))
      (pss_one (ps_ret pe_bl))))), ?_⟩
    rcases h with ⟨⟨t, ht, hk⟩, q⟩ | ⟨a, xs, rfl, ta, it, q⟩
    · exact ⟨_, rfl, _, _, _, _, _, rfl, .ty "tuple", ht, kit_ty (r := false) hk, false, rfl, iteT q⟩
    · refine ⟨_, rfl, _, _, _, _, _, rfl, .ty "tuple", tyTup ta, kit_ty (r := true) (by decide +kernel), true, rfl, iteF ?_⟩
      refine ⟨_, rfl, a, rfl, ⟨_, ta⟩, for_tup (K := K) (a := a) (xs := xs) (fun i σ H2 => ∃ (n : Int) (x : Option V), σ = [some (.ref a), some (.int m), some (.int n), x] ∧ ascV m 0 xs = ascV m n (xs.drop i) ∧ H2 = H)
        ⟨0, none, rfl, rfl, rfl⟩ (fun i σ H2 _ ⟨_, _, _, _, e⟩ => by rw [e]; exact ta) ?_ ?_⟩
      · rintro i y σ H2 hi ⟨n, x, rfl, hn, rfl⟩
        have hd : xs.drop i = y :: xs.drop (i + 1) := by
          obtain ⟨h1, h2⟩ := List.getElem?_eq_some_iff.mp hi
          rw [List.drop_eq_getElem_cons h1, h2]
        rw [hd] at hn
        refine ⟨_, rfl, _, rfl, _, rfl, _, _, rfl, rfl, _, _, _, rfl, ?_⟩
        rcases it y (List.mem_of_getElem? hi) with ⟨r, rfl⟩ | o
        · refine .inl ⟨r, rfl, _, rfl, ?_⟩
          rw [ascV_int] at hn
          by_cases h : (decide (n ≤ r) && decide (r ≤ m - 1)) = true
          · rw [h] at hn ⊢
            exact iteF ⟨_, rfl, _, _, rfl, rfl, _, _, rfl, hn, rfl⟩
          · rw [Bool.not_eq_true] at h
            rw [h] at hn ⊢
            rw [Bool.false_and] at hn
            rw [hn] at q
            exact iteT q
        · refine .inr ⟨o, _, rfl, iteT ?_⟩
          rw [hn, ascV_ni o.ni] at q
          exact q
      · rintro σ H2 ⟨n, x, rfl, hn, rfl⟩
        rw [List.drop_length] at hn
        rw [hn] at q
        exact q
theorem ok_p_is_lot (T : Txt K mg) : FnOk P w K mg base CX0 5 T.f_p_is_lot T.fd_p_is_lot ["value", "modulus"] (sp_p_is_lot K) := by
  refine T.F_p_is_lot.ok sc_p_is_lot (fun vs H Q E h => ?_) (fun cdv A outer s H vs Q E hr h => ?_)
  · obtain ⟨v, m, rfl, _⟩ := h
    rfl
  · obtain ⟨v, m, rfl, h⟩ := h
    refine ⟨_, (pss_one (ps_ret (pe_and (pe_call (ok_p_is_ascending T) (hr.mono (by decide)) (by rfl) T.g_p_is_ascending T.F_p_is_ascending.kp T.b_p_is_ascending .nil pass0 (pa_cons (pv 0) (pa_cons (pv 1) pa_nil))) (pe_one (pe_cmpR op_le (pe_callB call_len_seq (by rfl) T.z_len (by decide +kernel) (pa_cons (pv 0) pa_nil)) (pe_glob (v := .int 60) (by rfl) T.c_MOST_RESTS.choose_spec ⟨_, rfl⟩) (nomark _)))))), ?_⟩
    rcases h with ⟨o, q⟩ | ⟨a, xs, rfl, ta, it, q⟩
    · exact ⟨_, rfl, _, rfl, v, m, rfl, .inl ⟨o, false, rfl, iteF q⟩⟩
    · refine ⟨_, rfl, _, rfl, _, m, rfl, .inr ⟨a, xs, rfl, ta, it, _, rfl, ?_⟩⟩
      cases e : ascV m 0 xs with
      | false =>
        rw [e] at q
        exact iteF q
      | true =>
        refine iteT ⟨_, rfl, a, _, rfl, .inr ta, _, _, rfl, rfl, ?_⟩
        rw [e, Bool.true_and] at q
        have e2 : decide ((xs.length : Int) ≤ 60) = decide (xs.length ≤ 60) := by
          rw [Bool.eq_iff_iff, decide_eq_true_iff, decide_eq_true_iff]
          omega
        show Q (.bl (decide ((xs.length : Int) ≤ 60))) H
        rw [e2]
        exact q
theorem ok_p_is_pair (T : Txt K mg) : FnOk P w K mg base CX0 2 T.f_p_is_pair T.fd_p_is_pair ["value"] (sp_p_is_pair K) := by
  refine T.F_p_is_pair.ok sc_p_is_pair (fun vs H Q E h => ?_) (fun cdv A outer s H vs Q E hr h => ?_)
  · obtain ⟨v, rfl, _⟩ := h
    rfl
  · obtain ⟨v, rfl, h⟩ := h
    refine ⟨_, (pss_one (ps_ret (pe_and (pe_callB call_isi (by rfl) T.z_isinstance (by decide +kernel) (pa_cons (pv 0) (pa_cons (pe_bltn (v := .ty "tuple") (by rfl) T.z_tuple (by decide +kernel) rfl) pa_nil))) (pe_one (pe_cmpR op_eq (pe_callB call_len_seq (by rfl) T.z_len (by decide +kernel) (pa_cons (pv 0) pa_nil)) pe_int (nomark _)))))), ?_⟩
    rcases h with ⟨⟨t, ht, hk⟩, q⟩ | ⟨a, xs, rfl, ta, q⟩
    · exact ⟨_, rfl, _, _, _, _, _, rfl, .ty "tuple", ht, kit_ty (r := false) hk, false, rfl, iteF q⟩
    · refine ⟨_, rfl, _, _, _, _, _, rfl, .ty "tuple", tyTup ta, kit_ty (r := true) (by decide +kernel), true, rfl, iteT ?_⟩
      refine ⟨_, rfl, a, _, rfl, .inr ta, rfl, ?_⟩
      have e2 : decide (V.int (xs.length : Int) = V.int 2) = decide (xs.length = 2) := by
        rw [Bool.eq_iff_iff, decide_eq_true_iff, decide_eq_true_iff]
        exact ⟨fun h => by have := V.int.inj h; omega, fun h => by rw [h]; rfl⟩
      show Q (.bl (decide (V.int (xs.length : Int) = V.int 2))) H
      rw [e2]
      exact q
theorem ok_p_is_bar (T : Txt K mg) : FnOk P w K mg base CX0 6 T.f_p_is_bar T.fd_p_is_bar ["value"] (sp_p_is_bar K) := by
  refine T.F_p_is_bar.ok sc_p_is_bar (fun vs H Q E h => ?_) (fun cdv A outer s H vs Q E hr h => ?_)
  · obtain ⟨v, rfl, _⟩ := h
    rfl
  · obtain ⟨v, rfl, h⟩ := h
    refine ⟨_, (pss_cons (ps_if (pt_not (pt_val (pe_call (ok_p_is_pair T) (hr.mono (by decide)) (by rfl) T.g_p_is_pair T.F_p_is_pair.kp T.b_p_is_pair .nil pass0 (pa_cons (pv 0) pa_nil)))) (pss_one (ps_ret pe_bl)) pss_nil)
      (pss_cons (ps_asg (pv 0) (pg_tup (by rfl) (pgs_cons (pg_name (i := 1) sc_p_is_bar.nd rfl (by first | exact .inl rfl | exact .inr rfl)) (pgs_cons (pg_name (i := 2) sc_p_is_bar.nd rfl (by first | exact .inl rfl | exact .inr rfl)) pgs_nil))))
      (pss_one (ps_ret (pe_and (pe_call (ok_p_integer_within T) (hr.mono (by decide)) (by rfl) T.g_p_integer_within T.F_p_integer_within.kp T.b_p_integer_within .nil pass0 (pa_cons (pv 1) (pa_cons pe_int (pa_cons (pe_glob (v := .int 1000000) (by rfl) T.c_GREATEST_MODULUS.choose_spec ⟨_, rfl⟩) pa_nil)))) (pe_one (pe_call (ok_p_is_lot T) (hr.mono (by decide)) (by rfl) T.g_p_is_lot T.F_p_is_lot.kp T.b_p_is_lot .nil pass0 (pa_cons (pv 2) (pa_cons (pv 1) pa_nil))))))))), ?_⟩
    rcases h with ⟨o, q⟩ | ⟨a, xs, rfl, ta, h⟩
    · exact ⟨_, rfl, v, rfl, .inl ⟨o, _, rfl, iteT q⟩⟩
    · refine ⟨_, rfl, _, rfl, .inr ⟨a, xs, rfl, ta, ?_⟩⟩
      rcases h with ⟨h, q⟩ | ⟨y, z, rfl, iy, h⟩
      · rw [decide_eq_false h]
        exact ⟨_, rfl, iteT q⟩
      · refine ⟨_, rfl, iteF ⟨_, rfl, a, _, rfl, ta, rfl, _, _, rfl, _, _, rfl, rfl, ?_⟩⟩
        refine ⟨_, rfl, _, _, _, rfl, ?_⟩
        rcases iy with ⟨m, rfl⟩ | o
        · refine .inl ⟨m, rfl, _, rfl, ?_⟩
          cases e : (decide (1 ≤ m) && decide (m ≤ 1000000)) with
          | false =>
            refine iteF ?_
            rcases h with ⟨_, q⟩ | ⟨c, zs, rfl, tc, iz, q⟩
            · exact q
            · have e3 : barV (.int m) zs = false := by
                show ((decide (1 ≤ m) && decide (m ≤ 1000000)) && _) = false
                rw [e]
                rfl
              rw [e3] at q
              exact q
          | true =>
            refine iteT ⟨_, rfl, _, rfl, z, m, rfl, ?_⟩
            rcases h with ⟨o, q⟩ | ⟨c, zs, rfl, tc, iz, q⟩
            · exact .inl ⟨o, q⟩
            · refine .inr ⟨c, zs, rfl, tc, iz, ?_⟩
              have e3 : barV (.int m) zs = (ascV m 0 zs && decide (zs.length ≤ 60)) := by
                show ((decide (1 ≤ m) && decide (m ≤ 1000000)) && _) = _
                rw [e]
                rfl
              rw [e3] at q
              exact q
        · refine .inr ⟨o, _, rfl, iteF ?_⟩
          rcases h with ⟨_, q⟩ | ⟨c, zs, rfl, tc, iz, q⟩
          · exact q
          · rw [barV_ni o.ni] at q
            exact q
end
theorem BarOk.bar {b : Bar} (h : BarOk b) : barV (.int b.1) (b.2.map V.int) = true := by
  have h1 := h.pos
  have h2 := h.most
  have h3 := h.lot.few
  show ((decide (1 ≤ b.1) && decide (b.1 ≤ 1000000)) && (ascV b.1 0 (b.2.map V.int) && decide ((b.2.map V.int).length ≤ 60))) = true
  rw [decide_eq_true h1, decide_eq_true h2, h.lot.asc, List.length_map, decide_eq_true h3]
  rfl

end R
namespace R
open PySem PySem.Spec PyProof.Rows L2
theorem small5000 {n : Nat} (h : n ≤ 1000000) : n < 2 ^ 5000 := Nat.lt_of_le_of_lt h (by decide)
theorem choices_take_le : ∀ (bs : List Bar) (i : Nat), choices (bs.take i) ≤ choices bs := by
  refine snocInd (fun i => by rw [List.take_nil]; exact Nat.le_refl _) fun bs b ih i => ?_
  rw [choices_add]
  by_cases hi : i ≤ bs.length
  · rw [List.take_append_of_le_length hi]
    have h1 := ih i
    have h2 : choices bs * 1 ≤ choices bs * max 1 b.2.length := Nat.mul_le_mul_left _ (by omega)
    omega
  · rw [List.take_of_length_le (by rw [List.length_append]; show bs.length + 1 ≤ i; omega), choices_add]
    exact Nat.le_refl _
/-- bars that are in order, whatever their whole -/
structure PreOk (bs : List Bar) : Prop where
  six : bs.length ≤ 6
  bar : ∀ b ∈ bs, BarOk b
theorem SvOk.pre {bs : List Bar} (h : SvOk bs) : PreOk bs := ⟨h.six, h.bar⟩
theorem PreOk.mods {bs : List Bar} (h : PreOk bs) : ModsOk bs := ⟨h.six, fun b hb => ⟨(h.bar b hb).pos, (h.bar b hb).most⟩⟩
theorem SvOk.mods {bs : List Bar} (h : SvOk bs) : ModsOk bs := ⟨h.six, fun b hb => ⟨(h.bar b hb).pos, (h.bar b hb).most⟩⟩
theorem Drawn.sv {most top : Nat} {bs : List Bar} (h : Drawn most top bs) (h6 : most ≤ 6) (ht : top ≤ 1000000) (hw : wh bs ≤ 10 ^ 30) : SvOk bs :=
  ⟨Nat.le_trans h.len h6, fun b hb => let ⟨a, c, d⟩ := h.bar b hb; ⟨a, by omega, d⟩, hw, h.many⟩
def sp_p_classes_of (K : PySem.W.Frag) : Sp := fun vs H Q _ => ∃ (v : V) (bs : List Bar), vs = [v] ∧ BarsAt K H v bs ∧ SvOk bs ∧ ∀ t H', Same H H' → H' t = some (.tup ((cls bs).map V.int)) → Q (.ref t) H'
section
variable {P : Program} {w : World} {K : PySem.W.Frag} {mg : Str → Option Value} {base : Heap}
theorem ok_p_classes_of (T : Txt K mg) : FnOk P w K mg base CX0 4 T.f_p_classes_of T.fd_p_classes_of ["bars"] (sp_p_classes_of K) := by
  refine T.F_p_classes_of.ok sc_p_classes_of (fun vs H Q E h => ?_) (fun cdv A outer s H vs Q E hr h => ?_)
  · obtain ⟨v, bs, rfl, _⟩ := h
    rfl
  · obtain ⟨v, bs, rfl, B, S, q⟩ := h
    refine ⟨_, (pss_cons (ps_set (i := 1) sc_p_classes_of.nd rfl (by first | exact .inl rfl | exact .inr rfl) pe_int)
      (pss_cons (ps_set (i := 2) sc_p_classes_of.nd rfl (by first | exact .inl rfl | exact .inr rfl) (pe_lst (pa_cons pe_int pa_nil)))
      (pss_cons (ps_for PassesOwn.never rfl (pi_tup (pv 0)) (pg_tup (by rfl) (pgs_cons (pg_name (i := 3) sc_p_classes_of.nd rfl (by first | exact .inl rfl | exact .inr rfl)) (pgs_cons (pg_name (i := 4) sc_p_classes_of.nd rfl (by first | exact .inl rfl | exact .inr rfl)) pgs_nil))) (pss_cons (ps_set (i := 2) sc_p_classes_of.nd rfl (by first | exact .inl rfl | exact .inr rfl) (pe_call (ok_p_joined T) (hr.mono (by decide)) (by rfl) T.g_p_joined T.F_p_joined.kp T.b_p_joined .nil pass0 (pa_cons (pv 2) (pa_cons (pv 1) (pa_cons (pv 3) (pa_cons (pv 4) pa_nil))))))
      (pss_one (ps_set (i := 1) sc_p_classes_of.nd rfl (by first | exact .inl rfl | exact .inr rfl) (pe_callBfun cr_lcmW (by rfl) T.g_lcm (pa_cons (pv 1) (pa_cons (pv 3) pa_nil)))))))
      (pss_one (ps_ret (pe_callTy call_tuple_of (by rfl) T.z_tuple (by decide +kernel) (pa_cons (pe_callB cr_sortedI (by rfl) T.z_sorted (by decide +kernel) (pa_cons (pv 2) pa_nil)) pa_nil))))))), ?_⟩
    obtain ⟨a, xs, rfl, ta, nx, hx⟩ := B.ex
    have M := S.mods
    refine ⟨sizeOk (by show (1 : Nat) ≤ 100000; decide), fun c0 n0 => ?_⟩
    have s0 : Same H (upd H c0 (.lst [.int 0])) := same_upd n0
    refine ⟨_, rfl, a, rfl, ⟨_, Same.seqTT s0 ta⟩, for_tup (K := K) (a := a) (xs := xs) (fun i σ H2 => ∃ (c : Addr) (ys : List Int) (x y : Option V), σ = [some (.ref a), some (.int (wh (bs.take i) : Nat)), some (.ref c), x, y] ∧
        H2 c = some (.lst (ys.map V.int)) ∧ ClsIs (bs.take i) ys ∧ ys.length ≤ choices (bs.take i) ∧ Same H H2)
      ⟨c0, [0], none, none, rfl, upd_same, ClsIs.nil, Nat.le_refl _, s0⟩ (fun i σ H2 _ ⟨_, _, _, _, _, _, _, _, s2⟩ => Same.seqTT s2 ta) ?_ ?_⟩
    · rintro i x σ H2 hi ⟨c, ys, y1, y2, rfl, ec, C, hlen, s2⟩
      have hl : i < bs.length := by
        have := (List.getElem?_eq_some_iff.mp hi).1
        omega
      have hb : bs[i]? = some bs[i] := List.getElem?_eq_getElem hl
      obtain ⟨p, l, rfl, tp, L⟩ := (hx i x _ hi hb).ex
      have hB := S.bar _ (List.getElem_mem hl)
      have hch := Nat.le_trans (choices_take_le bs i) S.many
      generalize bs[i] = b at hb tp hB L
      have hw := (M.take i).lt
      have hp := (M.take i).pos
      have h1 := hB.pos
      have h2 := hB.most
      have hf := hB.lot.few
      have hmn : b.1 = ((b.1.toNat : Nat) : Int) := by omega
      have hmul : ys.length * b.2.length ≤ choices (bs.take (i + 1)) := by
        rw [takeSucc hb, choices_add]
        exact Nat.mul_le_mul hlen (by omega)
      have hch2 := Nat.le_trans (choices_take_le bs (i + 1)) S.many
      refine ⟨p, [_, _], rfl, Same.seqTT s2 tp, rfl, _, _, rfl, _, _, rfl, rfl, ?_⟩
      refine ⟨_, rfl, _, rfl, _, rfl, _, rfl, c, ys, b.2, wh (bs.take i), b.1.toNat, l, by rw [← hmn]; rfl, lstOf ec, L.stay (.same s2), hp, hw, by omega, by omega, fun z hz => let ⟨q1, q2, _⟩ := (C.mem z).mp hz; ⟨q1, q2⟩,
        fun r hr => ⟨hB.lot.ge r hr, by have := hB.lot.lt r hr; omega⟩, ?_, fun D H3 g t bk w' s3 Mt hlcm eD => ?_⟩
      · omega
      · rw [← hmn] at Mt
        refine ⟨_, rfl, _, rfl, wh (bs.take i), b.1.toNat, by rw [← hmn], Nat.lt_trans hw (by decide), small5000 (by omega), ?_⟩
        have ew : wh (bs.take (i + 1)) = Nat.lcm (wh (bs.take i)) b.1.toNat := by
          rw [takeSucc hb, wh_add, show b.1.natAbs = b.1.toNat by omega]
        refine ⟨D, joinL g t bk (wh (bs.take i) : Nat) ys b.2, some (.int b.1), some l, ?_, eD, ?_, ?_, s2.trans s3⟩
        · rw [ew]
          rfl
        · rw [takeSucc hb]
          refine C.add Mt hB.lot ?_
          rw [← takeSucc hb, ew]
          exact hlcm
        · rw [takeSucc hb, choices_add]
          have j1 := joinL_len g t bk (wh (bs.take i) : Nat) ys b.2
          have j2 : ys.length * b.2.length ≤ choices (bs.take i) * max 1 b.2.length := Nat.mul_le_mul hlen (by omega)
          omega
    · rintro σ H2 ⟨c, ys, y1, y2, rfl, ec, C, hlen, s2⟩
      rw [nx, List.take_length] at C
      refine ⟨_, rfl, c, ys, rfl, lstOf ec, fun zs p pz sz np => ?_⟩
      have e := C.sorted pz sz
      subst e
      refine ⟨p, _, rfl, .inl ⟨lstOf upd_same, fun t nt => ?_⟩⟩
      exact q t _ ((s2.trans (same_upd np)).trans (same_upd nt)) upd_same
end

end R
namespace R
open PySem PySem.Spec PyProof.Rows L2
def sp_p_check_bars (K : PySem.W.Frag) : Sp := fun vs H Q _ => ∃ (v : V) (bs : List Bar), vs = [v] ∧ BarsAt K H v bs ∧ PreOk bs ∧ ∀ H', Same H H' → Q .non H'
section
variable {P : Program} {w : World} {K : PySem.W.Frag} {mg : Str → Option Value} {base : Heap}
theorem ok_p_check_bars (T : Txt K mg) : FnOk P w K mg base CX0 7 T.f_p_check_bars T.fd_p_check_bars ["bars"] (sp_p_check_bars K) := by
  refine T.F_p_check_bars.ok sc_p_check_bars (fun vs H Q E h => ?_) (fun cdv A outer s H vs Q E hr h => ?_)
  · obtain ⟨v, bs, rfl, _⟩ := h
    rfl
  · obtain ⟨v, bs, rfl, B, S, q⟩ := h
    refine ⟨_, (pss_cons (ps_if (PW.pt (pw_or (pt_not (pt_val (pe_callB call_isi (by rfl) T.z_isinstance (by decide +kernel) (pa_cons (pv 0) (pa_cons (pe_bltn (v := .ty "tuple") (by rfl) T.z_tuple (by decide +kernel) rfl) pa_nil))))) (pw_or1 (pt_cmpR op_gt (pe_callB call_len_seq (by rfl) T.z_len (by decide +kernel) (pa_cons (pv 0) pa_nil)) (pe_glob (v := .int 6) (by rfl) T.c_MOST_BARS.choose_spec ⟨_, rfl⟩) (nomark _))))) (pss_one ps_never) pss_nil)
      (pss_one (ps_for PassesOwn.never rfl (pi_enT (by rfl) T.z_enumerate (pa_cons (pv 0) pa_nil)) (pg_tup (by rfl) (pgs_cons (pg_name (i := 1) sc_p_check_bars.nd rfl (by first | exact .inl rfl | exact .inr rfl)) (pgs_cons (pg_name (i := 2) sc_p_check_bars.nd rfl (by first | exact .inl rfl | exact .inr rfl)) pgs_nil))) (pss_one (ps_if (pt_not (pt_val (pe_call (ok_p_is_bar T) (hr.mono (by decide)) (by rfl) T.g_p_is_bar T.F_p_is_bar.kp T.b_p_is_bar .nil pass0 (pa_cons (pv 2) pa_nil)))) (pss_one ps_never) pss_nil))))), ?_⟩
    obtain ⟨a, xs, rfl, ta, nx, hx⟩ := B.ex
    refine ⟨_, rfl, _, _, _, _, _, rfl, .ty "tuple", tyTup ta, kit_ty (r := true) (by decide +kernel), true, rfl, iteF ?_⟩
    refine ⟨_, rfl, a, _, rfl, .inr ta, _, _, rfl, rfl, _, rfl, ite2 (fun e => ?_) (fun e => ?_)⟩
    · have e' := of_decide_eq_true e
      have := S.six
      omega
    · refine ⟨_, rfl, a, xs, rfl, ta, for_it (walk_enT (K := K) (a := a) (xs := xs)) (fun i σ H2 => ∃ (x y : Option V), σ = [some (.ref a), x, y] ∧ Same H H2) ⟨none, none, rfl, Same.refl _⟩ (fun i σ H2 _ ⟨_, _, _, s2⟩ => Same.seqTT s2 ta) ?_ ?_⟩
      · rintro i y σ H2 H3 hi ⟨x1, x2, rfl, s2⟩ ⟨p, z1, z2, rfl, np, rfl, e1, e2⟩
        have s3 := s2.trans (same_upd np (o := .tup [z1, z2]))
        have hl : i < bs.length := by omega
        have hb : bs[i]? = some bs[i] := List.getElem?_eq_getElem hl
        refine ⟨p, _, rfl, tupOf upd_same, rfl, _, _, rfl, _, _, rfl, rfl, ?_⟩
        obtain ⟨a2, x2, rfl, ta2, ⟨c2, rfl, tc2⟩⟩ := ((hx i z2 _ e2 hb).stay (.same s3)).ex
        refine ⟨_, rfl, _, rfl, .inr ⟨a2, _, rfl, ta2, .inr ⟨_, _, rfl, .inl ⟨_, rfl⟩, .inr ⟨c2, _, rfl, tc2, itmInts _, true, congrArg V.bl (S.bar _ (List.getElem_mem hl)).bar, iteF ?_⟩⟩⟩⟩
        exact ⟨_, _, rfl, s3⟩
      · rintro σ H2 ⟨x1, x2, rfl, s2⟩
        exact q _ s2
end

end R
namespace R
open PySem PySem.Spec PyProof.Rows L2
def sp_p_whole_of (K : PySem.W.Frag) : Sp := fun vs H Q _ => ∃ (v : V) (bs : List Bar), vs = [v] ∧ BarsAt K H v bs ∧ SvOk bs ∧ Q (.int (wh bs : Nat)) H
section
variable {P : Program} {w : World} {K : PySem.W.Frag} {mg : Str → Option Value} {base : Heap}
theorem ok_p_whole_of (T : Txt K mg) : FnOk P w K mg base CX0 2 T.f_p_whole_of T.fd_p_whole_of ["bars"] (sp_p_whole_of K) := by
  refine T.F_p_whole_of.ok sc_p_whole_of (fun vs H Q E h => ?_) (fun cdv A outer s H vs Q E hr h => ?_)
  · obtain ⟨v, bs, rfl, _⟩ := h
    rfl
  · obtain ⟨v, bs, rfl, B, S, q⟩ := h
    refine ⟨_, (pss_cons (ps_set (i := 1) sc_p_whole_of.nd rfl (by first | exact .inl rfl | exact .inr rfl) pe_int)
      (pss_cons (ps_for PassesOwn.never rfl (pi_tup (pv 0)) (pg_tup (by rfl) (pgs_cons (pg_name (i := 2) sc_p_whole_of.nd rfl (by first | exact .inl rfl | exact .inr rfl)) (pgs_cons (pg_name (i := 3) sc_p_whole_of.nd rfl (by first | exact .inl rfl | exact .inr rfl)) pgs_nil))) (pss_one (ps_set (i := 1) sc_p_whole_of.nd rfl (by first | exact .inl rfl | exact .inr rfl) (pe_callBfun cr_lcmW (by rfl) T.g_lcm (pa_cons (pv 1) (pa_cons (pv 2) pa_nil))))))
      (pss_cons (ps_if (pt_cmpR op_gt (pv 1) (pe_glob (v := .int 1000000000000000000000000000000) (by rfl) T.c_GREATEST_WHOLE.choose_spec ⟨_, rfl⟩) (nomark _)) (pss_one ps_never) pss_nil)
      (pss_one (ps_ret (pv 1)))))), ?_⟩
    obtain ⟨a, xs, rfl, ta, nx, hx⟩ := B.ex
    have M := S.mods
    refine ⟨_, rfl, a, rfl, ⟨_, ta⟩, for_tup (K := K) (a := a) (xs := xs) (fun i σ H2 => ∃ x y : Option V, σ = [some (.ref a), some (.int (wh (bs.take i) : Nat)), x, y] ∧ H2 = H)
      ⟨none, none, rfl, rfl⟩ (fun i σ H2 _ ⟨_, _, _, e⟩ => by rw [e]; exact ta) ?_ ?_⟩
    · rintro i x σ H2 hi ⟨y1, y2, rfl, rfl⟩
      have hl : i < bs.length := by
        have := (List.getElem?_eq_some_iff.mp hi).1
        omega
      have hb : bs[i]? = some bs[i] := List.getElem?_eq_getElem hl
      obtain ⟨p, l, rfl, tp, _⟩ := (hx i x _ hi hb).ex
      have hm := M.mod _ (List.getElem_mem hl)
      generalize bs[i] = b at hb tp hm
      have hw := (M.take i).lt
      have hmn : b.1 = ((b.1.toNat : Nat) : Int) := by omega
      refine ⟨p, [_, _], rfl, tp, rfl, _, _, rfl, _, _, rfl, rfl, ?_⟩
      refine ⟨_, rfl, _, rfl, wh (bs.take i), b.1.toNat, by rw [← hmn], Nat.lt_trans hw (by decide), small5000 (by omega), ?_⟩
      refine ⟨some (.int b.1), some l, ?_, rfl⟩
      rw [takeSucc hb, wh_add, show b.1.natAbs = b.1.toNat by omega]
      rfl
    · rintro σ H2 ⟨y1, y2, rfl, rfl⟩
      rw [nx, List.take_length]
      refine ⟨_, rfl, _, _, rfl, rfl, _, rfl, ite2 (fun e => ?_) (fun e => ?_)⟩
      · have e' := of_decide_eq_true e
        have := S.great
        omega
      · exact ⟨_, rfl, q⟩
end

end R
namespace R
open PySem PySem.Spec PyProof.Rows L2
def sp_p_check_choices (K : PySem.W.Frag) : Sp := fun vs H Q _ => ∃ (v : V) (bs : List Bar), vs = [v] ∧ BarsAt K H v bs ∧ SvOk bs ∧ Q .non H
section
variable {P : Program} {w : World} {K : PySem.W.Frag} {mg : Str → Option Value} {base : Heap}
theorem ok_p_check_choices (T : Txt K mg) : FnOk P w K mg base CX0 2 T.f_p_check_choices T.fd_p_check_choices ["bars"] (sp_p_check_choices K) := by
  refine T.F_p_check_choices.ok sc_p_check_choices (fun vs H Q E h => ?_) (fun cdv A outer s H vs Q E hr h => ?_)
  · obtain ⟨v, bs, rfl, _⟩ := h
    rfl
  · obtain ⟨v, bs, rfl, B, S, q⟩ := h
    refine ⟨_, (pss_cons (ps_set (i := 1) sc_p_check_choices.nd rfl (by first | exact .inl rfl | exact .inr rfl) pe_int)
      (pss_cons (ps_for PassesOwn.never rfl (pi_tup (pv 0)) (pg_tup (by rfl) (pgs_cons (pg_name (i := 2) sc_p_check_choices.nd rfl (by first | exact .inl rfl | exact .inr rfl)) (pgs_cons (pg_name (i := 3) sc_p_check_choices.nd rfl (by first | exact .inl rfl | exact .inr rfl)) pgs_nil))) (pss_one (ps_set (i := 1) sc_p_check_choices.nd rfl (by first | exact .inl rfl | exact .inr rfl) (pe_op op_mulW (pv 1) (pe_callB (call_max2 rfl) (by rfl) T.z_max (by decide +kernel) (pa_cons pe_int (pa_cons (pe_callB call_len_seq (by rfl) T.z_len (by decide +kernel) (pa_cons (pv 3) pa_nil)) pa_nil)))))))
      (pss_one (ps_if (pt_cmpR op_gt (pv 1) (pe_glob (v := .int 2000) (by rfl) T.c_MOST_CHOICES.choose_spec ⟨_, rfl⟩) (nomark _)) (pss_one ps_never) pss_nil)))), ?_⟩
    obtain ⟨a, xs, rfl, ta, nx, hx⟩ := B.ex
    refine ⟨_, rfl, a, rfl, ⟨_, ta⟩, for_tup (K := K) (a := a) (xs := xs) (fun i σ H2 => ∃ x y : Option V, σ = [some (.ref a), some (.int (choices (bs.take i) : Nat)), x, y] ∧ H2 = H)
      ⟨none, none, rfl, rfl⟩ (fun i σ H2 _ ⟨_, _, _, e⟩ => by rw [e]; exact ta) ?_ ?_⟩
    · rintro i x σ H2 hi ⟨y1, y2, rfl, rfl⟩
      have hl : i < bs.length := by
        have := (List.getElem?_eq_some_iff.mp hi).1
        omega
      have hb : bs[i]? = some bs[i] := List.getElem?_eq_getElem hl
      obtain ⟨p, l, rfl, tp, ⟨c, rfl, tc⟩⟩ := (hx i x _ hi hb).ex
      have hm := (S.bar _ (List.getElem_mem hl)).lot.few
      have hch := Nat.le_trans (choices_take_le bs i) S.many
      generalize bs[i] = b at hb tp hm tc
      refine ⟨p, [_, _], rfl, tp, rfl, _, _, rfl, _, _, rfl, rfl, ?_⟩
      refine ⟨_, rfl, _, rfl, c, _, rfl, .inr tc, _, _, rfl, _, _, rfl, rfl, ?_, ?_⟩
      · rw [List.length_map, maxIte]
        exact wide_mul (a := 20) (b := 20) (by rw [Int.natAbs_natCast]; omega) (by rw [Int.natAbs_natCast]; omega) (by decide) (by decide) (by decide)
      · refine ⟨some (.int b.1), some (.ref c), ?_, rfl⟩
        rw [List.length_map, maxIte, takeSucc hb, choices_add, Int.natCast_mul]
        rfl
    · rintro σ H2 ⟨y1, y2, rfl, rfl⟩
      rw [nx, List.take_length]
      refine ⟨_, rfl, _, _, rfl, rfl, _, rfl, ite2 (fun e => ?_) (fun e => ?_)⟩
      · have e' := of_decide_eq_true e
        have := S.many
        omega
      · exact q
end

end R
namespace R
open PySem PySem.Spec PyProof.Rows L2
/-! ## the sieve as an object -/
theorem putF_len (f : Str) (v : V) : ∀ fs : List (Str × V), (putF f v fs).length ≤ fs.length + 1
  | [] => Nat.le_refl _
  | (g, x) :: r => by
    show (if g = f then (g, v) :: r else (g, x) :: putF f v r).length ≤ r.length + 1 + 1
    split
    · exact Nat.le_succ _
    · exact Nat.succ_le_succ (putF_len f v r)
theorem nBW : ¬ (("_bars" : Str) = "_whole") := by decide +kernel
theorem nBC : ¬ (("_bars" : Str) = "_classes") := by decide +kernel
theorem nWC : ¬ (("_whole" : Str) = "_classes") := by decide +kernel
/-- the attributes in the order in which they are stored -/
def flds (v : V) (n : Int) (t : V) : List (Str × V) := putF "_classes" t (putF "_whole" (.int n) (putF "_bars" v []))
theorem flds_bars (v : V) (n : Int) (t : V) : (flds v n t).lookup ("_bars" : Str) = some v := by
  unfold flds
  rw [lookup_putF, if_neg nBC, lookup_putF, if_neg nBW, lookup_putF, if_pos rfl]
theorem flds_whole (v : V) (n : Int) (t : V) : (flds v n t).lookup ("_whole" : Str) = some (.int n) := by
  unfold flds
  rw [lookup_putF, if_neg nWC, lookup_putF, if_pos rfl]
theorem flds_classes (v : V) (n : Int) (t : V) : (flds v n t).lookup ("_classes" : Str) = some t := by
  unfold flds
  rw [lookup_putF, if_pos rfl]
/-- a Sieve of the bars bs stands at p: v its bars, t its classes -/
structure SvAt (K : PySem.W.Frag) (C : Addr) (H : Hp) (p : Addr) (v : V) (t : Addr) (bs : List Bar) : Prop where
  ob : ∃ dx, H p = some (.ins C dx (flds v (wh bs : Nat) (.ref t)))
  bars : BarsAt K H v bs
  cls : SqT K H t ((cls bs).map V.int)
  ok : SvOk bs
theorem SvAt.stay {K : PySem.W.Frag} {C : Addr} {H H' : Hp} {p : Addr} {v : V} {t : Addr} {bs : List Bar} (h : SvAt K C H p v t bs) (s : Same H H') : SvAt K C H' p v t bs :=
  ⟨let ⟨dx, e⟩ := h.ob; ⟨dx, s _ _ e⟩, h.bars.stay (.same s), Same.seqTT s h.cls, h.ok⟩
theorem SvAt.keep {K : PySem.W.Frag} {C : Addr} {H H' : Hp} {p r : Addr} {v : V} {t : Addr} {bs : List Bar} {L : Addr} (h : SvAt K C H p v t bs) (R : RowAt H r L) (s : Kp r H H') : SvAt K C H' p v t bs := by
  obtain ⟨dx, e⟩ := h.ob
  obtain ⟨zs, er⟩ := R.lst
  refine ⟨⟨dx, s _ _ (ne_of e er (by intro z; cases z)) e⟩, h.bars.stay (R.tups s), R.tups s _ _ h.cls, h.ok⟩
section
variable {P : Program} {w : World} {K : PySem.W.Frag} {mg : Str → Option Value} {base : Heap}
def sp_get (K : PySem.W.Frag) (C : Addr) (f : V → Addr → List Bar → V) : Sp := fun vs H Q _ => ∃ (p : Addr) (v : V) (t : Addr) (bs : List Bar), vs = [.ref p] ∧ SvAt K C H p v t bs ∧ Q (f v t bs) H
theorem ok_m_Sieve_bars (T : Txt K mg) : FnOk P w K mg base CX0 2 T.f_m_Sieve_bars T.fd_m_Sieve_bars ["self"] (sp_get K T.C fun v _ _ => v) := by
  refine T.F_m_Sieve_bars.ok sc_m_Sieve_bars (fun vs H Q E h => ?_) (fun cdv A outer s H vs Q E hr h => ?_)
  · obtain ⟨p, v, t, bs, rfl, _⟩ := h
    rfl
  · obtain ⟨p, v, t, bs, rfl, S, q⟩ := h
    obtain ⟨dx, e⟩ := S.ob
    exact ⟨_, (pss_one (ps_ret (pe_fld (pv 0) rfl))), _, rfl, p, T.C, dx, _, _, rfl, e, T.cl, T.n_bars, flds_bars _ _ _, q⟩
theorem ok_m_Sieve_whole (T : Txt K mg) : FnOk P w K mg base CX0 2 T.f_m_Sieve_whole T.fd_m_Sieve_whole ["self"] (sp_get K T.C fun _ _ bs => .int (wh bs : Nat)) := by
  refine T.F_m_Sieve_whole.ok sc_m_Sieve_whole (fun vs H Q E h => ?_) (fun cdv A outer s H vs Q E hr h => ?_)
  · obtain ⟨p, v, t, bs, rfl, _⟩ := h
    rfl
  · obtain ⟨p, v, t, bs, rfl, S, q⟩ := h
    obtain ⟨dx, e⟩ := S.ob
    exact ⟨_, (pss_one (ps_ret (pe_fld (pv 0) rfl))), _, rfl, p, T.C, dx, _, _, rfl, e, T.cl, T.n_whole, flds_whole _ _ _, q⟩
theorem ok_m_Sieve_classes (T : Txt K mg) : FnOk P w K mg base CX0 2 T.f_m_Sieve_classes T.fd_m_Sieve_classes ["self"] (sp_get K T.C fun _ t _ => .ref t) := by
  refine T.F_m_Sieve_classes.ok sc_m_Sieve_classes (fun vs H Q E h => ?_) (fun cdv A outer s H vs Q E hr h => ?_)
  · obtain ⟨p, v, t, bs, rfl, _⟩ := h
    rfl
  · obtain ⟨p, v, t, bs, rfl, S, q⟩ := h
    obtain ⟨dx, e⟩ := S.ob
    exact ⟨_, (pss_one (ps_ret (pe_fld (pv 0) rfl))), _, rfl, p, T.C, dx, _, _, rfl, e, T.cl, T.n_classes, flds_classes _ _ _, q⟩

end
/-! ## data -/
def okD (n : Nat) (d : PyData) : Prop := d.canLay0 = true ∧ d.depth ≤ n
theorem okD.shaped {n : Nat} {d : PyData} (h : okD n d) (hn : n ≤ 64) : SeqAt.shaped d = true := by
  unfold SeqAt.shaped
  rw [h.1, decide_eq_true (Nat.le_trans h.2 hn)]
  rfl
theorem okD.eqv {n : Nat} {d : PyData} (h : okD n d) : PyData.eqv d d = true := SeqAt.eqv_refl d h.1
theorem okD.int (i : Int) : okD 0 (.int i) := ⟨rfl, Nat.le_refl _⟩
theorem okD.all {n : Nat} : ∀ {ds : List PyData}, (∀ d ∈ ds, okD n d) → PyData.canLayAll0 ds = true ∧ PyData.depthAll ds ≤ n
  | [], _ => ⟨rfl, Nat.zero_le _⟩
  | d :: ds, h => by
    obtain ⟨a, b⟩ := h d List.mem_cons_self
    obtain ⟨c, e⟩ := okD.all fun x hx => h x (List.mem_cons_of_mem d hx)
    refine ⟨?_, ?_⟩
    · rw [PyData.canLayAll0, a, c]
      rfl
    · rw [PyData.depthAll]
      omega
theorem okD.tup {n : Nat} {ds : List PyData} (h : ∀ d ∈ ds, okD n d) : okD (n + 1) (.tuple ds) := by
  obtain ⟨a, b⟩ := okD.all h
  refine ⟨?_, ?_⟩
  · rw [PyData.canLay0]
    exact a
  · rw [PyData.depth]
    omega
theorem okD.lst {n : Nat} {ds : List PyData} (h : ∀ d ∈ ds, okD n d) : okD (n + 1) (.list ds) := by
  obtain ⟨a, b⟩ := okD.all h
  refine ⟨?_, ?_⟩
  · rw [PyData.canLay0]
    exact a
  · rw [PyData.depth]
    omega
theorem dpInts {K : PySem.W.Frag} {H : Hp} : ∀ l : List Int, DpAll K H (l.map V.int) (l.map PyData.int)
  | [] => .nil
  | i :: l => .cons (.int i) (dpInts l)
theorem dpTup {K : PySem.W.Frag} {H : Hp} {a : Addr} {l : List Int} (h : SqT K H a (l.map V.int)) : Dp K H (.ref a) (.tuple (l.map PyData.int)) := .tup h (dpInts l)
theorem dpLst {K : PySem.W.Frag} {H : Hp} {a : Addr} {l : List Int} (h : SqL K H a (l.map V.int)) : Dp K H (.ref a) (.list (l.map PyData.int)) := .lst h (dpInts l)
theorem okInts (l : List Int) : ∀ d ∈ l.map PyData.int, okD 0 d := fun d h => by
  obtain ⟨i, _, rfl⟩ := List.mem_map.mp h
  exact .int i
theorem eqvNil (l : List Int) : PyData.eqv (.list (l.map PyData.int)) (.list []) = decide (l = []) := by
  rw [PyData.eqv]
  cases l with
  | nil => rfl
  | cons x r => rfl
theorem eqvNilT (l : List Int) : PyData.eqv (.tuple (l.map PyData.int)) (.tuple []) = decide (l = []) := by
  rw [PyData.eqv]
  cases l with
  | nil => rfl
  | cons x r => rfl

end R
namespace R
open PySem PySem.Spec PyProof.Rows L2
def sp_m_Sieve_init (K : PySem.W.Frag) (C : Addr) : Sp := fun vs H Q _ => ∃ (p dx : Addr) (v : V) (bs : List Bar), vs = [.ref p, v] ∧ H p = some (.ins C dx []) ∧ BarsAt K H v bs ∧ SvOk bs ∧
  ∀ (t : Addr) (H' : Hp), (∀ b o, b ≠ p → H b = some o → H' b = some o) → SvAt K C H' p v t bs → Q .non H'
section
variable {P : Program} {w : World} {K : PySem.W.Frag} {mg : Str → Option Value} {base : Heap}
theorem ok_m_Sieve_init (T : Txt K mg) : FnOk P w K mg base CX0 8 T.f_m_Sieve_init T.fd_m_Sieve_init ["self", "bars"] (sp_m_Sieve_init K T.C) := by
  refine T.F_m_Sieve_init.ok sc_m_Sieve_init (fun vs H Q E h => ?_) (fun cdv A outer s H vs Q E hr h => ?_)
  · obtain ⟨p, dx, v, bs, rfl, _⟩ := h
    rfl
  · obtain ⟨p, dx, v, bs, rfl, hp, B, S, q⟩ := h
    refine ⟨_, (pss_cons (ps_expr (pe_call (ok_p_check_bars T) (hr.mono (by decide)) (by rfl) T.g_p_check_bars T.F_p_check_bars.kp T.b_p_check_bars .nil pass0 (pa_cons (pv 1) pa_nil)))
      (pss_cons (ps_fld (pv 0) (pv 1) rfl)
      (pss_cons (ps_fld (pv 0) (pe_call (ok_p_whole_of T) (hr.mono (by decide)) (by rfl) T.g_p_whole_of T.F_p_whole_of.kp T.b_p_whole_of .nil pass0 (pa_cons (pv 1) pa_nil)) rfl)
      (pss_cons (ps_expr (pe_call (ok_p_check_choices T) (hr.mono (by decide)) (by rfl) T.g_p_check_choices T.F_p_check_choices.kp T.b_p_check_choices .nil pass0 (pa_cons (pv 1) pa_nil)))
      (pss_one (ps_fld (pv 0) (pe_call (ok_p_classes_of T) (hr.mono (by decide)) (by rfl) T.g_p_classes_of T.F_p_classes_of.kp T.b_p_classes_of .nil pass0 (pa_cons (pv 1) pa_nil)) rfl)))))), ?_⟩
    have st : ∀ {H1 H2 : Hp} {fs fs' : List (Str × V)}, H1 p = some (.ins T.C dx fs) → TupsStay K H1 (upd H1 p (.ins T.C dx fs')) := fun {H1 H2 fs fs'} e a xs h => by
      rcases h with (h | ⟨o, h⟩) | h
      · exact .inl (.inl (by rw [upd_ne (ne_of h e (by intro z; cases z))]; exact h))
      · exact .inl (.inr ⟨o, by rw [upd_ne (ne_of h e (by intro z; cases z))]; exact h⟩)
      · exact .inr h
    refine ⟨_, rfl, v, bs, rfl, B, S.pre, fun H1 s1 => ?_⟩
    have p1 := s1 _ _ hp
    have B1 := B.stay (.same s1)
    refine ⟨_, rfl, _, rfl, p, T.C, dx, [], rfl, p1, T.cl, T.n_bars, (by show 0 < 1000; decide), ?_⟩
    have B2 : BarsAt K _ v bs := B1.stay (st (H2 := H1) (fs' := putF "_bars" v []) p1)
    refine ⟨_, rfl, v, bs, rfl, B2, S, _, rfl, p, T.C, dx, _, rfl, upd_same, T.cl, T.n_whole, (by show 1 < 1000; decide), ?_⟩
    have B3 := B2.stay (st (H2 := H1) (fs' := putF "_whole" (.int (wh bs : Nat)) (putF "_bars" v [])) upd_same)
    refine ⟨_, rfl, v, bs, rfl, B3, S, ?_⟩
    refine ⟨_, rfl, v, bs, rfl, B3, S, fun t H4 s4 e4 => ?_⟩
    have p4 := s4 _ _ (upd_same (H := upd H1 p (.ins T.C dx (putF "_bars" v []))) (a := p) (o := .ins T.C dx (putF "_whole" (.int (wh bs : Nat)) (putF "_bars" v []))))
    refine ⟨_, rfl, p, T.C, dx, _, rfl, p4, T.cl, T.n_classes, ?_, ?_⟩
    · have l1 := putF_len "_whole" (.int (wh bs : Nat)) (putF "_bars" v [])
      have l2 := putF_len "_bars" v []
      have l3 : ([] : List (Str × V)).length = 0 := rfl
      omega
    · have B4 := B3.stay (.same s4)
      refine q t _ (fun b o n e => ?_) ⟨⟨dx, upd_same⟩, B4.stay (st (H2 := H1) p4), st (H2 := H1) p4 _ _ (tupOf e4), S⟩
      rw [upd_ne n]
      refine s4 _ _ ?_
      rw [upd_ne n, upd_ne n]
      exact s1 _ _ e
/-- Sieve(bars) at a new place x -/
theorem make_sieve {C : Addr} {H : Hp} {v : V} {bs : List Bar} {Q : VK} {E : XK} {x dx : Addr} (B : BarsAt K H v bs) (S : SvOk bs) (nx : H x = none) (ndx : H dx = none)
    (k : ∀ t H', Same H H' → SvAt K C H' x v t bs → Q .non H') : sp_m_Sieve_init K C (.ref x :: ([v] ++ [])) (upd (upd H dx (.own x)) x (.ins C dx [])) Q E := by
  have s0 : Same H (upd (upd H dx (.own x)) x (.ins C dx [])) := samePut (same_upd ndx) nx
  exact ⟨x, dx, v, bs, rfl, upd_same, B.stay (.same s0), S, fun t H' s1 A => k t H' (fun b o e => s1 b o (ne_of_none e nx) (s0 b o e)) A⟩
end

end R
namespace R
open PySem PySem.Spec PyProof.Rows L2
/-! ## the law -/
def sp_law (K : PySem.W.Frag) : Sp := fun vs H Q _ => ∃ (a : Addr) (ns : List Int), vs = [.ref a] ∧ SqL K H a (ns.map V.int) ∧ ns.length ≤ 63 ∧ ∀ H', Q (.bl true) H'
theorem powTop {bs : List Bar} {most top : Nat} (D : Drawn most top bs) (h6 : most ≤ 6) (ht : top ≤ 60) : wh bs ≤ top ^ bs.length := by
  have h : ∀ bs : List Bar, (∀ b ∈ bs, b.1.natAbs ≤ top) → wh bs ≤ top ^ bs.length := by
    refine snocInd (fun _ => by rw [List.length_nil, Nat.pow_zero]; decide) fun bs b ih h => ?_
    rw [wh_add, List.length_append]
    exact Nat.le_trans (lcm_le_mul _ _) (Nat.mul_le_mul (ih fun c hc => h c (List.mem_append_left _ hc)) (h b (List.mem_append_right _ (List.mem_singleton.mpr rfl))))
  exact h bs fun b hb => by
    have := D.bar b hb
    omega
theorem powLe {bs : List Bar} {most top N : Nat} (D : Drawn most top bs) (h6 : most ≤ 6) (h1 : 1 ≤ top) (ht : top ≤ 60) (hN : top ^ most ≤ N) : wh bs ≤ N :=
  Nat.le_trans (powTop D h6 ht) (Nat.le_trans (Nat.pow_le_pow_right h1 D.len) hN)
theorem nilOk : SvOk [] := ⟨by decide, fun b h => by simp at h, by decide, by decide⟩
theorem clsNil : cls [] = [0] := rfl

end R
namespace R
open PySem PySem.Spec PyProof.Rows L2
/-! ## walks within a comprehension's block, told over the written part alone -/
theorem pi_tupK {X : Cx} {K : PySem.W.Frag} {tg e : Expr} {te : TE} (hK : X.K = K) (he : PE X e te) : PI X tg e (iTup K te) := by
  subst hK
  exact pi_tup he
theorem pi_listK {X : Cx} {K : PySem.W.Frag} {tg e : Expr} {te : TE} (hK : X.K = K) (he : PE X e te) : PI X tg e (iList K te) := by
  subst hK
  exact pi_list he
def rTupOf (K : PySem.W.Frag) : List V → Hp → VK → Prop := fun vs H Q => ∃ p ys, vs = [.ref p] ∧ ((SqL K H p ys ∧ ∀ l, H l = none → Q (.ref l) (upd H l (.tup ys))) ∨ (SqT K H p ys ∧ Q (.ref p) H))

end R
namespace R
open PySem PySem.Spec PyProof.Rows L2
/-! ## bars as data -/
/-- bars + (a bar,) -/
theorem catBar {K : PySem.W.Frag} {H : Hp} {v : V} {bs : List Bar} {b : Bar} {p p2 : Addr} {Q : V → Hp → Prop} (B : BarsAt K H v bs) (few : bs.length ≤ 1000) (bar : BarAt K H (.ref p) b) (t2 : SqT K H p2 [.ref p])
    (q : ∀ y H', Same H H' → BarsAt K H' y (bs ++ [b]) → Q y H') : rCatA K v (.ref p2) H Q := by
  obtain ⟨a, xs, rfl, tb, nb, hb⟩ := B.ex
  refine ⟨a, p2, xs, [.ref p], rfl, rfl, tb, t2, sizeOk (by show xs.length + 1 ≤ 100000; omega), fun e => ?_, fun _ e => absurd e (List.cons_ne_nil _ _), fun _ _ q' nq' => ?_⟩
  · subst e
    exact q _ _ (Same.refl _) (BarsAt.add (xs := []) t2 nb (fun j x d h1 h2 => by simp at h1) bar)
  · exact q _ _ (same_upd nq') (BarsAt.add (tupOf upd_same) nb (fun j x d h1 h2 => (hb j x d h1 h2).stay (.same (same_upd nq'))) (bar.stay (.same (same_upd nq'))))
def barD (b : Bar) : PyData := .tuple [.int b.1, .tuple (b.2.map PyData.int)]
theorem dpBar {K : PySem.W.Frag} {H : Hp} {v : V} {b : Bar} (h : BarAt K H v b) : Dp K H v (barD b) := by
  obtain ⟨a, x, rfl, ta, ⟨c, rfl, tc⟩⟩ := h.ex
  exact .tup ta (.cons (.int _) (.cons (dpTup tc) .nil))
theorem dpBars {K : PySem.W.Frag} {H : Hp} {v : V} {bs : List Bar} (h : BarsAt K H v bs) : Dp K H v (.tuple (bs.map barD)) := by
  obtain ⟨a, xs, rfl, ta, nx, hx⟩ := h.ex
  refine .tup ta ?_
  clear ta h
  induction xs generalizing bs with
  | nil =>
    cases bs with
    | nil => exact .nil
    | cons b r => cases nx
  | cons x xs ih =>
    cases bs with
    | nil => cases nx
    | cons b r => exact .cons (dpBar (hx 0 x b rfl rfl)) (ih (Nat.succ.inj nx) fun i y d h1 h2 => hx (i + 1) y d h1 h2)
theorem okBars (bs : List Bar) : okD 3 (.tuple (bs.map barD)) := okD.tup fun d h => by
  obtain ⟨b, _, rfl⟩ := List.mem_map.mp h
  refine okD.tup fun d h => ?_
  rcases List.mem_cons.mp h with rfl | h
  · exact ⟨rfl, Nat.zero_le _⟩
  · rw [List.mem_singleton.mp h]
    exact okD.tup (okInts _)

end R
namespace R
open PySem PySem.Spec PyProof.Rows L2
/-! ## data that are equal -/
theorem eqvInts : ∀ xs ys : List Int, PyData.eqvAll (xs.map PyData.int) (ys.map PyData.int) = decide (xs = ys)
  | [], [] => by
    show PyData.eqvAll [] [] = _
    rw [PyData.eqvAll]
    rfl
  | [], y :: ys => by
    show PyData.eqvAll [] (_ :: _) = _
    rw [PyData.eqvAll] <;> first | rfl | simp
  | x :: xs, [] => by
    show PyData.eqvAll (_ :: _) [] = _
    rw [PyData.eqvAll] <;> first | rfl | simp
  | x :: xs, y :: ys => by
    show PyData.eqvAll (PyData.int x :: xs.map PyData.int) (PyData.int y :: ys.map PyData.int) = _
    rw [PyData.eqvAll, eqvInts xs ys, PyData.eqv]
    by_cases h : x = y
    · subst h
      by_cases h2 : xs = ys
      · subst h2
        simp
      · simp [h2]
    · simp [h]
theorem eqvIntsT (xs ys : List Int) : PyData.eqv (.tuple (xs.map PyData.int)) (.tuple (ys.map PyData.int)) = decide (xs = ys) := by
  rw [PyData.eqv]
  exact eqvInts xs ys
theorem eqvIntsL (xs ys : List Int) : PyData.eqv (.list (xs.map PyData.int)) (.list (ys.map PyData.int)) = decide (xs = ys) := by
  rw [PyData.eqv]
  exact eqvInts xs ys
theorem eqvBar (a b : Bar) : PyData.eqv (barD a) (barD b) = decide (a = b) := by
  obtain ⟨m, l⟩ := a
  obtain ⟨n, k⟩ := b
  show PyData.eqv (.tuple [.int m, .tuple (l.map PyData.int)]) (.tuple [.int n, .tuple (k.map PyData.int)]) = _
  rw [PyData.eqv, PyData.eqvAll, PyData.eqvAll, PyData.eqvAll, eqvIntsT, PyData.eqv]
  by_cases h : m = n
  · subst h
    by_cases h2 : l = k
    · subst h2
      simp
    · simp [h2]
  · simp [h]
theorem eqvBarsAll : ∀ xs ys : List Bar, PyData.eqvAll (xs.map barD) (ys.map barD) = decide (xs = ys)
  | [], [] => by
    show PyData.eqvAll [] [] = _
    rw [PyData.eqvAll]
    rfl
  | [], y :: ys => by
    show PyData.eqvAll [] (_ :: _) = _
    rw [PyData.eqvAll] <;> first | rfl | simp
  | x :: xs, [] => by
    show PyData.eqvAll (_ :: _) [] = _
    rw [PyData.eqvAll] <;> first | rfl | simp
  | x :: xs, y :: ys => by
    show PyData.eqvAll (barD x :: xs.map barD) (barD y :: ys.map barD) = _
    rw [PyData.eqvAll, eqvBarsAll xs ys, eqvBar]
    by_cases h : x = y
    · subst h
      by_cases h2 : xs = ys
      · subst h2
        simp
      · simp [h2]
    · simp [h]
theorem eqvBars (xs ys : List Bar) : PyData.eqv (.tuple (xs.map barD)) (.tuple (ys.map barD)) = decide (xs = ys) := by
  rw [PyData.eqv]
  exact eqvBarsAll xs ys

end R
namespace R
open PySem PySem.Spec PyProof.Rows L2
/-! ## == and != by a class's own __eq__ -/
/-- the other side: an object of the class, a text, None, a tuple -/
inductive Oth (K : PySem.W.Frag) (C : Addr) (H : Hp) : V → Value → Prop
  | ins {b dy : Addr} {gs : List (Str × V)} (e : H b = some (.ins C dy gs)) : Oth K C H (.ref b) (.ref C)
  | str (x : Str) : Oth K C H (.str x) (.type "str")
  | non : Oth K C H .non (.type "NoneType")
  | tup {b : Addr} {xs : List V} (e : SqT K H b xs) : Oth K C H (.ref b) (.type "tuple")
def rOwn (K : PySem.W.Frag) (C : Addr) (sp : Sp) (E : XK) (neg : Bool) : R2 := fun x y H Q => ∃ (a dx : Addr) (fs : List (Str × V)) (t : Value), x = .ref a ∧ H a = some (.ins C dx fs) ∧ Oth K C H y t ∧ PySem.W.notFirst K C t = true ∧
  sp [x, y] H (fun v H' => ∃ b, v = .bl b ∧ Q (.bl (if neg then !b else b)) H') E
section
variable {X : Cx} {CX : CXT} {C f : Addr} {fd : FuncData} {ps : List Str} {sp : Sp} {E : XK} {k : Nat}
theorem Oth.looks {M : Model} {pn : List (Addr × Obj)} {σ : L2.St} {H : Hp} {s : Shared} {y : V} {u t : Value} (I : Inv X pn σ H s) (ry : RelV y u) (o : Oth X.K C H y t) : PySem.W.Looks M s.heap (typeOf u) t := by
  cases o with
  | ins e =>
    obtain rfl : u = Value.ref _ := ry
    obtain ⟨_, J, _⟩ := ins_get I.hok e
    obtain ⟨_, J, _⟩ := J.look
    exact J.type
  | str x =>
    obtain ⟨t, rfl⟩ := (show ∃ t, u = Value.str x t from ry)
    exact .of_pure rfl
  | non =>
    obtain rfl : u = Value.none := ry
    exact .of_pure rfl
  | tup e =>
    obtain rfl : u = Value.ref _ := ry
    obtain ⟨its, _, ⟨o, ho, hc, _⟩, _⟩ := I.tuple e
    exact hc ▸ (PySem.W.Looks.ld ho).andThen .now
/-- the own __eq__ called, somewhere below the running body -/
theorem run_own {A : Around} {pn : List (Addr × Obj)} {σ : L2.St} {H : Hp} {s : Shared} {a : Addr} {y : V} {u : Value} {R : Bool → Hp → Prop} {W : Value → Shared → Prop} (G : FnOk X.prog X.w X.K X.mg X.base CX k f fd ps sp) (room : Room k A) (fr : A.frames = X.A.frames)
    (hb : Binds X.K fd ps []) (hx : Passes CX X E) (I : Inv X pn σ H s) (ry : RelV y u) (h : sp [.ref a, y] H (fun v H' => ∃ b, v = .bl b ∧ R b H') E)
    (fin : ∀ b s' H', Inv X pn σ H' s' → R b H' → W (.bool b) s') : wpAny (model X.prog X.w) A (call (.ref f) [.ref a, u]) W X.xe s := by
  have e0 : Env0 X.prog X.w X.K X.mg X.base A X.stack s H := by
    have e := I.env0
    exact ⟨by rw [fr]; exact e.frames, e.mod, e.bs, e.bsz, e.funs, e.frf, e.hok, e.bare⟩
  have len := G.len _ _ _ _ h
  have rv : Vals [V.ref a, y] [Value.ref a, u] := .cons rfl (.cons ry .nil)
  have bind : BindsTo s fd ⟨[.ref a, u], []⟩ (ps.zip [Value.ref a, u]) := by
    have q := hb s [.ref a, u] I.kIn (by simpa using len)
    simpa using q
  refine wpAny_call (codeAny_mono (G.run A X.stack s H ⟨[.ref a, u], []⟩ [.ref a, u] [.ref a, y] _ E room e0 bind rv h) fun r s' q => ?_)
  cases r with
  | error e => exact hx pn σ H s e s' I q
  | ok fl =>
    cases fl with
    | ret z =>
      obtain ⟨v, H', I', rz, b, ev, hR⟩ := I.after q
      subst ev
      obtain rfl : z = Value.bool b := rz
      exact fin b s' H' I' hR
    | next | brk | cont => exact False.elim q
theorem op_eqO (G : FnOk X.prog X.w X.K X.mg X.base CX k f fd ps sp) (hr : Room k X.A) (hs : PySem.W.findIn X.K (.ref C) "__eq__" = some (some (.ref f))) (hf : PySem.W.isFn X.K (.ref f) = true) (hb : Binds X.K fd ps []) (hx : Passes CX X E) :
    OpR X (compareOp .Eq) (rOwn X.K C sp E false) := by
  intro pn s σ H x y v u Q I rx ry h
  obtain ⟨a, dx, fs, t, rfl, ha, o, nf, h⟩ := h
  obtain rfl : v = Value.ref a := rx
  obtain ⟨_, J, _⟩ := ins_get I.hok ha
  obtain ⟨_, J, _⟩ := J.look
  obtain ⟨_, hF⟩ := I.fr
  show wpAny _ X.A (richCompare .Eq (.ref a) u) _ _ _
  refine PySem.W.cmp_K (op := .Eq) (tb := t) hr.units0 hF I.ok.mod.kin J (o.looks I ry) nf hs hf ?_
  exact run_own G hr rfl hb hx I ry h fun b s' H' I' q => ⟨.bl b, H', I', rfl, q⟩
theorem op_neO (G : FnOk X.prog X.w X.K X.mg X.base CX k f fd ps sp) (hr : Room (k + 1) X.A) (hs : PySem.W.findIn X.K (.ref C) "__eq__" = some (some (.ref f))) (hf : PySem.W.isFn X.K (.ref f) = true) (hb : Binds X.K fd ps []) (hx : Passes CX X E)
    (hn : PySem.W.findIn X.K (.ref C) "__ne__" = some (some (.builtin "object.__ne__"))) (hm : PySem.W.mroIn X.K C (.type "object") = some true) : OpR X (compareOp .NotEq) (rOwn X.K C sp E true) := by
  intro pn s σ H x y v u Q I rx ry h
  obtain ⟨a, dx, fs, t, rfl, ha, o, nf, h⟩ := h
  obtain rfl : v = Value.ref a := rx
  obtain ⟨_, J, _⟩ := ins_get I.hok ha
  obtain ⟨_, J, _⟩ := J.look
  have KI := I.kIn
  have unit : X.A.in1.units < cLine := hr.in1.units0
  have inner : wpAny (model X.prog X.w) X.A (call (.builtin "object.__ne__") [.ref a, u]) (fun z s' => ∃ b, z = .bool (!b) ∧ EP X pn σ Q (.bool (!b)) s') X.xe s := by
    refine wpAny_call (codeAny_call_builtin F.cmp_object.ne.plain F.cmpEntry_ne (PySem.W.check_slot F.cmpKind_ne F.cmpSplit_ne (J.type.andThen (PySem.W.looks_mroIn KI hm)) (F.cmpArgs_ne _ _) ?_))
    have eqq : wpAny (model X.prog X.w) X.A.in1 (callSpecialIfBound? (.ref a) "__eq__" [u]) (fun r s' => ∃ b, r = some (.bool b) ∧ EP X pn σ Q (.bool (!b)) s') X.xe s :=
      PySem.W.ifBound_K KI J hs hf (run_own G hr.in1 rfl hb hx I ry h fun b s' H' I' q => ⟨b, rfl, .bl (!b), H', I', rfl, q⟩)
    unfold Builtin.«object.__ne__»
    repeat (first
      | with_reducible refine wpAny_cRoomFor unit ?_
      | (refine wpAny_bind (m := callSpecialIfBound? (.ref a) (Str.ofString "__eq__") [u]) (wpAny_mono eqq (fun r s' hr' => ?_) fun _ _ e => e)
         obtain ⟨b, rfl, q⟩ := hr'
         repeat (first | exact ⟨b, rfl, q⟩ | (refine wpAny_bind (m := truthy (.bool _)) (wpAny_truthy_bool ?_)) | wp_step))
      | wp_step)
  show wpAny _ X.A (richCompare .NotEq (.ref a) u) _ _ _
  have one : wpAny (model X.prog X.w) X.A (tryCompare (.ref a) (cmpInfo .NotEq).2.1 u) (fun r s' => ∃ z, r = some z ∧ EP X pn σ Q z s') X.xe s := by
    unfold tryCompare
    refine wpAny_bind ?_
    simp only [callSpecialIfBound?, bindSpecialIfBound?]
    refine wpAny_holding <| wpAny_bind <| wpAny_bind <| wpAny_bind <| J.type.here <| (PySem.W.looks_findIn KI hn).here ?_
    refine wpAny_bind <| wpAny_askSetting <| wpAny_ite ?_
    have go : wpAny (model X.prog X.w) X.A (call (.builtin "object.__ne__") ([.ref a] ++ [u]) >>= fun v => pure (some v)) (fun r s' => wpAny (model X.prog X.w) X.A (match r with | some .notImplemented | none => pure none | some v => pure (some v)) (fun r s' => ∃ z, r = some z ∧ EP X pn σ Q z s') X.xe s') X.xe s :=
      wpAny_bind (wpAny_mono inner (fun z s' ⟨b, e, q⟩ => by subst e; exact wpAny_pure (wpAny_pure ⟨_, rfl, q⟩)) fun _ _ e => e)
    split
    · rw [F.cmp_object.ne.bind]
      exact wpAny_bind (wpAny_pure (wpAny_pure go))
    · rw [F.cmp_object.ne.bind]
      exact wpAny_tryCatch (wpAny_bind (wpAny_pure (wpAny_pure go)))
  unfold richCompare
  simp only [oneThing_ref]
  refine wpAny_holding (wpAny_bind (wpAny_cRoomFor hr.units0 ?_))
  refine wpAny_bind (J.type.here (wpAny_bind ((o.looks I ry).here ?_)))
  split
  · rename_i q
    have e : PySem.W.subIn X.K t (.ref C) = some false := by
      rcases Bool.or_eq_true_iff.mp nf with e | e
      · rw [beq_iff_eq.mp e] at q
        simp at q
      · exact beq_iff_eq.mp e
    refine wpAny_bind ((PySem.W.looks_subIn KI e).here ?_)
    simp only [Bool.false_eq_true, if_false]
    refine wpAny_bind (wpAny_mono one (fun r s' ⟨z, ez, q⟩ => ?_) fun _ _ e => e)
    subst ez
    exact wpAny_pure q
  · refine wpAny_bind (wpAny_pure ?_)
    simp only [Bool.false_eq_true, if_false]
    refine wpAny_bind (wpAny_mono one (fun r s' ⟨z, ez, q⟩ => ?_) fun _ _ e => e)
    subst ez
    exact wpAny_pure q
end
/-- one of two readings of an operator -/
def rOr (r1 r2 : R2) : R2 := fun x y H Q => r1 x y H Q ∨ r2 x y H Q
theorem op_or {X : Cx} {f : Value → Value → Sem Value} {r1 r2 : R2} (h1 : OpR X f r1) (h2 : OpR X f r2) : OpR X f (rOr r1 r2) := by
  intro pn s σ H x y v u Q I rx ry h
  rcases h with h | h
  · exact h1 pn s σ H x y v u Q I rx ry h
  · exact h2 pn s σ H x y v u Q I rx ry h
theorem kit_same {K : PySem.W.Frag} {C : Addr} : PySem.W.kitOne K (.ref C) (.ref C) = some true := by
  unfold PySem.W.kitOne
  rw [if_pos (by simp)]
theorem kit_no {K : PySem.W.Frag} {C : Addr} {t : String} (h1 : PySem.W.hasDictIn K C = true) (h2 : PySem.W.typeIn K (.ref C) = some (.type "type")) (h3 : PySem.W.subIn K (.type t) (.ref C) = some false) : PySem.W.kitOne K (.type t) (.ref C) = some false := by
  obtain ⟨cd, hc, _⟩ := PySem.W.any_some h1
  unfold PySem.W.kitOne
  rw [if_neg (by simp)]
  show (if ((PySem.W.clsIn K C).isSome && PySem.W.typeIn K (.ref C) == some (.type "type")) = true then PySem.W.subIn K (.type t) (.ref C) else none) = some false
  rw [hc, h2]
  exact h3

end R
namespace R
open PySem PySem.Spec PyProof.Rows L2
/-! ## two sieves compared -/
def sp_m_Sieve_eq (K : PySem.W.Frag) (C : Addr) : Sp := fun vs H Q _ => ∃ (p : Addr) (v : V) (t : Addr) (bs : List Bar) (y : V), vs = [.ref p, y] ∧ SvAt K C H p v t bs ∧
  ((∃ (p' : Addr) (v' : V) (t' : Addr) (bs' : List Bar), y = .ref p' ∧ SvAt K C H p' v' t' bs' ∧ Q (.bl (decide (bs = bs'))) H) ∨ ∃ t : String, TyX K H y (.type t) ∧ PySem.W.subIn K (.type t) (.ref C) = some false ∧ Q (.bl false) H)
section
variable {P : Program} {w : World} {K : PySem.W.Frag} {mg : Str → Option Value} {base : Heap}
theorem SvAt.ty (T : Txt K mg) {H : Hp} {p : Addr} {v : V} {t : Addr} {bs : List Bar} (S : SvAt K T.C H p v t bs) : TyX K H (.ref p) (.ref T.C) := by
  obtain ⟨dx, e⟩ := S.ob
  exact .base (.ins e T.cl T.kt1 T.kt2 T.kt3 T.moC)
theorem ok_m_Sieve_eq (T : Txt K mg) : FnOk P w K mg base CX0 10 T.f_m_Sieve_eq T.fd_m_Sieve_eq ["self", "other"] (sp_m_Sieve_eq K T.C) := by
  refine T.F_m_Sieve_eq.ok sc_m_Sieve_eq (fun vs H Q E h => ?_) (fun cdv A outer s H vs Q E hr h => ?_)
  · obtain ⟨p, v, t, bs, y, rfl, _⟩ := h
    rfl
  · obtain ⟨p, v, t, bs, y, rfl, S, h⟩ := h
    refine ⟨_, (pss_one (ps_ret (pe_and (pe_callB call_isi (by rfl) T.z_isinstance (by decide +kernel) (pa_cons (pv 1) (pa_cons (pe_glob (v := .ref T.C) (by rfl) T.g_Sieve rfl) pa_nil))) (pe_one (pe_cmpR (op_eqD hr.units) (pe_fld (pv 0) rfl) (pe_fld (pv 1) rfl) (nomark _)))))), ?_⟩
    obtain ⟨dx, e⟩ := S.ob
    rcases h with ⟨p', v', t', bs', rfl, S', q⟩ | ⟨ty, hy, hn, q⟩
    · obtain ⟨dx', e'⟩ := S'.ob
      refine ⟨_, rfl, _, _, _, _, _, rfl, .own T.C, S'.ty T, T.isC, true, rfl, iteT ?_⟩
      refine ⟨_, rfl, p, T.C, dx, _, _, rfl, e, T.cl, T.n_bars, flds_bars _ _ _, _, rfl, p', T.C, dx', _, _, rfl, e', T.cl, T.n_bars, flds_bars _ _ _, ?_⟩
      refine ⟨_, _, dpBars S.bars, dpBars S'.bars, (okBars _).shaped (by decide), (okBars _).shaped (by decide), ?_⟩
      rw [eqvBars]
      exact q
    · exact ⟨_, rfl, _, _, _, _, _, rfl, .own T.C, hy, T.noC ty hn, false, rfl, iteF q⟩
end
theorem nf_same {K : PySem.W.Frag} {C : Addr} : PySem.W.notFirst K C (.ref C) = true := by
  unfold PySem.W.notFirst
  simp
/-- two sieves by == or != -/
theorem ownSv {K : PySem.W.Frag} {C : Addr} {H : Hp} {Q : V → Hp → Prop} {E : XK} {neg : Bool} {p p' t t' : Addr} {v v' : V} {bs bs' : List Bar} (S : SvAt K C H p v t bs) (S' : SvAt K C H p' v' t' bs')
    (q : Q (.bl (if neg then !decide (bs = bs') else decide (bs = bs'))) H) : rOwn K C (sp_m_Sieve_eq K C) E neg (.ref p) (.ref p') H Q := by
  obtain ⟨dx, e⟩ := S.ob
  obtain ⟨dx', e'⟩ := S'.ob
  exact ⟨p, dx, _, _, rfl, e, .ins e', nf_same, p, v, t, bs, _, rfl, S, .inl ⟨p', v', t', bs', rfl, S', _, rfl, q⟩⟩
/-- a sieve and a text by == or != -/
theorem ownTx {K : PySem.W.Frag} {mg : Str → Option Value} (T : Txt K mg) {H : Hp} {Q : V → Hp → Prop} {E : XK} {neg : Bool} {p t : Addr} {v : V} {bs : List Bar} (S : SvAt K T.C H p v t bs) (x : Str)
    (q : Q (.bl (if neg then !false else false)) H) : rOwn K T.C (sp_m_Sieve_eq K T.C) E neg (.ref p) (.str x) H Q := by
  obtain ⟨dx, e⟩ := S.ob
  refine ⟨p, dx, _, _, rfl, e, .str x, ?_, p, v, t, bs, _, rfl, S, .inr ⟨"str", .base (.str x), T.suS, _, rfl, q⟩⟩
  unfold PySem.W.notFirst
  rw [T.suS]
  simp

end R
namespace R
open PySem PySem.Spec PyProof.Rows L2
/-! ## places: the fitting numbers in a row -/
def below (c : List Int) (y : Int) : Nat := (c.filter fun z => decide (z < y)).length
/-- the place of the least fitting number from x on -/
def pl (bs : List Bar) (x : Int) : Int := x / (wh bs : Int) * ((cls bs).length : Int) + (below (cls bs) (x % (wh bs : Int)) : Int)
theorem below_succ {c : List Int} (h : c.Pairwise (· < ·)) (y : Int) : below c (y + 1) = below c y + (if y ∈ c then 1 else 0) := by
  induction c with
  | nil => rfl
  | cons a r ih =>
    obtain ⟨h1, h2⟩ := List.pairwise_cons.mp h
    have ih := ih h2
    unfold below at ih ⊢
    by_cases e : a = y
    · subst e
      have n : a ∉ r := fun z => by have := h1 a z; omega
      rw [if_neg n] at ih
      rw [List.filter_cons_of_pos (by simp; omega), List.filter_cons_of_neg (by simp), List.length_cons, if_pos List.mem_cons_self, ih]
    · have em : (y ∈ a :: r) = (y ∈ r) := by
        rw [List.mem_cons]
        exact propext ⟨fun z => z.elim (fun w => absurd w.symm e) id, .inr⟩
      simp only [em]
      by_cases l : a < y
      · rw [List.filter_cons_of_pos (by simp; omega), List.filter_cons_of_pos (by simp; omega), List.length_cons, List.length_cons, ih]
        omega
      · rw [List.filter_cons_of_neg (by simp; omega), List.filter_cons_of_neg (by simp; omega), ih]
theorem below_zero {c : List Int} (h : ∀ z ∈ c, 0 ≤ z) : below c 0 = 0 := by
  unfold below
  rw [List.filter_eq_nil_iff.mpr fun z hz => by have := h z hz; simp; omega]
  rfl
theorem below_all {c : List Int} {w : Int} (h : ∀ z ∈ c, z < w) : below c w = c.length := by
  unfold below
  rw [List.filter_eq_self.mpr fun z hz => by have := h z hz; simp; omega]
theorem cls_mem {bs : List Bar} {x : Int} : x ∈ cls bs ↔ 0 ≤ x ∧ x < (wh bs : Int) ∧ fitsB bs x = true := (cls_is bs).mem x
theorem divStep {x w : Int} (hw : 0 < w) : (x % w + 1 < w ∧ (x + 1) / w = x / w ∧ (x + 1) % w = x % w + 1) ∨ (x % w + 1 = w ∧ (x + 1) / w = x / w + 1 ∧ (x + 1) % w = 0) := by
  have h0 := Int.emod_nonneg x (Int.ne_of_gt hw)
  have h1 := Int.emod_lt_of_pos x hw
  have h2 := Int.mul_ediv_add_emod x w
  by_cases h : x % w + 1 < w
  · refine .inl ⟨h, ?_⟩
    have e : x + 1 = (x % w + 1) + w * (x / w) := by omega
    rw [e, Int.add_mul_ediv_left _ _ (Int.ne_of_gt hw), Int.add_mul_emod_self_left, Int.ediv_eq_zero_of_lt (by omega) h, Int.emod_eq_of_lt (by omega) h]
    exact ⟨by omega, rfl⟩
  · refine .inr ⟨by omega, ?_⟩
    have e : x + 1 = 0 + w * (x / w + 1) := by rw [Int.mul_add]; omega
    rw [e, Int.add_mul_ediv_left _ _ (Int.ne_of_gt hw), Int.add_mul_emod_self_left]
    exact ⟨by rw [Int.zero_ediv, Int.zero_add], Int.zero_emod _⟩
def PosOk (bs : List Bar) : Prop := 0 < wh bs
theorem pl_succ {bs : List Bar} (hw : 0 < wh bs) (x : Int) : pl bs (x + 1) = pl bs x + (if fitsB bs x = true then 1 else 0) := by
  have hw' : (0 : Int) < (wh bs : Int) := by omega
  have r0 := Int.emod_nonneg x (Int.ne_of_gt hw')
  have r1 := Int.emod_lt_of_pos x hw'
  have key : (below (cls bs) (x % (wh bs : Int) + 1) : Int) = (below (cls bs) (x % (wh bs : Int)) : Int) + (if fitsB bs x = true then 1 else 0) := by
    rw [below_succ (cls_up bs)]
    have em : (x % (wh bs : Int) ∈ cls bs) ↔ fitsB bs x = true := by
      rw [cls_mem, fitsB_mod]
      exact ⟨fun h => h.2.2, fun h => ⟨r0, r1, h⟩⟩
    by_cases f : fitsB bs x = true
    · rw [if_pos (em.mpr f), if_pos f]
      rfl
    · rw [if_neg (fun z => f (em.mp z)), if_neg f]
      rfl
  unfold pl
  rcases divStep (x := x) hw' with ⟨_, e1, e2⟩ | ⟨h, e1, e2⟩
  · rw [e1, e2, key]
    omega
  · rw [e1, e2, below_zero fun z hz => (cls_mem.mp hz).1]
    rw [h, below_all fun z hz => (cls_mem.mp hz).2.1] at key
    rw [Int.add_mul, Int.one_mul]
    omega
/-- how many fit from a on, k numbers -/
def cnt (bs : List Bar) (a : Int) (k : Nat) : Nat := ((List.range k).filter fun i : Nat => fitsB bs (a + i)).length
theorem cnt_succ (bs : List Bar) (a : Int) (k : Nat) : cnt bs a (k + 1) = cnt bs a k + (if fitsB bs (a + k) = true then 1 else 0) := by
  unfold cnt
  rw [List.range_succ, List.filter_append, List.length_append]
  by_cases f : fitsB bs (a + k) = true
  · rw [List.filter_cons_of_pos (p := fun i : Nat => fitsB bs (a + i)) f, if_pos f]
    rfl
  · rw [List.filter_cons_of_neg (p := fun i : Nat => fitsB bs (a + i)) f, if_neg f]
    rfl
theorem pl_add {bs : List Bar} (hw : 0 < wh bs) (a : Int) (k : Nat) : pl bs (a + k) = pl bs a + (cnt bs a k : Int) := by
  induction k with
  | zero =>
    show pl bs (a + 0) = pl bs a + ((0 : Nat) : Int)
    rw [Int.add_zero]
    omega
  | succ k ih =>
    rw [cnt_succ, show a + ((k + 1 : Nat) : Int) = (a + k) + 1 by omega, pl_succ hw, ih]
    by_cases f : fitsB bs (a + k) = true
    · rw [if_pos f, if_pos f]
      omega
    · rw [if_neg f, if_neg f]
      omega
theorem pl_whole {bs : List Bar} (hw : 0 < wh bs) (x j : Int) : pl bs (x + j * (wh bs : Int)) = pl bs x + j * ((cls bs).length : Int) := by
  unfold pl
  rw [Int.add_mul_ediv_right _ _ (by omega), Int.add_mul_emod_self_right, Int.add_mul]
  omega
theorem pl_mono {bs : List Bar} (hw : 0 < wh bs) {a b : Int} (h : a ≤ b) : pl bs a ≤ pl bs b := by
  have e := pl_add hw a (b - a).toNat
  rw [show a + (((b - a).toNat : Nat) : Int) = b by omega] at e
  omega
theorem pl_fit {bs : List Bar} (hw : 0 < wh bs) {a b : Int} (f : fitsB bs a = true) (h : a < b) : pl bs a < pl bs b := by
  have e := pl_succ hw a
  rw [if_pos f] at e
  have := pl_mono hw (show a + 1 ≤ b by omega)
  omega
theorem fit_unique {bs : List Bar} (hw : 0 < wh bs) {a b : Int} (fa : fitsB bs a = true) (fb : fitsB bs b = true) (e : pl bs a = pl bs b) : a = b := by
  by_cases h : a = b
  · exact h
  · by_cases l : a < b
    · have := pl_fit hw fa l
      omega
    · have := pl_fit hw fb (show b < a by omega)
      omega
/-- the fitting number at a place -/
def st (bs : List Bar) (q : Int) : Int := q / ((cls bs).length : Int) * (wh bs : Int) + (cls bs).getD (q % ((cls bs).length : Int)).toNat 0
theorem below_at {c : List Int} (h : c.Pairwise (· < ·)) : ∀ {j : Nat} {x : Int}, c[j]? = some x → below c x = j := by
  induction c with
  | nil => intro j x e; simp at e
  | cons a r ih =>
    obtain ⟨h1, h2⟩ := List.pairwise_cons.mp h
    intro j x e
    cases j with
    | zero =>
      cases Option.some.inj e
      unfold below
      rw [List.filter_eq_nil_iff.mpr fun z hz => ?_]
      · rfl
      · rcases List.mem_cons.mp hz with rfl | hz
        · simp
        · have := h1 z hz
          simp
          omega
    | succ j =>
      have e' : r[j]? = some x := e
      have q := ih h2 e'
      have lt := h1 x (List.mem_of_getElem? e')
      unfold below at q ⊢
      rw [List.filter_cons_of_pos (by simp; omega), List.length_cons, q]
section
variable {bs : List Bar} {q : Int}
theorem st_parts (hw : 0 < wh bs) (hn : 0 < (cls bs).length) : ∃ x, (cls bs)[(q % ((cls bs).length : Int)).toNat]? = some x ∧ st bs q = x + q / ((cls bs).length : Int) * (wh bs : Int) ∧ 0 ≤ x ∧ x < (wh bs : Int) ∧ fitsB bs x = true := by
  have r0 := Int.emod_nonneg q (show ((cls bs).length : Int) ≠ 0 by omega)
  have r1 := Int.emod_lt_of_pos q (show (0 : Int) < ((cls bs).length : Int) by omega)
  have hj : (q % ((cls bs).length : Int)).toNat < (cls bs).length := by omega
  have e := List.getElem?_eq_getElem hj
  refine ⟨_, e, ?_, cls_mem.mp (List.mem_of_getElem? e)⟩
  unfold st
  rw [List.getD_eq_getElem?_getD, e, Int.add_comm]
  rfl
theorem fits_st (hw : 0 < wh bs) (hn : 0 < (cls bs).length) : fitsB bs (st bs q) = true := by
  obtain ⟨x, _, e, x0, x1, f⟩ := st_parts (q := q) hw hn
  rw [e, ← fitsB_mod, Int.add_mul_emod_self_right, fitsB_mod]
  exact f
theorem pl_st (hw : 0 < wh bs) (hn : 0 < (cls bs).length) : pl bs (st bs q) = q := by
  obtain ⟨x, h, e, x0, x1, f⟩ := st_parts (q := q) hw hn
  have r0 := Int.emod_nonneg q (show ((cls bs).length : Int) ≠ 0 by omega)
  have d := Int.mul_ediv_add_emod q ((cls bs).length : Int)
  rw [e, pl_whole hw]
  unfold pl
  rw [Int.emod_eq_of_lt x0 x1, Int.ediv_eq_zero_of_lt x0 x1, Int.zero_mul, Int.zero_add, below_at (cls_up bs) h, Int.mul_comm]
  omega
theorem st_pl (hw : 0 < wh bs) {x : Int} (f : fitsB bs x = true) : st bs (pl bs x) = x := by
  have hn : 0 < (cls bs).length := List.length_pos_of_mem (cls_mem.mpr ⟨Int.emod_nonneg x (by omega), Int.emod_lt_of_pos x (by omega), by rw [fitsB_mod]; exact f⟩)
  exact fit_unique hw (fits_st hw hn) f (pl_st hw hn)
end
theorem cls_empty {bs : List Bar} (hw : 0 < wh bs) (h : cls bs = []) (x : Int) : fitsB bs x = false := by
  cases f : fitsB bs x with
  | false => rfl
  | true =>
    have := cls_mem.mpr ⟨Int.emod_nonneg x (show (wh bs : Int) ≠ 0 by omega), Int.emod_lt_of_pos x (show (0 : Int) < (wh bs : Int) by omega), by rw [fitsB_mod]; exact f⟩
    rw [h] at this
    simp at this
theorem cnt_le (bs : List Bar) (a : Int) (k : Nat) : cnt bs a k ≤ k := by
  unfold cnt
  have h := List.length_filter_le (fun i : Nat => fitsB bs (a + i)) (List.range k)
  rw [List.length_range] at h
  exact h
theorem below_le (c : List Int) (y : Int) : below c y ≤ c.length := List.length_filter_le _ _
/-- how great a place may be -/
theorem pl_size {bs : List Bar} (hw : 0 < wh bs) {x : Int} {N : Nat} (hx : x.natAbs ≤ N) : (pl bs x).natAbs ≤ N * (cls bs).length + (cls bs).length := by
  unfold pl
  have h1 : (x / (wh bs : Int)).natAbs ≤ N := Nat.le_trans (Int.natAbs_ediv_le_natAbs _ _) hx
  have h2 := below_le (cls bs) (x % (wh bs : Int))
  have h3 : (x / (wh bs : Int) * ((cls bs).length : Int)).natAbs ≤ N * (cls bs).length := by
    rw [Int.natAbs_mul, Int.natAbs_natCast]
    exact Nat.mul_le_mul_right _ h1
  omega

end R
namespace R
open PySem PySem.Spec PyProof.Rows L2
theorem below_split {c : List Int} {y : Int} {n : Nat} (hn : n ≤ c.length) (h1 : ∀ (j : Nat) x, j < n → c[j]? = some x → x < y) (h2 : ∀ (j : Nat) x, n ≤ j → c[j]? = some x → ¬ x < y) : below c y = n := by
  unfold below
  have e : c = c.take n ++ c.drop n := (List.take_append_drop n c).symm
  rw [e, List.filter_append]
  rw [List.filter_eq_self.mpr fun z hz => ?_, List.filter_eq_nil_iff.mpr fun z hz => ?_, List.append_nil, List.length_take]
  · omega
  · obtain ⟨j, hj, ez⟩ := List.mem_iff_getElem.mp hz
    rw [List.length_drop] at hj
    rw [List.getElem_drop] at ez
    have q := h2 (n + j) z (by omega) (by rw [List.getElem?_eq_getElem (by omega), ez])
    simpa using q
  · obtain ⟨j, hj, ez⟩ := List.mem_iff_getElem.mp hz
    rw [List.length_take] at hj
    rw [List.getElem_take] at ez
    have q := h1 j z (by omega) (by rw [List.getElem?_eq_getElem (by omega), ez])
    simpa using q
theorem ups {c : List Int} (h : c.Pairwise (· < ·)) {i j : Nat} {x y : Int} (hi : c[i]? = some x) (hj : c[j]? = some y) (l : i ≤ j) : x ≤ y := by
  obtain ⟨a, ea⟩ := List.getElem?_eq_some_iff.mp hi
  obtain ⟨b, eb⟩ := List.getElem?_eq_some_iff.mp hj
  by_cases e : i = j
  · subst e
    rw [← ea, ← eb]
    exact Int.le_refl _
  · have := List.pairwise_iff_getElem.mp h i j a b (by omega)
    omega
/-- divmod of numbers that are not too great -/
theorem divp_small {i j : Int} (hj : 0 < j) (hi : i.natAbs < 2 ^ 3000) : CDivP i j := by
  refine divp_ok hj ?_
  have := PyProof.Rows.intBits_le hi
  omega
theorem nodup_len : ∀ {xs ys : List Int}, xs.Nodup → (∀ x ∈ xs, x ∈ ys) → xs.length ≤ ys.length
  | [], _, _, _ => Nat.zero_le _
  | x :: r, ys, n, h => by
    obtain ⟨n1, n2⟩ := List.nodup_cons.mp n
    have hx := h x List.mem_cons_self
    have ih := nodup_len (ys := ys.erase x) n2 fun y hy => (List.mem_erase_of_ne (fun e => n1 (by rw [← e]; exact hy))).mpr (h y (List.mem_cons_of_mem _ hy))
    rw [List.length_erase_of_mem hx] at ih
    have := List.length_pos_of_mem hx
    show r.length + 1 ≤ ys.length
    omega
theorem cls_choices {bs : List Bar} (S : SvOk bs) : (cls bs).length ≤ choices bs := by
  have h : ∀ bs : List Bar, (∀ b ∈ bs, BarOk b) → ∃ xs, ClsIs bs xs ∧ xs.length ≤ choices bs := by
    refine snocInd (fun _ => ⟨[0], ClsIs.nil, Nat.le_refl _⟩) fun bs b ih h => ?_
    obtain ⟨xs, C, hl⟩ := ih fun c hc => h c (List.mem_append_left _ hc)
    have B := h b (List.mem_append_right _ (List.mem_singleton.mpr rfl))
    have w1 : 0 < wh bs := wh_pos bs fun c hc => (h c (List.mem_append_left _ hc)).pos
    have m1 := B.pos
    have hg : 0 < Nat.gcd (wh bs) b.1.toNat := Nat.gcd_pos_of_pos_left _ w1
    obtain ⟨back, hb⟩ : ∃ back : Int, ((b.1.toNat / Nat.gcd (wh bs) b.1.toNat : Nat) : Int) ∣ ((wh bs / Nat.gcd (wh bs) b.1.toNat : Nat) : Int) * back - 1 := by
      have cop : Nat.gcd (wh bs / Nat.gcd (wh bs) b.1.toNat) (b.1.toNat / Nat.gcd (wh bs) b.1.toNat) = 1 := by
        rw [Nat.gcd_div (Nat.gcd_dvd_left _ _) (Nat.gcd_dvd_right _ _)]
        exact Nat.div_self hg
      have v1 : 1 ≤ wh bs / Nat.gcd (wh bs) b.1.toNat := Nat.div_pos (Nat.gcd_le_left _ w1) hg
      generalize wh bs / Nat.gcd (wh bs) b.1.toNat = n at cop v1
      generalize b.1.toNat / Nat.gcd (wh bs) b.1.toNat = m at cop
      have walk : ∀ (k : Nat) (r a F G : Nat) (f g : Int), a ≤ k → Euc n m r a F G f g → ∃ back : Int, (m : Int) ∣ (n : Int) * back - 1 := by
        intro k
        induction k with
        | zero =>
          intro r a F G f g ha E
          obtain rfl : a = 0 := by omega
          exact ⟨_, E.last⟩
        | succ k ih =>
          intro r a F G f g ha E
          by_cases h0 : a = 0
          · subst h0
            exact ⟨_, E.last⟩
          · exact ih _ _ _ _ _ _ (by have := Nat.mod_lt r (Nat.pos_of_ne_zero h0); omega) (E.step h0)
      exact walk m n m 1 0 1 0 (Nat.le_refl _) (Euc.start v1 cop)
    have ew : Nat.gcd (wh bs) b.1.toNat * (wh bs / Nat.gcd (wh bs) b.1.toNat) = wh bs := Nat.mul_div_cancel' (Nat.gcd_dvd_left _ _)
    have em : Nat.gcd (wh bs) b.1.toNat * (b.1.toNat / Nat.gcd (wh bs) b.1.toNat) = b.1.toNat := Nat.mul_div_cancel' (Nat.gcd_dvd_right _ _)
    have t1 : 1 ≤ b.1.toNat / Nat.gcd (wh bs) b.1.toNat := Nat.div_pos (Nat.gcd_le_right _ (by omega)) hg
    have M : Meet (Nat.gcd (wh bs) b.1.toNat : Nat) (b.1.toNat / Nat.gcd (wh bs) b.1.toNat : Nat) back (wh bs : Nat) (wh bs / Nat.gcd (wh bs) b.1.toNat : Nat) b.1 :=
      ⟨by omega, by omega, by omega, by rw [← Int.natCast_mul, ew], by rw [← Int.natCast_mul, em]; omega, hb⟩
    refine ⟨_, C.add M B.lot ?_, ?_⟩
    · rw [wh_add, show b.1.natAbs = b.1.toNat by omega, ← Int.natCast_mul]
      congr 1
      exact Nat.mul_div_assoc _ (Nat.gcd_dvd_right _ _)
    · rw [choices_add]
      exact Nat.le_trans (joinL_len _ _ _ _ _ _) (Nat.mul_le_mul hl (by omega))
  obtain ⟨xs, C, hl⟩ := h bs S.bar
  have h1 := nodup_len (cls_is bs).nd (ys := xs) fun x hx => (C.mem x).mpr ((cls_is bs).mem x |>.mp hx)
  exact Nat.le_trans h1 hl
theorem choices_cls {bs : List Bar} (S : SvOk bs) : (cls bs).length ≤ 2000 := Nat.le_trans (cls_choices S) S.many

end R
namespace R
open PySem PySem.Spec PyProof.Rows L2
/-! ## rows of bars cut and joined -/
theorem cutTake (xs : List V) {i : Nat} (h : i ≤ xs.length) : cutV xs none (some (i : Int)) = xs.take i := by
  unfold cutV
  rw [HT.sIx_none, HT.sIx_nat, List.drop_zero, Nat.sub_zero, Nat.min_eq_left h]
theorem cutDrop (xs : List V) {i : Nat} (h : i ≤ xs.length) : cutV xs (some (i : Int)) none = xs.drop i := by
  unfold cutV
  rw [HT.sIx_none, HT.sIx_nat, Nat.min_eq_left h, List.take_of_length_le (by rw [List.length_drop]; exact Nat.le_refl _)]
theorem cutTake' (xs : List V) (i : Nat) : cutV xs none (some (i : Int)) = xs.take i := by
  unfold cutV
  rw [HT.sIx_none, HT.sIx_nat, List.drop_zero, Nat.sub_zero, ← List.take_take, List.take_length]
theorem barsTake' {K : PySem.W.Frag} {H : Hp} {v : V} {bs : List Bar} {i : Nat} {Q : V → Hp → Prop} (B : BarsAt K H v bs) (q : ∀ y H', Same H H' → BarsAt K H' y (bs.take i) → Q y H') : rSlA K v none (some (i : Int)) H Q := by
  obtain ⟨a, xs, rfl, tb, nb, hb⟩ := B.ex
  refine ⟨a, xs, rfl, tb, fun h => ?_, fun _ p np => ?_⟩
  · have h2 := h.2
    rw [HT.sIx_nat] at h2
    have e : bs.take i = bs := List.take_of_length_le (by omega)
    exact q _ _ (Same.refl _) (by rw [e]; exact B)
  · refine q _ _ (same_upd np) ?_
    rw [cutTake' xs i]
    refine ⟨p, _, rfl, tupOf upd_same, by rw [List.length_take, List.length_take, nb], fun j x b h1 h2 => ?_⟩
    rw [List.getElem?_take] at h1 h2
    by_cases hj : j < i
    · rw [if_pos hj] at h1 h2
      exact (hb j x b h1 h2).stay (.same (same_upd np))
    · rw [if_neg hj] at h1
      cases h1
theorem barsTake {K : PySem.W.Frag} {H : Hp} {v : V} {bs : List Bar} {i : Nat} {Q : V → Hp → Prop} (B : BarsAt K H v bs) (_ : i ≤ bs.length) (q : ∀ y H', Same H H' → BarsAt K H' y (bs.take i) → Q y H') : rSlA K v none (some (i : Int)) H Q := barsTake' B q
theorem barsDrop {K : PySem.W.Frag} {H : Hp} {v : V} {bs : List Bar} {i : Nat} {Q : V → Hp → Prop} (B : BarsAt K H v bs) (hi : i ≤ bs.length) (q : ∀ y H', Same H H' → BarsAt K H' y (bs.drop i) → Q y H') : rSlA K v (some (i : Int)) none H Q := by
  obtain ⟨a, xs, rfl, tb, nb, hb⟩ := B.ex
  refine ⟨a, xs, rfl, tb, fun h => ?_, fun _ p np => ?_⟩
  · have h1 := h.1
    rw [HT.sIx_nat] at h1
    by_cases z : i = 0
    · subst z
      exact q _ _ (Same.refl _) B
    · have e : bs = [] := List.length_eq_zero_iff.mp (by omega)
      subst e
      rw [List.drop_nil] at q
      exact q _ _ (Same.refl _) B
  · refine q _ _ (same_upd np) ?_
    rw [cutDrop xs (by omega)]
    refine ⟨p, _, rfl, tupOf upd_same, by rw [List.length_drop, List.length_drop, nb], fun j x b h1 h2 => ?_⟩
    rw [List.getElem?_drop] at h1 h2
    exact (hb _ x b h1 h2).stay (.same (same_upd np))
theorem catBars {K : PySem.W.Frag} {H : Hp} {v u : V} {bs cs : List Bar} {Q : V → Hp → Prop} (B : BarsAt K H v bs) (C : BarsAt K H u cs) (few : bs.length + cs.length ≤ 1000) (q : ∀ y H', Same H H' → BarsAt K H' y (bs ++ cs) → Q y H') : rCatA K v u H Q := by
  obtain ⟨a, xs, rfl, tb, nb, hb⟩ := B.ex
  obtain ⟨c, ys, rfl, tc, nc, hc⟩ := C.ex
  refine ⟨a, c, xs, ys, rfl, rfl, tb, tc, sizeOk (by omega), fun e => ?_, fun _ e => ?_, fun _ _ p np => ?_⟩
  · subst e
    have e2 : bs = [] := List.length_eq_zero_iff.mp nb.symm
    subst e2
    exact q _ _ (Same.refl _) C
  · subst e
    have e2 : cs = [] := List.length_eq_zero_iff.mp nc.symm
    subst e2
    rw [List.append_nil] at q
    exact q _ _ (Same.refl _) B
  · refine q _ _ (same_upd np) ⟨p, _, rfl, tupOf upd_same, by rw [List.length_append, List.length_append, nb, nc], fun j x b h1 h2 => ?_⟩
    by_cases hj : j < xs.length
    · rw [List.getElem?_append_left hj] at h1
      rw [List.getElem?_append_left (by omega)] at h2
      exact (hb j x b h1 h2).stay (.same (same_upd np))
    · rw [List.getElem?_append_right (by omega)] at h1
      rw [List.getElem?_append_right (by omega), ← nb] at h2
      exact (hc _ x b h1 h2).stay (.same (same_upd np))
/-- (a bar,) -/
theorem oneBar {K : PySem.W.Frag} {H : Hp} {p : Addr} {x : V} {b : Bar} (t : SqT K H p [x]) (h : BarAt K H x b) : BarsAt K H (.ref p) [b] :=
  ⟨p, [x], rfl, t, rfl, fun j y c h1 h2 => by
    cases j with
    | zero =>
      cases Option.some.inj h1
      cases Option.some.inj h2
      exact h
    | succ j => simp at h1⟩
theorem choices_app (xs : List Bar) : ∀ ys : List Bar, choices (xs ++ ys) = choices xs * choices ys := by
  refine snocInd (by rw [List.append_nil]; exact (Nat.mul_one _).symm) fun ys b ih => ?_
  rw [← List.append_assoc, choices_add, choices_add, ih, Nat.mul_assoc]
theorem choices_pos : ∀ ys : List Bar, 1 ≤ choices ys := by
  refine snocInd (Nat.le_refl _) fun ys b ih => ?_
  rw [choices_add]
  exact Nat.mul_le_mul ih (show 1 ≤ max 1 b.2.length by omega)
theorem wh_app (xs : List Bar) : ∀ ys : List Bar, wh (xs ++ ys) = Nat.lcm (wh xs) (wh ys) := by
  refine snocInd (by rw [List.append_nil]; exact (Nat.lcm_one_right _).symm) fun ys b ih => ?_
  rw [← List.append_assoc, wh_add, wh_add, ih, Nat.lcm_assoc]
theorem cutAt {bs : List Bar} {i : Nat} {b : Bar} (h : bs[i]? = some b) : bs = bs.take i ++ [b] ++ bs.drop (i + 1) := by
  obtain ⟨h1, h2⟩ := List.getElem?_eq_some_iff.mp h
  rw [← takeSucc h, List.take_append_drop]
theorem wh_out {xs ys : List Bar} {b : Bar} : wh (xs ++ ys) ∣ wh (xs ++ [b] ++ ys) := by
  rw [wh_app, wh_app, wh_app]
  exact Nat.lcm_dvd (Nat.dvd_trans (Nat.dvd_lcm_left _ _) (Nat.dvd_lcm_left _ _)) (Nat.dvd_lcm_right _ _)
/-- a bar left out -/
theorem SvOk.less {xs ys : List Bar} {b : Bar} (S : SvOk (xs ++ [b] ++ ys)) : SvOk (xs ++ ys) := by
  have hp : 0 < wh (xs ++ [b] ++ ys) := wh_pos _ fun c hc => (S.bar c hc).pos
  refine ⟨?_, fun c hc => S.bar c ?_, Nat.le_trans (Nat.le_of_dvd hp wh_out) S.great, ?_⟩
  · have := S.six
    rw [List.length_append, List.length_append] at this
    rw [List.length_append]
    omega
  · rcases List.mem_append.mp hc with h | h
    · exact List.mem_append_left _ (List.mem_append_left _ h)
    · exact List.mem_append_right _ h
  · have := S.many
    rw [choices_app, choices_app] at this
    rw [choices_app]
    have h1 : choices [b] = max 1 b.2.length := by
      show 1 * max 1 b.2.length = _
      rw [Nat.one_mul]
    have h2 := choices_pos xs
    refine Nat.le_trans (Nat.mul_le_mul_right _ ?_) this
    exact Nat.le_mul_of_pos_right _ (choices_pos [b])
/-- a bar with fewer rests in its place -/
theorem SvOk.swap {xs ys : List Bar} {b c : Bar} (S : SvOk (xs ++ [b] ++ ys)) (e : c.1 = b.1) (o : BarOk c) (l : c.2.length ≤ b.2.length) : SvOk (xs ++ [c] ++ ys) := by
  refine ⟨?_, fun d hd => ?_, ?_, ?_⟩
  · have := S.six
    rw [List.length_append, List.length_append] at this ⊢
    exact this
  · rcases List.mem_append.mp hd with h | h
    · rcases List.mem_append.mp h with h | h
      · exact S.bar d (List.mem_append_left _ (List.mem_append_left _ h))
      · rw [List.mem_singleton.mp h]
        exact o
    · exact S.bar d (List.mem_append_right _ h)
  · have := S.great
    rw [wh_app, wh_add] at this ⊢
    rw [e]
    exact this
  · have := S.many
    rw [choices_app, choices_add] at this ⊢
    exact Nat.le_trans (Nat.mul_le_mul_right _ (Nat.mul_le_mul_left _ (show max 1 c.2.length ≤ max 1 b.2.length by omega))) this
theorem LotOk.len {m : Int} {l : List Int} (h : LotOk m l) : l.length ≤ m.toNat := by
  have := nodup_len (ys := (List.range m.toNat).map fun i : Nat => (i : Int)) (h.up.imp fun {a b} (lt : a < b) => Int.ne_of_lt lt) fun x hx => by
    have h1 := h.ge x hx
    have h2 := h.lt x hx
    exact List.mem_map.mpr ⟨x.toNat, List.mem_range.mpr (by omega), by omega⟩
  rwa [List.length_map, List.length_range] at this
theorem choicesPow {N : Nat} : ∀ bs : List Bar, (∀ b ∈ bs, max 1 b.2.length ≤ N) → choices bs ≤ N ^ bs.length := by
  refine snocInd (fun _ => by rw [List.length_nil, Nat.pow_zero]; decide) fun bs b ih h => ?_
  rw [choices_add, List.length_append]
  exact Nat.mul_le_mul (ih fun c hc => h c (List.mem_append_left _ hc)) (h b (List.mem_append_right _ (List.mem_singleton.mpr rfl)))

end R
namespace R
open PySem PySem.Spec PyProof.Rows L2
/-! ## bars taken by times and moved -/
def scB (k o : Int) (b : Bar) : Bar := (b.1 * k, b.2.map fun r => r * k + o)
theorem whPow {N : Nat} : ∀ bs : List Bar, (∀ b ∈ bs, b.1.natAbs ≤ N) → wh bs ≤ N ^ bs.length := by
  refine snocInd (fun _ => by rw [List.length_nil, Nat.pow_zero]; decide) fun bs b ih h => ?_
  rw [wh_add, List.length_append]
  exact Nat.le_trans (lcm_le_mul _ _) (Nat.mul_le_mul (ih fun c hc => h c (List.mem_append_left _ hc)) (h b (List.mem_append_right _ (List.mem_singleton.mpr rfl))))
theorem scB_lot {k o m : Int} {l : List Int} (h : LotOk m l) (k1 : 1 ≤ k) (o0 : 0 ≤ o) (o1 : o < k) : LotOk (m * k) (l.map fun r => r * k + o) := by
  refine ⟨List.pairwise_map.mpr (h.up.imp fun {x y} lt => ?_), fun r hr => ?_, fun r hr => ?_, by rw [List.length_map]; exact h.few⟩
  · have := Int.mul_lt_mul_of_pos_right lt (show 0 < k by omega)
    omega
  · obtain ⟨x, hx, rfl⟩ := List.mem_map.mp hr
    have := Int.mul_nonneg (h.ge x hx) (show 0 ≤ k by omega)
    omega
  · obtain ⟨x, hx, rfl⟩ := List.mem_map.mp hr
    have h1 := h.lt x hx
    have h2 : (x + 1) * k ≤ m * k := Int.mul_le_mul_of_nonneg_right (by omega) (by omega)
    rw [Int.add_mul, Int.one_mul] at h2
    omega
theorem choices_sc (k o : Int) : ∀ bs : List Bar, choices (bs.map (scB k o)) = choices bs := by
  refine snocInd rfl fun bs b ih => ?_
  rw [List.map_append, choices_add, ← ih]
  show choices (bs.map (scB k o) ++ [scB k o b]) = _
  rw [choices_add]
  show _ * max 1 ((b.2.map _).length) = _
  rw [List.length_map]
theorem scB_one (bs : List Bar) : bs.map (scB 1 0) = bs := by
  have h : ∀ b : Bar, scB 1 0 b = b := fun b => by
    unfold scB
    rw [Int.mul_one, show (fun r : Int => r * 1 + 0) = id from funext fun r => by show r * 1 + 0 = r; omega, List.map_id]
  rw [show scB 1 0 = id from funext h, List.map_id]
theorem Drawn.scaled {most top : Nat} {bs : List Bar} {k o : Int} (D : Drawn most top bs) (h6 : most ≤ 3) (ht : top ≤ 60) (k1 : 1 ≤ k) (k2 : k ≤ 60) (o0 : 0 ≤ o) (o1 : o < k) :
    SvOk (bs.map (scB k o)) ∧ ∀ b ∈ bs.map (scB k o), 1 ≤ b.1 ∧ b.1 ≤ (top : Int) * k := by
  have mods : ∀ b ∈ bs.map (scB k o), 1 ≤ b.1 ∧ b.1 ≤ (top : Int) * k := fun b hb => by
    obtain ⟨c, hc, rfl⟩ := List.mem_map.mp hb
    obtain ⟨c1, c2, _⟩ := D.bar c hc
    have h1 : 1 * 1 ≤ c.1 * k := Int.mul_le_mul c1 k1 (by decide) (by omega)
    have h2 : c.1 * k ≤ (top : Int) * k := Int.mul_le_mul_of_nonneg_right c2 (by omega)
    exact ⟨by show 1 ≤ c.1 * k; omega, h2⟩
  have top60 : (top : Int) * k ≤ 60 * 60 := Int.mul_le_mul (by omega) k2 (by omega) (by decide)
  have len : (bs.map (scB k o)).length ≤ 3 := by
    rw [List.length_map]
    exact Nat.le_trans D.len h6
  refine ⟨⟨by omega, fun b hb => ?_, ?_, by rw [choices_sc]; exact D.many⟩, mods⟩
  · obtain ⟨h1, h2⟩ := mods b hb
    refine ⟨h1, by omega, ?_⟩
    obtain ⟨c, hc, rfl⟩ := List.mem_map.mp hb
    exact scB_lot (D.bar c hc).2.2 k1 o0 o1
  · have h := whPow (N := 3600) (bs.map (scB k o)) fun b hb => by have := mods b hb; omega
    exact Nat.le_trans h (Nat.le_trans (Nat.pow_le_pow_right (by decide) len) (by decide))
/-- a list of bars under way -/
structure BarLst (K : PySem.W.Frag) (H : Hp) (D : Addr) (bs : List Bar) : Prop where
  ex : ∃ ys : List V, H D = some (.lst ys) ∧ ys.length = bs.length ∧ ∀ (i : Nat) x b, ys[i]? = some x → bs[i]? = some b → BarAt K H x b
theorem BarLst.nil {K : PySem.W.Frag} {H : Hp} {D : Addr} (h : H D = some (.lst [])) : BarLst K H D [] := ⟨[], h, rfl, fun i x b a _ => by simp at a⟩
theorem BarLst.add {K : PySem.W.Frag} {H H' : Hp} {D : Addr} {bs : List Bar} {b : Bar} {ys : List V} {x : V} (n : ys.length = bs.length) (f : ∀ (i : Nat) x b, ys[i]? = some x → bs[i]? = some b → BarAt K H x b) (t : TupsStay K H H')
    (e : H' D = some (.lst (ys ++ [x]))) (hb : BarAt K H' x b) : BarLst K H' D (bs ++ [b]) := by
  refine ⟨ys ++ [x], e, by rw [List.length_append, List.length_append, n]; rfl, fun i u c h1 h2 => ?_⟩
  by_cases h : i < ys.length
  · rw [List.getElem?_append_left h] at h1
    rw [List.getElem?_append_left (by omega)] at h2
    exact (f i u c h1 h2).stay t
  · rw [List.getElem?_append_right (by omega)] at h1
    rw [List.getElem?_append_right (by omega), ← n] at h2
    cases z : i - ys.length with
    | zero =>
      rw [z] at h1 h2
      cases Option.some.inj h1
      cases Option.some.inj h2
      exact hb
    | succ j => rw [z] at h1; simp at h1
theorem BarLst.tup {K : PySem.W.Frag} {H : Hp} {u : Addr} {ys : List V} {bs : List Bar} (n : ys.length = bs.length) (f : ∀ (i : Nat) x b, ys[i]? = some x → bs[i]? = some b → BarAt K H x b) (nu : H u = none) :
    BarsAt K (upd H u (.tup ys)) (.ref u) bs := ⟨u, ys, rfl, tupOf upd_same, n, fun i x b h1 h2 => (f i x b h1 h2).stay (.same (same_upd nu))⟩
/-- a list's change leaves the tuples -/
theorem lstTups {K : PySem.W.Frag} {H : Hp} {D : Addr} {ys zs : List V} (e : H D = some (.lst ys)) : TupsStay K H (upd H D (.lst zs)) := fun b xs h => by
  rcases h with (h | ⟨o, h⟩) | h
  · exact .inl (.inl (by rw [upd_ne (ne_of h e (by intro z; cases z))]; exact h))
  · exact .inl (.inr ⟨o, by rw [upd_ne (ne_of h e (by intro z; cases z))]; exact h⟩)
  · exact .inr h

end R
namespace R
open PySem PySem.Spec PyProof.Rows L2
/-! ## integers off their limits -/
/-- no integer from lo to hi -/
def OffI (K : PySem.W.Frag) (H : Hp) (lo hi : Int) (x : V) : Prop := kOdd K H x ∨ ∃ i, x = .int i ∧ ¬ (lo ≤ i ∧ i ≤ hi)
theorem offNo {lo hi i : Int} (h : ¬ (lo ≤ i ∧ i ≤ hi)) : (decide (lo ≤ i) && decide (i ≤ hi)) = false := by
  rw [← Bool.decide_and, decide_eq_false h]
theorem onYes {lo hi i : Int} (h1 : lo ≤ i) (h2 : i ≤ hi) : (decide (lo ≤ i) && decide (i ≤ hi)) = true := by
  rw [decide_eq_true h1, decide_eq_true h2]
  rfl

end R
namespace R
open PySem PySem.Spec PyProof.Rows L2
/-! ## a lot made by sorting -/
theorem sorted_lot {m : Int} {ns ns' : List Int} (p : ns'.Perm ns) (s : ns'.Pairwise (· ≤ ·)) (nd : ns.Nodup) (h : ∀ x ∈ ns, 0 ≤ x ∧ x < m) (few : ns.length ≤ 60) : LotOk m ns' :=
  ⟨L2.lt_of_le_nodup _ s (p.nodup_iff.mpr nd), fun r hr => (h r (p.mem_iff.mp hr)).1, fun r hr => (h r (p.mem_iff.mp hr)).2, by rw [p.length_eq]; exact few⟩
theorem LotOk.nodup {m : Int} {l : List Int} (h : LotOk m l) : l.Nodup := h.up.imp fun {a b} (lt : a < b) => Int.ne_of_lt lt
theorem wh_dvd {N : Nat} : ∀ bs : List Bar, (∀ b ∈ bs, b.1.natAbs ∣ N) → wh bs ∣ N := by
  refine snocInd (fun _ => Nat.one_dvd _) fun bs b ih h => ?_
  rw [wh_add]
  exact Nat.lcm_dvd (ih fun c hc => h c (List.mem_append_left _ hc)) (h b (List.mem_append_right _ (List.mem_singleton.mpr rfl)))
/-- bars of which one is changed -/
theorem barsSwap {bs : List Bar} {i : Nat} {b : Bar} {P : Bar → Prop} (h : ∀ c ∈ bs, P c) (hb : P b) : ∀ c ∈ bs.take i ++ [b] ++ bs.drop (i + 1), P c := fun c hc => by
  rcases List.mem_append.mp hc with hc | hc
  · rcases List.mem_append.mp hc with hc | hc
    · exact h c (List.mem_of_mem_take hc)
    · rw [List.mem_singleton.mp hc]
      exact hb
  · exact h c (List.mem_of_mem_drop hc)
/-- a < m and x not in lot, as a value -/
theorem andIn {K : PySem.W.Frag} {σ : L2.St} {H : Hp} {R : VK} {y m : Int} {i j : Nat} {lc : Addr} {l : List Int} (hi : σ[i]? = some (some (.int y))) (hj : σ[j]? = some (some (.ref lc))) (t : SqT K H lc (l.map V.int))
    (k : ∀ n : Bool, (n = true → y < m ∧ y ∉ l) → R (.bl n) H) : if decide (y < m) = true then tOp (rIn K true) (tVar i) (tVar j) σ H R else R (.bl false) H := by
  refine ite2 (fun e => ?_) (fun _ => k false (fun z => nomatch z))
  refine ⟨_, hi, _, hj, lc, _, rfl, .inr t, rfl, flatInts _, k _ fun z => ⟨of_decide_eq_true e, ?_⟩⟩
  have z' : (!inV (.int y) (l.map V.int)) = true := z
  rw [inVInt] at z'
  simpa using z'

end R
namespace R
open PySem PySem.Spec PyProof.Rows L2
/-! ## bars moved and turned -/
theorem asc_eq : ∀ {xs ys : List Int}, xs.Pairwise (· < ·) → ys.Pairwise (· < ·) → (∀ x, x ∈ xs ↔ x ∈ ys) → xs = ys
  | [], [], _, _, _ => rfl
  | [], y :: ys, _, _, m => absurd ((m y).mpr List.mem_cons_self) (by simp)
  | x :: xs, [], _, _, m => absurd ((m x).mp List.mem_cons_self) (by simp)
  | x :: xs, y :: ys, h, k, m => by
    obtain ⟨h1, h2⟩ := List.pairwise_cons.mp h
    obtain ⟨k1, k2⟩ := List.pairwise_cons.mp k
    have e : x = y := by
      rcases List.mem_cons.mp ((m x).mp List.mem_cons_self) with e | hx
      · exact e
      · rcases List.mem_cons.mp ((m y).mpr List.mem_cons_self) with e | hy
        · exact e.symm
        · have := h1 y hy
          have := k1 x hx
          omega
    subst e
    refine congrArg (x :: ·) (asc_eq h2 k2 fun z => ⟨fun hz => ?_, fun hz => ?_⟩)
    · rcases List.mem_cons.mp ((m z).mp (List.mem_cons_of_mem _ hz)) with e | hz'
      · have := h1 z hz
        omega
      · exact hz'
    · rcases List.mem_cons.mp ((m z).mpr (List.mem_cons_of_mem _ hz)) with e | hz'
      · have := k1 z hz
        omega
      · exact hz'
/-- a turned bar: s times its numbers, and o -/
structure TurnB (s o : Int) (b c : Bar) : Prop where
  mod : c.1 = b.1
  lot : LotOk c.1 c.2
  len : c.2.length = b.2.length
  mem : ∀ x, x ∈ c.2 ↔ ∃ r ∈ b.2, x = (s * r + o) % b.1
structure TurnL (s o : Int) (bs cs : List Bar) : Prop where
  len : cs.length = bs.length
  at_ : ∀ (i : Nat) b c, bs[i]? = some b → cs[i]? = some c → TurnB s o b c
theorem TurnL.nil (s o : Int) : TurnL s o [] [] := ⟨rfl, fun i b c h _ => by simp at h⟩
theorem TurnL.add {s o : Int} {bs cs : List Bar} {b c : Bar} (h : TurnL s o bs cs) (k : TurnB s o b c) : TurnL s o (bs ++ [b]) (cs ++ [c]) := by
  refine ⟨by rw [List.length_append, List.length_append, h.len]; rfl, fun i x y h1 h2 => ?_⟩
  by_cases l : i < bs.length
  · rw [List.getElem?_append_left l] at h1
    rw [List.getElem?_append_left (by rw [h.len]; exact l)] at h2
    exact h.at_ i x y h1 h2
  · rw [List.getElem?_append_right (by omega)] at h1
    rw [List.getElem?_append_right (by rw [h.len]; omega), h.len] at h2
    cases z : i - bs.length with
    | zero =>
      rw [z] at h1 h2
      cases Option.some.inj h1
      cases Option.some.inj h2
      exact k
    | succ j => rw [z] at h1; simp at h1
theorem TurnL.ind {s o : Int} {motive : List Bar → List Bar → Prop} (h0 : motive [] []) (hs : ∀ bs cs b c, TurnL s o bs cs → TurnB s o b c → motive bs cs → motive (bs ++ [b]) (cs ++ [c])) : ∀ {bs cs : List Bar}, TurnL s o bs cs → motive bs cs := by
  have go : ∀ bs : List Bar, ∀ cs, TurnL s o bs cs → motive bs cs := by
   refine snocInd (fun cs h => ?_) fun bs b ih cs h => ?_
   · have : cs = [] := List.length_eq_zero_iff.mp h.len
     rw [this]
     exact h0
   · have l := h.len
     rw [List.length_append] at l
     obtain ⟨ds, c, rfl⟩ : ∃ ds c, cs = ds ++ [c] := by
       rcases List.eq_nil_or_concat cs with e | ⟨ds, c, e⟩
       · rw [e] at l
         simp at l
       · exact ⟨ds, c, by simpa using e⟩
     have ld : ds.length = bs.length := by
       rw [List.length_append] at l
       have h1 : [c].length = 1 := rfl
       have h2 : [b].length = 1 := rfl
       omega
     have hd : TurnL s o bs ds := ⟨ld, fun i x y h1 h2 => by
       have il := (List.getElem?_eq_some_iff.mp h1).1
       exact h.at_ i x y (by rw [List.getElem?_append_left il]; exact h1) (by rw [List.getElem?_append_left (by omega)]; exact h2)⟩
     refine hs bs ds b c hd (h.at_ bs.length b c (by simp) (by rw [← ld]; simp)) (ih _ hd)
  exact fun {bs cs} h => go bs cs h
theorem TurnL.wh {s o : Int} {bs cs : List Bar} (h : TurnL s o bs cs) : R.wh cs = R.wh bs := by
  refine TurnL.ind (s := s) (o := o) (motive := fun bs cs => R.wh cs = R.wh bs) rfl (fun bs cs b c _ k ih => ?_) h
  rw [wh_add, wh_add, ih, k.mod]
theorem TurnL.choices {s o : Int} {bs cs : List Bar} (h : TurnL s o bs cs) : R.choices cs = R.choices bs := by
  refine TurnL.ind (s := s) (o := o) (motive := fun bs cs => R.choices cs = R.choices bs) rfl (fun bs cs b c _ k ih => ?_) h
  rw [choices_add, choices_add, ih, k.len]
theorem TurnL.sv {s o : Int} {bs cs : List Bar} (h : TurnL s o bs cs) (S : SvOk bs) : SvOk cs := by
  refine ⟨by rw [h.len]; exact S.six, fun c hc => ?_, by rw [h.wh]; exact S.great, by rw [h.choices]; exact S.many⟩
  obtain ⟨i, hi⟩ := List.getElem?_of_mem hc
  have il := (List.getElem?_eq_some_iff.mp hi).1
  have hb : bs[i]? = some (bs[i]'(by rw [← h.len]; exact il)) := List.getElem?_eq_getElem _
  have k := h.at_ i _ c hb hi
  have ob := S.bar _ (List.mem_of_getElem? hb)
  exact ⟨by rw [k.mod]; exact ob.pos, by rw [k.mod]; exact ob.most, k.lot⟩
theorem TurnB.one {s o : Int} {b c d : Bar} (h : TurnB s o b c) (k : TurnB s o b d) : c = d :=
  Prod.ext (h.mod.trans k.mod.symm) (asc_eq h.lot.up k.lot.up fun x => (h.mem x).trans (k.mem x).symm)
theorem TurnL.one {s o : Int} {bs cs ds : List Bar} (h : TurnL s o bs cs) (k : TurnL s o bs ds) : cs = ds := by
  refine List.ext_getElem? fun i => ?_
  by_cases l : i < bs.length
  · have h1 : cs[i]? = some (cs[i]'(by rw [h.len]; exact l)) := List.getElem?_eq_getElem _
    have h2 : ds[i]? = some (ds[i]'(by rw [k.len]; exact l)) := List.getElem?_eq_getElem _
    have h0 : bs[i]? = some bs[i] := List.getElem?_eq_getElem l
    rw [h1, h2]
    exact congrArg some ((h.at_ i _ _ h0 h1).one (k.at_ i _ _ h0 h2))
  · rw [List.getElem?_eq_none_iff.mpr (by rw [h.len]; omega), List.getElem?_eq_none_iff.mpr (by rw [k.len]; omega)]
/-- s is 1 or -1 -/
def Sg (s : Int) : Prop := s = 1 ∨ s = -1
theorem turn_dvd {s o x y m : Int} (hs : Sg s) : (s * x + o) % m = (s * y + o) % m ↔ x % m = y % m := by
  rw [Int.emod_eq_emod_iff_emod_sub_eq_zero, Int.emod_eq_emod_iff_emod_sub_eq_zero (m := x)]
  have d : ∀ z : Int, z % m = 0 ↔ m ∣ z := fun z => ⟨Int.dvd_of_emod_eq_zero, Int.emod_eq_zero_of_dvd⟩
  rw [d, d]
  rcases hs with rfl | rfl
  · rw [show 1 * x + o - (1 * y + o) = x - y by omega]
  · rw [show -1 * x + o - (-1 * y + o) = -(x - y) by omega, Int.dvd_neg]
theorem TurnB.lets {s o : Int} {b c : Bar} (h : TurnB s o b c) (hs : Sg s) (lo : LotOk b.1 b.2) (x : Int) : (s * x + o) % c.1 ∈ c.2 ↔ x % b.1 ∈ b.2 := by
  rw [h.mem, h.mod]
  constructor
  · rintro ⟨r, hr, e⟩
    rw [turn_dvd hs] at e
    rw [e, Int.emod_eq_of_lt (lo.ge r hr) (lo.lt r hr)]
    exact hr
  · intro hx
    refine ⟨x % b.1, hx, ?_⟩
    rw [turn_dvd hs, Int.emod_emod]
theorem TurnL.fits {s o : Int} {bs cs : List Bar} (h : TurnL s o bs cs) (hs : Sg s) (S : SvOk bs) (x : Int) : fitsB cs (s * x + o) = fitsB bs x := by
  unfold fitsB
  rw [Bool.eq_iff_iff, List.all_eq_true, List.all_eq_true]
  constructor
  · intro f b hb
    obtain ⟨i, hi⟩ := List.getElem?_of_mem hb
    have il := (List.getElem?_eq_some_iff.mp hi).1
    have hc : cs[i]? = some (cs[i]'(by rw [h.len]; exact il)) := List.getElem?_eq_getElem _
    have := f _ (List.mem_of_getElem? hc)
    rw [decide_eq_true_iff] at this ⊢
    exact ((h.at_ i b _ hi hc).lets hs (S.bar b hb).lot x).mp this
  · intro f c hc
    obtain ⟨i, hi⟩ := List.getElem?_of_mem hc
    have il := (List.getElem?_eq_some_iff.mp hi).1
    have hb : bs[i]? = some (bs[i]'(by rw [← h.len]; exact il)) := List.getElem?_eq_getElem _
    have hbm := List.mem_of_getElem? hb
    have := f _ hbm
    rw [decide_eq_true_iff] at this ⊢
    exact ((h.at_ i _ c hb hi).lets hs (S.bar _ hbm).lot x).mpr this
theorem Sg.sq {s x o : Int} (hs : Sg s) : s * (s * (x - o)) + o = x := by rcases hs with rfl | rfl <;> omega
theorem TurnL.fits' {s o : Int} {bs cs : List Bar} (h : TurnL s o bs cs) (hs : Sg s) (S : SvOk bs) (y : Int) : fitsB cs y = fitsB bs (s * (y - o)) := by
  have := h.fits hs S (s * (y - o))
  rw [hs.sq] at this
  exact this
/-- the classes are the old ones, turned -/
theorem TurnL.cls {s o : Int} {bs cs : List Bar} (h : TurnL s o bs cs) (hs : Sg s) (S : SvOk bs) : (R.cls cs).Perm ((R.cls bs).map fun x => (s * x + o) % ((R.wh bs : Nat) : Int)) := by
  have hw : (0 : Int) < ((R.wh bs : Nat) : Int) := by have := S.mods.pos; omega
  have n1 : (R.cls cs).Nodup := (cls_up cs).imp fun {a b} (lt : a < b) => Int.ne_of_lt lt
  have n2 : ((R.cls bs).map fun x => (s * x + o) % ((R.wh bs : Nat) : Int)).Nodup := by
    unfold List.Nodup
    rw [List.pairwise_map]
    refine List.Pairwise.imp_of_mem (fun {a b} ha hb lt e => ?_) (cls_up bs)
    obtain ⟨a0, a1, _⟩ := cls_mem.mp ha
    obtain ⟨b0, b1, _⟩ := cls_mem.mp hb
    rw [turn_dvd hs, Int.emod_eq_of_lt a0 a1, Int.emod_eq_of_lt b0 b1] at e
    omega
  refine (List.perm_ext_iff_of_nodup n1 n2).mpr fun y => ?_
  rw [cls_mem, List.mem_map, h.wh]
  constructor
  · rintro ⟨y0, y1, f⟩
    rw [h.fits' hs S] at f
    refine ⟨(s * (y - o)) % ((R.wh bs : Nat) : Int), cls_mem.mpr ⟨Int.emod_nonneg _ (by omega), Int.emod_lt_of_pos _ hw, by rw [fitsB_mod]; exact f⟩, ?_⟩
    have : (s * (s * (y - o) % ((R.wh bs : Nat) : Int)) + o) % ((R.wh bs : Nat) : Int) = (s * (s * (y - o)) + o) % ((R.wh bs : Nat) : Int) := (turn_dvd hs).mpr (Int.emod_emod _ _)
    rw [this, hs.sq]
    exact Int.emod_eq_of_lt y0 y1
  · rintro ⟨x, hx, rfl⟩
    refine ⟨Int.emod_nonneg _ (by omega), Int.emod_lt_of_pos _ hw, ?_⟩
    rw [← h.wh, fitsB_mod, h.fits hs S]
    exact (cls_mem.mp hx).2.2
theorem TurnL.clsLen {s o : Int} {bs cs : List Bar} (h : TurnL s o bs cs) (hs : Sg s) (S : SvOk bs) : (R.cls cs).length = (R.cls bs).length := by
  rw [(h.cls hs S).length_eq, List.length_map]
/-- a lot that is turned and sorted -/
theorem turn_lot {s o : Int} {b : Bar} {ns : List Int} (hs : Sg s) (ob : BarOk b) (p : ns.Perm (b.2.map fun r => (s * r + o) % b.1)) (up : ns.Pairwise (· ≤ ·)) : TurnB s o b (b.1, ns) := by
  have hm : 0 < b.1 := by have := ob.pos; omega
  refine ⟨rfl, sorted_lot p up ?_ (fun x hx => ?_) (by rw [List.length_map]; exact ob.lot.few), by show ns.length = _; rw [p.length_eq, List.length_map], fun x => ?_⟩
  · unfold List.Nodup
    rw [List.pairwise_map]
    refine List.Pairwise.imp_of_mem (fun {x y} hx hy lt e => ?_) ob.lot.up
    rw [turn_dvd hs, Int.emod_eq_of_lt (ob.lot.ge x hx) (ob.lot.lt x hx), Int.emod_eq_of_lt (ob.lot.ge y hy) (ob.lot.lt y hy)] at e
    omega
  · obtain ⟨r, _, rfl⟩ := List.mem_map.mp hx
    exact ⟨Int.emod_nonneg _ (by omega), Int.emod_lt_of_pos _ hm⟩
  · show x ∈ ns ↔ _
    rw [p.mem_iff, List.mem_map]
    exact ⟨fun ⟨r, h, e⟩ => ⟨r, h, e.symm⟩, fun ⟨r, h, e⟩ => ⟨r, h, e.symm⟩⟩

end R
namespace R
open PySem PySem.Spec PyProof.Rows L2
/-! ## bars stretched -/
def strB (k : Int) (bs : List Bar) : List Bar := if bs = [] then [(k, [0])] else bs.map (scB k 0)
theorem wh_sc {k : Nat} : ∀ {bs : List Bar}, bs ≠ [] → (∀ b ∈ bs, 1 ≤ b.1) → wh (bs.map (scB (k : Int) 0)) = wh bs * k := by
  have go : ∀ bs : List Bar, bs ≠ [] → (∀ b ∈ bs, 1 ≤ b.1) → wh (bs.map (scB (k : Int) 0)) = wh bs * k := by
    refine snocInd (fun h => absurd rfl h) fun bs b ih _ hb => ?_
    have b1 := hb b (List.mem_append_right _ (List.mem_singleton.mpr rfl))
    have eb : (scB (k : Int) 0 b).1.natAbs = b.1.natAbs * k := by
      show (b.1 * (k : Int)).natAbs = _
      rw [Int.natAbs_mul, Int.natAbs_natCast]
    rw [List.map_append, List.map_cons, List.map_nil, wh_add, wh_add, eb]
    by_cases h : bs = []
    · subst h
      show Nat.lcm 1 _ = Nat.lcm 1 _ * k
      rw [Nat.lcm_one_left, Nat.lcm_one_left]
    · rw [ih h fun c hc => hb c (List.mem_append_left _ hc), Nat.lcm_mul_right]
  exact fun {bs} h k => go bs h k
theorem wh_str {k : Nat} {bs : List Bar} (hb : ∀ b ∈ bs, 1 ≤ b.1) : wh (strB (k : Int) bs) = wh bs * k := by
  unfold strB
  by_cases h : bs = []
  · rw [if_pos h, h]
    show Nat.lcm 1 (k : Int).natAbs = 1 * k
    rw [Int.natAbs_natCast, Nat.lcm_one_left, Nat.one_mul]
  · rw [if_neg h]
    exact wh_sc h hb
theorem sc_one {k m x : Int} {l : List Int} (hk : 0 < k) (lo : LotOk m l) : x % (m * k) ∈ l.map (fun r => r * k + 0) ↔ x % k = 0 ∧ (x / k) % m ∈ l := by
  rw [List.mem_map]
  constructor
  · rintro ⟨r, hr, e⟩
    rw [Int.add_zero] at e
    have d : x = k * (r + m * (x / (m * k))) := by
      have h := Int.emod_add_mul_ediv x (m * k)
      rw [← e] at h
      rw [Int.mul_add, Int.mul_comm k r, ← Int.mul_assoc, Int.mul_comm k m]
      omega
    have hd : x / k = r + m * (x / (m * k)) := by
      have h2 := congrArg (fun z => z / k) d
      simp only [Int.mul_ediv_cancel_left _ (Int.ne_of_gt hk)] at h2
      exact h2
    refine ⟨by rw [d]; exact Int.mul_emod_right _ _, ?_⟩
    rw [hd, Int.add_mul_emod_self_left, Int.emod_eq_of_lt (lo.ge r hr) (lo.lt r hr)]
    exact hr
  · rintro ⟨h0, h1⟩
    refine ⟨_, h1, ?_⟩
    have e : x = k * (x / k) := (Int.mul_ediv_cancel' (Int.dvd_of_emod_eq_zero h0)).symm
    have e2 : x % (m * k) = (k * (x / k)) % (k * m) := by rw [← e, Int.mul_comm k m]
    rw [e2, Int.mul_emod_mul_of_pos _ _ hk, Int.add_zero, Int.mul_comm]
theorem fits_str {k : Int} {bs : List Bar} (hk : 0 < k) (hb : ∀ b ∈ bs, LotOk b.1 b.2) (x : Int) : fitsB (strB k bs) x = true ↔ x % k = 0 ∧ fitsB bs (x / k) = true := by
  unfold strB
  by_cases h : bs = []
  · rw [if_pos h, h]
    unfold fitsB
    simp
  · rw [if_neg h]
    obtain ⟨c, hc⟩ := List.exists_mem_of_ne_nil _ h
    unfold fitsB
    rw [List.all_eq_true, List.all_eq_true]
    constructor
    · intro f
      refine ⟨?_, fun b hb' => ?_⟩
      · have := f _ (List.mem_map.mpr ⟨c, hc, rfl⟩)
        exact ((sc_one hk (hb c hc)).mp (of_decide_eq_true this)).1
      · have := f _ (List.mem_map.mpr ⟨b, hb', rfl⟩)
        exact decide_eq_true ((sc_one hk (hb b hb')).mp (of_decide_eq_true this)).2
    · rintro ⟨h0, f⟩ c hc
      obtain ⟨b, hb', rfl⟩ := List.mem_map.mp hc
      exact decide_eq_true ((sc_one hk (hb b hb')).mpr ⟨h0, of_decide_eq_true (f b hb')⟩)
theorem cls_str {k : Nat} {bs : List Bar} (hk : 0 < k) (S : SvOk bs) : cls (strB (k : Int) bs) = (cls bs).map fun c => c * (k : Int) := by
  have ew := wh_str (k := k) (bs := bs) fun b hb => (S.bar b hb).pos
  refine asc_eq (cls_up _) ?_ fun x => ?_
  · rw [List.pairwise_map]
    exact (cls_up bs).imp fun {a b} lt => Int.mul_lt_mul_of_pos_right lt (by omega)
  · rw [cls_mem, fits_str (by omega) (fun b hb => (S.bar b hb).lot), ew, List.mem_map]
    constructor
    · rintro ⟨x0, x1, h0, f⟩
      have e : (x / (k : Int)) * (k : Int) = x := by
        have := Int.mul_ediv_cancel' (Int.dvd_of_emod_eq_zero h0)
        rw [Int.mul_comm]
        exact this
      refine ⟨x / (k : Int), cls_mem.mpr ⟨Int.ediv_nonneg x0 (by omega), ?_, f⟩, e⟩
      refine Int.ediv_lt_of_lt_mul (by omega) ?_
      rw [Int.natCast_mul] at x1
      exact x1
    · rintro ⟨c, hc, rfl⟩
      obtain ⟨c0, c1, f⟩ := cls_mem.mp hc
      refine ⟨Int.mul_nonneg c0 (by omega), ?_, Int.mul_emod_left _ _, ?_⟩
      · rw [Int.natCast_mul]
        exact Int.mul_lt_mul_of_pos_right c1 (by omega)
      · rw [Int.mul_ediv_cancel _ (by omega)]
        exact f
theorem str_ok {k : Int} {bs : List Bar} (S : SvOk bs) (l5 : bs.length ≤ 5) (k1 : 1 ≤ k) (kk : k ≤ 1000000) (h : ∀ b ∈ bs, b.1 * k ≤ 1000000) : SvOk (strB k bs) := by
  have bars : ∀ b ∈ strB k bs, BarOk b := fun b hb => by
    unfold strB at hb
    by_cases e : bs = []
    · rw [if_pos e] at hb
      rw [List.mem_singleton.mp hb]
      exact ⟨k1, kk, ⟨by simp, by simp, by simp; omega, by simp⟩⟩
    · rw [if_neg e] at hb
      obtain ⟨c, hc, rfl⟩ := List.mem_map.mp hb
      have o := S.bar c hc
      have h1 : 1 * 1 ≤ c.1 * k := Int.mul_le_mul o.pos k1 (by decide) (by have := o.pos; omega)
      exact ⟨by show 1 ≤ c.1 * k; omega, h c hc, scB_lot o.lot k1 (Int.le_refl 0) (by omega)⟩
  have len : (strB k bs).length ≤ 5 := by
    unfold strB
    split
    · exact (by decide : (1 : Nat) ≤ 5)
    · rw [List.length_map]
      exact l5
  refine ⟨by omega, bars, ?_, ?_⟩
  · have := wh_le (strB k bs) fun b hb => by have := bars b hb; have := this.pos; have := (bars b hb).most; omega
    exact Nat.le_trans this (Nat.le_trans (Nat.pow_le_pow_right (by decide) len) (by decide))
  · unfold strB
    split
    · exact (by decide : (1 : Nat) * max 1 [(0 : Int)].length ≤ 2000)
    · rw [choices_sc]
      exact S.many
/-! ## bars shared -/
structure ShB (k : Nat) (b c : Bar) : Prop where
  mod : c.1 = b.1 / ((Nat.gcd b.1.natAbs k : Nat) : Int)
  pos : 1 ≤ c.1
  most : c.1 ≤ b.1
  lot : LotOk c.1 c.2
  len : c.2.length ≤ b.2.length
  mem : ∀ x, x % c.1 ∈ c.2 ↔ (x * (k : Int)) % b.1 ∈ b.2
theorem ShB.one {k : Nat} {b c d : Bar} (h : ShB k b c) (g : ShB k b d) : c = d := by
  have e : c.1 = d.1 := h.mod.trans g.mod.symm
  refine Prod.ext e (asc_eq h.lot.up g.lot.up fun x => ⟨fun hx => ?_, fun hx => ?_⟩)
  · have x0 := h.lot.ge x hx
    have x1 := h.lot.lt x hx
    have := (g.mem x).mpr ((h.mem x).mp (by rw [Int.emod_eq_of_lt x0 x1]; exact hx))
    rwa [← e, Int.emod_eq_of_lt x0 x1] at this
  · have x0 := g.lot.ge x hx
    have x1 := g.lot.lt x hx
    have := (h.mem x).mpr ((g.mem x).mp (by rw [Int.emod_eq_of_lt x0 x1]; exact hx))
    rwa [e, Int.emod_eq_of_lt x0 x1] at this
structure ShL (k : Nat) (bs cs : List Bar) : Prop where
  len : cs.length = bs.length
  at_ : ∀ (i : Nat) b c, bs[i]? = some b → cs[i]? = some c → ShB k b c
theorem ShL.nil (k : Nat) : ShL k [] [] := ⟨rfl, fun i b c h _ => by simp at h⟩
theorem ShL.add {k : Nat} {bs cs : List Bar} {b c : Bar} (h : ShL k bs cs) (g : ShB k b c) : ShL k (bs ++ [b]) (cs ++ [c]) := by
  refine ⟨by rw [List.length_append, List.length_append, h.len]; rfl, fun i x y h1 h2 => ?_⟩
  by_cases l : i < bs.length
  · rw [List.getElem?_append_left l] at h1
    rw [List.getElem?_append_left (by rw [h.len]; exact l)] at h2
    exact h.at_ i x y h1 h2
  · rw [List.getElem?_append_right (by omega)] at h1
    rw [List.getElem?_append_right (by rw [h.len]; omega), h.len] at h2
    cases z : i - bs.length with
    | zero =>
      rw [z] at h1 h2
      cases Option.some.inj h1
      cases Option.some.inj h2
      exact g
    | succ j => rw [z] at h1; simp at h1
theorem ShL.at {k : Nat} {bs cs : List Bar} (h : ShL k bs cs) {c : Bar} (hc : c ∈ cs) : ∃ b ∈ bs, ShB k b c := by
  obtain ⟨i, hi⟩ := List.getElem?_of_mem hc
  have il := (List.getElem?_eq_some_iff.mp hi).1
  have hb : bs[i]? = some (bs[i]'(by rw [← h.len]; exact il)) := List.getElem?_eq_getElem _
  exact ⟨_, List.mem_of_getElem? hb, h.at_ i _ c hb hi⟩
theorem ShL.at' {k : Nat} {bs cs : List Bar} (h : ShL k bs cs) {b : Bar} (hb : b ∈ bs) : ∃ c ∈ cs, ShB k b c := by
  obtain ⟨i, hi⟩ := List.getElem?_of_mem hb
  have il := (List.getElem?_eq_some_iff.mp hi).1
  have hc : cs[i]? = some (cs[i]'(by rw [h.len]; exact il)) := List.getElem?_eq_getElem _
  exact ⟨_, List.mem_of_getElem? hc, h.at_ i b _ hi hc⟩
theorem ShL.fits {k : Nat} {bs cs : List Bar} (h : ShL k bs cs) (x : Int) : fitsB cs x = fitsB bs (x * (k : Int)) := by
  unfold fitsB
  rw [Bool.eq_iff_iff, List.all_eq_true, List.all_eq_true]
  constructor
  · intro f b hb
    obtain ⟨c, hc, g⟩ := h.at' hb
    exact decide_eq_true ((g.mem x).mp (of_decide_eq_true (f c hc)))
  · intro f c hc
    obtain ⟨b, hb, g⟩ := h.at hc
    exact decide_eq_true ((g.mem x).mpr (of_decide_eq_true (f b hb)))
theorem ShL.wh {k : Nat} : ∀ {bs cs : List Bar}, ShL k bs cs → (∀ b ∈ bs, 1 ≤ b.1) → R.wh cs ∣ R.wh bs := by
  intro bs cs h hb
  have each : ∀ c ∈ cs, c.1.natAbs ∣ R.wh bs := fun c hc => by
    obtain ⟨b, hb', g⟩ := h.at hc
    have d1 : c.1 ∣ b.1 := by
      rw [g.mod]
      refine ⟨((Nat.gcd b.1.natAbs k : Nat) : Int), (Int.ediv_mul_cancel ?_).symm⟩
      rw [← Int.dvd_natAbs]
      exact Int.natCast_dvd_natCast.mpr (Nat.gcd_dvd_left _ _)
    exact Nat.dvd_trans (Int.natAbs_dvd_natAbs.mpr d1) (dvd_wh bs b hb')
  exact wh_dvd cs each
theorem ShL.choices {k : Nat} {bs cs : List Bar} (h : ShL k bs cs) : R.choices cs ≤ R.choices bs := by
  have go : ∀ n, R.choices (cs.take n) ≤ R.choices (bs.take n) := by
    intro n
    induction n with
    | zero => exact Nat.le_refl _
    | succ n ih =>
      by_cases l : n < bs.length
      · have hb : bs[n]? = some bs[n] := List.getElem?_eq_getElem l
        have hc : cs[n]? = some (cs[n]'(by rw [h.len]; exact l)) := List.getElem?_eq_getElem _
        rw [takeSucc hb, takeSucc hc, choices_add, choices_add]
        have := (h.at_ n _ _ hb hc).len
        exact Nat.mul_le_mul ih (by omega)
      · rw [List.take_of_length_le (by rw [h.len]; omega), List.take_of_length_le (by omega)]
        rw [List.take_of_length_le (by rw [h.len]; omega), List.take_of_length_le (by omega)] at ih
        exact ih
  have := go bs.length
  rw [List.take_length, ← h.len, List.take_length] at this
  exact this
theorem ShL.sv {k : Nat} {bs cs : List Bar} (h : ShL k bs cs) (S : SvOk bs) : SvOk cs := by
  refine ⟨by rw [h.len]; exact S.six, fun c hc => ?_, ?_, Nat.le_trans h.choices S.many⟩
  · obtain ⟨b, hb, g⟩ := h.at hc
    have := (S.bar b hb).most
    have := g.most
    exact ⟨g.pos, by omega, g.lot⟩
  · exact Nat.le_trans (Nat.le_of_dvd S.mods.pos (h.wh fun b hb => (S.bar b hb).pos)) S.great
/-- the lot that shared_bar makes -/
theorem sh_lot {k : Nat} {b : Bar} {back : Int} {ns : List Int} (hk : 1 ≤ k) (ob : BarOk b) (hi : b.1 / ((Nat.gcd b.1.natAbs k : Nat) : Int) ∣ ((k / Nat.gcd b.1.natAbs k : Nat) : Int) * back - 1)
    (p : ns.Perm ((b.2.filter fun r => decide (r % ((Nat.gcd b.1.natAbs k : Nat) : Int) = 0)).map fun r => r / ((Nat.gcd b.1.natAbs k : Nat) : Int) * back % (b.1 / ((Nat.gcd b.1.natAbs k : Nat) : Int)))) (up : ns.Pairwise (· ≤ ·)) :
    ShB k b (b.1 / ((Nat.gcd b.1.natAbs k : Nat) : Int), ns) := by
  have b1 := ob.pos
  have g0 : 0 < Nat.gcd b.1.natAbs k := Nat.gcd_pos_of_pos_right _ (by omega)
  have dm : Nat.gcd b.1.natAbs k ∣ b.1.natAbs := Nat.gcd_dvd_left _ _
  have dk : Nat.gcd b.1.natAbs k ∣ k := Nat.gcd_dvd_right _ _
  generalize hg : Nat.gcd b.1.natAbs k = g at *
  obtain ⟨s, hs⟩ := dm
  obtain ⟨k', hk'⟩ := dk
  have eb : b.1 = (g : Int) * (s : Int) := by
    rw [← Int.natCast_mul, ← hs]
    omega
  have es : b.1 / (g : Int) = (s : Int) := by rw [eb]; exact Int.mul_ediv_cancel_left _ (by omega)
  have ek : ((k / g : Nat) : Int) = (k' : Int) := by rw [hk', Nat.mul_div_cancel_left _ g0]
  have ekk : (k : Int) = (g : Int) * (k' : Int) := by rw [hk']; exact Int.natCast_mul _ _
  have s0 : 0 < s := by
    rcases Nat.eq_zero_or_pos s with z | z
    · rw [z] at eb
      omega
    · exact z
  rw [es] at hi p ⊢
  rw [ek] at hi
  -- from a lot's rest to the new one and back
  have to : ∀ r : Int, r % (g : Int) = 0 → 0 ≤ r → r < b.1 → ((r / (g : Int) * back % (s : Int)) * (k : Int)) % b.1 = r := by
    intro r hr r0 r1
    have er : r = (g : Int) * (r / (g : Int)) := (Int.mul_ediv_cancel' (Int.dvd_of_emod_eq_zero hr)).symm
    have h0 : 0 ≤ r / (g : Int) := Int.ediv_nonneg r0 (by omega)
    have h1 : r / (g : Int) < (s : Int) := Int.ediv_lt_of_lt_mul (by omega) (by rw [Int.mul_comm, ← eb]; exact r1)
    generalize r / (g : Int) = t at er h0 h1 ⊢
    rw [ekk, eb, show t * back % (s : Int) * ((g : Int) * (k' : Int)) = (g : Int) * ((t * back % (s : Int)) * (k' : Int)) by rw [Int.mul_left_comm], Int.mul_emod_mul_of_pos _ _ (by omega), er]
    congr 1
    rw [Int.mul_emod, Int.emod_emod, ← Int.mul_emod]
    obtain ⟨e, he⟩ := hi
    have : t * back * (k' : Int) = t + (s : Int) * (t * e) := by
      have h2 : (k' : Int) * back = 1 + (s : Int) * e := by omega
      rw [Int.mul_assoc, Int.mul_comm back, h2, Int.mul_add, Int.mul_one, Int.mul_left_comm]
    rw [this, Int.add_mul_emod_self_left, Int.emod_eq_of_lt h0 h1]
  have mem : ∀ x, 0 ≤ x → x < (s : Int) → (x ∈ ns ↔ (x * (k : Int)) % b.1 ∈ b.2) := by
    intro x x0 x1
    rw [p.mem_iff, List.mem_map]
    constructor
    · rintro ⟨r, hr, rfl⟩
      obtain ⟨h1, h2⟩ := List.mem_filter.mp hr
      rw [to r (of_decide_eq_true h2) (ob.lot.ge r h1) (ob.lot.lt r h1)]
      exact h1
    · intro h
      refine ⟨_, List.mem_filter.mpr ⟨h, ?_⟩, ?_⟩
      · refine decide_eq_true ?_
        rw [ekk, eb, Int.mul_left_comm, Int.mul_emod_mul_of_pos _ _ (by omega)]
        exact Int.mul_emod_right _ _
      · rw [ekk, eb, Int.mul_left_comm, Int.mul_emod_mul_of_pos _ _ (by omega), Int.mul_ediv_cancel_left _ (by omega), Int.mul_emod, Int.emod_emod, ← Int.mul_emod]
        obtain ⟨e, he⟩ := hi
        have : x * (k' : Int) * back = x + (s : Int) * (x * e) := by
          have h2 : (k' : Int) * back = 1 + (s : Int) * e := by omega
          rw [Int.mul_assoc, h2, Int.mul_add, Int.mul_one, Int.mul_left_comm]
        rw [this, Int.add_mul_emod_self_left, Int.emod_eq_of_lt x0 x1]
  have lot : LotOk (s : Int) ns := by
    refine sorted_lot p up ?_ (fun x hx => ?_) ?_
    · unfold List.Nodup
      rw [List.pairwise_map]
      refine List.Pairwise.imp_of_mem (fun {x y} hx hy lt e => ?_) (ob.lot.up.filter _)
      obtain ⟨h1, h2⟩ := List.mem_filter.mp hx
      obtain ⟨h3, h4⟩ := List.mem_filter.mp hy
      have e1 := to x (of_decide_eq_true h2) (ob.lot.ge x h1) (ob.lot.lt x h1)
      have e2 := to y (of_decide_eq_true h4) (ob.lot.ge y h3) (ob.lot.lt y h3)
      rw [e, e2] at e1
      omega
    · obtain ⟨r, _, rfl⟩ := List.mem_map.mp hx
      exact ⟨Int.emod_nonneg _ (by omega), Int.emod_lt_of_pos _ (by omega)⟩
    · rw [List.length_map]
      have h1 := List.length_filter_le (fun r => decide (r % (g : Int) = 0)) b.2
      have h2 := ob.lot.few
      omega
  refine ⟨by show (s : Int) = b.1 / ((Nat.gcd b.1.natAbs k : Nat) : Int); rw [hg, es], by show 1 ≤ (s : Int); omega, ?_, lot, ?_, fun x => ?_⟩
  · show (s : Int) ≤ b.1
    rw [eb]
    have : (1 : Int) * (s : Int) ≤ (g : Int) * (s : Int) := Int.mul_le_mul_of_nonneg_right (by omega) (by omega)
    omega
  · show ns.length ≤ _
    rw [p.length_eq, List.length_map]
    exact List.length_filter_le _ _
  · show x % (s : Int) ∈ ns ↔ _
    rw [mem _ (Int.emod_nonneg _ (by omega)) (Int.emod_lt_of_pos _ (by omega))]
    have : (x % (s : Int) * (k : Int)) % b.1 = (x * (k : Int)) % b.1 := by
      rw [ekk, eb, Int.mul_left_comm, Int.mul_left_comm x, Int.mul_emod_mul_of_pos _ _ (by omega), Int.mul_emod_mul_of_pos _ _ (by omega), Int.mul_emod, Int.emod_emod, ← Int.mul_emod]
    rw [this]

end R
namespace R
open PySem PySem.Spec PyProof.Rows L2
/-! ## factors checked -/
def sp_p_check_factor (K : PySem.W.Frag) (B : Addr) : Sp := fun vs H Q E => ∃ x : V, vs = [x] ∧ ((∃ i, x = .int i ∧ 1 ≤ i ∧ i ≤ 1000 ∧ Q .non H) ∨ (OffI K H 1 1000 x ∧ E (.ref B) none H))
section
variable {P : Program} {w : World} {K : PySem.W.Frag} {mg : Str → Option Value} {base : Heap}
theorem ok_p_check_factor (T : Txt K mg) : FnOk P w K mg base (L2.CX P w) 4 T.f_p_check_factor T.fd_p_check_factor ["value"] (sp_p_check_factor K T.C_BadNumber) := by
  refine T.F_p_check_factor.okX sc_p_check_factor (fun vs H Q E h => ?_) (fun cdv A outer s H vs Q E hr h => ?_)
  · obtain ⟨x, rfl, _⟩ := h
    rfl
  · obtain ⟨x, rfl, h⟩ := h
    refine ⟨_, (pss_one (ps_if (pt_not (pt_val (pe_call (ok_p_integer_within T) (hr.mono (by decide)) (by rfl) T.g_p_integer_within T.F_p_integer_within.kp T.b_p_integer_within .nil pass0 (pa_cons (pv 0) (pa_cons pe_int (pa_cons (pe_glob (v := .int 1000) (by rfl) T.c_GREATEST_FACTOR.choose_spec ⟨_, rfl⟩) pa_nil)))))) (pss_one (ps_raise rfl (takes_of rfl rfl rfl rfl) (pmk_own PySem.F.excBase_ValueError T.x_BadNumber T.g_BadNumber T.k_BadNumber (raises_own T.b_BadNumber T.t_BadNumber) (by rfl)))) pss_nil)), ?_⟩
    rcases h with ⟨i, rfl, h1, h2, q⟩ | ⟨o | ⟨i, rfl, o⟩, q⟩
    · refine ⟨_, rfl, _, 1, 1000, rfl, .inl ⟨i, rfl, _, rfl, ?_⟩⟩
      rw [onYes h1 h2]
      exact iteF q
    · exact ⟨_, rfl, _, 1, 1000, rfl, .inr ⟨o, _, rfl, iteT q⟩⟩
    · refine ⟨_, rfl, _, 1, 1000, rfl, .inl ⟨i, rfl, _, rfl, ?_⟩⟩
      rw [offNo o]
      exact iteT q
end

end R
namespace R
open PySem PySem.Spec PyProof.Rows L2
/-! ## stretched -/
def sp_p_stretched (K : PySem.W.Frag) (C B G : Addr) : Sp := fun vs H Q E => ∃ (p : Addr) (x v : V) (t : Addr) (bs : List Bar), vs = [.ref p, x] ∧ SvAt K C H p v t bs ∧
  ((OffI K H 1 1000 x ∧ E (.ref B) none H) ∨ ∃ k : Int, x = .int k ∧ 1 ≤ k ∧ k ≤ 1000 ∧ (((∃ b ∈ bs, 1000000 < b.1 * k) ∧ ∀ H', Same H H' → E (.ref G) none H') ∨
    (bs.length ≤ 5 ∧ (∀ b ∈ bs, b.1 * k ≤ 1000000) ∧ ∀ p' v' t' H', Same H H' → SvAt K C H' p' v' t' (strB k bs) → Q (.ref p') H')))
section
variable {P : Program} {w : World} {K : PySem.W.Frag} {mg : Str → Option Value} {base : Heap}
theorem ok_p_stretched (T : Txt K mg) : FnOk P w K mg base (L2.CX P w) 12 T.f_p_stretched T.fd_p_stretched ["sieve", "by"] (sp_p_stretched K T.C T.C_BadNumber T.C_TooGreat) := by
  refine T.F_p_stretched.okX sc_p_stretched (fun vs H Q E h => ?_) (fun cdv A outer s H vs Q E hr h => ?_)
  · obtain ⟨p, x, v, t, bs, rfl, _⟩ := h
    rfl
  · obtain ⟨p, x, v, t, bs, rfl, S, h⟩ := h
    refine ⟨_, (pss_cons (ps_expr (pe_call (ok_p_check_factor T) (hr.mono (by decide)) (by rfl) T.g_p_check_factor T.F_p_check_factor.kp T.b_p_check_factor .nil (passes_call (takes_of rfl rfl rfl rfl) (fun _ _ _ _ h => h)) (pa_cons (pv 1) pa_nil)))
      (pss_cons (ps_if (pt_cmpR (op_eqD hr.units) (pe_prop (pv 0) T.cl T.pp_bars (ok_m_Sieve_bars T) (hr.mono (by decide)) T.b_m_Sieve_bars .nil pass0 (by rfl)) (pe_tup pa_nil) (nomark _)) (pss_one (ps_ret (pe_make T.mkC (ok_m_Sieve_init T) (hr.mono (by decide)) (by rfl) T.g_Sieve T.b_m_Sieve_init .nil pass0 (pa_cons (pe_tup (pa_cons (pe_tup (pa_cons (pv 1) (pa_cons (pe_tup (pa_cons pe_int pa_nil)) pa_nil))) pa_nil)) pa_nil)))) pss_nil)
      (pss_cons (ps_setLc (i := 2) (own := [("modulus", 3), ("lot", 4)]) (g := gTup K 2 (gCons (gName 3) (gCons (gName 4) (gNil)))) rfl sc_p_stretched.nd rfl rfl (sw_true rfl rfl rfl (by decide +kernel)) (pi_tup (pe_prop (pv 0) T.cl T.pp_bars (ok_m_Sieve_bars T) (hr.mono (by decide)) T.b_m_Sieve_bars .nil pass0 (by rfl))) (blkOk_by (N := ["sieve", "by", "bars", "modulus", "lot", "rest", "_"]) (sc := defScope s_p_stretched) (by decide +kernel)) (fun _ _ _ _ _ => (pg_tup (by rfl) (pgs_cons (pg_name (i := 3) sc_p_stretched.nd rfl (by first | exact .inl rfl | exact .inr rfl)) (pgs_cons (pg_name (i := 4) sc_p_stretched.nd rfl (by first | exact .inl rfl | exact .inr rfl)) pgs_nil)))) (fun _ _ _ _ _ => pts_nil) (fun _ _ _ _ _ => (pe_tup (pa_cons (pe_op op_mulW (pv 3) (pv 1)) (pa_cons (pe_callTy (r := rTupOf K) call_tuple_of (by rfl) T.z_tuple (by decide +kernel) (pa_cons (by exact (pe_lc (own := [("rest", 5)]) rfl sc_p_stretched.nd (pi_tupK (K := K) rfl (pv 4)) (blkOk_by (N := ["sieve", "by", "bars", "modulus", "lot", "rest", "_"]) (by kernel_rfl)) (fun _ _ _ _ _ => (pg_name (i := 5) sc_p_stretched.nd rfl (by first | exact .inl rfl | exact .inr rfl))) (fun _ _ _ _ _ => pts_nil) (fun _ _ _ _ _ => (pe_op op_mulW (pv 5) (pv 1))))) pa_nil)) pa_nil)))))
      (pss_cons (ps_if (pt_cmpR op_gt (pe_callB (cr_max rfl) (by rfl) T.z_max (by decide +kernel) (pa_cons (pe_lc (own := [("modulus", 3), ("_", 6)]) (g := gTup K 2 (gCons (gName 3) (gCons (gName 6) (gNil)))) rfl sc_p_stretched.nd (pi_list (pv 2)) (blkOk_by (N := ["sieve", "by", "bars", "modulus", "lot", "rest", "_"]) (sc := defScope s_p_stretched) (by decide +kernel)) (fun _ _ _ _ _ => (pg_tup (by rfl) (pgs_cons (pg_name (i := 3) sc_p_stretched.nd rfl (by first | exact .inl rfl | exact .inr rfl)) (pgs_cons (pg_name (i := 6) sc_p_stretched.nd rfl (by first | exact .inl rfl | exact .inr rfl)) pgs_nil)))) (fun _ _ _ _ _ => pts_nil) (fun _ _ _ _ _ => (pv 3))) pa_nil)) (pe_glob (v := .int 1000000) (by rfl) T.c_GREATEST_MODULUS.choose_spec ⟨_, rfl⟩) (nomark _)) (pss_one (ps_raise rfl (takes_of rfl rfl rfl rfl) (pmk_own PySem.F.excBase_ValueError T.x_TooGreat T.g_TooGreat T.k_TooGreat (raises_own T.b_TooGreat T.t_TooGreat) (by rfl)))) pss_nil)
      (pss_one (ps_ret (pe_make T.mkC (ok_m_Sieve_init T) (hr.mono (by decide)) (by rfl) T.g_Sieve T.b_m_Sieve_init .nil pass0 (pa_cons (pe_callTy call_tuple_of (by rfl) T.z_tuple (by decide +kernel) (pa_cons (pv 2) pa_nil)) pa_nil)))))))), ?_⟩
    refine ⟨_, rfl, x, rfl, ?_⟩
    rcases h with ⟨o, q⟩ | ⟨k, rfl, k1, k2, h⟩
    · exact .inr ⟨o, q⟩
    refine .inl ⟨k, rfl, k1, k2, ?_⟩
    have six := S.ok.six
    refine ⟨_, rfl, p, _, _, rfl, S.ob.choose_spec, p, v, t, bs, rfl, S, sizeOk (by show (0 : Nat) ≤ 100000; decide), fun d nd => ?_⟩
    have s1 := same_upd nd (o := .tup [])
    have S1 := S.stay s1
    refine ⟨_, _, dpBars S1.bars, .tup (tupOf upd_same) .nil, (okBars _).shaped (by decide), by decide, _, rfl, ?_⟩
    rw [show PyData.eqv (.tuple (bs.map barD)) (.tuple []) = decide (bs = []) from eqvBars bs []]
    generalize upd H d (.tup []) = H1 at s1 S1 ⊢
    by_cases h0 : bs = []
    · rw [decide_eq_true h0]
      rcases h with ⟨⟨b, hb, _⟩, _⟩ | ⟨l5, hb, q⟩
      · rw [h0] at hb
        simp at hb
      have ok := str_ok S.ok l5 k1 (by omega) hb
      have es : strB k bs = [(k, [0])] := if_pos h0
      rw [es] at ok q
      refine iteT ⟨_, rfl, sizeOk (by show (1 : Nat) ≤ 100000; decide), fun a1 n1 => ⟨sizeOk (by show (2 : Nat) ≤ 100000; decide), fun a2 n2 => ⟨sizeOk (by show (1 : Nat) ≤ 100000; decide), fun a3 n3 => ?_⟩⟩⟩
      have g1 := same_upd n1 (o := .tup ([0].map V.int))
      have g2 := same_upd n2 (o := .tup [.int k, .ref a1])
      have g3 := same_upd n3 (o := .tup [.ref a2])
      have f1 := g3 _ _ (g2 _ _ (upd_same (H := H1) (a := a1) (o := .tup ([0].map V.int))))
      have f2 := g3 _ _ (upd_same (H := upd H1 a1 (.tup ([0].map V.int))) (a := a2) (o := .tup [.int k, .ref a1]))
      have f3 := upd_same (H := upd (upd H1 a1 (.tup ([0].map V.int))) a2 (.tup [.int k, .ref a1])) (a := a3) (o := .tup [.ref a2])
      exact fun z dz nz ndz _ => make_sieve (oneBar (b := (k, [0])) (tupOf f3) ⟨a2, .ref a1, rfl, tupOf f2, ⟨a1, rfl, tupOf f1⟩⟩) ok nz ndz fun t' H' s' A => ⟨rfl, q _ _ _ _ (s1.trans (g1.trans (g2.trans (g3.trans s')))) A⟩
    rw [decide_eq_false h0]
    obtain ⟨ba, xs, rfl, tb, nx, hx⟩ := S1.bars.ex
    refine iteF ⟨_, rfl, p, _, _, rfl, S1.ob.choose_spec, p, _, t, bs, rfl, S1, ba, rfl, ⟨_, tb⟩, fun D6 n6 => ?_⟩
    refine lc_tup (K := K) (a := ba) (xs := xs) (fun j Hj => BarLst K Hj D6 ((bs.take j).map (scB k 0)) ∧ Same H1 Hj) ⟨BarLst.nil upd_same, same_upd n6⟩ (fun j Hj _ ⟨_, sj⟩ => Same.seqTT sj tb) ?_ ?_
    · rintro j y Hj hj ⟨⟨ys, ey, ny, fy⟩, sj⟩
      have jl : j < bs.length := by
        have := (List.getElem?_eq_some_iff.mp hj).1
        omega
      have hb : bs[j]? = some bs[j] := List.getElem?_eq_getElem jl
      obtain ⟨pb, lv, rfl, tp, ⟨lc, rfl, tc⟩⟩ := ((hx j y _ hj hb).stay (.same sj)).ex
      have ob := S.ok.bar _ (List.getElem_mem jl)
      generalize bs[j] = b at hb tp tc ob
      have b1 := ob.pos
      have b2 := ob.most
      have bl := ob.lot
      refine ⟨pb, _, rfl, tp, rfl, _, _, rfl, _, _, rfl, rfl, rfl, ?_⟩
      refine ⟨_, rfl, _, rfl, _, _, rfl, rfl, wide_mul (a := 22) (b := 12) (by omega) (by omega) (by decide) (by decide) (by decide), ?_⟩
      refine ⟨_, rfl, lc, rfl, ⟨_, tc⟩, fun F nF => ?_⟩
      refine lc_tup (K := K) (a := lc) (xs := b.2.map V.int) (fun u Hu => Hu F = some (.lst (((b.2.take u).map fun r => r * k).map V.int)) ∧ Same Hj Hu) ⟨upd_same, same_upd nF⟩ (fun u Hu _ ⟨_, su⟩ => Same.seqTT su tc) ?_ ?_
      · rintro u y Hu hu ⟨el, su⟩
        obtain ⟨x, hx', rfl⟩ := getMapInt' hu
        have x0 := bl.ge x (List.mem_of_getElem? hx')
        have x1 := bl.lt x (List.mem_of_getElem? hx')
        have few := bl.few
        refine ⟨rfl, _, rfl, _, rfl, _, _, rfl, rfl, wide_mul (a := 22) (b := 12) (by omega) (by omega) (by decide) (by decide) (by decide), _, el, ?_, ?_, samePut su nF⟩
        · rw [List.length_map, List.length_map, List.length_take]
          exact sizeLt (by omega)
        · rw [upd_same, takeSucc hx', List.map_append, List.map_append]
          rfl
      · rintro Hu ⟨el, su⟩
        rw [List.length_map, List.take_length] at el
        refine ⟨F, _, rfl, .inl ⟨lstOf el, fun g ng => ⟨sizeOk (by show (2 : Nat) ≤ 100000; decide), fun e ne => ?_⟩⟩⟩
        have s6b : Same Hu (upd Hu g (.tup ((b.2.map fun r => r * k).map V.int))) := same_upd ng
        have s7 : Same Hj (upd (upd Hu g (.tup ((b.2.map fun r => r * k).map V.int))) e (.tup [.int (b.1 * k), .ref g])) := su.trans (s6b.trans (same_upd ne))
        have eD := s7 _ _ ey
        refine ⟨_, eD, ?_, ?_, samePut (sj.trans s7) n6⟩
        · rw [ny, List.length_map, List.length_take]
          exact sizeLt (by omega)
        · rw [takeSucc hb, List.map_append]
          refine BarLst.add (H := upd (upd Hu g (.tup ((b.2.map fun r => r * k).map V.int))) e (.tup [.int (b.1 * k), .ref g])) ny (fun i x b h1 h2 => (fy i x b h1 h2).stay (.same s7)) (lstTups eD) upd_same (BarAt.stay (lstTups eD) ⟨e, .ref g, rfl, tupOf upd_same, ⟨g, rfl, ?_⟩⟩)
          have eg : (scB k 0 b).2 = b.2.map fun r => r * k := List.map_congr_left fun r _ => Int.add_zero _
          rw [eg]
          exact tupOf (same_upd ne _ _ upd_same)
    rintro H2 ⟨⟨ys, ey, ny, fy⟩, s2⟩
    rw [nx, List.take_length] at ny fy
    have s12 := s1.trans s2
    refine ⟨_, rfl, D6, rfl, ⟨_, lstOf ey⟩, fun F nF => ?_⟩
    refine lc_list (K := K) (a := D6) (xs := ys) (fun j Hj => Hj F = some (.lst (((bs.take j).map fun b => b.1 * k).map V.int)) ∧ Same H2 Hj) ⟨upd_same, same_upd nF⟩ (fun j Hj _ ⟨_, sj⟩ => lstOf (sj _ _ ey)) ?_ ?_
    · rintro j y Hj hj ⟨ej, sj⟩
      have jl : j < bs.length := by
        have := (List.getElem?_eq_some_iff.mp hj).1
        rw [ny, List.length_map] at this
        exact this
      have hb : bs[j]? = some bs[j] := List.getElem?_eq_getElem jl
      obtain ⟨pb, lv, rfl, tp, _⟩ := ((fy j y (scB k 0 bs[j]) hj (by rw [List.getElem?_map, hb]; rfl)).stay (.same sj)).ex
      generalize bs[j] = b at hb tp
      refine ⟨pb, _, rfl, tp, rfl, _, _, rfl, _, _, rfl, rfl, rfl, _, rfl, _, ej, ?_, ?_, samePut sj nF⟩
      · rw [List.length_map, List.length_map, List.length_take]
        exact sizeLt (by omega)
      · rw [upd_same, takeSucc hb, List.map_append, List.map_append]
        rfl
    rintro H3 ⟨e3, s3⟩
    rw [ny, List.length_map, List.take_length] at e3
    have l0 := List.length_pos_iff.mpr h0
    refine ⟨F, _, rfl, lstOf e3, by rw [List.length_map]; exact l0, fun m hm hl => ⟨_, _, rfl, rfl, _, rfl, ?_⟩⟩
    obtain ⟨b0, hb0, em⟩ := List.mem_map.mp hm
    rcases h with ⟨⟨b, hb, lt⟩, q⟩ | ⟨l5, hb, q⟩
    · have := hl _ (List.mem_map.mpr ⟨b, hb, rfl⟩)
      rw [decide_eq_true (show (1000000 : Int) < m by omega)]
      exact iteT (q _ (s12.trans s3))
    · have := hb b0 hb0
      rw [decide_eq_false (show ¬ (1000000 : Int) < m by omega)]
      have ok := str_ok S.ok l5 k1 (by omega) hb
      have es : strB k bs = bs.map (scB k 0) := if_neg h0
      rw [es] at ok q
      refine iteF ⟨_, rfl, D6, ys, rfl, .inl ⟨lstOf (s3 _ _ ey), fun u nu => ?_⟩⟩
      have B := BarLst.tup ny (fun i x b h1 h2 => (fy i x b h1 h2).stay (.same s3)) nu
      exact fun z dz nz ndz _ => make_sieve B ok nz ndz fun t' H' s' A => ⟨rfl, q _ _ _ _ (s12.trans (s3.trans ((same_upd nu).trans s'))) A⟩
end

end R
namespace R
open PySem PySem.Spec PyProof.Rows L2
/-! ## shared -/
def sp_p_shared_bar (K : PySem.W.Frag) : Sp := fun vs H Q _ => ∃ (x : V) (b : Bar) (k : Nat), vs = [x, .int k] ∧ BarAt K H x b ∧ BarOk b ∧ 1 ≤ k ∧ k ≤ 1000 ∧ ∀ y c H', Same H H' → ShB k b c → BarAt K H' y c → Q y H'
def sp_p_shared (K : PySem.W.Frag) (C B : Addr) : Sp := fun vs H Q E => ∃ (p : Addr) (x v : V) (t : Addr) (bs : List Bar), vs = [.ref p, x] ∧ SvAt K C H p v t bs ∧
  ((OffI K H 1 1000 x ∧ E (.ref B) none H) ∨ ∃ k : Nat, x = .int k ∧ 1 ≤ k ∧ k ≤ 1000 ∧ ∀ p' v' t' cs H', Same H H' → ShL k bs cs → SvAt K C H' p' v' t' cs → Q (.ref p') H')
section
variable {P : Program} {w : World} {K : PySem.W.Frag} {mg : Str → Option Value} {base : Heap}
theorem ok_p_shared_bar (T : Txt K mg) : FnOk P w K mg base CX0 3 T.f_p_shared_bar T.fd_p_shared_bar ["bar", "by"] (sp_p_shared_bar K) := by
  refine T.F_p_shared_bar.ok sc_p_shared_bar (fun vs H Q E h => ?_) (fun cdv A outer s H vs Q E hr h => ?_)
  · obtain ⟨x, b, k, rfl, _⟩ := h
    rfl
  · obtain ⟨x, b, k, rfl, B, ob, k1, k2, q⟩ := h
    refine ⟨_, (pss_cons (ps_asg (pv 0) (pg_tup (by rfl) (pgs_cons (pg_name (i := 2) sc_p_shared_bar.nd rfl (by first | exact .inl rfl | exact .inr rfl)) (pgs_cons (pg_name (i := 3) sc_p_shared_bar.nd rfl (by first | exact .inl rfl | exact .inr rfl)) pgs_nil))))
      (pss_cons (ps_set (i := 4) sc_p_shared_bar.nd rfl (by first | exact .inl rfl | exact .inr rfl) (pe_callBfun cr_gcd (by rfl) T.g_gcd (pa_cons (pv 2) (pa_cons (pv 1) pa_nil))))
      (pss_cons (ps_set (i := 5) sc_p_shared_bar.nd rfl (by first | exact .inl rfl | exact .inr rfl) (pe_op op_fdivW (pv 2) (pv 4)))
      (pss_cons (ps_set (i := 6) sc_p_shared_bar.nd rfl (by first | exact .inl rfl | exact .inr rfl) (pe_call (ok_p_inverse T) (hr.mono (by decide)) (by rfl) T.g_p_inverse T.F_p_inverse.kp T.b_p_inverse .nil pass0 (pa_cons (pe_op op_fdivW (pv 1) (pv 4)) (pa_cons (pv 5) pa_nil))))
      (pss_one (ps_ret (pe_tup (pa_cons (pv 5) (pa_cons (pe_callTy call_tuple_of (by rfl) T.z_tuple (by decide +kernel) (pa_cons (pe_callB cr_sortedI (by rfl) T.z_sorted (by decide +kernel) (pa_cons (pe_lc (own := [("rest", 7)]) rfl sc_p_shared_bar.nd (pi_tup (pv 3)) (blkOk_by (N := ["bar", "by", "modulus", "lot", "common", "smaller", "back", "rest"]) (sc := defScope s_p_shared_bar) (by decide +kernel)) (fun _ _ _ _ _ => (pg_name (i := 7) sc_p_shared_bar.nd rfl (by first | exact .inl rfl | exact .inr rfl))) (fun _ _ _ _ _ => (pts_one (pt_cmpR op_eq (pe_op op_mod (pv 7) (pv 4)) pe_int (nomark _)))) (fun _ _ _ _ _ => (pe_op op_mod (pe_op op_mulW (pe_op op_fdivW (pv 7) (pv 4)) (pv 6)) (pv 5)))) pa_nil)) pa_nil)) pa_nil))))))))), ?_⟩
    obtain ⟨pb, lv, rfl, tp, ⟨lc, rfl, tc⟩⟩ := B.ex
    have b1 := ob.pos
    have b2 := ob.most
    have g0 : 0 < Nat.gcd b.1.natAbs k := Nat.gcd_pos_of_pos_right _ (by omega)
    have gk : Nat.gcd b.1.natAbs k ≤ k := Nat.gcd_le_right _ (by omega)
    have gm : Nat.gcd b.1.natAbs k ≤ b.1.natAbs := Nat.gcd_le_left _ (by omega)
    have cop : Nat.gcd (k / Nat.gcd b.1.natAbs k) (b.1.natAbs / Nat.gcd b.1.natAbs k) = 1 := by
      rw [Nat.gcd_div (Nat.gcd_dvd_right _ _) (Nat.gcd_dvd_left _ _), Nat.gcd_comm k, Nat.div_self g0]
    have eb : b.1 / ((Nat.gcd b.1.natAbs k : Nat) : Int) = ((b.1.natAbs / Nat.gcd b.1.natAbs k : Nat) : Int) := by
      rw [Int.natCast_ediv]
      congr 1
      omega
    have q0 : 1 ≤ b.1.natAbs / Nat.gcd b.1.natAbs k := Nat.div_pos gm g0
    have q1 : b.1.natAbs / Nat.gcd b.1.natAbs k ≤ b.1.natAbs := Nat.div_le_self _ _
    have r0 : 1 ≤ k / Nat.gcd b.1.natAbs k := Nat.div_pos gk g0
    have r1 : k / Nat.gcd b.1.natAbs k ≤ k := Nat.div_le_self _ _
    refine ⟨_, rfl, pb, _, rfl, tp, rfl, _, _, rfl, _, _, rfl, rfl, ?_⟩
    refine ⟨_, rfl, _, rfl, _, _, rfl, ?_⟩
    rw [Int.natAbs_natCast]
    have sh := @sh_lot k b
    obtain ⟨g, hg⟩ : ∃ g : Nat, g = Nat.gcd b.1.natAbs k := ⟨_, rfl⟩
    rw [← hg] at g0 gk gm cop eb q0 q1 r0 r1 sh ⊢
    refine ⟨_, rfl, _, rfl, _, _, rfl, rfl, wide_div (b := 131) (by omega) (by omega) (by decide) (by decide), ?_⟩
    show _
    refine ⟨_, rfl, _, rfl, _, _, rfl, rfl, wide_div (b := 131) (by omega) (by omega) (by decide) (by decide), _, rfl, k / g, b.1.natAbs / g, ?_, r0, Nat.lt_of_le_of_lt (show k / g ≤ 1000 by omega) (by decide), q0, Nat.lt_of_le_of_lt (show b.1.natAbs / g ≤ 1000000 by omega) (by decide), cop, fun back H1 s1 v0 v1 hd => ?_⟩
    · show [V.int ((k : Int) / (g : Int)), V.int (b.1 / (g : Int))] = _
      rw [eb, divNat]
    have back1 : back < 1000000 := by omega
    refine ⟨_, rfl, _, rfl, lc, rfl, ⟨_, Same.seqTT s1 tc⟩, fun F nF => ?_⟩
    refine lc_tup (K := K) (a := lc) (xs := b.2.map V.int) (fun u Hu => Hu F = some (.lst ((((b.2.take u).filter fun r => decide (r % (g : Int) = 0)).map fun r => r / (g : Int) * back % (b.1 / (g : Int))).map V.int)) ∧ Same H1 Hu) ⟨upd_same, same_upd nF⟩ (fun u Hu _ ⟨_, su⟩ => Same.seqTT (s1.trans su) tc) ?_ ?_
    · rintro u y Hu hu ⟨el, su⟩
      obtain ⟨x, hx', rfl⟩ := getMapInt' hu
      have x0 := ob.lot.ge x (List.mem_of_getElem? hx')
      have x1 := ob.lot.lt x (List.mem_of_getElem? hx')
      have few := ob.lot.few
      have d0 : 0 ≤ x / (g : Int) := Int.ediv_nonneg x0 (by omega)
      have d1 : x / (g : Int) ≤ x := Int.ediv_le_self _ x0
      refine ⟨rfl, _, rfl, _, rfl, _, _, rfl, rfl, by show (0 : Int) < (g : Int); omega, rfl, _, rfl, ?_⟩
      have ep : decide (V.int (x % (g : Int)) = V.int 0) = decide (x % (g : Int) = 0) := by
        by_cases z : x % (g : Int) = 0
        · rw [decide_eq_true z, decide_eq_true (congrArg V.int z)]
        · rw [decide_eq_false z, decide_eq_false fun y => z (V.int.inj y)]
      rw [ep]
      refine ite2 (fun f => ?_) (fun f => ?_)
      · refine ⟨_, rfl, _, rfl, _, _, rfl, rfl, wide_div (b := 131) (by omega) (by omega) (by decide) (by decide), _, rfl, _, _, rfl, rfl, wide_mul (a := 22) (b := 22) (by omega) (by omega) (by decide) (by decide) (by decide), _, rfl, _, _, rfl, rfl, by show (0 : Int) < b.1 / (g : Int); omega, _, el, ?_, ?_, samePut su nF⟩
        · rw [List.length_map, List.length_map]
          have := List.length_filter_le (fun r => decide (r % (g : Int) = 0)) (b.2.take u)
          rw [List.length_take] at this
          exact sizeLt (by omega)
        · rw [upd_same, takeSucc hx', List.filter_append, List.filter_cons_of_pos (p := fun r => decide (r % (g : Int) = 0)) f, List.map_append, List.map_append]
          rfl
      · refine ⟨?_, su⟩
        rw [el, takeSucc hx', List.filter_append, List.filter_cons_of_neg (p := fun r => decide (r % (g : Int) = 0)) f, List.filter_nil, List.append_nil]
    · rintro Hu ⟨el, su⟩
      rw [List.length_map, List.take_length] at el
      refine ⟨F, _, rfl, lstOf el, fun ns p1 perm pw n1 => ⟨p1, _, rfl, .inl ⟨lstOf upd_same, fun u nu => ⟨sizeOk (by show (2 : Nat) ≤ 100000; decide), fun d nd => ?_⟩⟩⟩⟩
      have g1 := same_upd n1 (o := .lst (ns.map V.int))
      have g2 := same_upd nu (o := .tup (ns.map V.int))
      have g3 := same_upd nd (o := .tup [.int (b.1 / (g : Int)), .ref u])
      have fu := g3 _ _ (upd_same (H := upd Hu p1 (.lst (ns.map V.int))) (a := u) (o := .tup (ns.map V.int)))
      refine q _ _ _ (s1.trans (su.trans (g1.trans (g2.trans g3)))) (sh k1 ob (by rw [eb]; exact hd) perm pw) ⟨d, .ref u, rfl, tupOf upd_same, ⟨u, rfl, tupOf fu⟩⟩
theorem ok_p_shared (T : Txt K mg) : FnOk P w K mg base (L2.CX P w) 12 T.f_p_shared T.fd_p_shared ["sieve", "by"] (sp_p_shared K T.C T.C_BadNumber) := by
  refine T.F_p_shared.okX sc_p_shared (fun vs H Q E h => ?_) (fun cdv A outer s H vs Q E hr h => ?_)
  · obtain ⟨p, x, v, t, bs, rfl, _⟩ := h
    rfl
  · obtain ⟨p, x, v, t, bs, rfl, S, h⟩ := h
    refine ⟨_, (pss_cons (ps_expr (pe_call (ok_p_check_factor T) (hr.mono (by decide)) (by rfl) T.g_p_check_factor T.F_p_check_factor.kp T.b_p_check_factor .nil (passes_call (takes_of rfl rfl rfl rfl) (fun _ _ _ _ h => h)) (pa_cons (pv 1) pa_nil)))
      (pss_one (ps_ret (pe_make T.mkC (ok_m_Sieve_init T) (hr.mono (by decide)) (by rfl) T.g_Sieve T.b_m_Sieve_init .nil pass0 (pa_cons (pe_callTy call_tuple_of (by rfl) T.z_tuple (by decide +kernel) (pa_cons (pe_lc (own := [("bar", 2)]) rfl sc_p_shared.nd (pi_tup (pe_prop (pv 0) T.cl T.pp_bars (ok_m_Sieve_bars T) (hr.mono (by decide)) T.b_m_Sieve_bars .nil pass0 (by rfl))) (blkOk_by (N := ["sieve", "by", "bar"]) (sc := defScope s_p_shared) (by decide +kernel)) (fun _ _ _ _ _ => (pg_name (i := 2) sc_p_shared.nd rfl (by first | exact .inl rfl | exact .inr rfl))) (fun _ _ _ _ _ => pts_nil) (fun _ _ _ _ _ => (pe_call (ok_p_shared_bar T) (hr.mono (by decide)) (by rfl) T.g_p_shared_bar T.F_p_shared_bar.kp T.b_p_shared_bar .nil pass0 (pa_cons (pv 2) (pa_cons (pv 1) pa_nil))))) pa_nil)) pa_nil))))), ?_⟩
    refine ⟨_, rfl, x, rfl, ?_⟩
    rcases h with ⟨o, q⟩ | ⟨k, rfl, k1, k2, q⟩
    · exact .inr ⟨o, q⟩
    refine .inl ⟨(k : Int), rfl, by omega, by omega, ?_⟩
    have six := S.ok.six
    obtain ⟨ba, xs, rfl, tb, nx, hx⟩ := S.bars.ex
    refine ⟨_, rfl, p, _, _, rfl, S.ob.choose_spec, p, _, t, bs, rfl, S, ba, rfl, ⟨_, tb⟩, fun D6 n6 => ?_⟩
    refine lc_tup (K := K) (a := ba) (xs := xs) (fun j Hj => ∃ cs, ShL k (bs.take j) cs ∧ BarLst K Hj D6 cs ∧ Same H Hj) ⟨[], ShL.nil _, BarLst.nil upd_same, same_upd n6⟩ (fun j Hj _ ⟨_, _, _, sj⟩ => Same.seqTT sj tb) ?_ ?_
    · rintro j y Hj hj ⟨cs, Sh, ⟨ys, ey, ny, fy⟩, sj⟩
      have jl : j < bs.length := by
        have := (List.getElem?_eq_some_iff.mp hj).1
        omega
      have hb : bs[j]? = some bs[j] := List.getElem?_eq_getElem jl
      have ob := S.ok.bar _ (List.getElem_mem jl)
      have lcs : cs.length ≤ 6 := by
        rw [Sh.len, List.length_take]
        omega
      refine ⟨rfl, _, rfl, _, rfl, y, bs[j], k, rfl, (hx j y _ hj hb).stay (.same sj), ob, k1, k2, fun z c H2 s2 sb Bc => ?_⟩
      have e2 := s2 _ _ ey
      refine ⟨_, e2, by rw [ny]; exact sizeLt (by omega), cs ++ [c], ?_, ?_, samePut (sj.trans s2) n6⟩
      · rw [takeSucc hb]
        exact Sh.add sb
      · exact BarLst.add (H := H2) ny (fun i x b h1 h2 => (fy i x b h1 h2).stay (.same s2)) (lstTups e2) upd_same (Bc.stay (lstTups e2))
    · rintro Hj ⟨cs, Sh, ⟨ys, ey, ny, fy⟩, sj⟩
      rw [nx, List.take_length] at Sh
      refine ⟨D6, ys, rfl, .inl ⟨lstOf ey, fun u nu => ?_⟩⟩
      have B := BarLst.tup ny fy nu
      exact fun z dz nz ndz _ => make_sieve B (Sh.sv S.ok) nz ndz fun t' H' s' A => ⟨rfl, q _ _ _ _ _ (sj.trans ((same_upd nu).trans s')) Sh A⟩
end

end R
namespace R
open PySem PySem.Spec PyProof.Rows L2
/-- an int under a name of its own -/
theorem pe_cutI {X : Cx} {e : Expr} {te : TE} (h0 : PE X e te) : PE X e (fun σ H Q => te σ H fun x H' => ∃ y : Int, x = .int y ∧ Q (.int y) H') := by
  constructor
  intro pn s σ H Q I h
  refine thn (h0.run pn s σ H _ I h) ?_
  rintro v s1 ⟨x, H1, I1, r1, y, rfl, q⟩
  exact ⟨_, H1, I1, r1, q⟩

end R
namespace R
open PySem PySem.Spec PyProof.Rows L2
def sp_l_wrong (K : PySem.W.Frag) (C : Addr) : Sp := fun vs H Q _ => ∃ (p : Addr) (x v : V) (t : Addr) (bs : List Bar) (sh : Bool), vs = [.ref p, x, .bl sh] ∧ SvAt K C H p v t bs ∧
  ((OffI K H 1 1000 x ∧ Q (.str "number") H) ∨ (sh = false ∧ ∃ k : Int, x = .int k ∧ 1 ≤ k ∧ k ≤ 1000 ∧ (((∃ b ∈ bs, 1000000 < b.1 * k) ∧ ∀ H', Same H H' → Q (.str "great") H') ∨
    (bs.length ≤ 5 ∧ (∀ b ∈ bs, b.1 * k ≤ 1000000) ∧ ∀ p' v' t' H', Same H H' → SvAt K C H' p' v' t' (strB k bs) → Q (.ref p') H'))))
theorem pick5 {v : Int} (h0 : 0 ≤ v) (h1 : v < 5) : v = 0 ∨ v = 1 ∨ v = 2 ∨ v = 3 ∨ v = 4 := by omega
theorem oneEmpty {m : Int} (h0 : 1 ≤ m) (h1 : m ≤ 1000000) : SvOk [(m, [])] := by
  refine ⟨by show 1 ≤ 6; decide, fun b hb => ?_, ?_, by show 1 * max 1 0 ≤ 2000; decide⟩
  · rw [List.mem_singleton.mp hb]
    exact ⟨h0, h1, ⟨List.Pairwise.nil, by simp, by simp, by simp⟩⟩
  · show Nat.lcm 1 m.natAbs ≤ _
    rw [Nat.lcm_one_left]
    exact Nat.le_trans (show m.natAbs ≤ 1000000 by omega) (by decide)
theorem sh_cls {k : Nat} {bs cs : List Bar} (h : ShL k bs cs) : ∀ n, clsTo cs n = ((List.range n).map fun i : Nat => (i : Int)).filter fun x => fitsB bs (x * (k : Int)) := fun n => by
  unfold clsTo
  congr 1
  funext x
  exact h.fits x
def lotTo (k : Nat) (b : Bar) (n : Nat) : List Int := ((List.range n).map fun i : Nat => (i : Int)).filter fun x => decide (x * (k : Int) % b.1 ∈ b.2)
theorem lotTo_succ (k : Nat) (b : Bar) (n : Nat) : lotTo k b (n + 1) = lotTo k b n ++ (if decide ((n : Int) * (k : Int) % b.1 ∈ b.2) = true then [(n : Int)] else []) := by
  unfold lotTo
  rw [List.range_succ, List.map_append, List.filter_append]
  by_cases h : decide ((n : Int) * (k : Int) % b.1 ∈ b.2) = true
  · rw [if_pos h, List.map_singleton, List.filter_cons_of_pos (p := fun x : Int => decide (x * (k : Int) % b.1 ∈ b.2)) h]
    rfl
  · rw [if_neg h, List.map_singleton, List.filter_cons_of_neg (p := fun x : Int => decide (x * (k : Int) % b.1 ∈ b.2)) h]
    rfl
theorem lotTo_len (k : Nat) (b : Bar) (n : Nat) : (lotTo k b n).length ≤ n := by
  have h := List.length_filter_le (fun x : Int => decide (x * (k : Int) % b.1 ∈ b.2)) ((List.range n).map fun i : Nat => (i : Int))
  rw [List.length_map, List.length_range] at h
  exact h
theorem lotTo_is {k : Nat} {b c : Bar} (h : ShB k b c) : lotTo k b c.1.toNat = c.2 := by
  refine asc_eq ?_ h.lot.up fun x => ?_
  · unfold lotTo
    refine List.Pairwise.filter _ ?_
    rw [List.pairwise_map]
    exact List.pairwise_lt_range.imp fun {a b} lt => by omega
  · unfold lotTo
    rw [List.mem_filter, List.mem_map, decide_eq_true_iff, ← h.mem]
    have h1 := h.pos
    constructor
    · rintro ⟨⟨i, hi, rfl⟩, hx⟩
      have := List.mem_range.mp hi
      rwa [Int.emod_eq_of_lt (by omega) (by omega)] at hx
    · intro hx
      have x0 := h.lot.ge x hx
      have x1 := h.lot.lt x hx
      refine ⟨⟨x.toNat, List.mem_range.mpr (by omega), by omega⟩, ?_⟩
      rw [Int.emod_eq_of_lt x0 x1]
      exact hx
theorem ShL.mods {k : Nat} {bs cs : List Bar} (h : ShL k bs cs) : (cs.map fun b => b.1) = bs.map fun b => b.1 / ((Nat.gcd b.1.natAbs k : Nat) : Int) := by
  refine List.ext_getElem? fun i => ?_
  rw [List.getElem?_map, List.getElem?_map]
  by_cases l : i < bs.length
  · have h1 : bs[i]? = some bs[i] := List.getElem?_eq_getElem l
    have h2 : cs[i]? = some (cs[i]'(by rw [h.len]; exact l)) := List.getElem?_eq_getElem _
    have := (h.at_ i _ _ h1 h2).mod
    rw [h1, h2]
    exact congrArg some this
  · rw [List.getElem?_eq_none_iff.mpr (by rw [h.len]; omega), List.getElem?_eq_none_iff.mpr (by omega)]
    rfl
section
variable {P : Program} {w : World} {K : PySem.W.Frag} {mg : Str → Option Value} {base : Heap}
theorem ok_l_wrong (T : Txt K mg) : FnOk P w K mg base CX0 13 T.f_l_wrong T.fd_l_wrong ["_law_sieve", "_law_by", "_law_is_shared"] (sp_l_wrong K T.C) := by
  refine T.F_l_wrong.ok sc_l_wrong (fun vs H Q E h => ?_) (fun cdv A outer s H vs Q E hr h => ?_)
  · obtain ⟨p, x, v, t, bs, sh, rfl, _⟩ := h
    rfl
  · obtain ⟨p, x, v, t, bs, sh, rfl, S, h⟩ := h
    refine ⟨_, (pss_cons (ps_set (i := 3) sc_l_wrong.nd rfl (by first | exact .inl rfl | exact .inr rfl) pe_non)
      (pss_cons (ps_try_asM (i := 4) rfl rfl sc_l_wrong.nd rfl rfl takes0 (fun W pn xe tk po => (pss_one (ps_set (i := 3) sc_l_wrong.nd rfl (by first | exact .inl rfl | exact .inr rfl) (pe_ifExp (pt_val (pv 2)) (pe_callS (ok_p_shared T) (hr.mono (by decide)) (by rfl) T.g_p_shared T.F_p_shared.kp T.b_p_shared (fun σ => passAt tk σ) (pa_cons (pv 0) (pa_cons (pv 1) pa_nil))) (pe_callS (ok_p_stretched T) (hr.mono (by decide)) (by rfl) T.g_p_stretched T.F_p_stretched.kp T.b_p_stretched (fun σ => passAt tk σ) (pa_cons (pv 0) (pa_cons (pv 1) pa_nil)))))))
      (.cons ⟨by rfl, by decide, .inl T.g_BadNumber⟩ (fun a oe cls d pn hz hf => (pss_one (ps_set (i := 3) sc_l_wrong.nd rfl (by first | exact .inl rfl | exact .inr rfl) (pe_ifExp (pt_val (pe_callB (call_isE' T.E_BadNumber hz hf) (by rfl) T.z_isinstance (by decide +kernel) (pa_cons (pv 4) (pa_cons (pe_glob (v := .ref T.C_RestError) (by rfl) T.g_RestError rfl) pa_nil)))) pe_str pe_str)))) (.cons ⟨by rfl, by decide, .inl T.g_TooGreat⟩ (fun a oe cls d pn hz hf => (pss_one (ps_set (i := 3) sc_l_wrong.nd rfl (by first | exact .inl rfl | exact .inr rfl) (pe_ifExp (pt_val (pe_callB (call_isE' T.E_TooGreat hz hf) (by rfl) T.z_isinstance (by decide +kernel) (pa_cons (pv 4) (pa_cons (pe_glob (v := .ref T.C_RestError) (by rfl) T.g_RestError rfl) pa_nil)))) pe_str pe_str)))) .nil)))
      (pss_one (ps_ret (pv 3))))), ?_⟩
    refine ⟨_, rfl, sh, rfl, ?_⟩
    rcases h with ⟨o, q⟩ | ⟨rfl, k, rfl, k1, k2, h⟩
    · refine ite2 (fun _ => ?_) (fun _ => ?_)
      all_goals
        refine ⟨_, rfl, _, rfl, p, x, v, t, bs, rfl, S, .inl ⟨o, true, T.e_BadNumber, fun _ a na => ?_, fun z => nomatch z⟩⟩
        refine ⟨_, rfl, rfl, rfl, .ref T.C_RestError, _, true, rfl, fun u r => r, T.r_BadNumber, true, rfl, iteT ?_⟩
        exact ⟨_, rfl, q⟩
    · refine iteF ⟨_, rfl, _, rfl, p, _, v, t, bs, rfl, S, .inr ⟨k, rfl, k1, k2, ?_⟩⟩
      rcases h with ⟨h, q⟩ | ⟨l5, h, q⟩
      · refine .inl ⟨h, fun H1 s1 => ⟨false, T.e_TooGreat_BadNumber, fun z => (nomatch z), fun _ => ⟨true, T.e_TooGreat, fun _ a na => ?_, fun z => nomatch z⟩⟩⟩
        refine ⟨_, rfl, rfl, rfl, .ref T.C_RestError, _, true, rfl, fun u r => r, T.r_TooGreat, true, rfl, iteT ?_⟩
        exact ⟨_, rfl, q _ s1⟩
      · exact .inr ⟨l5, h, fun p' v' t' H1 s1 A => ⟨_, rfl, q _ _ _ _ s1 A⟩⟩
set_option maxHeartbeats 1600000 in
theorem ok_law (T : Txt K mg) : FnOk P w K mg base CX0 14 T.f_law T.fd_law ["_law_script"] (sp_law K) := by
  refine T.F_law.ok sc_law (fun vs H Q E h => ?_) (fun cdv A outer s H vs Q E hr h => ?_)
  · obtain ⟨a, ns, rfl, _⟩ := h
    rfl
  · obtain ⟨a, ns, rfl, hS, hl, q⟩ := h
    refine ⟨_, (pss_cons (ps_set (i := 1) sc_law.nd rfl (by first | exact .inl rfl | exact .inr rfl) (pe_call (ok_l_draws T) (hr.mono (by decide)) (by rfl) T.g_l_draws T.F_l_draws.kp T.b_l_draws .nil pass0 (pa_cons (pv 0) pa_nil)))
      (pss_cons (ps_for PassesOwn.never rfl (pi_range1 (by rfl) T.z_range (pa_cons pe_int pa_nil)) (pg_name (i := 2) sc_law.nd rfl (by first | exact .inl rfl | exact .inr rfl)) (pss_cons (ps_asg (pe_tup (pa_cons (pe_call (ok_l_bars T) (hr.mono (by decide)) (by rfl) T.g_l_bars T.F_l_bars.kp T.b_l_bars .nil pass0 (pa_cons (pv 1) (pa_cons pe_int (pa_cons pe_int pa_nil)))) (pa_cons (pe_cutI (pe_op op_add pe_int (pe_call (ok_l_pick T) (hr.mono (by decide)) (by rfl) T.g_l_pick T.F_l_pick.kp T.b_l_pick .nil pass0 (pa_cons (pv 1) (pa_cons pe_int pa_nil))))) pa_nil))) (pg_tup (by rfl) (pgs_cons (pg_name (i := 3) sc_law.nd rfl (by first | exact .inl rfl | exact .inr rfl)) (pgs_cons (pg_name (i := 4) sc_law.nd rfl (by first | exact .inl rfl | exact .inr rfl)) pgs_nil))))
      (C8.pss_cut (ps_par (i := 5) (j := 6) (by rfl) sc_law.nd rfl rfl (by decide) rfl rfl (pa_cons (pe_call (ok_p_stretched T) (hr.mono (by decide)) (by rfl) T.g_p_stretched T.F_p_stretched.kp T.b_p_stretched .nil passL (pa_cons (pe_make T.mkC (ok_m_Sieve_init T) (hr.mono (by decide)) (by rfl) T.g_Sieve T.b_m_Sieve_init .nil pass0 (pa_cons (pv 3) pa_nil)) (pa_cons (pv 4) pa_nil))) (pa_cons (pe_call (ok_p_shared T) (hr.mono (by decide)) (by rfl) T.g_p_shared T.F_p_shared.kp T.b_p_shared .nil passL (pa_cons (pe_make T.mkC (ok_m_Sieve_init T) (hr.mono (by decide)) (by rfl) T.g_Sieve T.b_m_Sieve_init .nil pass0 (pa_cons (pv 3) pa_nil)) (pa_cons (pv 4) pa_nil))) pa_nil)) (by rfl))
      (C8.pss_cut (ps_set (i := 7) sc_law.nd rfl (by first | exact .inl rfl | exact .inr rfl) (pe_callTy call_tuple_of (by rfl) T.z_tuple (by decide +kernel) (pa_cons (pe_lc (own := [("_law_modulus", 11), ("_law_lot", 10)]) (g := gTup K 2 (gCons (gName 11) (gCons (gName 10) (gNil)))) rfl sc_law.nd (pi_tup (pv 3)) (blkOk_by (N := ["_law_script", "_law_row", "_law_turn", "_law_bars_here", "_law_by", "_law_one", "_law_other", "_law_due", "_law_moduli", "_law_k", "_law_lot", "_law_modulus", "_law_found", "_law_rest"]) (sc := defScope s_law) (by decide +kernel)) (fun _ _ _ _ _ => (pg_tup (by rfl) (pgs_cons (pg_name (i := 11) sc_law.nd rfl (by first | exact .inl rfl | exact .inr rfl)) (pgs_cons (pg_name (i := 10) sc_law.nd rfl (by first | exact .inl rfl | exact .inr rfl)) pgs_nil)))) (fun _ _ _ _ _ => pts_nil) (fun _ _ _ _ _ => (pe_tup (pa_cons (pe_op op_mulW (pv 11) (pv 4)) (pa_cons (pe_callTy (r := rTupOf K) call_tuple_of (by rfl) T.z_tuple (by decide +kernel) (pa_cons (by exact (pe_lc (own := [("_law_rest", 13)]) rfl sc_law.nd (pi_tupK (K := K) rfl (pv 10)) (blkOk_by (N := ["_law_script", "_law_row", "_law_turn", "_law_bars_here", "_law_by", "_law_one", "_law_other", "_law_due", "_law_moduli", "_law_k", "_law_lot", "_law_modulus", "_law_found", "_law_rest"]) (by kernel_rfl)) (fun _ _ _ _ _ => (pg_name (i := 13) sc_law.nd rfl (by first | exact .inl rfl | exact .inr rfl))) (fun _ _ _ _ _ => pts_nil) (fun _ _ _ _ _ => (pe_op op_mulW (pv 13) (pv 4))))) pa_nil)) pa_nil))))) pa_nil)))
      (pss_cons (ps_if (PW.pt (pw_or (pt_cmpR (op_neD hr.units) (pe_prop (pv 5) T.cl T.pp_bars (ok_m_Sieve_bars T) (hr.mono (by decide)) T.b_m_Sieve_bars .nil pass0 (by rfl)) (pe_ifExp (pt_cmpR (op_neD hr.units) (pv 3) (pe_tup pa_nil) (nomark _)) (pv 7) (pe_tup (pa_cons (pe_tup (pa_cons (pv 4) (pa_cons (pe_tup (pa_cons pe_int pa_nil)) pa_nil))) pa_nil))) (nomark _)) (pw_or1 (pt_cmpR (op_neD hr.units) (pe_prop (pv 5) T.cl T.pp_classes (ok_m_Sieve_classes T) (hr.mono (by decide)) T.b_m_Sieve_classes .nil pass0 (by rfl)) (pe_callTy call_tuple_of (by rfl) T.z_tuple (by decide +kernel) (pa_cons (pe_lc (own := [("_law_k", 9)]) rfl sc_law.nd (pi_list (pe_call (ok_l_own T) (hr.mono (by decide)) (by rfl) T.g_l_own T.F_l_own.kp T.b_l_own .nil pass0 (pa_cons (pv 3) pa_nil))) (blkOk_by (N := ["_law_script", "_law_row", "_law_turn", "_law_bars_here", "_law_by", "_law_one", "_law_other", "_law_due", "_law_moduli", "_law_k", "_law_lot", "_law_modulus", "_law_found", "_law_rest"]) (sc := defScope s_law) (by decide +kernel)) (fun _ _ _ _ _ => (pg_name (i := 9) sc_law.nd rfl (by first | exact .inl rfl | exact .inr rfl))) (fun _ _ _ _ _ => pts_nil) (fun _ _ _ _ _ => (pe_op op_mulW (pv 9) (pv 4)))) pa_nil)) (nomark _))))) (pss_one (ps_ret pe_bl)) pss_nil)
      (C8.pss_cut (ps_set (i := 8) sc_law.nd rfl (by first | exact .inl rfl | exact .inr rfl) (pe_callTy call_tuple_of (by rfl) T.z_tuple (by decide +kernel) (pa_cons (pe_lc (own := [("_law_modulus", 11), ("_law_lot", 10)]) (g := gTup K 2 (gCons (gName 11) (gCons (gName 10) (gNil)))) rfl sc_law.nd (pi_tup (pv 3)) (blkOk_by (N := ["_law_script", "_law_row", "_law_turn", "_law_bars_here", "_law_by", "_law_one", "_law_other", "_law_due", "_law_moduli", "_law_k", "_law_lot", "_law_modulus", "_law_found", "_law_rest"]) (sc := defScope s_law) (by decide +kernel)) (fun _ _ _ _ _ => (pg_tup (by rfl) (pgs_cons (pg_name (i := 11) sc_law.nd rfl (by first | exact .inl rfl | exact .inr rfl)) (pgs_cons (pg_name (i := 10) sc_law.nd rfl (by first | exact .inl rfl | exact .inr rfl)) pgs_nil)))) (fun _ _ _ _ _ => pts_nil) (fun _ _ _ _ _ => (pe_op op_fdivW (pv 11) (pe_call (ok_l_gcd T) (hr.mono (by decide)) (by rfl) T.g_l_gcd T.F_l_gcd.kp T.b_l_gcd .nil pass0 (pa_cons (pv 11) (pa_cons (pv 4) pa_nil)))))) pa_nil)))
      (pss_cons (ps_if (pt_cmpR (op_neD hr.units) (pe_callTy call_tuple_of (by rfl) T.z_tuple (by decide +kernel) (pa_cons (pe_lc (own := [("_law_modulus", 11), ("_law_lot", 10)]) (g := gTup K 2 (gCons (gName 11) (gCons (gName 10) (gNil)))) rfl sc_law.nd (pi_tup (pe_prop (pv 6) T.cl T.pp_bars (ok_m_Sieve_bars T) (hr.mono (by decide)) T.b_m_Sieve_bars .nil pass0 (by rfl))) (blkOk_by (N := ["_law_script", "_law_row", "_law_turn", "_law_bars_here", "_law_by", "_law_one", "_law_other", "_law_due", "_law_moduli", "_law_k", "_law_lot", "_law_modulus", "_law_found", "_law_rest"]) (sc := defScope s_law) (by decide +kernel)) (fun _ _ _ _ _ => (pg_tup (by rfl) (pgs_cons (pg_name (i := 11) sc_law.nd rfl (by first | exact .inl rfl | exact .inr rfl)) (pgs_cons (pg_name (i := 10) sc_law.nd rfl (by first | exact .inl rfl | exact .inr rfl)) pgs_nil)))) (fun _ _ _ _ _ => pts_nil) (fun _ _ _ _ _ => (pv 11))) pa_nil)) (pv 8) (nomark _)) (pss_one (ps_ret pe_bl)) pss_nil)
      (pss_cons (ps_if (pt_cmpR (op_neD hr.units) (pe_prop (pv 6) T.cl T.pp_classes (ok_m_Sieve_classes T) (hr.mono (by decide)) T.b_m_Sieve_classes .nil pass0 (by rfl)) (pe_callTy call_tuple_of (by rfl) T.z_tuple (by decide +kernel) (pa_cons (pe_lc (own := [("_law_k", 9)]) rfl sc_law.nd (pi_range1 (by rfl) T.z_range (pa_cons (pe_prop (pv 6) T.cl T.pp_whole (ok_m_Sieve_whole T) (hr.mono (by decide)) T.b_m_Sieve_whole .nil pass0 (by rfl)) pa_nil)) (blkOk_by (N := ["_law_script", "_law_row", "_law_turn", "_law_bars_here", "_law_by", "_law_one", "_law_other", "_law_due", "_law_moduli", "_law_k", "_law_lot", "_law_modulus", "_law_found", "_law_rest"]) (sc := defScope s_law) (by decide +kernel)) (fun _ _ _ _ _ => (pg_name (i := 9) sc_law.nd rfl (by first | exact .inl rfl | exact .inr rfl))) (fun _ _ _ _ _ => (pts_one (pt_val (pe_call (ok_l_fits T) (hr.mono (by decide)) (by rfl) T.g_l_fits T.F_l_fits.kp T.b_l_fits .nil pass0 (pa_cons (pv 3) (pa_cons (pe_op op_mulW (pv 9) (pv 4)) pa_nil)))))) (fun _ _ _ _ _ => (pv 9))) pa_nil)) (nomark _)) (pss_one (ps_ret pe_bl)) pss_nil)
      (pss_cons (ps_for PassesOwn.never rfl (pi_range1 (by rfl) T.z_range (pa_cons (pe_callB call_len_seq (by rfl) T.z_len (by decide +kernel) (pa_cons (pv 3) pa_nil)) pa_nil)) (pg_name (i := 9) sc_law.nd rfl (by first | exact .inl rfl | exact .inr rfl)) (pss_cons (ps_set (i := 10) sc_law.nd rfl (by first | exact .inl rfl | exact .inr rfl) (pe_callTy call_tuple_of (by rfl) T.z_tuple (by decide +kernel) (pa_cons (pe_lc (own := [("_law_rest", 13)]) rfl sc_law.nd (pi_range1 (by rfl) T.z_range (pa_cons (pe_ix (r := rIxT K) ix_tup (pv 8) (pv 9) (fun _ _ => rfl)) pa_nil)) (blkOk_by (N := ["_law_script", "_law_row", "_law_turn", "_law_bars_here", "_law_by", "_law_one", "_law_other", "_law_due", "_law_moduli", "_law_k", "_law_lot", "_law_modulus", "_law_found", "_law_rest"]) (sc := defScope s_law) (by decide +kernel)) (fun _ _ _ _ _ => (pg_name (i := 13) sc_law.nd rfl (by first | exact .inl rfl | exact .inr rfl))) (fun _ _ _ _ _ => (pts_one (pt_cmpR (r := rIn K false) op_in_seq (pe_op op_mod (pe_op op_mulW (pv 13) (pv 4)) (pe_ix (r := rIxT K) ix_tup (pe_ix (r := rIxT K) ix_tup (pv 3) (pv 9) (fun _ _ => rfl)) pe_int (fun _ _ => rfl))) (pe_ix (r := rIxT K) ix_tup (pe_ix (r := rIxT K) ix_tup (pv 3) (pv 9) (fun _ _ => rfl)) pe_int (fun _ _ => rfl)) (by rfl)))) (fun _ _ _ _ _ => (pv 13))) pa_nil)))
      (pss_one (ps_if (pt_cmpR (op_neD hr.units) (pe_ix ix_tup (pe_ix ix_tup (pe_prop (pv 6) T.cl T.pp_bars (ok_m_Sieve_bars T) (hr.mono (by decide)) T.b_m_Sieve_bars .nil pass0 (by rfl)) (pv 9) (fun _ _ => rfl)) pe_int (fun _ _ => rfl)) (pv 10) (nomark _)) (pss_one (ps_ret pe_bl)) pss_nil))))
      (pss_one (ps_if (pt_cmpR (op_or op_ne (op_neO (ok_m_Sieve_eq T) (hr.mono (by decide)) T.eqS T.eqF T.b_m_Sieve_eq pass0 T.neS T.moC)) (pe_call (ok_l_wrong T) (hr.mono (by decide)) (by rfl) T.g_l_wrong T.F_l_wrong.kp T.b_l_wrong .nil pass0 (pa_cons (pe_make T.mkC (ok_m_Sieve_init T) (hr.mono (by decide)) (by rfl) T.g_Sieve T.b_m_Sieve_init .nil pass0 (pa_cons (pv 3) pa_nil)) (pa_cons (pe_ix ix_list (pe_lst (pa_cons pe_int (pa_cons pe_int (pa_cons pe_non (pa_cons pe_bl (pa_cons pe_str pa_nil)))))) (pe_call (ok_l_pick T) (hr.mono (by decide)) (by rfl) T.g_l_pick T.F_l_pick.kp T.b_l_pick .nil pass0 (pa_cons (pv 1) (pa_cons pe_int pa_nil))) (fun _ _ => rfl)) (pa_cons (pe_cmpR op_eq (pe_call (ok_l_pick T) (hr.mono (by decide)) (by rfl) T.g_l_pick T.F_l_pick.kp T.b_l_pick .nil pass0 (pa_cons (pv 1) (pa_cons pe_int pa_nil))) pe_int (nomark _)) pa_nil)))) pe_str (nomark _)) (pss_one (ps_ret pe_bl)) pss_nil)))))))))))
      (C8.pss_cut (ps_asg (pe_tup (pa_cons (pe_op op_add pe_int (pe_call (ok_l_pick T) (hr.mono (by decide)) (by rfl) T.g_l_pick T.F_l_pick.kp T.b_l_pick .nil pass0 (pa_cons (pv 1) (pa_cons pe_int pa_nil)))) (pa_cons (pe_cutI (pe_op op_add pe_int (pe_call (ok_l_pick T) (hr.mono (by decide)) (by rfl) T.g_l_pick T.F_l_pick.kp T.b_l_pick .nil pass0 (pa_cons (pv 1) (pa_cons pe_int pa_nil))))) pa_nil))) (pg_tup (by rfl) (pgs_cons (pg_name (i := 11) sc_law.nd rfl (by first | exact .inl rfl | exact .inr rfl)) (pgs_cons (pg_name (i := 4) sc_law.nd rfl (by first | exact .inl rfl | exact .inr rfl)) pgs_nil))))
      (C8.pss_cut (ps_set (i := 12) sc_law.nd rfl (by first | exact .inl rfl | exact .inr rfl) (pe_call (ok_l_wrong T) (hr.mono (by decide)) (by rfl) T.g_l_wrong T.F_l_wrong.kp T.b_l_wrong .nil pass0 (pa_cons (pe_make T.mkC (ok_m_Sieve_init T) (hr.mono (by decide)) (by rfl) T.g_Sieve T.b_m_Sieve_init .nil pass0 (pa_cons (pe_tup (pa_cons (pe_tup (pa_cons (pv 11) (pa_cons (pe_tup pa_nil) pa_nil))) pa_nil)) pa_nil)) (pa_cons (pv 4) (pa_cons pe_bl pa_nil)))))
      (pss_one (ps_ret (pe_cmpR (op_or op_eq (op_eqO (ok_m_Sieve_eq T) (hr.mono (by decide)) T.eqS T.eqF T.b_m_Sieve_eq pass0)) (pv 12) (pe_ifExp (pt_cmpR op_gt (pe_op op_mulW (pv 11) (pv 4)) pe_int (nomark _)) pe_str (pe_make T.mkC (ok_m_Sieve_init T) (hr.mono (by decide)) (by rfl) T.g_Sieve T.b_m_Sieve_init .nil pass0 (pa_cons (pe_tup (pa_cons (pe_tup (pa_cons (pe_op op_mulW (pv 11) (pv 4)) (pa_cons (pe_tup pa_nil) pa_nil))) pa_nil)) pa_nil))) (nomark _)))))))), ?_⟩
    refine ⟨_, rfl, a, ns, rfl, hS, fun r L H1 s1 R1 => ?_⟩
    refine ⟨2, rfl, by decide, by decide, for_range (lo := 0) (n := 2) (fun i σ H2 => ∃ x2 x3 x4 x5 x6 x7 x8 x9 x10 x11 : Option V, σ = [some (.ref a), some (.ref r), x2, x3, x4, x5, x6, x7, x8, x9, x10, x11, none, none] ∧ RowAt H2 r L) ⟨none, none, none, none, none, none, none, none, none, none, rfl, R1⟩ ?_ ?_⟩
    · rintro i σ H2 hi ⟨x2, x3, x4, x5, x6, x7, x8, x9, x10, x11, rfl, R2⟩
      refine ⟨_, rfl, r, L, 2, 8, rfl, R2, by decide, by decide, by decide, fun v bs H3 D B k3 R3 => ?_⟩
      refine ⟨_, rfl, r, L, 12, rfl, R3, by decide, by decide, fun k0 H4 k00 k01 k4 R4 => ⟨_, _, rfl, rfl, 1 + k0, rfl, ?_⟩⟩
      obtain ⟨k, hk⟩ : ∃ k : Nat, 1 + k0 = (k : Int) := ⟨(1 + k0).toNat, by omega⟩
      rw [hk]
      have k1 : 1 ≤ k := by omega
      have k2 : k ≤ 12 := by omega
      have B4 := B.stay (R3.tups k4)
      refine ⟨sizeOk (by show (2 : Nat) ≤ 100000; decide), fun d nd => ⟨d, _, rfl, tupOf upd_same, rfl, _, _, rfl, _, _, rfl, rfl, ?_⟩⟩
      have s5 := same_upd nd (o := .tup [v, .int (k : Int)])
      have B5 := B4.stay (.same s5)
      have R5 := R4.stay s5
      generalize upd H4 d (.tup [v, .int (k : Int)]) = H5 at s5 B5 R5 ⊢
      have hw : wh bs ≤ 64 := powLe D (by decide) (by decide) (by decide) (by decide)
      have S := D.sv (by decide) (by decide) (Nat.le_trans hw (by decide))
      have few := choices_cls S
      have six := D.len
      have hmod : ∀ b ∈ bs, b.1 * (k : Int) ≤ 1000000 := fun b hb => by
        have := D.bar b hb
        have h1 : b.1 * (k : Int) ≤ 8 * 12 := Int.mul_le_mul (by omega) (by omega) (by omega) (by decide)
        omega
      refine ⟨fun σ H' => ∃ (p1 t1 p2 t2 : Addr) (v1 v2 : V) (cs : List Bar), σ = [some (.ref a), some (.ref r), some (.int (0 + (i : Int))), some v, some (.int k), some (.ref p1), some (.ref p2), x7, x8, x9, x10, x11, none, none] ∧ SvAt K T.C H' p1 v1 t1 (strB (k : Int) bs) ∧ ShL k bs cs ∧ SvAt K T.C H' p2 v2 t2 cs ∧ BarsAt K H' v bs ∧ RowAt H' r L, ?_, ?_⟩
      · refine ⟨_, rfl, fun z dx nz ndx _ => make_sieve B5 S nz ndx fun t H6 s6 A0 => ⟨rfl, _, rfl, z, _, _, t, bs, rfl, A0, .inr ⟨(k : Int), rfl, by omega, by omega, .inr ⟨by omega, hmod, fun p1 v1 t1 H7 s7 A1 => ?_⟩⟩⟩⟩
        have s67 := s6.trans s7
        refine ⟨_, rfl, fun z2 dx2 nz2 ndx2 _ => make_sieve (B5.stay (.same s67)) S nz2 ndx2 fun t0 H8 s8 A0' => ⟨rfl, _, rfl, z2, _, _, t0, bs, rfl, A0', .inr ⟨k, rfl, k1, by omega, fun p2 v2 t2 cs H9 s9 Sh A2 => ⟨_, _, rfl, ?_⟩⟩⟩⟩
        have s89 := s8.trans s9
        exact ⟨p1, t1, p2, t2, v1, v2, cs, rfl, A1.stay s89, Sh, A2, B5.stay (.same (s67.trans s89)), R5.stay (s67.trans s89)⟩
      clear B5 R5 B4 B
      rintro σ H5 ⟨p1, t1, p2, t2, v1, v2, cs, rfl, A1, Sh, A2, B5, R5⟩
      have S2 := Sh.sv S
      have w2 : wh cs ≤ wh bs := Nat.le_of_dvd S.mods.pos (Sh.wh fun b hb => (S.bar b hb).pos)
      refine ⟨fun σ H' => ∃ u : Addr, σ = [some (.ref a), some (.ref r), some (.int (0 + (i : Int))), some v, some (.int k), some (.ref p1), some (.ref p2), some (.ref u), x8, x9, x10, x11, none, none] ∧ SvAt K T.C H' p1 v1 t1 (strB (k : Int) bs) ∧ SvAt K T.C H' p2 v2 t2 cs ∧ BarsAt K H' v bs ∧ BarsAt K H' (.ref u) (bs.map (scB (k : Int) 0)) ∧ RowAt H' r L, ?_, ?_⟩
      · obtain ⟨ba, xs, rfl, tb, nx, hx⟩ := B5.ex
        refine ⟨_, rfl, ba, rfl, ⟨_, tb⟩, fun D6 n6 => ?_⟩
        refine lc_tup (K := K) (a := ba) (xs := xs) (fun j Hj => BarLst K Hj D6 ((bs.take j).map (scB (k : Int) 0)) ∧ Same H5 Hj) ⟨BarLst.nil upd_same, same_upd n6⟩ (fun j Hj _ ⟨_, sj⟩ => Same.seqTT sj tb) ?_ ?_
        · rintro j y Hj hj ⟨⟨ys, ey, ny, fy⟩, sj⟩
          have jl : j < bs.length := by
            have := (List.getElem?_eq_some_iff.mp hj).1
            omega
          have hb : bs[j]? = some bs[j] := List.getElem?_eq_getElem jl
          obtain ⟨pb, lv, rfl, tp, ⟨lc, rfl, tc⟩⟩ := ((hx j y _ hj hb).stay (.same sj)).ex
          have ob := S.bar _ (List.getElem_mem jl)
          generalize bs[j] = b at hb tp tc ob
          have b1 := ob.pos
          have b2 := ob.most
          have bl := ob.lot
          refine ⟨pb, _, rfl, tp, rfl, _, _, rfl, _, _, rfl, rfl, rfl, ?_⟩
          refine ⟨_, rfl, _, rfl, _, _, rfl, rfl, wide_mul (a := 22) (b := 12) (by omega) (by omega) (by decide) (by decide) (by decide), ?_⟩
          refine ⟨_, rfl, lc, rfl, ⟨_, tc⟩, fun F nF => ?_⟩
          refine lc_tup (K := K) (a := lc) (xs := b.2.map V.int) (fun u Hu => Hu F = some (.lst (((b.2.take u).map fun r => r * (k : Int)).map V.int)) ∧ Same Hj Hu) ⟨upd_same, same_upd nF⟩ (fun u Hu _ ⟨_, su⟩ => Same.seqTT su tc) ?_ ?_
          · rintro u y Hu hu ⟨el, su⟩
            obtain ⟨x, hx', rfl⟩ := getMapInt' hu
            have x0 := bl.ge x (List.mem_of_getElem? hx')
            have x1 := bl.lt x (List.mem_of_getElem? hx')
            have few := bl.few
            refine ⟨rfl, _, rfl, _, rfl, _, _, rfl, rfl, wide_mul (a := 22) (b := 12) (by omega) (by omega) (by decide) (by decide) (by decide), _, el, ?_, ?_, samePut su nF⟩
            · rw [List.length_map, List.length_map, List.length_take]
              exact sizeLt (by omega)
            · rw [upd_same, takeSucc hx', List.map_append, List.map_append]
              rfl
          · rintro Hu ⟨el, su⟩
            rw [List.length_map, List.take_length] at el
            refine ⟨F, _, rfl, .inl ⟨lstOf el, fun g ng => ⟨sizeOk (by show (2 : Nat) ≤ 100000; decide), fun e ne => ?_⟩⟩⟩
            have s6b : Same Hu (upd Hu g (.tup ((b.2.map fun r => r * (k : Int)).map V.int))) := same_upd ng
            have s7 : Same Hj (upd (upd Hu g (.tup ((b.2.map fun r => r * (k : Int)).map V.int))) e (.tup [.int (b.1 * (k : Int)), .ref g])) := su.trans (s6b.trans (same_upd ne))
            have eD := s7 _ _ ey
            refine ⟨_, eD, ?_, ?_, samePut (sj.trans s7) n6⟩
            · rw [ny, List.length_map, List.length_take]
              exact sizeLt (by omega)
            · rw [takeSucc hb, List.map_append]
              refine BarLst.add (H := upd (upd Hu g (.tup ((b.2.map fun r => r * (k : Int)).map V.int))) e (.tup [.int (b.1 * (k : Int)), .ref g])) ny (fun i x b h1 h2 => (fy i x b h1 h2).stay (.same s7)) (lstTups eD) upd_same (BarAt.stay (lstTups eD) ⟨e, .ref g, rfl, tupOf upd_same, ⟨g, rfl, ?_⟩⟩)
              have eg : (scB (k : Int) 0 b).2 = b.2.map fun r => r * (k : Int) := List.map_congr_left fun r _ => Int.add_zero _
              rw [eg]
              exact tupOf (same_upd ne _ _ upd_same)
        rintro H6 ⟨⟨ys, ey, ny, fy⟩, s6⟩
        rw [nx, List.take_length] at ny fy
        refine ⟨D6, ys, rfl, .inl ⟨lstOf ey, fun u nu => ?_⟩⟩
        have s7 := s6.trans (same_upd nu (o := .tup ys))
        exact ⟨u, rfl, A1.stay s7, A2.stay s7, B5.stay (.same s7), BarLst.tup ny fy nu, R5.stay s7⟩
      clear A1 A2 B5 R5
      rintro σ H7 ⟨du, rfl, A1, A2, B, Bu, R7⟩
      refine ⟨_, rfl, p1, _, _, rfl, A1.ob.choose_spec, p1, v1, t1, _, rfl, A1, ?_⟩
      refine ⟨_, rfl, sizeOk (by show (0 : Nat) ≤ 100000; decide), fun d nd => ?_⟩
      have s8 := same_upd nd (o := .tup [])
      refine ⟨_, _, dpBars (B.stay (.same s8)), .tup (tupOf upd_same) .nil, (okBars _).shaped (by decide), by decide, _, rfl, ?_⟩
      rw [show PyData.eqv (.tuple (bs.map barD)) (.tuple []) = decide (bs = []) from eqvBars bs []]
      have A18 := A1.stay s8
      have A28 := A2.stay s8
      have B8 := B.stay (.same s8)
      have Bu8 := Bu.stay (.same s8)
      have R8 := R7.stay s8
      generalize upd H7 d (.tup []) = H8 at A18 A28 B8 Bu8 R8 ⊢
      clear A1 A2 B Bu R7
      rcases Classical.em (bs = []) with h0 | h0
      rw [decide_eq_true h0]
      refine iteF ⟨_, rfl, sizeOk (by show (1 : Nat) ≤ 100000; decide), fun a1 n1 => ⟨sizeOk (by show (2 : Nat) ≤ 100000; decide), fun a2 n2 => ⟨sizeOk (by show (1 : Nat) ≤ 100000; decide), fun a3 n3 => ?_⟩⟩⟩
      have g1 := same_upd n1 (o := .tup ([0].map V.int))
      have g2 := same_upd n2 (o := .tup [.int (k : Int), .ref a1])
      have g3 := same_upd n3 (o := .tup [.ref a2])
      have f1 := g3 _ _ (g2 _ _ (upd_same (H := H8) (a := a1) (o := .tup ([0].map V.int))))
      have f2 := g3 _ _ (upd_same (H := upd H8 a1 (.tup ([0].map V.int))) (a := a2) (o := .tup [.int (k : Int), .ref a1]))
      have f3 := upd_same (H := upd (upd H8 a1 (.tup ([0].map V.int))) a2 (.tup [.int (k : Int), .ref a1])) (a := a3) (o := .tup [.ref a2])
      have g123 := g1.trans (g2.trans g3)
      have A1 := A18.stay g123
      have A2 := A28.stay g123
      have B := B8.stay (.same g123)
      have R7 := R8.stay g123
      refine ⟨_, _, dpBars A1.bars, dpBars (oneBar (b := ((k : Int), [0])) (tupOf f3) ⟨a2, .ref a1, rfl, tupOf f2, ⟨a1, rfl, tupOf f1⟩⟩), (okBars _).shaped (by decide), (okBars _).shaped (by decide), _, rfl, ?_⟩
      rw [eqvBars, decide_eq_true (show strB (k : Int) bs = [((k : Int), [0])] from if_pos h0)]
      refine iteF ?_
      generalize upd (upd (upd H8 a1 (.tup ([0].map V.int))) a2 (.tup [.int (k : Int), .ref a1])) a3 (.tup [.ref a2]) = H9 at A1 A2 B R7 ⊢
      clear f1 f2 f3 g1 g2 g3 g123 n1 n2 n3 A18 A28 B8 Bu8 R8
      rotate_left
      rw [decide_eq_false h0]
      refine iteT ⟨_, rfl, ?_⟩
      refine ⟨_, _, dpBars A18.bars, dpBars Bu8, (okBars _).shaped (by decide), (okBars _).shaped (by decide), _, rfl, ?_⟩
      rw [eqvBars, decide_eq_true (show strB (k : Int) bs = bs.map (scB (k : Int) 0) from if_neg h0)]
      refine iteF ?_
      have A1 := A18
      have A2 := A28
      have B := B8
      have R7 := R8
      generalize H8 = H9 at A1 A2 B R7 ⊢
      clear A18 A28 B8 Bu8 R8
      all_goals
        refine ⟨_, rfl, p1, _, _, rfl, A1.ob.choose_spec, p1, v1, t1, _, rfl, A1, ?_⟩
        refine ⟨_, rfl, v, bs, rfl, B, S.mods, by omega, fun D9 H10 s10 n9 e9 => ?_⟩
        refine ⟨D9, rfl, ⟨_, lstOf e9⟩, fun F nF => ?_⟩
        refine lc_list (K := K) (a := D9) (xs := (cls bs).map V.int) (fun j Hj => Hj F = some (.lst ((((cls bs).take j).map fun x => x * (k : Int)).map V.int)) ∧ Same H10 Hj) ⟨upd_same, same_upd nF⟩ (fun j Hj _ ⟨_, sj⟩ => lstOf (sj _ _ e9)) ?_ ?_
        · rintro j y Hj hj ⟨ej, sj⟩
          obtain ⟨x, hx', rfl⟩ := getMapInt' hj
          obtain ⟨x0, x1, _⟩ := cls_mem.mp (List.mem_of_getElem? hx')
          refine ⟨rfl, _, rfl, _, rfl, _, _, rfl, rfl, wide_mul (a := 62) (b := 12) (by omega) (by omega) (by decide) (by decide) (by decide), _, ej, ?_, ?_, samePut sj nF⟩
          · rw [List.length_map, List.length_map, List.length_take]
            exact sizeLt (by omega)
          · rw [upd_same, takeSucc hx', List.map_append, List.map_append]
            rfl
        rintro H11 ⟨e11, s11⟩
        rw [List.length_map, List.take_length] at e11
        refine ⟨F, _, rfl, .inl ⟨lstOf e11, fun u nu => ?_⟩⟩
        have su := s10.trans (s11.trans (same_upd nu (o := .tup (((cls bs).map fun x => x * (k : Int)).map V.int))))
        refine ⟨_, _, dpTup (A1.stay su).cls, dpTup (tupOf upd_same), (okD.tup (okInts _)).shaped (by decide), (okD.tup (okInts _)).shaped (by decide), _, rfl, ?_⟩
        rw [eqvIntsT, cls_str (by omega) S, decide_eq_true rfl]
        have A22 := A2.stay su
        have B2 := B.stay (.same su)
        have R12 := R7.stay su
        generalize upd H11 u (.tup (((cls bs).map fun x => x * (k : Int)).map V.int)) = H12 at A22 B2 R12 ⊢
        clear A1 A2 B R7 su
        -- the moduli
        refine iteF ⟨fun σ H' => ∃ m8 : Addr, σ = [some (.ref a), some (.ref r), some (.int (0 + (i : Int))), some v, some (.int k), some (.ref p1), some (.ref p2), some (.ref du), some (.ref m8), x9, x10, x11, none, none] ∧ SvAt K T.C H' p2 v2 t2 cs ∧ BarsAt K H' v bs ∧ SqT K H' m8 ((cs.map fun b => b.1).map V.int) ∧ RowAt H' r L, ?_, ?_⟩
        · obtain ⟨va, xs, rfl, tb, nb, hb⟩ := B2.ex
          refine ⟨_, rfl, va, rfl, ⟨_, tb⟩, fun F4 nF4 => ?_⟩
          refine lc_tup (K := K) (a := va) (xs := xs) (fun j Hj => Hj F4 = some (.lst (((bs.take j).map fun b => b.1 / ((Nat.gcd b.1.natAbs k : Nat) : Int)).map V.int)) ∧ Same H12 Hj) ⟨upd_same, same_upd nF4⟩ (fun j Hj _ ⟨_, sj⟩ => Same.seqTT sj tb) ?_ ?_
          · rintro j y Hj hj ⟨ej, sj⟩
            have jl : j < bs.length := by
              have := (List.getElem?_eq_some_iff.mp hj).1
              omega
            have hbj : bs[j]? = some bs[j] := List.getElem?_eq_getElem jl
            have ob := S.bar _ (List.getElem_mem jl)
            obtain ⟨pb, lv, rfl, tp, _⟩ := ((hb j y _ hj hbj).stay (.same sj)).ex
            generalize bs[j] = b at hbj tp ob
            have b1 := ob.pos
            have b2 := ob.most
            have g0 : 0 < Nat.gcd b.1.natAbs k := Nat.gcd_pos_of_pos_right _ (by omega)
            have gk : Nat.gcd b.1.natAbs k ≤ k := Nat.gcd_le_right _ (by omega)
            refine ⟨pb, _, rfl, tp, rfl, _, _, rfl, _, _, rfl, rfl, rfl, _, rfl, _, rfl, _, rfl, b.1.natAbs, k, ?_, Nat.lt_of_le_of_lt (show b.1.natAbs ≤ 1000000 by omega) (by decide), Nat.lt_of_le_of_lt (show k ≤ 1000 by omega) (by decide), ?_⟩
            · rw [show ((b.1.natAbs : Nat) : Int) = b.1 by omega]
              rfl
            refine ⟨_, _, rfl, rfl, wide_div (b := 131) (by omega) (by omega) (by decide) (by decide), _, ej, ?_, ?_, samePut sj nF4⟩
            · rw [List.length_map, List.length_map, List.length_take]
              exact sizeLt (by omega)
            · rw [upd_same, takeSucc hbj, List.map_append, List.map_append]
              rfl
          rintro H13 ⟨e13, s13⟩
          rw [nb, List.take_length, ← Sh.mods] at e13
          refine ⟨F4, _, rfl, .inl ⟨lstOf e13, fun u' nu' => ?_⟩⟩
          have s14 := s13.trans (same_upd nu' (o := .tup ((cs.map fun b => b.1).map V.int)))
          exact ⟨u', rfl, A22.stay s14, B2.stay (.same s14), tupOf upd_same, R12.stay s14⟩
        clear A22 B2 R12
        rintro σ H13 ⟨m8, rfl, A, B, tm, R⟩
        have six2 := S2.six
        obtain ⟨wa, ys, rfl, tw, nw, hy⟩ := A.bars.ex
        refine ⟨_, rfl, p2, _, _, rfl, A.ob.choose_spec, p2, _, t2, cs, rfl, A, wa, rfl, ⟨_, tw⟩, fun F3 nF3 => ?_⟩
        refine lc_tup (K := K) (a := wa) (xs := ys) (fun j Hj => Hj F3 = some (.lst (((cs.take j).map fun b => b.1).map V.int)) ∧ Same H13 Hj) ⟨upd_same, same_upd nF3⟩ (fun j Hj _ ⟨_, sj⟩ => Same.seqTT sj tw) ?_ ?_
        · rintro j y Hj hj ⟨ej, sj⟩
          have jl : j < cs.length := by
            have := (List.getElem?_eq_some_iff.mp hj).1
            omega
          have hbj : cs[j]? = some cs[j] := List.getElem?_eq_getElem jl
          obtain ⟨pb, lv, rfl, tp, _⟩ := ((hy j y _ hj hbj).stay (.same sj)).ex
          generalize cs[j] = b at hbj tp
          refine ⟨pb, _, rfl, tp, rfl, _, _, rfl, _, _, rfl, rfl, rfl, _, rfl, _, ej, ?_, ?_, samePut sj nF3⟩
          · rw [List.length_map, List.length_map, List.length_take]
            exact sizeLt (by omega)
          · rw [upd_same, takeSucc hbj, List.map_append, List.map_append]
            rfl
        rintro H14 ⟨e14, s14⟩
        rw [nw, List.take_length] at e14
        refine ⟨F3, _, rfl, .inl ⟨lstOf e14, fun u' nu' => ?_⟩⟩
        have s15 := s14.trans (same_upd nu' (o := .tup ((cs.map fun b => b.1).map V.int)))
        refine ⟨_, rfl, _, _, dpTup (tupOf upd_same), dpTup (Same.seqTT s15 tm), (okD.tup (okInts _)).shaped (by decide), (okD.tup (okInts _)).shaped (by decide), _, rfl, ?_⟩
        rw [eqvIntsT, decide_eq_true rfl]
        have A15 := A.stay s15
        have B15 := B.stay (.same s15)
        have R15 := R.stay s15
        have tm15 := Same.seqTT s15 tm
        generalize upd H14 u' (.tup ((cs.map fun b => b.1).map V.int)) = H15 at A15 B15 R15 tm15 ⊢
        clear A B R tm tw hy s15
        -- the classes
        refine iteF ⟨_, rfl, p2, _, _, rfl, A15.ob.choose_spec, p2, _, t2, cs, rfl, A15, ?_⟩
        refine ⟨_, rfl, p2, _, _, rfl, A15.ob.choose_spec, p2, _, t2, cs, rfl, A15, ((wh cs : Nat) : Int), rfl, by omega, by omega, fun F5 nF5 => ?_⟩
        refine lc_range (lo := 0) (n := ((wh cs : Nat) : Int).toNat) (fun j Hj => Hj F5 = some (.lst ((clsTo cs j).map V.int)) ∧ Same H15 Hj) ⟨upd_same, same_upd nF5⟩ ?_ ?_
        · rintro j Hj hj ⟨ej, sj⟩
          rw [Int.zero_add]
          have jw : j < 64 := by omega
          have bk : (j : Int) * (k : Int) ≤ 64 * 12 := Int.mul_le_mul (by omega) (by omega) (by omega) (by decide)
          refine ⟨rfl, _, rfl, _, rfl, _, rfl, _, _, rfl, rfl, wide_mul (a := 12) (b := 12) (by omega) (by omega) (by decide) (by decide) (by decide), v, bs, (j : Int) * (k : Int), rfl, B15.stay (.same sj), fun b hb => (D.bar b hb).1, _, rfl, ?_⟩
          have hc := clsTo_succ cs j
          have lc := clsTo_len cs j
          rw [← Sh.fits]
          cases f : fitsB cs (j : Int) with
          | true =>
            rw [f, if_pos rfl] at hc
            refine iteT ⟨_, rfl, _, ej, by rw [List.length_map]; exact sizeLt (by omega), ?_, samePut sj nF5⟩
            rw [upd_same, hc, List.map_append]
            rfl
          | false =>
            rw [f, if_neg (by simp), List.append_nil] at hc
            refine iteF ⟨?_, sj⟩
            rw [ej, hc]
        rintro H16 ⟨e16, s16⟩
        rw [Int.toNat_natCast, show clsTo cs (wh cs) = cls cs from rfl] at e16
        refine ⟨F5, _, rfl, .inl ⟨lstOf e16, fun u' nu' => ?_⟩⟩
        have s17 := s16.trans (same_upd nu' (o := .tup ((cls cs).map V.int)))
        refine ⟨_, _, dpTup (A15.stay s17).cls, dpTup (tupOf upd_same), (okD.tup (okInts _)).shaped (by decide), (okD.tup (okInts _)).shaped (by decide), _, rfl, ?_⟩
        rw [eqvIntsT, decide_eq_true rfl]
        have A17 := A15.stay s17
        have B17 := B15.stay (.same s17)
        have R17 := R15.stay s17
        have tm17 := Same.seqTT s17 tm15
        generalize upd H16 u' (.tup ((cls cs).map V.int)) = H17 at A17 B17 R17 tm17 ⊢
        clear A15 B15 R15 tm15 s17
        -- the lots
        obtain ⟨va, xs, rfl, tb, nb, hb⟩ := B17.ex
        obtain ⟨_, ys, ew, tw, nw, hy⟩ := A17.bars.ex
        cases ew
        refine iteF ⟨_, rfl, va, _, rfl, .inr tb, _, rfl, by omega, by omega, ?_⟩
        rw [nb, Int.toNat_natCast]
        refine for_range (lo := 0) (n := bs.length) (fun j σ Hj => ∃ x9 x10 : Option V, σ = [some (.ref a), some (.ref r), some (.int (0 + (i : Int))), some (.ref va), some (.int k), some (.ref p1), some (.ref p2), some (.ref du), some (.ref m8), x9, x10, x11, none, none] ∧ Same H17 Hj) ⟨_, _, rfl, Same.refl _⟩ ?_ ?_
        · rintro j σ Hj hj ⟨x9, x10, rfl, sj⟩
          rw [Int.zero_add (j : Int)]
          have hbj : bs[j]? = some bs[j] := List.getElem?_eq_getElem hj
          have hcj : cs[j]? = some (cs[j]'(by rw [Sh.len]; exact hj)) := List.getElem?_eq_getElem _
          have hxj : xs[j]? = some (xs[j]'(by omega)) := List.getElem?_eq_getElem _
          have hyj : ys[j]? = some (ys[j]'(by rw [nw, Sh.len]; exact hj)) := List.getElem?_eq_getElem _
          obtain ⟨pb, lv, ep, tp, ⟨lc, rfl, tc⟩⟩ := ((hb j _ _ hxj hbj).stay (.same sj)).ex
          obtain ⟨pc, lw, eq, tq, ⟨ld, rfl, td⟩⟩ := ((hy j _ _ hyj hcj).stay (.same sj)).ex
          have sh := Sh.at_ j _ _ hbj hcj
          have ob := D.bar _ (List.getElem_mem hj)
          generalize bs[j] = b at hbj tp tc sh ob
          generalize cs[j]'(by rw [Sh.len]; exact hj) = c at hcj tq td sh
          have c1 := sh.pos
          have c2 := sh.most
          have atm : atI ((cs.map fun b => b.1).map V.int) (j : Int) = some (.int c.1) := atI_nat (by rw [List.getElem?_map, List.getElem?_map, hcj]; rfl)
          have atb := atI_nat hxj
          have atc := atI_nat hyj
          rw [ep] at atb
          rw [eq] at atc
          refine ⟨_, rfl, _, rfl, m8, _, _, _, rfl, rfl, Same.seqTT sj tm17, atm, c.1, rfl, by omega, by omega, fun F6 nF6 => ?_⟩
          refine lc_range (lo := 0) (n := c.1.toNat) (fun n Hn => Hn F6 = some (.lst ((lotTo k b n).map V.int)) ∧ Same Hj Hn) ⟨upd_same, same_upd nF6⟩ ?_ ?_
          · rintro n Hn hn ⟨en, sn⟩
            rw [Int.zero_add]
            have hlt := lotTo_succ k b n
            have ll := lotTo_len k b n
            refine ⟨rfl, _, rfl, _, rfl, _, _, rfl, rfl, wide_mul (a := 12) (b := 12) (by omega) (by omega) (by decide) (by decide) (by decide), _, rfl, _, rfl, va, _, _, _, rfl, rfl, Same.seqTT (sj.trans sn) tb, atb, pb, _, 0, _, rfl, rfl, Same.seqTT sn tp, atI_nat (j := 0) rfl, _, _, rfl, rfl, by show 0 < b.1; omega, ?_⟩
            refine ⟨_, rfl, _, rfl, va, _, _, _, rfl, rfl, Same.seqTT (sj.trans sn) tb, atb, pb, _, 1, _, rfl, rfl, Same.seqTT sn tp, atI_nat (j := 1) rfl, lc, _, rfl, .inr (Same.seqTT sn tc), rfl, flatInts _, _, rfl, ?_⟩
            show if inV (.int ((n : Int) * (k : Int) % b.1)) (b.2.map V.int) = true then _ else _
            rw [inVInt]
            refine ite2 (fun f => ?_) (fun f => ?_)
            · refine ⟨_, rfl, _, en, by rw [List.length_map]; exact sizeLt (by omega), ?_, samePut sn nF6⟩
              rw [upd_same, hlt, if_pos f, List.map_append]
              rfl
            · refine ⟨?_, sn⟩
              rw [en, hlt, if_neg f, List.append_nil]
          rintro Hn ⟨en, sn⟩
          rw [lotTo_is sh] at en
          refine ⟨F6, _, rfl, .inl ⟨lstOf en, fun u' nu' => ?_⟩⟩
          have sk := sn.trans (same_upd nu' (o := .tup (c.2.map V.int)))
          have sk2 := sj.trans sk
          have Ak := A17.stay sk2
          refine ⟨_, rfl, p2, _, _, rfl, Ak.ob.choose_spec, p2, _, t2, cs, rfl, Ak, _, rfl, wa, ys, _, _, rfl, rfl, Same.seqTT sk2 tw, atc, pc, _, 1, _, rfl, rfl, Same.seqTT sk tq, atI_nat (j := 1) rfl, _, rfl, ?_⟩
          refine ⟨_, _, dpTup (Same.seqTT sk td), dpTup (tupOf upd_same), (okD.tup (okInts _)).shaped (by decide), (okD.tup (okInts _)).shaped (by decide), _, rfl, ?_⟩
          rw [eqvIntsT, decide_eq_true rfl]
          exact iteF ⟨_, _, rfl, sk2⟩
        · rintro σ H18 ⟨x9, x10, rfl, s18⟩
          have B18 := B17.stay (.same s18)
          have R18 := R17.stay s18
          refine ⟨_, rfl, fun z3 dx3 nz3 ndx3 _ => make_sieve B18 S nz3 ndx3 fun t3 H19 s19 A19 => ⟨rfl, ?_⟩⟩
          have R19 := R18.stay s19
          refine ⟨sizeOk (by show (5 : Nat) ≤ 100000; decide), fun l2 nl2 => ?_⟩
          have s20 := same_upd nl2 (o := .lst [.int 0, .int 1001, .non, .bl true, .str "2"])
          have R20 := R19.stay s20
          have A20 := A19.stay s20
          refine ⟨_, rfl, r, L, 5, rfl, R20, by decide, by decide, fun z H21 z0 z1 k21 R21 => ?_⟩
          have e21 := k21 _ _ (R19.new nl2).1 (upd_same (H := H19) (a := l2) (o := .lst [.int 0, .int 1001, .non, .bl true, .str "2"]))
          obtain ⟨y, hy', oy⟩ : ∃ y, atI [V.int 0, .int 1001, .non, .bl true, .str "2"] z = some y ∧ ∀ H, OffI K H 1 1000 y := by
            rcases pick5 z0 z1 with rfl | rfl | rfl | rfl | rfl
            · exact ⟨_, atI_nat (j := 0) rfl, fun _ => .inr ⟨_, rfl, by omega⟩⟩
            · exact ⟨_, atI_nat (j := 1) rfl, fun _ => .inr ⟨_, rfl, by omega⟩⟩
            · exact ⟨_, atI_nat (j := 2) rfl, fun _ => .inl (.inr ⟨"NoneType", .base .non, by decide +kernel⟩)⟩
            · exact ⟨_, atI_nat (j := 3) rfl, fun _ => .inl (.inl ⟨true, rfl⟩)⟩
            · exact ⟨_, atI_nat (j := 4) rfl, fun _ => .inl (.inr ⟨"str", .base (.str _), by decide +kernel⟩)⟩
          refine ⟨l2, _, z, y, rfl, rfl, lstOf e21, hy', ?_⟩
          refine ⟨_, rfl, r, L, 2, rfl, R21, by decide, by decide, fun z5 H22 z50 z51 k22 R22 => ⟨rfl, ?_⟩⟩
          refine ⟨z3, y, _, t3, bs, _, rfl, (A20.keep R20 k21).keep R21 k22, .inl ⟨oy _, .inl ⟨rfl, _, rfl, ?_⟩⟩⟩
          rw [decide_eq_true rfl]
          exact iteF ⟨_, _, _, _, _, _, _, _, _, _, rfl, R22⟩
    · rintro σ H2 ⟨x2, x3, x4, x5, x6, x7, x8, x9, x10, x11, rfl, R2⟩
      refine ⟨fun σ H' => ∃ m y : Int, σ = [some (.ref a), some (.ref r), x2, x3, some (.int y), x5, x6, x7, x8, x9, x10, some (.int m), none, none] ∧ 1 ≤ m ∧ m ≤ 3000 ∧ 1 ≤ y ∧ y ≤ 1000, ?_, ?_⟩
      · refine ⟨_, rfl, r, L, 3000, rfl, R2, by decide, by decide, fun m0 H3 m00 m01 k3 R3 => ⟨_, _, rfl, rfl, ?_⟩⟩
        refine ⟨_, rfl, r, L, 1000, rfl, R3, by decide, by decide, fun y0 H4 y00 y01 k4 R4 => ⟨_, _, rfl, rfl, 1 + y0, rfl, ?_⟩⟩
        exact ⟨sizeOk (by show (2 : Nat) ≤ 100000; decide), fun d nd => ⟨d, _, rfl, tupOf upd_same, rfl, _, _, rfl, _, _, rfl, rfl, 1 + m0, 1 + y0, rfl, by omega, by omega, by omega, by omega⟩⟩
      rintro σ H5 ⟨m, y, rfl, m1, m2, y1, y2⟩
      have my : m * y ≤ 3000 * 1000 := Int.mul_le_mul m2 y2 (by omega) (by decide)
      have my0 : 1 * 1 ≤ m * y := Int.mul_le_mul m1 y1 (by decide) (by omega)
      refine ⟨fun σ H' => ∃ x12 : V, σ = [some (.ref a), some (.ref r), x2, x3, some (.int y), x5, x6, x7, x8, x9, x10, some (.int m), some x12, none] ∧ ((1000000 < m * y ∧ x12 = .str "great") ∨ (m * y ≤ 1000000 ∧ ∃ p' v' t', x12 = .ref p' ∧ SvAt K T.C H' p' v' t' [(m * y, [])])), ?_, ?_⟩
      · refine ⟨_, rfl, sizeOk (by show (0 : Nat) ≤ 100000; decide), fun a1 n1 => ⟨sizeOk (by show (2 : Nat) ≤ 100000; decide), fun a2 n2 => ⟨sizeOk (by show (1 : Nat) ≤ 100000; decide), fun a3 n3 => ?_⟩⟩⟩
        have g1 := same_upd n1 (o := .tup (([] : List Int).map V.int))
        have g2 := same_upd n2 (o := .tup [.int m, .ref a1])
        have g3 := same_upd n3 (o := .tup [.ref a2])
        have f1 := g3 _ _ (g2 _ _ (upd_same (H := H5) (a := a1) (o := .tup (([] : List Int).map V.int))))
        have f2 := g3 _ _ (upd_same (H := upd H5 a1 (.tup (([] : List Int).map V.int))) (a := a2) (o := .tup [.int m, .ref a1]))
        have f3 := upd_same (H := upd (upd H5 a1 (.tup (([] : List Int).map V.int))) a2 (.tup [.int m, .ref a1])) (a := a3) (o := .tup [.ref a2])
        refine fun z dz nz ndz _ => make_sieve (oneBar (b := (m, [])) (tupOf f3) ⟨a2, .ref a1, rfl, tupOf f2, ⟨a1, rfl, tupOf f1⟩⟩) (oneEmpty m1 (by omega)) nz ndz fun t' H6 s6 A6 => ⟨rfl, _, rfl, ?_⟩
        refine ⟨z, _, _, t', [(m, [])], false, rfl, A6, .inr ⟨rfl, y, rfl, y1, y2, ?_⟩⟩
        by_cases l : 1000000 < m * y
        · exact .inl ⟨⟨_, List.mem_singleton.mpr rfl, l⟩, fun H' s' => ⟨_, rfl, .inl ⟨l, rfl⟩⟩⟩
        · exact .inr ⟨by show 1 ≤ 5; decide, fun b hb => by rw [List.mem_singleton.mp hb]; show m * y ≤ _; omega, fun p' v' t' H' s' A => ⟨_, rfl, .inr ⟨by omega, p', v', t', rfl, A⟩⟩⟩
      rintro σ H6 ⟨x12, rfl, h⟩
      refine ⟨_, rfl, _, rfl, _, rfl, _, _, rfl, rfl, wide_mul (a := 22) (b := 12) (by omega) (by omega) (by decide) (by decide) (by decide), _, _, rfl, rfl, _, rfl, ?_⟩
      rcases h with ⟨l, rfl⟩ | ⟨l, p', v', t', rfl, A⟩
      · rw [decide_eq_true l]
        refine iteT (.inl ⟨rfl, ?_⟩)
        rw [decide_eq_true rfl]
        exact q _
      · rw [decide_eq_false (show ¬ (1000000 : Int) < m * y by omega)]
        refine iteF ⟨_, rfl, _, rfl, _, _, rfl, rfl, wide_mul (a := 22) (b := 12) (by omega) (by omega) (by decide) (by decide) (by decide), sizeOk (by show (0 : Nat) ≤ 100000; decide), fun a1 n1 => ⟨sizeOk (by show (2 : Nat) ≤ 100000; decide), fun a2 n2 => ⟨sizeOk (by show (1 : Nat) ≤ 100000; decide), fun a3 n3 => ?_⟩⟩⟩
        have g1 := same_upd n1 (o := .tup (([] : List Int).map V.int))
        have g2 := same_upd n2 (o := .tup [.int (m * y), .ref a1])
        have g3 := same_upd n3 (o := .tup [.ref a2])
        have f1 := g3 _ _ (g2 _ _ (upd_same (H := H6) (a := a1) (o := .tup (([] : List Int).map V.int))))
        have f2 := g3 _ _ (upd_same (H := upd H6 a1 (.tup (([] : List Int).map V.int))) (a := a2) (o := .tup [.int (m * y), .ref a1]))
        have f3 := upd_same (H := upd (upd H6 a1 (.tup (([] : List Int).map V.int))) a2 (.tup [.int (m * y), .ref a1])) (a := a3) (o := .tup [.ref a2])
        refine fun z dz nz ndz _ => make_sieve (oneBar (b := (m * y, [])) (tupOf f3) ⟨a2, .ref a1, rfl, tupOf f2, ⟨a1, rfl, tupOf f1⟩⟩) (oneEmpty (by omega) l) nz ndz fun t2 H7 s7 A7 => ⟨rfl, .inr (ownSv (A.stay (g1.trans (g2.trans (g3.trans s7)))) A7 ?_)⟩
        rw [decide_eq_true rfl]
        exact q _
end

end R
namespace R
open PySem PySem.Spec PyProof.Rows L2
theorem kit_ref {K : PySem.W.Frag} {C : Addr} {t : Value} (h1 : PySem.W.hasDictIn K C = true) (h2 : PySem.W.typeIn K (.ref C) = some (.type "type")) (h3 : PySem.W.subIn K t (.ref C) = some true) : PySem.W.kitOne K t (.ref C) = some true := by
  obtain ⟨cd, hc, _⟩ := PySem.W.any_some h1
  unfold PySem.W.kitOne
  split
  · rfl
  · show (if ((PySem.W.clsIn K C).isSome && PySem.W.typeIn K (.ref C) == some (.type "type")) = true then PySem.W.subIn K t (.ref C) else none) = some true
    rw [hc, h2]
    exact h3
theorem all_mk {l : PySem.W.OpenLaw} {w : World} {K : PySem.W.Frag} {h : Heap} {mg : Str → Option Value} {fa : Addr} (X : K.In h) (G : h.Ns mainGlobals mg) (hfa : mg "law" = some (.ref fa))
    {f0 : Addr} {oc0 kV0 dc0 pm0 cd0 ct0 : Value} {od0 an0 : Option Addr} {sl0 : Array (Option Value)}
    (a0 : PySem.W.nsIn K mainGlobals "is_integer" = some (some (.ref f0)))
    {f1 : Addr} {oc1 kV1 dc1 pm1 cd1 ct1 : Value} {od1 an1 : Option Addr} {sl1 : Array (Option Value)}
    (a1 : PySem.W.nsIn K mainGlobals "integer_within" = some (some (.ref f1)))
    {f2 : Addr} {oc2 kV2 dc2 pm2 cd2 ct2 : Value} {od2 an2 : Option Addr} {sl2 : Array (Option Value)}
    (a2 : PySem.W.nsIn K mainGlobals "is_ascending" = some (some (.ref f2)))
    {f3 : Addr} {oc3 kV3 dc3 pm3 cd3 ct3 : Value} {od3 an3 : Option Addr} {sl3 : Array (Option Value)}
    (a3 : PySem.W.nsIn K mainGlobals "is_lot" = some (some (.ref f3)))
    {f4 : Addr} {oc4 kV4 dc4 pm4 cd4 ct4 : Value} {od4 an4 : Option Addr} {sl4 : Array (Option Value)}
    (a4 : PySem.W.nsIn K mainGlobals "is_pair" = some (some (.ref f4)))
    {f5 : Addr} {oc5 kV5 dc5 pm5 cd5 ct5 : Value} {od5 an5 : Option Addr} {sl5 : Array (Option Value)}
    (a5 : PySem.W.nsIn K mainGlobals "is_bar" = some (some (.ref f5)))
    {f6 : Addr} {oc6 kV6 dc6 pm6 cd6 ct6 : Value} {od6 an6 : Option Addr} {sl6 : Array (Option Value)}
    (a6 : PySem.W.nsIn K mainGlobals "inverse" = some (some (.ref f6)))
    {f7 : Addr} {oc7 kV7 dc7 pm7 cd7 ct7 : Value} {od7 an7 : Option Addr} {sl7 : Array (Option Value)}
    (a7 : PySem.W.nsIn K mainGlobals "joined" = some (some (.ref f7)))
    {f8 : Addr} {oc8 kV8 dc8 pm8 cd8 ct8 : Value} {od8 an8 : Option Addr} {sl8 : Array (Option Value)}
    (a8 : PySem.W.nsIn K mainGlobals "classes_of" = some (some (.ref f8)))
    {f9 : Addr} {oc9 kV9 dc9 pm9 cd9 ct9 : Value} {od9 an9 : Option Addr} {sl9 : Array (Option Value)}
    (a9 : PySem.W.nsIn K mainGlobals "check_bars" = some (some (.ref f9)))
    {f10 : Addr} {oc10 kV10 dc10 pm10 cd10 ct10 : Value} {od10 an10 : Option Addr} {sl10 : Array (Option Value)}
    (a10 : PySem.W.nsIn K mainGlobals "whole_of" = some (some (.ref f10)))
    {f11 : Addr} {oc11 kV11 dc11 pm11 cd11 ct11 : Value} {od11 an11 : Option Addr} {sl11 : Array (Option Value)}
    (a11 : PySem.W.nsIn K mainGlobals "check_choices" = some (some (.ref f11)))
    {f12 : Addr} {oc12 kV12 dc12 pm12 cd12 ct12 : Value} {od12 an12 : Option Addr} {sl12 : Array (Option Value)}
    (a12 : PySem.W.nsIn K mainGlobals "check_factor" = some (some (.ref f12)))
    {f13 : Addr} {oc13 kV13 dc13 pm13 cd13 ct13 : Value} {od13 an13 : Option Addr} {sl13 : Array (Option Value)}
    (a13 : PySem.W.nsIn K mainGlobals "stretched" = some (some (.ref f13)))
    {f14 : Addr} {oc14 kV14 dc14 pm14 cd14 ct14 : Value} {od14 an14 : Option Addr} {sl14 : Array (Option Value)}
    (a14 : PySem.W.nsIn K mainGlobals "shared_bar" = some (some (.ref f14)))
    {f15 : Addr} {oc15 kV15 dc15 pm15 cd15 ct15 : Value} {od15 an15 : Option Addr} {sl15 : Array (Option Value)}
    (a15 : PySem.W.nsIn K mainGlobals "shared" = some (some (.ref f15)))
    {f16 : Addr} {oc16 kV16 dc16 pm16 cd16 ct16 : Value} {od16 an16 : Option Addr} {sl16 : Array (Option Value)}
    (a16 : PySem.W.nsIn K mainGlobals "_law_draws" = some (some (.ref f16)))
    {f17 : Addr} {oc17 kV17 dc17 pm17 cd17 ct17 : Value} {od17 an17 : Option Addr} {sl17 : Array (Option Value)}
    (a17 : PySem.W.nsIn K mainGlobals "_law_pick" = some (some (.ref f17)))
    {f18 : Addr} {oc18 kV18 dc18 pm18 cd18 ct18 : Value} {od18 an18 : Option Addr} {sl18 : Array (Option Value)}
    (a18 : PySem.W.nsIn K mainGlobals "_law_bars" = some (some (.ref f18)))
    {f19 : Addr} {oc19 kV19 dc19 pm19 cd19 ct19 : Value} {od19 an19 : Option Addr} {sl19 : Array (Option Value)}
    (a19 : PySem.W.nsIn K mainGlobals "_law_gcd" = some (some (.ref f19)))
    {f20 : Addr} {oc20 kV20 dc20 pm20 cd20 ct20 : Value} {od20 an20 : Option Addr} {sl20 : Array (Option Value)}
    (a20 : PySem.W.nsIn K mainGlobals "_law_whole" = some (some (.ref f20)))
    {f21 : Addr} {oc21 kV21 dc21 pm21 cd21 ct21 : Value} {od21 an21 : Option Addr} {sl21 : Array (Option Value)}
    (a21 : PySem.W.nsIn K mainGlobals "_law_fits" = some (some (.ref f21)))
    {f22 : Addr} {oc22 kV22 dc22 pm22 cd22 ct22 : Value} {od22 an22 : Option Addr} {sl22 : Array (Option Value)}
    (a22 : PySem.W.nsIn K mainGlobals "_law_own" = some (some (.ref f22)))
    {f23 : Addr} {oc23 kV23 dc23 pm23 cd23 ct23 : Value} {od23 an23 : Option Addr} {sl23 : Array (Option Value)}
    (a23 : PySem.W.nsIn K mainGlobals "_law_wrong" = some (some (.ref f23)))
    {f24 : Addr} {oc24 kV24 dc24 pm24 cd24 ct24 : Value} {od24 an24 : Option Addr} {sl24 : Array (Option Value)}
    (a24 : PySem.W.nsIn K mainGlobals "law" = some (some (.ref f24)))
    {f25 : Addr} {oc25 kV25 dc25 pm25 cd25 ct25 : Value} {od25 an25 : Option Addr} {sl25 : Array (Option Value)}
    {f26 : Addr} {oc26 kV26 dc26 pm26 cd26 ct26 : Value} {od26 an26 : Option Addr} {sl26 : Array (Option Value)}
    {f27 : Addr} {oc27 kV27 dc27 pm27 cd27 ct27 : Value} {od27 an27 : Option Addr} {sl27 : Array (Option Value)}
    {f28 : Addr} {oc28 kV28 dc28 pm28 cd28 ct28 : Value} {od28 an28 : Option Addr} {sl28 : Array (Option Value)}
    {f29 : Addr} {oc29 kV29 dc29 pm29 cd29 ct29 : Value} {od29 an29 : Option Addr} {sl29 : Array (Option Value)}
    {C : Addr} {pB pW pC : Addr} {rB rW rC : List Value}
    (aC : PySem.W.nsIn K mainGlobals "Sieve" = some (some (.ref C)))
    (mI : PySem.W.findIn K (.ref C) "__init__" = some (some (.ref f25)))
    (iI : PySem.W.isFn K (.ref f25) = true)
    (mE : PySem.W.findIn K (.ref C) "__eq__" = some (some (.ref f26)))
    (pg : PySem.W.plainGet K C Str.empty = true)
    (hd : PySem.W.hasDictIn K C = true)
    (po : PySem.W.plainOver K C = true)
    (sa : PySem.W.findIn K (.ref C) "__setattr__" = some (some (.builtin "object.__setattr__")))
    (mk : PySem.W.makesIn K C = true)
    (kc : PySem.W.keepIn K (.ref C) = true)
    (n_bars : PySem.W.findIn K (.ref C) "_bars" = some none)
    (n_whole : PySem.W.findIn K (.ref C) "_whole" = some none)
    (n_classes : PySem.W.findIn K (.ref C) "_classes" = some none)
    (q1B : PySem.W.findIn K (.ref C) "bars" = some (some (.ref pB)))
    (q2B : PySem.W.specialIn K (.ref pB) "__get__" = some (some (.builtin "property.__get__")))
    (q3B : PySem.W.takesIn K (.ref pB) = some true)
    (q4B : PySem.W.recIn K pB "property" = some (.ref f27 :: rB))
    (q1W : PySem.W.findIn K (.ref C) "whole" = some (some (.ref pW)))
    (q2W : PySem.W.specialIn K (.ref pW) "__get__" = some (some (.builtin "property.__get__")))
    (q3W : PySem.W.takesIn K (.ref pW) = some true)
    (q4W : PySem.W.recIn K pW "property" = some (.ref f28 :: rW))
    (q1C : PySem.W.findIn K (.ref C) "classes" = some (some (.ref pC)))
    (q2C : PySem.W.specialIn K (.ref pC) "__get__" = some (some (.builtin "property.__get__")))
    (q3C : PySem.W.takesIn K (.ref pC) = some true)
    (q4C : PySem.W.recIn K pC "property" = some (.ref f29 :: rC))
    (l0 : K.lookup f0 = some ⟨oc0, od0, .func (PySem.W.fnOf "is_integer" "is_integer" (defArgs s_p_is_integer) (defBody s_p_is_integer) (defScope s_p_is_integer) .none kV0 dc0 pm0 an0 cd0 ct0), sl0⟩)
    (d0 : PySem.W.codeIn K cd0 "is_integer" = true)
    (k0 : PySem.W.keepIn K (.ref f0) = true)
    (l1 : K.lookup f1 = some ⟨oc1, od1, .func (PySem.W.fnOf "integer_within" "integer_within" (defArgs s_p_integer_within) (defBody s_p_integer_within) (defScope s_p_integer_within) .none kV1 dc1 pm1 an1 cd1 ct1), sl1⟩)
    (d1 : PySem.W.codeIn K cd1 "integer_within" = true)
    (k1 : PySem.W.keepIn K (.ref f1) = true)
    (l2 : K.lookup f2 = some ⟨oc2, od2, .func (PySem.W.fnOf "is_ascending" "is_ascending" (defArgs s_p_is_ascending) (defBody s_p_is_ascending) (defScope s_p_is_ascending) .none kV2 dc2 pm2 an2 cd2 ct2), sl2⟩)
    (d2 : PySem.W.codeIn K cd2 "is_ascending" = true)
    (k2 : PySem.W.keepIn K (.ref f2) = true)
    (l3 : K.lookup f3 = some ⟨oc3, od3, .func (PySem.W.fnOf "is_lot" "is_lot" (defArgs s_p_is_lot) (defBody s_p_is_lot) (defScope s_p_is_lot) .none kV3 dc3 pm3 an3 cd3 ct3), sl3⟩)
    (d3 : PySem.W.codeIn K cd3 "is_lot" = true)
    (k3 : PySem.W.keepIn K (.ref f3) = true)
    (l4 : K.lookup f4 = some ⟨oc4, od4, .func (PySem.W.fnOf "is_pair" "is_pair" (defArgs s_p_is_pair) (defBody s_p_is_pair) (defScope s_p_is_pair) .none kV4 dc4 pm4 an4 cd4 ct4), sl4⟩)
    (d4 : PySem.W.codeIn K cd4 "is_pair" = true)
    (k4 : PySem.W.keepIn K (.ref f4) = true)
    (l5 : K.lookup f5 = some ⟨oc5, od5, .func (PySem.W.fnOf "is_bar" "is_bar" (defArgs s_p_is_bar) (defBody s_p_is_bar) (defScope s_p_is_bar) .none kV5 dc5 pm5 an5 cd5 ct5), sl5⟩)
    (d5 : PySem.W.codeIn K cd5 "is_bar" = true)
    (k5 : PySem.W.keepIn K (.ref f5) = true)
    (l6 : K.lookup f6 = some ⟨oc6, od6, .func (PySem.W.fnOf "inverse" "inverse" (defArgs s_p_inverse) (defBody s_p_inverse) (defScope s_p_inverse) .none kV6 dc6 pm6 an6 cd6 ct6), sl6⟩)
    (d6 : PySem.W.codeIn K cd6 "inverse" = true)
    (k6 : PySem.W.keepIn K (.ref f6) = true)
    (l7 : K.lookup f7 = some ⟨oc7, od7, .func (PySem.W.fnOf "joined" "joined" (defArgs s_p_joined) (defBody s_p_joined) (defScope s_p_joined) .none kV7 dc7 pm7 an7 cd7 ct7), sl7⟩)
    (d7 : PySem.W.codeIn K cd7 "joined" = true)
    (k7 : PySem.W.keepIn K (.ref f7) = true)
    (l8 : K.lookup f8 = some ⟨oc8, od8, .func (PySem.W.fnOf "classes_of" "classes_of" (defArgs s_p_classes_of) (defBody s_p_classes_of) (defScope s_p_classes_of) .none kV8 dc8 pm8 an8 cd8 ct8), sl8⟩)
    (d8 : PySem.W.codeIn K cd8 "classes_of" = true)
    (k8 : PySem.W.keepIn K (.ref f8) = true)
    (l9 : K.lookup f9 = some ⟨oc9, od9, .func (PySem.W.fnOf "check_bars" "check_bars" (defArgs s_p_check_bars) (defBody s_p_check_bars) (defScope s_p_check_bars) .none kV9 dc9 pm9 an9 cd9 ct9), sl9⟩)
    (d9 : PySem.W.codeIn K cd9 "check_bars" = true)
    (k9 : PySem.W.keepIn K (.ref f9) = true)
    (l10 : K.lookup f10 = some ⟨oc10, od10, .func (PySem.W.fnOf "whole_of" "whole_of" (defArgs s_p_whole_of) (defBody s_p_whole_of) (defScope s_p_whole_of) .none kV10 dc10 pm10 an10 cd10 ct10), sl10⟩)
    (d10 : PySem.W.codeIn K cd10 "whole_of" = true)
    (k10 : PySem.W.keepIn K (.ref f10) = true)
    (l11 : K.lookup f11 = some ⟨oc11, od11, .func (PySem.W.fnOf "check_choices" "check_choices" (defArgs s_p_check_choices) (defBody s_p_check_choices) (defScope s_p_check_choices) .none kV11 dc11 pm11 an11 cd11 ct11), sl11⟩)
    (d11 : PySem.W.codeIn K cd11 "check_choices" = true)
    (k11 : PySem.W.keepIn K (.ref f11) = true)
    (l12 : K.lookup f12 = some ⟨oc12, od12, .func (PySem.W.fnOf "check_factor" "check_factor" (defArgs s_p_check_factor) (defBody s_p_check_factor) (defScope s_p_check_factor) .none kV12 dc12 pm12 an12 cd12 ct12), sl12⟩)
    (d12 : PySem.W.codeIn K cd12 "check_factor" = true)
    (k12 : PySem.W.keepIn K (.ref f12) = true)
    (l13 : K.lookup f13 = some ⟨oc13, od13, .func (PySem.W.fnOf "stretched" "stretched" (defArgs s_p_stretched) (defBody s_p_stretched) (defScope s_p_stretched) .none kV13 dc13 pm13 an13 cd13 ct13), sl13⟩)
    (d13 : PySem.W.codeIn K cd13 "stretched" = true)
    (k13 : PySem.W.keepIn K (.ref f13) = true)
    (l14 : K.lookup f14 = some ⟨oc14, od14, .func (PySem.W.fnOf "shared_bar" "shared_bar" (defArgs s_p_shared_bar) (defBody s_p_shared_bar) (defScope s_p_shared_bar) .none kV14 dc14 pm14 an14 cd14 ct14), sl14⟩)
    (d14 : PySem.W.codeIn K cd14 "shared_bar" = true)
    (k14 : PySem.W.keepIn K (.ref f14) = true)
    (l15 : K.lookup f15 = some ⟨oc15, od15, .func (PySem.W.fnOf "shared" "shared" (defArgs s_p_shared) (defBody s_p_shared) (defScope s_p_shared) .none kV15 dc15 pm15 an15 cd15 ct15), sl15⟩)
    (d15 : PySem.W.codeIn K cd15 "shared" = true)
    (k15 : PySem.W.keepIn K (.ref f15) = true)
    (l16 : K.lookup f16 = some ⟨oc16, od16, .func (PySem.W.fnOf "_law_draws" "_law_draws" (defArgs s_l_draws) (defBody s_l_draws) (defScope s_l_draws) .none kV16 dc16 pm16 an16 cd16 ct16), sl16⟩)
    (d16 : PySem.W.codeIn K cd16 "_law_draws" = true)
    (k16 : PySem.W.keepIn K (.ref f16) = true)
    (l17 : K.lookup f17 = some ⟨oc17, od17, .func (PySem.W.fnOf "_law_pick" "_law_pick" (defArgs s_l_pick) (defBody s_l_pick) (defScope s_l_pick) .none kV17 dc17 pm17 an17 cd17 ct17), sl17⟩)
    (d17 : PySem.W.codeIn K cd17 "_law_pick" = true)
    (k17 : PySem.W.keepIn K (.ref f17) = true)
    (l18 : K.lookup f18 = some ⟨oc18, od18, .func (PySem.W.fnOf "_law_bars" "_law_bars" (defArgs s_l_bars) (defBody s_l_bars) (defScope s_l_bars) .none kV18 dc18 pm18 an18 cd18 ct18), sl18⟩)
    (d18 : PySem.W.codeIn K cd18 "_law_bars" = true)
    (k18 : PySem.W.keepIn K (.ref f18) = true)
    (l19 : K.lookup f19 = some ⟨oc19, od19, .func (PySem.W.fnOf "_law_gcd" "_law_gcd" (defArgs s_l_gcd) (defBody s_l_gcd) (defScope s_l_gcd) .none kV19 dc19 pm19 an19 cd19 ct19), sl19⟩)
    (d19 : PySem.W.codeIn K cd19 "_law_gcd" = true)
    (k19 : PySem.W.keepIn K (.ref f19) = true)
    (l20 : K.lookup f20 = some ⟨oc20, od20, .func (PySem.W.fnOf "_law_whole" "_law_whole" (defArgs s_l_whole) (defBody s_l_whole) (defScope s_l_whole) .none kV20 dc20 pm20 an20 cd20 ct20), sl20⟩)
    (d20 : PySem.W.codeIn K cd20 "_law_whole" = true)
    (k20 : PySem.W.keepIn K (.ref f20) = true)
    (l21 : K.lookup f21 = some ⟨oc21, od21, .func (PySem.W.fnOf "_law_fits" "_law_fits" (defArgs s_l_fits) (defBody s_l_fits) (defScope s_l_fits) .none kV21 dc21 pm21 an21 cd21 ct21), sl21⟩)
    (d21 : PySem.W.codeIn K cd21 "_law_fits" = true)
    (k21 : PySem.W.keepIn K (.ref f21) = true)
    (l22 : K.lookup f22 = some ⟨oc22, od22, .func (PySem.W.fnOf "_law_own" "_law_own" (defArgs s_l_own) (defBody s_l_own) (defScope s_l_own) .none kV22 dc22 pm22 an22 cd22 ct22), sl22⟩)
    (d22 : PySem.W.codeIn K cd22 "_law_own" = true)
    (k22 : PySem.W.keepIn K (.ref f22) = true)
    (l23 : K.lookup f23 = some ⟨oc23, od23, .func (PySem.W.fnOf "_law_wrong" "_law_wrong" (defArgs s_l_wrong) (defBody s_l_wrong) (defScope s_l_wrong) .none kV23 dc23 pm23 an23 cd23 ct23), sl23⟩)
    (d23 : PySem.W.codeIn K cd23 "_law_wrong" = true)
    (k23 : PySem.W.keepIn K (.ref f23) = true)
    (l24 : K.lookup f24 = some ⟨oc24, od24, .func (PySem.W.fnOf "law" "law" (defArgs s_law) (defBody s_law) (defScope s_law) .none kV24 dc24 pm24 an24 cd24 ct24), sl24⟩)
    (d24 : PySem.W.codeIn K cd24 "law" = true)
    (k24 : PySem.W.keepIn K (.ref f24) = true)
    (l25 : K.lookup f25 = some ⟨oc25, od25, .func (PySem.W.fnOf "__init__" "Sieve.__init__" (defArgs s_m_Sieve_init) (defBody s_m_Sieve_init) (defScope s_m_Sieve_init) .none kV25 dc25 pm25 an25 cd25 ct25), sl25⟩)
    (d25 : PySem.W.codeIn K cd25 "Sieve.__init__" = true)
    (k25 : PySem.W.keepIn K (.ref f25) = true)
    (l26 : K.lookup f26 = some ⟨oc26, od26, .func (PySem.W.fnOf "__eq__" "Sieve.__eq__" (defArgs s_m_Sieve_eq) (defBody s_m_Sieve_eq) (defScope s_m_Sieve_eq) .none kV26 dc26 pm26 an26 cd26 ct26), sl26⟩)
    (d26 : PySem.W.codeIn K cd26 "Sieve.__eq__" = true)
    (k26 : PySem.W.keepIn K (.ref f26) = true)
    (l27 : K.lookup f27 = some ⟨oc27, od27, .func (PySem.W.fnOf "bars" "Sieve.bars" (defArgs s_m_Sieve_bars) (defBody s_m_Sieve_bars) (defScope s_m_Sieve_bars) .none kV27 dc27 pm27 an27 cd27 ct27), sl27⟩)
    (d27 : PySem.W.codeIn K cd27 "Sieve.bars" = true)
    (k27 : PySem.W.keepIn K (.ref f27) = true)
    (l28 : K.lookup f28 = some ⟨oc28, od28, .func (PySem.W.fnOf "whole" "Sieve.whole" (defArgs s_m_Sieve_whole) (defBody s_m_Sieve_whole) (defScope s_m_Sieve_whole) .none kV28 dc28 pm28 an28 cd28 ct28), sl28⟩)
    (d28 : PySem.W.codeIn K cd28 "Sieve.whole" = true)
    (k28 : PySem.W.keepIn K (.ref f28) = true)
    (l29 : K.lookup f29 = some ⟨oc29, od29, .func (PySem.W.fnOf "classes" "Sieve.classes" (defArgs s_m_Sieve_classes) (defBody s_m_Sieve_classes) (defScope s_m_Sieve_classes) .none kV29 dc29 pm29 an29 cd29 ct29), sl29⟩)
    (d29 : PySem.W.codeIn K cd29 "Sieve.classes" = true)
    (k29 : PySem.W.keepIn K (.ref f29) = true)
    (z_len : PySem.W.nsIn K mainGlobals "len" = some none)
    (z_max : PySem.W.nsIn K mainGlobals "max" = some none)
    (z_range : PySem.W.nsIn K mainGlobals "range" = some none)
    (z_int : PySem.W.nsIn K mainGlobals "int" = some none)
    (z_list : PySem.W.nsIn K mainGlobals "list" = some none)
    (z_tuple : PySem.W.nsIn K mainGlobals "tuple" = some none)
    (z_sorted : PySem.W.nsIn K mainGlobals "sorted" = some none)
    (z_isinstance : PySem.W.nsIn K mainGlobals "isinstance" = some none)
    (z_enumerate : PySem.W.nsIn K mainGlobals "enumerate" = some none)
    (z_bool : PySem.W.nsIn K mainGlobals "bool" = some none)
    (g_gcd : PySem.W.nsIn K mainGlobals "gcd" = some (some (.builtin "math.gcd")))
    (g_lcm : PySem.W.nsIn K mainGlobals "lcm" = some (some (.builtin "math.lcm")))
    {t_GREATEST_MODULUS : Tok}
    (c_GREATEST_MODULUS : PySem.W.nsIn K mainGlobals "GREATEST_MODULUS" = some (some (.int 1000000 t_GREATEST_MODULUS)))
    {t_MOST_RESTS : Tok}
    (c_MOST_RESTS : PySem.W.nsIn K mainGlobals "MOST_RESTS" = some (some (.int 60 t_MOST_RESTS)))
    {t_MOST_BARS : Tok}
    (c_MOST_BARS : PySem.W.nsIn K mainGlobals "MOST_BARS" = some (some (.int 6 t_MOST_BARS)))
    {t_GREATEST_WHOLE : Tok}
    (c_GREATEST_WHOLE : PySem.W.nsIn K mainGlobals "GREATEST_WHOLE" = some (some (.int 1000000000000000000000000000000 t_GREATEST_WHOLE)))
    {t_MOST_CHOICES : Tok}
    (c_MOST_CHOICES : PySem.W.nsIn K mainGlobals "MOST_CHOICES" = some (some (.int 2000 t_MOST_CHOICES)))
    {t_GREATEST_FACTOR : Tok}
    (c_GREATEST_FACTOR : PySem.W.nsIn K mainGlobals "GREATEST_FACTOR" = some (some (.int 1000 t_GREATEST_FACTOR)))
    {C_RestError : Addr}
    (g_RestError : PySem.W.nsIn K mainGlobals "RestError" = some (some (.ref C_RestError)))
    (hR : PySem.W.hasDictIn K C_RestError = true)
    (tR : PySem.W.typeIn K (.ref C_RestError) = some (.type "type"))
    {C_BadNumber : Addr}
    (g_BadNumber : PySem.W.nsIn K mainGlobals "BadNumber" = some (some (.ref C_BadNumber)))
    (x_BadNumber : PySem.W.excIn K C_BadNumber [.type "ValueError", .type "Exception", .type "BaseException", .type "object"] "ValueError.__new__" = true)
    (k_BadNumber : PySem.W.keepIn K (.ref C_BadNumber) = true)
    (b_BadNumber : PySem.W.subIn K (.ref C_BadNumber) (.type "BaseException") = some true)
    (t_BadNumber : PySem.W.typeIn K (.ref C_BadNumber) = some (.type "type"))
    (e_BadNumber : PySem.W.subIn K (.ref C_BadNumber) (.ref C_BadNumber) = some true)
    (E1_BadNumber : PySem.W.findIn K (.ref C_BadNumber) "__getattribute__" = some (some (.builtin "BaseException.__getattribute__")))
    (E2_BadNumber : PySem.W.findIn K (.ref C_BadNumber) "__getattr__" = some none)
    (E3_BadNumber : PySem.W.hasDictIn K C_BadNumber = true)
    (E4_BadNumber : PySem.W.findIn K (.ref C_BadNumber) "__class__" = some (some (.builtin "object.__class__")))
    (E5_BadNumber : PySem.W.specialIn K (.builtin "object.__class__") "__get__" = some (some (.builtin "getset_descriptor.__get__")))
    (E6_BadNumber : PySem.W.takesIn K (.builtin "object.__class__") = some true)
    (E7_BadNumber : PySem.W.mroIn K C_BadNumber (.type "object") = some true)
    (r_BadNumber : PySem.W.subIn K (.ref C_BadNumber) (.ref C_RestError) = some true)
    {C_TooGreat : Addr}
    (g_TooGreat : PySem.W.nsIn K mainGlobals "TooGreat" = some (some (.ref C_TooGreat)))
    (x_TooGreat : PySem.W.excIn K C_TooGreat [.type "ValueError", .type "Exception", .type "BaseException", .type "object"] "ValueError.__new__" = true)
    (k_TooGreat : PySem.W.keepIn K (.ref C_TooGreat) = true)
    (b_TooGreat : PySem.W.subIn K (.ref C_TooGreat) (.type "BaseException") = some true)
    (t_TooGreat : PySem.W.typeIn K (.ref C_TooGreat) = some (.type "type"))
    (e_TooGreat : PySem.W.subIn K (.ref C_TooGreat) (.ref C_TooGreat) = some true)
    (E1_TooGreat : PySem.W.findIn K (.ref C_TooGreat) "__getattribute__" = some (some (.builtin "BaseException.__getattribute__")))
    (E2_TooGreat : PySem.W.findIn K (.ref C_TooGreat) "__getattr__" = some none)
    (E3_TooGreat : PySem.W.hasDictIn K C_TooGreat = true)
    (E4_TooGreat : PySem.W.findIn K (.ref C_TooGreat) "__class__" = some (some (.builtin "object.__class__")))
    (E5_TooGreat : PySem.W.specialIn K (.builtin "object.__class__") "__get__" = some (some (.builtin "getset_descriptor.__get__")))
    (E6_TooGreat : PySem.W.takesIn K (.builtin "object.__class__") = some true)
    (E7_TooGreat : PySem.W.mroIn K C_TooGreat (.type "object") = some true)
    (r_TooGreat : PySem.W.subIn K (.ref C_TooGreat) (.ref C_RestError) = some true)
    {C_TooMany : Addr}
    (g_TooMany : PySem.W.nsIn K mainGlobals "TooMany" = some (some (.ref C_TooMany)))
    (x_TooMany : PySem.W.excIn K C_TooMany [.type "ValueError", .type "Exception", .type "BaseException", .type "object"] "ValueError.__new__" = true)
    (k_TooMany : PySem.W.keepIn K (.ref C_TooMany) = true)
    (b_TooMany : PySem.W.subIn K (.ref C_TooMany) (.type "BaseException") = some true)
    (t_TooMany : PySem.W.typeIn K (.ref C_TooMany) = some (.type "type"))
    (e_TooMany : PySem.W.subIn K (.ref C_TooMany) (.ref C_TooMany) = some true)
    (E1_TooMany : PySem.W.findIn K (.ref C_TooMany) "__getattribute__" = some (some (.builtin "BaseException.__getattribute__")))
    (E2_TooMany : PySem.W.findIn K (.ref C_TooMany) "__getattr__" = some none)
    (E3_TooMany : PySem.W.hasDictIn K C_TooMany = true)
    (E4_TooMany : PySem.W.findIn K (.ref C_TooMany) "__class__" = some (some (.builtin "object.__class__")))
    (E5_TooMany : PySem.W.specialIn K (.builtin "object.__class__") "__get__" = some (some (.builtin "getset_descriptor.__get__")))
    (E6_TooMany : PySem.W.takesIn K (.builtin "object.__class__") = some true)
    (E7_TooMany : PySem.W.mroIn K C_TooMany (.type "object") = some true)
    (r_TooMany : PySem.W.subIn K (.ref C_TooMany) (.ref C_RestError) = some true)
    (e_BadNumber_TooGreat : PySem.W.subIn K (.ref C_BadNumber) (.ref C_TooGreat) = some false)
    (e_BadNumber_TooMany : PySem.W.subIn K (.ref C_BadNumber) (.ref C_TooMany) = some false)
    (e_TooGreat_BadNumber : PySem.W.subIn K (.ref C_TooGreat) (.ref C_BadNumber) = some false)
    (e_TooGreat_TooMany : PySem.W.subIn K (.ref C_TooGreat) (.ref C_TooMany) = some false)
    (e_TooMany_BadNumber : PySem.W.subIn K (.ref C_TooMany) (.ref C_BadNumber) = some false)
    (e_TooMany_TooGreat : PySem.W.subIn K (.ref C_TooMany) (.ref C_TooGreat) = some false)
    (eqF : PySem.W.isFn K (.ref f26) = true)
    (neS : PySem.W.findIn K (.ref C) "__ne__" = some (some (.builtin "object.__ne__")))
    (moC : PySem.W.mroIn K C (.type "object") = some true)
    (kt1 : PySem.W.findIn K (.ref C) "__class__" = some (some (.builtin "object.__class__")))
    (kt2 : PySem.W.specialIn K (.builtin "object.__class__") "__get__" = some (some (.builtin "getset_descriptor.__get__")))
    (kt3 : PySem.W.takesIn K (.builtin "object.__class__") = some true)
    (tyC : PySem.W.typeIn K (.ref C) = some (.type "type"))
    (suC : PySem.W.subIn K (.ref C) (.ref C) = some true)
    (suS : PySem.W.subIn K (.type "str") (.ref C) = some false)
    : ∃ fd : FuncData, (∀ (s : Shared) (v : Value), BindsTo s fd ⟨[v], []⟩ [("_law_script", v)]) ∧ ∀ base : Heap, K.In base → base.Ns mainGlobals mg → FnOk l.prog w K mg base CX0 14 fa fd ["_law_script"] (sp_law K) := by
  have e := hfa.symm.trans (PySem.W.mg_of X G a24)
  cases e
  have F0 := fun_mk (st := s_p_is_integer) l0 d0 k0
  have b0 := F0.binds (ps := ["value"]) fun _ _ _ _ _ _ us hl => match us, hl with | [_], _ => rfl
  have F1 := fun_mk (st := s_p_integer_within) l1 d1 k1
  have b1 := F1.binds (ps := ["value", "least", "greatest"]) fun _ _ _ _ _ _ us hl => match us, hl with | [_, _, _], _ => rfl
  have F2 := fun_mk (st := s_p_is_ascending) l2 d2 k2
  have b2 := F2.binds (ps := ["value", "limit"]) fun _ _ _ _ _ _ us hl => match us, hl with | [_, _], _ => rfl
  have F3 := fun_mk (st := s_p_is_lot) l3 d3 k3
  have b3 := F3.binds (ps := ["value", "modulus"]) fun _ _ _ _ _ _ us hl => match us, hl with | [_, _], _ => rfl
  have F4 := fun_mk (st := s_p_is_pair) l4 d4 k4
  have b4 := F4.binds (ps := ["value"]) fun _ _ _ _ _ _ us hl => match us, hl with | [_], _ => rfl
  have F5 := fun_mk (st := s_p_is_bar) l5 d5 k5
  have b5 := F5.binds (ps := ["value"]) fun _ _ _ _ _ _ us hl => match us, hl with | [_], _ => rfl
  have F6 := fun_mk (st := s_p_inverse) l6 d6 k6
  have b6 := F6.binds (ps := ["number", "modulus"]) fun _ _ _ _ _ _ us hl => match us, hl with | [_, _], _ => rfl
  have F7 := fun_mk (st := s_p_joined) l7 d7 k7
  have b7 := F7.binds (ps := ["classes", "whole", "modulus", "lot"]) fun _ _ _ _ _ _ us hl => match us, hl with | [_, _, _, _], _ => rfl
  have F8 := fun_mk (st := s_p_classes_of) l8 d8 k8
  have b8 := F8.binds (ps := ["bars"]) fun _ _ _ _ _ _ us hl => match us, hl with | [_], _ => rfl
  have F9 := fun_mk (st := s_p_check_bars) l9 d9 k9
  have b9 := F9.binds (ps := ["bars"]) fun _ _ _ _ _ _ us hl => match us, hl with | [_], _ => rfl
  have F10 := fun_mk (st := s_p_whole_of) l10 d10 k10
  have b10 := F10.binds (ps := ["bars"]) fun _ _ _ _ _ _ us hl => match us, hl with | [_], _ => rfl
  have F11 := fun_mk (st := s_p_check_choices) l11 d11 k11
  have b11 := F11.binds (ps := ["bars"]) fun _ _ _ _ _ _ us hl => match us, hl with | [_], _ => rfl
  have F12 := fun_mk (st := s_p_check_factor) l12 d12 k12
  have b12 := F12.binds (ps := ["value"]) fun _ _ _ _ _ _ us hl => match us, hl with | [_], _ => rfl
  have F13 := fun_mk (st := s_p_stretched) l13 d13 k13
  have b13 := F13.binds (ps := ["sieve", "by"]) fun _ _ _ _ _ _ us hl => match us, hl with | [_, _], _ => rfl
  have F14 := fun_mk (st := s_p_shared_bar) l14 d14 k14
  have b14 := F14.binds (ps := ["bar", "by"]) fun _ _ _ _ _ _ us hl => match us, hl with | [_, _], _ => rfl
  have F15 := fun_mk (st := s_p_shared) l15 d15 k15
  have b15 := F15.binds (ps := ["sieve", "by"]) fun _ _ _ _ _ _ us hl => match us, hl with | [_, _], _ => rfl
  have F16 := fun_mk (st := s_l_draws) l16 d16 k16
  have b16 := F16.binds (ps := ["_law_script"]) fun _ _ _ _ _ _ us hl => match us, hl with | [_], _ => rfl
  have F17 := fun_mk (st := s_l_pick) l17 d17 k17
  have b17 := F17.binds (ps := ["_law_row", "_law_many"]) fun _ _ _ _ _ _ us hl => match us, hl with | [_, _], _ => rfl
  have F18 := fun_mk (st := s_l_bars) l18 d18 k18
  have b18 := F18.binds (ps := ["_law_row", "_law_most", "_law_top"]) fun _ _ _ _ _ _ us hl => match us, hl with | [_, _, _], _ => rfl
  have F19 := fun_mk (st := s_l_gcd) l19 d19 k19
  have b19 := F19.binds (ps := ["_law_a", "_law_b"]) fun _ _ _ _ _ _ us hl => match us, hl with | [_, _], _ => rfl
  have F20 := fun_mk (st := s_l_whole) l20 d20 k20
  have b20 := F20.binds (ps := ["_law_bars_here"]) fun _ _ _ _ _ _ us hl => match us, hl with | [_], _ => rfl
  have F21 := fun_mk (st := s_l_fits) l21 d21 k21
  have b21 := F21.binds (ps := ["_law_bars_here", "_law_number"]) fun _ _ _ _ _ _ us hl => match us, hl with | [_, _], _ => rfl
  have F22 := fun_mk (st := s_l_own) l22 d22 k22
  have b22 := F22.binds (ps := ["_law_bars_here"]) fun _ _ _ _ _ _ us hl => match us, hl with | [_], _ => rfl
  have F23 := fun_mk (st := s_l_wrong) l23 d23 k23
  have b23 := F23.binds (ps := ["_law_sieve", "_law_by", "_law_is_shared"]) fun _ _ _ _ _ _ us hl => match us, hl with | [_, _, _], _ => rfl
  have F24 := fun_mk (st := s_law) l24 d24 k24
  have b24 := F24.binds (ps := ["_law_script"]) fun _ _ _ _ _ _ us hl => match us, hl with | [_], _ => rfl
  have F25 := fun_mk (st := s_m_Sieve_init) l25 d25 k25
  have b25 := F25.binds (ps := ["self", "bars"]) fun _ _ _ _ _ _ us hl => match us, hl with | [_, _], _ => rfl
  have F26 := fun_mk (st := s_m_Sieve_eq) l26 d26 k26
  have b26 := F26.binds (ps := ["self", "other"]) fun _ _ _ _ _ _ us hl => match us, hl with | [_, _], _ => rfl
  have F27 := fun_mk (st := s_m_Sieve_bars) l27 d27 k27
  have b27 := F27.binds (ps := ["self"]) fun _ _ _ _ _ _ us hl => match us, hl with | [_], _ => rfl
  have F28 := fun_mk (st := s_m_Sieve_whole) l28 d28 k28
  have b28 := F28.binds (ps := ["self"]) fun _ _ _ _ _ _ us hl => match us, hl with | [_], _ => rfl
  have F29 := fun_mk (st := s_m_Sieve_classes) l29 d29 k29
  have b29 := F29.binds (ps := ["self"]) fun _ _ _ _ _ _ us hl => match us, hl with | [_], _ => rfl
  let T : Txt K mg := {
    f_p_is_integer := _, fd_p_is_integer := _, F_p_is_integer := F0, b_p_is_integer := b0, g_p_is_integer := PySem.W.mg_of X G a0,
    f_p_integer_within := _, fd_p_integer_within := _, F_p_integer_within := F1, b_p_integer_within := b1, g_p_integer_within := PySem.W.mg_of X G a1,
    f_p_is_ascending := _, fd_p_is_ascending := _, F_p_is_ascending := F2, b_p_is_ascending := b2, g_p_is_ascending := PySem.W.mg_of X G a2,
    f_p_is_lot := _, fd_p_is_lot := _, F_p_is_lot := F3, b_p_is_lot := b3, g_p_is_lot := PySem.W.mg_of X G a3,
    f_p_is_pair := _, fd_p_is_pair := _, F_p_is_pair := F4, b_p_is_pair := b4, g_p_is_pair := PySem.W.mg_of X G a4,
    f_p_is_bar := _, fd_p_is_bar := _, F_p_is_bar := F5, b_p_is_bar := b5, g_p_is_bar := PySem.W.mg_of X G a5,
    f_p_inverse := _, fd_p_inverse := _, F_p_inverse := F6, b_p_inverse := b6, g_p_inverse := PySem.W.mg_of X G a6,
    f_p_joined := _, fd_p_joined := _, F_p_joined := F7, b_p_joined := b7, g_p_joined := PySem.W.mg_of X G a7,
    f_p_classes_of := _, fd_p_classes_of := _, F_p_classes_of := F8, b_p_classes_of := b8, g_p_classes_of := PySem.W.mg_of X G a8,
    f_p_check_bars := _, fd_p_check_bars := _, F_p_check_bars := F9, b_p_check_bars := b9, g_p_check_bars := PySem.W.mg_of X G a9,
    f_p_whole_of := _, fd_p_whole_of := _, F_p_whole_of := F10, b_p_whole_of := b10, g_p_whole_of := PySem.W.mg_of X G a10,
    f_p_check_choices := _, fd_p_check_choices := _, F_p_check_choices := F11, b_p_check_choices := b11, g_p_check_choices := PySem.W.mg_of X G a11,
    f_p_check_factor := _, fd_p_check_factor := _, F_p_check_factor := F12, b_p_check_factor := b12, g_p_check_factor := PySem.W.mg_of X G a12,
    f_p_stretched := _, fd_p_stretched := _, F_p_stretched := F13, b_p_stretched := b13, g_p_stretched := PySem.W.mg_of X G a13,
    f_p_shared_bar := _, fd_p_shared_bar := _, F_p_shared_bar := F14, b_p_shared_bar := b14, g_p_shared_bar := PySem.W.mg_of X G a14,
    f_p_shared := _, fd_p_shared := _, F_p_shared := F15, b_p_shared := b15, g_p_shared := PySem.W.mg_of X G a15,
    f_l_draws := _, fd_l_draws := _, F_l_draws := F16, b_l_draws := b16, g_l_draws := PySem.W.mg_of X G a16,
    f_l_pick := _, fd_l_pick := _, F_l_pick := F17, b_l_pick := b17, g_l_pick := PySem.W.mg_of X G a17,
    f_l_bars := _, fd_l_bars := _, F_l_bars := F18, b_l_bars := b18, g_l_bars := PySem.W.mg_of X G a18,
    f_l_gcd := _, fd_l_gcd := _, F_l_gcd := F19, b_l_gcd := b19, g_l_gcd := PySem.W.mg_of X G a19,
    f_l_whole := _, fd_l_whole := _, F_l_whole := F20, b_l_whole := b20, g_l_whole := PySem.W.mg_of X G a20,
    f_l_fits := _, fd_l_fits := _, F_l_fits := F21, b_l_fits := b21, g_l_fits := PySem.W.mg_of X G a21,
    f_l_own := _, fd_l_own := _, F_l_own := F22, b_l_own := b22, g_l_own := PySem.W.mg_of X G a22,
    f_l_wrong := _, fd_l_wrong := _, F_l_wrong := F23, b_l_wrong := b23, g_l_wrong := PySem.W.mg_of X G a23,
    f_law := _, fd_law := _, F_law := F24, b_law := b24, g_law := PySem.W.mg_of X G a24,
    f_m_Sieve_init := _, fd_m_Sieve_init := _, F_m_Sieve_init := F25, b_m_Sieve_init := b25,
    f_m_Sieve_eq := _, fd_m_Sieve_eq := _, F_m_Sieve_eq := F26, b_m_Sieve_eq := b26,
    f_m_Sieve_bars := _, fd_m_Sieve_bars := _, F_m_Sieve_bars := F27, b_m_Sieve_bars := b27,
    f_m_Sieve_whole := _, fd_m_Sieve_whole := _, F_m_Sieve_whole := F28, b_m_Sieve_whole := b28,
    f_m_Sieve_classes := _, fd_m_Sieve_classes := _, F_m_Sieve_classes := F29, b_m_Sieve_classes := b29,
    z_len := PySem.W.mg_none_of X G z_len,
    z_max := PySem.W.mg_none_of X G z_max,
    z_range := PySem.W.mg_none_of X G z_range,
    z_int := PySem.W.mg_none_of X G z_int,
    z_list := PySem.W.mg_none_of X G z_list,
    z_tuple := PySem.W.mg_none_of X G z_tuple,
    z_sorted := PySem.W.mg_none_of X G z_sorted,
    z_isinstance := PySem.W.mg_none_of X G z_isinstance,
    z_enumerate := PySem.W.mg_none_of X G z_enumerate,
    z_bool := PySem.W.mg_none_of X G z_bool,
    g_gcd := PySem.W.mg_of X G g_gcd,
    g_lcm := PySem.W.mg_of X G g_lcm,
    c_GREATEST_MODULUS := ⟨t_GREATEST_MODULUS, PySem.W.mg_of X G c_GREATEST_MODULUS⟩,
    c_MOST_RESTS := ⟨t_MOST_RESTS, PySem.W.mg_of X G c_MOST_RESTS⟩,
    c_MOST_BARS := ⟨t_MOST_BARS, PySem.W.mg_of X G c_MOST_BARS⟩,
    c_GREATEST_WHOLE := ⟨t_GREATEST_WHOLE, PySem.W.mg_of X G c_GREATEST_WHOLE⟩,
    c_MOST_CHOICES := ⟨t_MOST_CHOICES, PySem.W.mg_of X G c_MOST_CHOICES⟩,
    c_GREATEST_FACTOR := ⟨t_GREATEST_FACTOR, PySem.W.mg_of X G c_GREATEST_FACTOR⟩,
    C := C, g_Sieve := PySem.W.mg_of X G aC, cl := ⟨pg, hd, po, sa⟩, mkC := ⟨mk, mI, iI, kc⟩, n_bars := n_bars, n_whole := n_whole, n_classes := n_classes,
    p_bars := pB, pp_bars := ⟨q1B, q2B, q3B, ⟨rB, q4B⟩⟩,
    p_whole := pW, pp_whole := ⟨q1W, q2W, q3W, ⟨rW, q4W⟩⟩,
    p_classes := pC, pp_classes := ⟨q1C, q2C, q3C, ⟨rC, q4C⟩⟩,
    C_RestError := _, g_RestError := PySem.W.mg_of X G g_RestError,
    C_BadNumber := _, g_BadNumber := PySem.W.mg_of X G g_BadNumber, x_BadNumber := x_BadNumber, k_BadNumber := k_BadNumber, b_BadNumber := b_BadNumber, t_BadNumber := t_BadNumber, e_BadNumber := PySem.W.exm_ref b_BadNumber E3_BadNumber t_BadNumber e_BadNumber, E_BadNumber := ⟨E1_BadNumber, E2_BadNumber, b_BadNumber, E3_BadNumber, E4_BadNumber, E5_BadNumber, E6_BadNumber, E7_BadNumber⟩, r_BadNumber := kit_ref hR tR r_BadNumber,
    C_TooGreat := _, g_TooGreat := PySem.W.mg_of X G g_TooGreat, x_TooGreat := x_TooGreat, k_TooGreat := k_TooGreat, b_TooGreat := b_TooGreat, t_TooGreat := t_TooGreat, e_TooGreat := PySem.W.exm_ref b_TooGreat E3_TooGreat t_TooGreat e_TooGreat, E_TooGreat := ⟨E1_TooGreat, E2_TooGreat, b_TooGreat, E3_TooGreat, E4_TooGreat, E5_TooGreat, E6_TooGreat, E7_TooGreat⟩, r_TooGreat := kit_ref hR tR r_TooGreat,
    C_TooMany := _, g_TooMany := PySem.W.mg_of X G g_TooMany, x_TooMany := x_TooMany, k_TooMany := k_TooMany, b_TooMany := b_TooMany, t_TooMany := t_TooMany, e_TooMany := PySem.W.exm_ref b_TooMany E3_TooMany t_TooMany e_TooMany, E_TooMany := ⟨E1_TooMany, E2_TooMany, b_TooMany, E3_TooMany, E4_TooMany, E5_TooMany, E6_TooMany, E7_TooMany⟩, r_TooMany := kit_ref hR tR r_TooMany,
    e_BadNumber_TooGreat := PySem.W.exm_ref b_TooGreat E3_TooGreat t_TooGreat e_BadNumber_TooGreat,
    e_BadNumber_TooMany := PySem.W.exm_ref b_TooMany E3_TooMany t_TooMany e_BadNumber_TooMany,
    e_TooGreat_BadNumber := PySem.W.exm_ref b_BadNumber E3_BadNumber t_BadNumber e_TooGreat_BadNumber,
    e_TooGreat_TooMany := PySem.W.exm_ref b_TooMany E3_TooMany t_TooMany e_TooGreat_TooMany,
    e_TooMany_BadNumber := PySem.W.exm_ref b_BadNumber E3_BadNumber t_BadNumber e_TooMany_BadNumber,
    e_TooMany_TooGreat := PySem.W.exm_ref b_TooGreat E3_TooGreat t_TooGreat e_TooMany_TooGreat,
    eqS := mE, eqF := eqF, neS := neS, moC := moC, kt1 := kt1, kt2 := kt2, kt3 := kt3, suS := suS, isC := kit_same, noC := fun t h => kit_no hd tyC h
  }
  exact ⟨PySem.W.fnOf "law" "law" (defArgs s_law) (defBody s_law) (defScope s_law) .none kV24 dc24 pm24 an24 cd24 ct24, fun s v => .of_eq rfl, fun base _ _ => ok_law T⟩
end R
open PySem PySem.W PyProof.Rows
set_option maxHeartbeats 0 in
theorem PySem.Challenge.cw_restlots_k30_stretched_and_shared_holds : PySem.Challenge.rw_restlots_k30_stretched_and_shared.Holds := by
  w_on; o_law; k_head; (case hw => w_witness2)
  k_fill
  refine L2.walk_of (l := PySem.Challenge.rw_restlots_k30_stretched_and_shared) (n := 63) (k := 14) (x := "_law_script") (CX := fun _ => L2.CX0) (sp := fun w => R.sp_law _) rfl (by decide) rfl ⟨rfl, by decide, by decide⟩ (fun w h Y => PySem.W.kIn_of Y) ?F (fun _ _ a ns hl _ hS => ⟨a, ns, rfl, hS, hl, fun _ => rfl⟩) (fun _ _ _ _ _ h => h)
  case F =>
    intro w mg fa h KX G hmg
    refine' R.all_mk KX G hmg ?a0 ?a1 ?a2 ?a3 ?a4 ?a5 ?a6 ?a7 ?a8 ?a9 ?a10 ?a11 ?a12 ?a13 ?a14 ?a15 ?a16 ?a17 ?a18 ?a19 ?a20 ?a21 ?a22 ?a23 ?a24 ?aC ?mI ?iI ?mE ?pg ?hd ?po ?sa ?mk ?kc ?n_bars ?n_whole ?n_classes ?q1B ?q2B ?q3B ?q4B ?q1W ?q2W ?q3W ?q4W ?q1C ?q2C ?q3C ?q4C ?l0 ?d0 ?k0 ?l1 ?d1 ?k1 ?l2 ?d2 ?k2 ?l3 ?d3 ?k3 ?l4 ?d4 ?k4 ?l5 ?d5 ?k5 ?l6 ?d6 ?k6 ?l7 ?d7 ?k7 ?l8 ?d8 ?k8 ?l9 ?d9 ?k9 ?l10 ?d10 ?k10 ?l11 ?d11 ?k11 ?l12 ?d12 ?k12 ?l13 ?d13 ?k13 ?l14 ?d14 ?k14 ?l15 ?d15 ?k15 ?l16 ?d16 ?k16 ?l17 ?d17 ?k17 ?l18 ?d18 ?k18 ?l19 ?d19 ?k19 ?l20 ?d20 ?k20 ?l21 ?d21 ?k21 ?l22 ?d22 ?k22 ?l23 ?d23 ?k23 ?l24 ?d24 ?k24 ?l25 ?d25 ?k25 ?l26 ?d26 ?k26 ?l27 ?d27 ?k27 ?l28 ?d28 ?k28 ?l29 ?d29 ?k29 ?z_len ?z_max ?z_range ?z_int ?z_list ?z_tuple ?z_sorted ?z_isinstance ?z_enumerate ?z_bool ?g_gcd ?g_lcm ?c_GREATEST_MODULUS ?c_MOST_RESTS ?c_MOST_BARS ?c_GREATEST_WHOLE ?c_MOST_CHOICES ?c_GREATEST_FACTOR ?g_RestError ?hR ?tR ?g_BadNumber ?x_BadNumber ?k_BadNumber ?b_BadNumber ?t_BadNumber ?e_BadNumber ?E1_BadNumber ?E2_BadNumber ?E3_BadNumber ?E4_BadNumber ?E5_BadNumber ?E6_BadNumber ?E7_BadNumber ?r_BadNumber ?g_TooGreat ?x_TooGreat ?k_TooGreat ?b_TooGreat ?t_TooGreat ?e_TooGreat ?E1_TooGreat ?E2_TooGreat ?E3_TooGreat ?E4_TooGreat ?E5_TooGreat ?E6_TooGreat ?E7_TooGreat ?r_TooGreat ?g_TooMany ?x_TooMany ?k_TooMany ?b_TooMany ?t_TooMany ?e_TooMany ?E1_TooMany ?E2_TooMany ?E3_TooMany ?E4_TooMany ?E5_TooMany ?E6_TooMany ?E7_TooMany ?r_TooMany ?e_BadNumber_TooGreat ?e_BadNumber_TooMany ?e_TooGreat_BadNumber ?e_TooGreat_TooMany ?e_TooMany_BadNumber ?e_TooMany_TooGreat ?eqF ?neS ?moC ?kt1 ?kt2 ?kt3 ?tyC ?suC ?suS
    (case a0 => k_is)
    (case a1 => k_is)
    (case a2 => k_is)
    (case a3 => k_is)
    (case a4 => k_is)
    (case a5 => k_is)
    (case a6 => k_is)
    (case a7 => k_is)
    (case a8 => k_is)
    (case a9 => k_is)
    (case a10 => k_is)
    (case a11 => k_is)
    (case a12 => k_is)
    (case a13 => k_is)
    (case a14 => k_is)
    (case a15 => k_is)
    (case a16 => k_is)
    (case a17 => k_is)
    (case a18 => k_is)
    (case a19 => k_is)
    (case a20 => k_is)
    (case a21 => k_is)
    (case a22 => k_is)
    (case a23 => k_is)
    (case a24 => k_is)
    (case aC => k_is)
    (case mI => k_is)
    (case iI => k_is)
    (case mE => k_is)
    (case pg => k_is)
    (case hd => k_is)
    (case po => k_is)
    (case sa => k_is)
    (case mk => k_is)
    (case kc => k_is)
    (case n_bars => k_is)
    (case n_whole => k_is)
    (case n_classes => k_is)
    (case q1B => k_is)
    (case q2B => k_is)
    (case q3B => k_is)
    (case q4B => k_is)
    (case q1W => k_is)
    (case q2W => k_is)
    (case q3W => k_is)
    (case q4W => k_is)
    (case q1C => k_is)
    (case q2C => k_is)
    (case q3C => k_is)
    (case q4C => k_is)
    (case l0 => k_is)
    (case d0 => k_is)
    (case k0 => k_is)
    (case l1 => k_is)
    (case d1 => k_is)
    (case k1 => k_is)
    (case l2 => k_is)
    (case d2 => k_is)
    (case k2 => k_is)
    (case l3 => k_is)
    (case d3 => k_is)
    (case k3 => k_is)
    (case l4 => k_is)
    (case d4 => k_is)
    (case k4 => k_is)
    (case l5 => k_is)
    (case d5 => k_is)
    (case k5 => k_is)
    (case l6 => k_is)
    (case d6 => k_is)
    (case k6 => k_is)
    (case l7 => k_is)
    (case d7 => k_is)
    (case k7 => k_is)
    (case l8 => k_is)
    (case d8 => k_is)
    (case k8 => k_is)
    (case l9 => k_is)
    (case d9 => k_is)
    (case k9 => k_is)
    (case l10 => k_is)
    (case d10 => k_is)
    (case k10 => k_is)
    (case l11 => k_is)
    (case d11 => k_is)
    (case k11 => k_is)
    (case l12 => k_is)
    (case d12 => k_is)
    (case k12 => k_is)
    (case l13 => k_is)
    (case d13 => k_is)
    (case k13 => k_is)
    (case l14 => k_is)
    (case d14 => k_is)
    (case k14 => k_is)
    (case l15 => k_is)
    (case d15 => k_is)
    (case k15 => k_is)
    (case l16 => k_is)
    (case d16 => k_is)
    (case k16 => k_is)
    (case l17 => k_is)
    (case d17 => k_is)
    (case k17 => k_is)
    (case l18 => k_is)
    (case d18 => k_is)
    (case k18 => k_is)
    (case l19 => k_is)
    (case d19 => k_is)
    (case k19 => k_is)
    (case l20 => k_is)
    (case d20 => k_is)
    (case k20 => k_is)
    (case l21 => k_is)
    (case d21 => k_is)
    (case k21 => k_is)
    (case l22 => k_is)
    (case d22 => k_is)
    (case k22 => k_is)
    (case l23 => k_is)
    (case d23 => k_is)
    (case k23 => k_is)
    (case l24 => k_is)
    (case d24 => k_is)
    (case k24 => k_is)
    (case l25 => k_is)
    (case d25 => k_is)
    (case k25 => k_is)
    (case l26 => k_is)
    (case d26 => k_is)
    (case k26 => k_is)
    (case l27 => k_is)
    (case d27 => k_is)
    (case k27 => k_is)
    (case l28 => k_is)
    (case d28 => k_is)
    (case k28 => k_is)
    (case l29 => k_is)
    (case d29 => k_is)
    (case k29 => k_is)
    (case z_len => k_is)
    (case z_max => k_is)
    (case z_range => k_is)
    (case z_int => k_is)
    (case z_list => k_is)
    (case z_tuple => k_is)
    (case z_sorted => k_is)
    (case z_isinstance => k_is)
    (case z_enumerate => k_is)
    (case z_bool => k_is)
    (case g_gcd => k_is)
    (case g_lcm => k_is)
    (case c_GREATEST_MODULUS => k_is)
    (case c_MOST_RESTS => k_is)
    (case c_MOST_BARS => k_is)
    (case c_GREATEST_WHOLE => k_is)
    (case c_MOST_CHOICES => k_is)
    (case c_GREATEST_FACTOR => k_is)
    (case g_RestError => k_is)
    (case hR => k_is)
    (case tR => k_is)
    (case g_BadNumber => k_is)
    (case x_BadNumber => k_exc)
    (case k_BadNumber => k_is)
    (case b_BadNumber => k_is)
    (case t_BadNumber => k_is)
    (case e_BadNumber => k_is)
    (case E1_BadNumber => k_is)
    (case E2_BadNumber => k_is)
    (case E3_BadNumber => k_is)
    (case E4_BadNumber => k_is)
    (case E5_BadNumber => k_is)
    (case E6_BadNumber => k_is)
    (case E7_BadNumber => k_is)
    (case r_BadNumber => k_is)
    (case g_TooGreat => k_is)
    (case x_TooGreat => k_exc)
    (case k_TooGreat => k_is)
    (case b_TooGreat => k_is)
    (case t_TooGreat => k_is)
    (case e_TooGreat => k_is)
    (case E1_TooGreat => k_is)
    (case E2_TooGreat => k_is)
    (case E3_TooGreat => k_is)
    (case E4_TooGreat => k_is)
    (case E5_TooGreat => k_is)
    (case E6_TooGreat => k_is)
    (case E7_TooGreat => k_is)
    (case r_TooGreat => k_is)
    (case g_TooMany => k_is)
    (case x_TooMany => k_exc)
    (case k_TooMany => k_is)
    (case b_TooMany => k_is)
    (case t_TooMany => k_is)
    (case e_TooMany => k_is)
    (case E1_TooMany => k_is)
    (case E2_TooMany => k_is)
    (case E3_TooMany => k_is)
    (case E4_TooMany => k_is)
    (case E5_TooMany => k_is)
    (case E6_TooMany => k_is)
    (case E7_TooMany => k_is)
    (case r_TooMany => k_is)
    (case e_BadNumber_TooGreat => k_is)
    (case e_BadNumber_TooMany => k_is)
    (case e_TooGreat_BadNumber => k_is)
    (case e_TooGreat_TooMany => k_is)
    (case e_TooMany_BadNumber => k_is)
    (case e_TooMany_TooGreat => k_is)
    (case eqF => k_is)
    (case neS => k_is)
    (case moC => k_is)
    (case kt1 => k_is)
    (case kt2 => k_is)
    (case kt3 => k_is)
    (case tyC => k_is)
    (case suC => k_is)
    (case suS => k_is)
