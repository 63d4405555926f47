import PyProof.Rows.All
import Wide.All
import OpenK.AllK
import Wide.FinOn
import HandS.ForMost
import HandS.SortInts
import HandS.TupAny
import HandS.IsInst
import HandS.Wide
import HandS.Conv
import HandS.Gcd
import HandS.Property
import HandS.Codes
import HandS.Walk
import KE.GoesMore
import KE.KMathGC
import HandS.Exc
import HandS.ExcOwn
import HandS.TryOnly
import HandS.ExcIs
import HandS.WordsExc
import HandS.WideBits
import HandS.SetFor
import HandS.Strs
import HandS.SetBool
import PyProof.LongRange
import HandS.DictComp
import HandS.DictTup
import HandS.Style
import HandS.Small
import HandS.TupMul
import HandS.Deep
import HandS.Lambda
import HandS.Nested
import HandS.EndTab
import HandS.EndOwn
import HandS.SortKw
import HandS.NamedTupSort
import KE.KMinKey
import KE.KNestM
import HandS.More
import HandS.Comp
import HandS.NamedTupSort
import KE.GoesZip
import HandS.Zip
import HandS.SortRule
import PySem.Challenge.RW_restlots_k38_great_steps
set_option Elab.async false
set_option linter.all false
set_option maxRecDepth 100000
set_option maxHeartbeats 4000000
set_option exponentiation.threshold 6000
namespace R
open PySem PySem.Spec PyProof.Rows L2
/-! the text by places -/
def top (i : Nat) : Stmt := (PySem.Challenge.pw_restlots_k38_great_steps.main.body).getD i (.Pass ⟨0, 0, 0, 0⟩)
abbrev s_p_is_integer : Stmt := top 11
abbrev s_p_integer_within : Stmt := top 12
abbrev s_p_is_ascending : Stmt := top 13
abbrev s_p_is_lot : Stmt := top 14
abbrev s_p_is_pair : Stmt := top 15
abbrev s_p_is_bar : Stmt := top 16
abbrev s_p_check_some : Stmt := top 17
abbrev s_p_standing_at : Stmt := top 19
abbrev s_p_steps_in_order : Stmt := top 20
abbrev s_p_steps : Stmt := top 21
abbrev s_p_longest : Stmt := top 22
abbrev s_p_longest_gap : Stmt := top 23
abbrev s_p_check_step : Stmt := top 26
abbrev s_p_at_distance : Stmt := top 27
abbrev s_p_row_from : Stmt := top 28
abbrev s_p_longest_row : Stmt := top 29
abbrev s_p_inverse : Stmt := top 31
abbrev s_p_joined : Stmt := top 32
abbrev s_p_classes_of : Stmt := top 33
abbrev s_p_check_bars : Stmt := top 38
abbrev s_p_whole_of : Stmt := top 39
abbrev s_p_check_choices : Stmt := top 40
abbrev s_p_share : Stmt := top 42
abbrev s_l_draws : Stmt := top 44
abbrev s_l_pick : Stmt := top 45
abbrev s_l_great : Stmt := top 46
abbrev s_law : Stmt := top 47
abbrev s_m_Sieve_init : Stmt := inClass (top 41) 0
abbrev s_m_Sieve_eq : Stmt := inClass (top 41) 1
abbrev s_m_Sieve_bars : Stmt := inClass (top 41) 2
abbrev s_m_Sieve_whole : Stmt := inClass (top 41) 3
abbrev s_m_Sieve_classes : Stmt := inClass (top 41) 4
theorem sc_p_is_integer : FnScope ["value"] ["value"] (defScope s_p_is_integer) := ⟨rfl, rfl, rfl, by decide +kernel, rfl, by decide +kernel, by decide +kernel⟩
theorem sc_p_integer_within : FnScope ["value", "least", "greatest"] ["value", "least", "greatest"] (defScope s_p_integer_within) := ⟨rfl, rfl, rfl, by decide +kernel, rfl, by decide +kernel, by decide +kernel⟩
theorem sc_p_is_ascending : FnScope ["value", "limit", "least", "one"] ["value", "limit"] (defScope s_p_is_ascending) := ⟨rfl, rfl, rfl, by decide +kernel, rfl, by decide +kernel, by decide +kernel⟩
theorem sc_p_is_lot : FnScope ["value", "modulus"] ["value", "modulus"] (defScope s_p_is_lot) := ⟨rfl, rfl, rfl, by decide +kernel, rfl, by decide +kernel, by decide +kernel⟩
theorem sc_p_is_pair : FnScope ["value"] ["value"] (defScope s_p_is_pair) := ⟨rfl, rfl, rfl, by decide +kernel, rfl, by decide +kernel, by decide +kernel⟩
theorem sc_p_is_bar : FnScope ["value", "modulus", "lot"] ["value"] (defScope s_p_is_bar) := ⟨rfl, rfl, rfl, by decide +kernel, rfl, by decide +kernel, by decide +kernel⟩
theorem sc_p_check_some : FnScope ["sieve"] ["sieve"] (defScope s_p_check_some) := ⟨rfl, rfl, rfl, by decide +kernel, rfl, by decide +kernel, by decide +kernel⟩
theorem sc_p_standing_at : FnScope ["sieve", "place", "wholes", "index"] ["sieve", "place"] (defScope s_p_standing_at) := ⟨rfl, rfl, rfl, by decide +kernel, rfl, by decide +kernel, by decide +kernel⟩
theorem sc_p_steps_in_order : FnScope ["sieve", "place"] ["sieve"] (defScope s_p_steps_in_order) := ⟨rfl, rfl, rfl, by decide +kernel, rfl, by decide +kernel, by decide +kernel⟩
theorem sc_p_steps : FnScope ["sieve", "often", "step"] ["sieve"] (defScope s_p_steps) := ⟨rfl, rfl, rfl, by decide +kernel, rfl, by decide +kernel, by decide +kernel⟩
theorem sc_p_longest : FnScope ["found"] ["found"] (defScope s_p_longest) := ⟨rfl, rfl, rfl, by decide +kernel, rfl, by decide +kernel, by decide +kernel⟩
theorem sc_p_longest_gap : FnScope ["sieve", "gaps", "number", "step"] ["sieve"] (defScope s_p_longest_gap) := ⟨rfl, rfl, rfl, by decide +kernel, rfl, by decide +kernel, by decide +kernel⟩
theorem sc_p_check_step : FnScope ["value"] ["value"] (defScope s_p_check_step) := ⟨rfl, rfl, rfl, by decide +kernel, rfl, by decide +kernel, by decide +kernel⟩
theorem sc_p_at_distance : FnScope ["sieve", "step", "known", "number"] ["sieve", "step"] (defScope s_p_at_distance) := ⟨rfl, rfl, rfl, by decide +kernel, rfl, by decide +kernel, by decide +kernel⟩
theorem sc_p_row_from : FnScope ["known", "whole", "begin", "step", "many"] ["known", "whole", "begin", "step"] (defScope s_p_row_from) := ⟨rfl, rfl, rfl, by decide +kernel, rfl, by decide +kernel, by decide +kernel⟩
theorem sc_p_longest_row : FnScope ["sieve", "step", "known", "begins", "found", "number", "begin", "many", "_"] ["sieve", "step"] (defScope s_p_longest_row) := ⟨rfl, rfl, rfl, by decide +kernel, rfl, by decide +kernel, by decide +kernel⟩
theorem sc_p_inverse : FnScope ["number", "modulus", "rest", "after", "factor", "factor_after", "many"] ["number", "modulus"] (defScope s_p_inverse) := ⟨rfl, rfl, rfl, by decide +kernel, rfl, by decide +kernel, by decide +kernel⟩
theorem sc_p_joined : FnScope ["classes", "whole", "modulus", "lot", "common", "turns", "back", "found", "known", "rest", "apart"] ["classes", "whole", "modulus", "lot"] (defScope s_p_joined) := ⟨rfl, rfl, rfl, by decide +kernel, rfl, by decide +kernel, by decide +kernel⟩
theorem sc_p_classes_of : FnScope ["bars", "whole", "classes", "modulus", "lot"] ["bars"] (defScope s_p_classes_of) := ⟨rfl, rfl, rfl, by decide +kernel, rfl, by decide +kernel, by decide +kernel⟩
theorem sc_p_check_bars : FnScope ["bars", "index", "bar"] ["bars"] (defScope s_p_check_bars) := ⟨rfl, rfl, rfl, by decide +kernel, rfl, by decide +kernel, by decide +kernel⟩
theorem sc_p_whole_of : FnScope ["bars", "whole", "modulus", "_"] ["bars"] (defScope s_p_whole_of) := ⟨rfl, rfl, rfl, by decide +kernel, rfl, by decide +kernel, by decide +kernel⟩
theorem sc_p_check_choices : FnScope ["bars", "choices", "_", "lot"] ["bars"] (defScope s_p_check_choices) := ⟨rfl, rfl, rfl, by decide +kernel, rfl, by decide +kernel, by decide +kernel⟩
theorem sc_p_share : FnScope ["sieve", "many", "common"] ["sieve"] (defScope s_p_share) := ⟨rfl, rfl, rfl, by decide +kernel, rfl, by decide +kernel, by decide +kernel⟩
theorem sc_l_draws : FnScope ["_law_script"] ["_law_script"] (defScope s_l_draws) := ⟨rfl, rfl, rfl, by decide +kernel, rfl, by decide +kernel, by decide +kernel⟩
theorem sc_l_pick : FnScope ["_law_row", "_law_many", "_law_cell", "_law_found"] ["_law_row", "_law_many"] (defScope s_l_pick) := ⟨rfl, rfl, rfl, by decide +kernel, rfl, by decide +kernel, by decide +kernel⟩
theorem sc_l_great : FnScope ["_law_row", "_law_most", "_law_bars", "_law_common", "_law_k", "_law_modulus", "_law_lot", "_law_j", "_law_one"] ["_law_row", "_law_most"] (defScope s_l_great) := ⟨rfl, rfl, rfl, by decide +kernel, rfl, by decide +kernel, by decide +kernel⟩
theorem sc_law : FnScope ["_law_script", "_law_row", "_law_sieve", "_law_own", "_law_whole", "_law_one", "_law_other", "_law_rows", "_law_many", "_law_k", "_law_most", "_law_begins", "_law_a", "_law_b", "_law_step", "_law_both_there", "_law_found"] ["_law_script"] (defScope s_law) := ⟨rfl, rfl, rfl, by decide +kernel, rfl, by decide +kernel, by decide +kernel⟩
theorem sc_m_Sieve_init : FnScope ["self", "bars"] ["self", "bars"] (defScope s_m_Sieve_init) := ⟨rfl, rfl, rfl, by decide +kernel, rfl, by decide +kernel, by decide +kernel⟩
theorem sc_m_Sieve_eq : FnScope ["self", "other"] ["self", "other"] (defScope s_m_Sieve_eq) := ⟨rfl, rfl, rfl, by decide +kernel, rfl, by decide +kernel, by decide +kernel⟩
theorem sc_m_Sieve_bars : FnScope ["self"] ["self"] (defScope s_m_Sieve_bars) := ⟨rfl, rfl, rfl, by decide +kernel, rfl, by decide +kernel, by decide +kernel⟩
theorem sc_m_Sieve_whole : FnScope ["self"] ["self"] (defScope s_m_Sieve_whole) := ⟨rfl, rfl, rfl, by decide +kernel, rfl, by decide +kernel, by decide +kernel⟩
theorem sc_m_Sieve_classes : FnScope ["self"] ["self"] (defScope s_m_Sieve_classes) := ⟨rfl, rfl, rfl, by decide +kernel, rfl, by decide +kernel, by decide +kernel⟩
/-! what stands behind the top -/
structure Txt (K : PySem.W.Frag) (mg : Str → Option Value) where
  f_p_is_integer : Addr
  fd_p_is_integer : FuncData
  F_p_is_integer : Fun K "is_integer" "is_integer" s_p_is_integer f_p_is_integer fd_p_is_integer
  b_p_is_integer : Binds K fd_p_is_integer ["value"] []
  g_p_is_integer : mg "is_integer" = some (.ref f_p_is_integer)
  f_p_integer_within : Addr
  fd_p_integer_within : FuncData
  F_p_integer_within : Fun K "integer_within" "integer_within" s_p_integer_within f_p_integer_within fd_p_integer_within
  b_p_integer_within : Binds K fd_p_integer_within ["value", "least", "greatest"] []
  g_p_integer_within : mg "integer_within" = some (.ref f_p_integer_within)
  f_p_is_ascending : Addr
  fd_p_is_ascending : FuncData
  F_p_is_ascending : Fun K "is_ascending" "is_ascending" s_p_is_ascending f_p_is_ascending fd_p_is_ascending
  b_p_is_ascending : Binds K fd_p_is_ascending ["value", "limit"] []
  g_p_is_ascending : mg "is_ascending" = some (.ref f_p_is_ascending)
  f_p_is_lot : Addr
  fd_p_is_lot : FuncData
  F_p_is_lot : Fun K "is_lot" "is_lot" s_p_is_lot f_p_is_lot fd_p_is_lot
  b_p_is_lot : Binds K fd_p_is_lot ["value", "modulus"] []
  g_p_is_lot : mg "is_lot" = some (.ref f_p_is_lot)
  f_p_is_pair : Addr
  fd_p_is_pair : FuncData
  F_p_is_pair : Fun K "is_pair" "is_pair" s_p_is_pair f_p_is_pair fd_p_is_pair
  b_p_is_pair : Binds K fd_p_is_pair ["value"] []
  g_p_is_pair : mg "is_pair" = some (.ref f_p_is_pair)
  f_p_is_bar : Addr
  fd_p_is_bar : FuncData
  F_p_is_bar : Fun K "is_bar" "is_bar" s_p_is_bar f_p_is_bar fd_p_is_bar
  b_p_is_bar : Binds K fd_p_is_bar ["value"] []
  g_p_is_bar : mg "is_bar" = some (.ref f_p_is_bar)
  f_p_check_some : Addr
  fd_p_check_some : FuncData
  F_p_check_some : Fun K "check_some" "check_some" s_p_check_some f_p_check_some fd_p_check_some
  b_p_check_some : Binds K fd_p_check_some ["sieve"] []
  g_p_check_some : mg "check_some" = some (.ref f_p_check_some)
  f_p_standing_at : Addr
  fd_p_standing_at : FuncData
  F_p_standing_at : Fun K "standing_at" "standing_at" s_p_standing_at f_p_standing_at fd_p_standing_at
  b_p_standing_at : Binds K fd_p_standing_at ["sieve", "place"] []
  g_p_standing_at : mg "standing_at" = some (.ref f_p_standing_at)
  f_p_steps_in_order : Addr
  fd_p_steps_in_order : FuncData
  F_p_steps_in_order : Fun K "steps_in_order" "steps_in_order" s_p_steps_in_order f_p_steps_in_order fd_p_steps_in_order
  b_p_steps_in_order : Binds K fd_p_steps_in_order ["sieve"] []
  g_p_steps_in_order : mg "steps_in_order" = some (.ref f_p_steps_in_order)
  f_p_steps : Addr
  fd_p_steps : FuncData
  F_p_steps : Fun K "steps" "steps" s_p_steps f_p_steps fd_p_steps
  b_p_steps : Binds K fd_p_steps ["sieve"] []
  g_p_steps : mg "steps" = some (.ref f_p_steps)
  f_p_longest : Addr
  fd_p_longest : FuncData
  F_p_longest : Fun K "longest" "longest" s_p_longest f_p_longest fd_p_longest
  b_p_longest : Binds K fd_p_longest ["found"] []
  g_p_longest : mg "longest" = some (.ref f_p_longest)
  cO_p_longest : Addr
  tO_p_longest : Addr
  cc_p_longest : fd_p_longest.code = .ref cO_p_longest
  ch_p_longest : PySem.W.codeHdIn K cO_p_longest tO_p_longest = true
  f_p_longest_gap : Addr
  fd_p_longest_gap : FuncData
  F_p_longest_gap : Fun K "longest_gap" "longest_gap" s_p_longest_gap f_p_longest_gap fd_p_longest_gap
  b_p_longest_gap : Binds K fd_p_longest_gap ["sieve"] []
  g_p_longest_gap : mg "longest_gap" = some (.ref f_p_longest_gap)
  f_p_check_step : Addr
  fd_p_check_step : FuncData
  F_p_check_step : Fun K "check_step" "check_step" s_p_check_step f_p_check_step fd_p_check_step
  b_p_check_step : Binds K fd_p_check_step ["value"] []
  g_p_check_step : mg "check_step" = some (.ref f_p_check_step)
  f_p_at_distance : Addr
  fd_p_at_distance : FuncData
  F_p_at_distance : Fun K "at_distance" "at_distance" s_p_at_distance f_p_at_distance fd_p_at_distance
  b_p_at_distance : Binds K fd_p_at_distance ["sieve", "step"] []
  g_p_at_distance : mg "at_distance" = some (.ref f_p_at_distance)
  f_p_row_from : Addr
  fd_p_row_from : FuncData
  F_p_row_from : Fun K "row_from" "row_from" s_p_row_from f_p_row_from fd_p_row_from
  b_p_row_from : Binds K fd_p_row_from ["known", "whole", "begin", "step"] []
  g_p_row_from : mg "row_from" = some (.ref f_p_row_from)
  f_p_longest_row : Addr
  fd_p_longest_row : FuncData
  F_p_longest_row : Fun K "longest_row" "longest_row" s_p_longest_row f_p_longest_row fd_p_longest_row
  b_p_longest_row : Binds K fd_p_longest_row ["sieve", "step"] []
  g_p_longest_row : mg "longest_row" = some (.ref f_p_longest_row)
  f_p_inverse : Addr
  fd_p_inverse : FuncData
  F_p_inverse : Fun K "inverse" "inverse" s_p_inverse f_p_inverse fd_p_inverse
  b_p_inverse : Binds K fd_p_inverse ["number", "modulus"] []
  g_p_inverse : mg "inverse" = some (.ref f_p_inverse)
  f_p_joined : Addr
  fd_p_joined : FuncData
  F_p_joined : Fun K "joined" "joined" s_p_joined f_p_joined fd_p_joined
  b_p_joined : Binds K fd_p_joined ["classes", "whole", "modulus", "lot"] []
  g_p_joined : mg "joined" = some (.ref f_p_joined)
  f_p_classes_of : Addr
  fd_p_classes_of : FuncData
  F_p_classes_of : Fun K "classes_of" "classes_of" s_p_classes_of f_p_classes_of fd_p_classes_of
  b_p_classes_of : Binds K fd_p_classes_of ["bars"] []
  g_p_classes_of : mg "classes_of" = some (.ref f_p_classes_of)
  f_p_check_bars : Addr
  fd_p_check_bars : FuncData
  F_p_check_bars : Fun K "check_bars" "check_bars" s_p_check_bars f_p_check_bars fd_p_check_bars
  b_p_check_bars : Binds K fd_p_check_bars ["bars"] []
  g_p_check_bars : mg "check_bars" = some (.ref f_p_check_bars)
  f_p_whole_of : Addr
  fd_p_whole_of : FuncData
  F_p_whole_of : Fun K "whole_of" "whole_of" s_p_whole_of f_p_whole_of fd_p_whole_of
  b_p_whole_of : Binds K fd_p_whole_of ["bars"] []
  g_p_whole_of : mg "whole_of" = some (.ref f_p_whole_of)
  f_p_check_choices : Addr
  fd_p_check_choices : FuncData
  F_p_check_choices : Fun K "check_choices" "check_choices" s_p_check_choices f_p_check_choices fd_p_check_choices
  b_p_check_choices : Binds K fd_p_check_choices ["bars"] []
  g_p_check_choices : mg "check_choices" = some (.ref f_p_check_choices)
  f_p_share : Addr
  fd_p_share : FuncData
  F_p_share : Fun K "share" "share" s_p_share f_p_share fd_p_share
  b_p_share : Binds K fd_p_share ["sieve"] []
  g_p_share : mg "share" = some (.ref f_p_share)
  f_l_draws : Addr
  fd_l_draws : FuncData
  F_l_draws : Fun K "_law_draws" "_law_draws" s_l_draws f_l_draws fd_l_draws
  b_l_draws : Binds K fd_l_draws ["_law_script"] []
  g_l_draws : mg "_law_draws" = some (.ref f_l_draws)
  f_l_pick : Addr
  fd_l_pick : FuncData
  F_l_pick : Fun K "_law_pick" "_law_pick" s_l_pick f_l_pick fd_l_pick
  b_l_pick : Binds K fd_l_pick ["_law_row", "_law_many"] []
  g_l_pick : mg "_law_pick" = some (.ref f_l_pick)
  f_l_great : Addr
  fd_l_great : FuncData
  F_l_great : Fun K "_law_great" "_law_great" s_l_great f_l_great fd_l_great
  b_l_great : Binds K fd_l_great ["_law_row", "_law_most"] []
  g_l_great : mg "_law_great" = some (.ref f_l_great)
  f_law : Addr
  fd_law : FuncData
  F_law : Fun K "law" "law" s_law f_law fd_law
  b_law : Binds K fd_law ["_law_script"] []
  g_law : mg "law" = some (.ref f_law)
  f_m_Sieve_init : Addr
  fd_m_Sieve_init : FuncData
  F_m_Sieve_init : Fun K "__init__" "Sieve.__init__" s_m_Sieve_init f_m_Sieve_init fd_m_Sieve_init
  b_m_Sieve_init : Binds K fd_m_Sieve_init ["self", "bars"] []
  f_m_Sieve_eq : Addr
  fd_m_Sieve_eq : FuncData
  F_m_Sieve_eq : Fun K "__eq__" "Sieve.__eq__" s_m_Sieve_eq f_m_Sieve_eq fd_m_Sieve_eq
  b_m_Sieve_eq : Binds K fd_m_Sieve_eq ["self", "other"] []
  f_m_Sieve_bars : Addr
  fd_m_Sieve_bars : FuncData
  F_m_Sieve_bars : Fun K "bars" "Sieve.bars" s_m_Sieve_bars f_m_Sieve_bars fd_m_Sieve_bars
  b_m_Sieve_bars : Binds K fd_m_Sieve_bars ["self"] []
  f_m_Sieve_whole : Addr
  fd_m_Sieve_whole : FuncData
  F_m_Sieve_whole : Fun K "whole" "Sieve.whole" s_m_Sieve_whole f_m_Sieve_whole fd_m_Sieve_whole
  b_m_Sieve_whole : Binds K fd_m_Sieve_whole ["self"] []
  f_m_Sieve_classes : Addr
  fd_m_Sieve_classes : FuncData
  F_m_Sieve_classes : Fun K "classes" "Sieve.classes" s_m_Sieve_classes f_m_Sieve_classes fd_m_Sieve_classes
  b_m_Sieve_classes : Binds K fd_m_Sieve_classes ["self"] []
  z_len : mg "len" = none
  z_max : mg "max" = none
  z_min : mg "min" = none
  z_sum : mg "sum" = none
  z_range : mg "range" = none
  z_int : mg "int" = none
  z_list : mg "list" = none
  z_tuple : mg "tuple" = none
  z_set : mg "set" = none
  z_sorted : mg "sorted" = none
  z_isinstance : mg "isinstance" = none
  z_enumerate : mg "enumerate" = none
  z_zip : mg "zip" = none
  z_bool : mg "bool" = none
  z_divmod : mg "divmod" = none
  z_all : mg "all" = none
  g_gcd : mg "gcd" = some (.builtin "math.gcd")
  g_lcm : mg "lcm" = some (.builtin "math.lcm")
  c_GREATEST_MODULUS : ∃ t, mg "GREATEST_MODULUS" = some (.int 1000000 t)
  c_MOST_RESTS : ∃ t, mg "MOST_RESTS" = some (.int 60 t)
  c_GREATEST_STEP : ∃ t, mg "GREATEST_STEP" = some (.int 1000000000000000000000000000000 t)
  c_MOST_BARS : ∃ t, mg "MOST_BARS" = some (.int 6 t)
  c_GREATEST_WHOLE : ∃ t, mg "GREATEST_WHOLE" = some (.int 1000000000000000000000000000000 t)
  c_MOST_CHOICES : ∃ t, mg "MOST_CHOICES" = some (.int 2000 t)
  C : Addr
  g_Sieve : mg "Sieve" = some (.ref C)
  cl : Cls K C
  mkC : Mk K C f_m_Sieve_init
  n_bars : NoAttr K C "_bars"
  n_whole : NoAttr K C "_whole"
  n_classes : NoAttr K C "_classes"
  p_bars : Addr
  pp_bars : PropOf K C "bars" p_bars f_m_Sieve_bars
  p_whole : Addr
  pp_whole : PropOf K C "whole" p_whole f_m_Sieve_whole
  p_classes : Addr
  pp_classes : PropOf K C "classes" p_classes f_m_Sieve_classes
  C_RestError : Addr
  g_RestError : mg "RestError" = some (.ref C_RestError)
  C_BadNumber : Addr
  g_BadNumber : mg "BadNumber" = some (.ref C_BadNumber)
  x_BadNumber : PySem.W.excIn K C_BadNumber [.type "ValueError", .type "Exception", .type "BaseException", .type "object"] "ValueError.__new__" = true
  k_BadNumber : PySem.W.keepIn K (.ref C_BadNumber) = true
  b_BadNumber : PySem.W.subIn K (.ref C_BadNumber) (.type "BaseException") = some true
  t_BadNumber : PySem.W.typeIn K (.ref C_BadNumber) = some (.type "type")
  e_BadNumber : PySem.W.exmOne K (.ref C_BadNumber) (.ref C_BadNumber) = some true
  E_BadNumber : ExcC K C_BadNumber
  r_BadNumber : PySem.W.kitOne K (.ref C_BadNumber) (.ref C_RestError) = some true
  C_TooGreat : Addr
  g_TooGreat : mg "TooGreat" = some (.ref C_TooGreat)
  x_TooGreat : PySem.W.excIn K C_TooGreat [.type "ValueError", .type "Exception", .type "BaseException", .type "object"] "ValueError.__new__" = true
  k_TooGreat : PySem.W.keepIn K (.ref C_TooGreat) = true
  b_TooGreat : PySem.W.subIn K (.ref C_TooGreat) (.type "BaseException") = some true
  t_TooGreat : PySem.W.typeIn K (.ref C_TooGreat) = some (.type "type")
  e_TooGreat : PySem.W.exmOne K (.ref C_TooGreat) (.ref C_TooGreat) = some true
  E_TooGreat : ExcC K C_TooGreat
  r_TooGreat : PySem.W.kitOne K (.ref C_TooGreat) (.ref C_RestError) = some true
  C_TooMany : Addr
  g_TooMany : mg "TooMany" = some (.ref C_TooMany)
  x_TooMany : PySem.W.excIn K C_TooMany [.type "ValueError", .type "Exception", .type "BaseException", .type "object"] "ValueError.__new__" = true
  k_TooMany : PySem.W.keepIn K (.ref C_TooMany) = true
  b_TooMany : PySem.W.subIn K (.ref C_TooMany) (.type "BaseException") = some true
  t_TooMany : PySem.W.typeIn K (.ref C_TooMany) = some (.type "type")
  e_TooMany : PySem.W.exmOne K (.ref C_TooMany) (.ref C_TooMany) = some true
  E_TooMany : ExcC K C_TooMany
  r_TooMany : PySem.W.kitOne K (.ref C_TooMany) (.ref C_RestError) = some true
  C_Nothing : Addr
  g_Nothing : mg "Nothing" = some (.ref C_Nothing)
  x_Nothing : PySem.W.excIn K C_Nothing [.type "ValueError", .type "Exception", .type "BaseException", .type "object"] "ValueError.__new__" = true
  k_Nothing : PySem.W.keepIn K (.ref C_Nothing) = true
  b_Nothing : PySem.W.subIn K (.ref C_Nothing) (.type "BaseException") = some true
  t_Nothing : PySem.W.typeIn K (.ref C_Nothing) = some (.type "type")
  e_Nothing : PySem.W.exmOne K (.ref C_Nothing) (.ref C_Nothing) = some true
  E_Nothing : ExcC K C_Nothing
  r_Nothing : PySem.W.kitOne K (.ref C_Nothing) (.ref C_RestError) = some true
  e_BadNumber_TooGreat : PySem.W.exmOne K (.ref C_BadNumber) (.ref C_TooGreat) = some false
  e_BadNumber_TooMany : PySem.W.exmOne K (.ref C_BadNumber) (.ref C_TooMany) = some false
  e_BadNumber_Nothing : PySem.W.exmOne K (.ref C_BadNumber) (.ref C_Nothing) = some false
  e_TooGreat_BadNumber : PySem.W.exmOne K (.ref C_TooGreat) (.ref C_BadNumber) = some false
  e_TooGreat_TooMany : PySem.W.exmOne K (.ref C_TooGreat) (.ref C_TooMany) = some false
  e_TooGreat_Nothing : PySem.W.exmOne K (.ref C_TooGreat) (.ref C_Nothing) = some false
  e_TooMany_BadNumber : PySem.W.exmOne K (.ref C_TooMany) (.ref C_BadNumber) = some false
  e_TooMany_TooGreat : PySem.W.exmOne K (.ref C_TooMany) (.ref C_TooGreat) = some false
  e_TooMany_Nothing : PySem.W.exmOne K (.ref C_TooMany) (.ref C_Nothing) = some false
  e_Nothing_BadNumber : PySem.W.exmOne K (.ref C_Nothing) (.ref C_BadNumber) = some false
  e_Nothing_TooGreat : PySem.W.exmOne K (.ref C_Nothing) (.ref C_TooGreat) = some false
  e_Nothing_TooMany : PySem.W.exmOne K (.ref C_Nothing) (.ref C_TooMany) = some false

/-- the tables of the defs that make lambdas -/
structure Tbs {K : PySem.W.Frag} {mg : Str → Option Value} (base : Heap) (T : Txt K mg) : Prop where
  b_p_longest : LamX.TabB base mg T.cO_p_longest T.tO_p_longest
abbrev lamName (q : Str) : Str := q ++ ".<locals>." ++ "<lambda>"
def tabs {K : PySem.W.Frag} {mg : Str → Option Value} (T : Txt K mg) : List (Addr × Str) := [(T.tO_p_longest, lamName "longest")]
theorem in_p_longest {K : PySem.W.Frag} {mg : Str → Option Value} (T : Txt K mg) : (T.tO_p_longest, lamName "longest") ∈ tabs T := (.head _)
theorem one_p_longest {K : PySem.W.Frag} {mg : Str → Option Value} (T : Txt K mg) : ∀ p ∈ tabs T, p.1 = T.tO_p_longest → p.2 = lamName "longest" := (List.forall_mem_cons.mpr ⟨fun e => rfl, (fun p h => nomatch h)⟩)
end R
namespace R
open PySem PySem.Spec PyProof.Rows L2
/-! ## heaps: what stays -/
/-- every object but the one at r is as it was -/
def Kp (r : Addr) (H H' : Hp) : Prop := ∀ b o, b ≠ r → H b = some o → H' b = some o
theorem Kp.refl (r : Addr) (H : Hp) : Kp r H H := fun _ _ _ h => h
theorem Kp.trans {r : Addr} {H H1 H2 : Hp} (a : Kp r H H1) (b : Kp r H1 H2) : Kp r H H2 := fun c o n h => b c o n (a c o n h)
theorem Kp.of {r : Addr} {H H' : Hp} (s : Same H H') : Kp r H H' := fun b o _ h => s b o h
theorem Kp.at_ {r : Addr} {H : Hp} {o : HO} : Kp r H (upd H r o) := fun b u n h => by rw [upd_ne n]; exact h
theorem Kp.new {r p : Addr} {H : Hp} {o : HO} (h : H p = none) : Kp r H (upd H p o) := fun b u _ e => by rw [upd_ne (ne_of_none e h)]; exact e
theorem Kp.add {r p : Addr} {H H' : Hp} {o : HO} (s : Kp r H H') (h : H p = none) : Kp r H (upd H' p o) := fun b u n e => by rw [upd_ne (ne_of_none e h)]; exact s b u n e
/-- an address that is free stays no matter of the frame: what the frame keeps is not there -/
theorem Kp.none {r p : Addr} {H H' : Hp} (s : Kp r H H') (hp : p ≠ r) (h : H' p = Option.none) : H p = Option.none := by
  cases q : H p with
  | none => rfl
  | some o => rw [s p o hp q] at h; cases h
theorem Kp.rd {r a : Addr} {H H' : Hp} {u : HO} (s : Kp r H H') (n : a ≠ r) (h : Rd H a u) : Rd H' a u := by
  rcases h with h | ⟨o, h⟩
  · exact .inl (s _ _ n h)
  · exact .inr ⟨o, s _ _ n h⟩
theorem Kp.seqT {K : PySem.W.Frag} {r a : Addr} {H H' : Hp} {xs zs : List V} (s : Kp r H H') (hr : H r = some (.lst zs)) (h : SqT K H a xs) : SqT K H' a xs := by
  rcases h with h | h
  · refine .inl (s.rd ?_ h)
    rintro rfl
    rcases h with h | ⟨o, h⟩
    · rw [hr] at h; cases h
    · rw [hr] at h; cases h
  · exact .inr h
theorem Kp.seqL {K : PySem.W.Frag} {r a : Addr} {H H' : Hp} {xs : List V} (s : Kp r H H') (n : a ≠ r) (h : SqL K H a xs) : SqL K H' a xs := by
  rcases h with h | h
  · exact .inl (s.rd n h)
  · exact .inr h
theorem same_upd {H : Hp} {p : Addr} {o : HO} (h : H p = none) : Same H (upd H p o) := fun b x e => by
  rw [upd_ne (ne_of_none e h)]; exact e
theorem Same.seqTT {K : PySem.W.Frag} {H H' : Hp} {a : Addr} {xs : List V} (e : Same H H') (h : SqT K H a xs) : SqT K H' a xs := by
  rcases h with (h | ⟨o, h⟩) | h
  · exact .inl (.inl (e _ _ h))
  · exact .inl (.inr ⟨o, e _ _ h⟩)
  · exact .inr h
theorem tupOf {K : PySem.W.Frag} {H : Hp} {a : Addr} {xs : List V} (h : H a = some (.tup xs)) : SqT K H a xs := .inl (.inl h)
theorem lstOf {K : PySem.W.Frag} {H : Hp} {a : Addr} {xs : List V} (h : H a = some (.lst xs)) : SqL K H a xs := .inl (.inl h)
theorem getMapInt {ns : List Int} {i : Nat} (h : i < ns.length) : (ns.map V.int)[i]? = some (.int ns[i]) := by
  rw [List.getElem?_map, List.getElem?_eq_getElem h]; rfl
theorem getMapInt' {ns : List Int} {i : Nat} {x : V} (h : (ns.map V.int)[i]? = some x) : ∃ n, ns[i]? = some n ∧ x = .int n := by
  rw [List.getElem?_map] at h
  cases e : ns[i]? with
  | none => rw [e] at h; cases h
  | some n => rw [e] at h; exact ⟨n, rfl, (Option.some.inj h).symm⟩
theorem flatInts (ns : List Int) : (ns.map V.int).all flatV = true := by
  rw [List.all_eq_true]
  intro x hx
  obtain ⟨n, _, rfl⟩ := List.mem_map.mp hx
  rfl
theorem sizeOk {n : Nat} (h : n ≤ 100000) : n ≤ sizeLine := Nat.le_trans h (by decide)
theorem sizeLt {n : Nat} (h : n ≤ 100000) : n < sizeLine := Nat.lt_of_le_of_lt h (by decide)

/-- len by its wish, told over the written part alone -/
def rLenK (K : PySem.W.Frag) : List V → Hp → VK → Prop := fun xs H Q => ∃ p ys, xs = [.ref p] ∧ (SqL K H p ys ∨ SqT K H p ys) ∧ Q (.int ys.length) H
/-! ## bars -/
abbrev Bar := Int × List Int
/-- a lot: ascending rests by m -/
structure LotOk (m : Int) (l : List Int) : Prop where
  up : l.Pairwise (· < ·)
  ge : ∀ r ∈ l, 0 ≤ r
  lt : ∀ r ∈ l, r < m
  few : l.length ≤ 60
structure BarOk (b : Bar) : Prop where
  pos : 1 ≤ b.1
  most : b.1 ≤ 1000000
  lot : LotOk b.1 b.2
/-- the least common multiple of the moduli -/
def wh (bs : List Bar) : Nat := bs.foldl (fun w b => Nat.lcm w b.1.natAbs) 1
def choices (bs : List Bar) : Nat := bs.foldl (fun c b => c * max 1 b.2.length) 1
structure SvOk (bs : List Bar) : Prop where
  six : bs.length ≤ 6
  bar : ∀ b ∈ bs, BarOk b
  great : wh bs ≤ 10 ^ 30
  many : choices bs ≤ 2000
def fitsB (bs : List Bar) (x : Int) : Bool := bs.all fun b => decide (x % b.1 ∈ b.2)
/-- the numbers from 0 to whole - 1 that fit -/
def cls (bs : List Bar) : List Int := ((List.range (wh bs)).map fun i : Nat => (i : Int)).filter (fitsB bs)

/-! ## bars on the heap -/
structure LotAt (K : PySem.W.Frag) (H : Hp) (v : V) (l : List Int) : Prop where
  ex : ∃ a, v = .ref a ∧ SqT K H a (l.map V.int)
structure BarAt (K : PySem.W.Frag) (H : Hp) (v : V) (b : Bar) : Prop where
  ex : ∃ a x, v = .ref a ∧ SqT K H a [.int b.1, x] ∧ LotAt K H x b.2
structure BarsAt (K : PySem.W.Frag) (H : Hp) (v : V) (bs : List Bar) : Prop where
  ex : ∃ a xs, v = .ref a ∧ SqT K H a xs ∧ xs.length = bs.length ∧ ∀ (i : Nat) x b, xs[i]? = some x → bs[i]? = some b → BarAt K H x b
section
variable {K : PySem.W.Frag} {H H' : Hp} {v : V} {l : List Int} {b : Bar} {bs : List Bar}
/-- all tuples that may be read are as they were -/
def TupsStay (K : PySem.W.Frag) (H H' : Hp) : Prop := ∀ a xs, SqT K H a xs → SqT K H' a xs
theorem TupsStay.same (s : Same H H') : TupsStay K H H' := fun _ _ h => Same.seqTT s h
theorem TupsStay.sx {r : Addr} {zs : List V} (s : Kp r H H') (hr : H r = some (.lst zs)) : TupsStay K H H' := fun _ _ h => s.seqT hr h
theorem LotAt.stay (t : TupsStay K H H') (h : LotAt K H v l) : LotAt K H' v l := let ⟨a, e, q⟩ := h.ex; ⟨a, e, t _ _ q⟩
theorem BarAt.stay (t : TupsStay K H H') (h : BarAt K H v b) : BarAt K H' v b := let ⟨a, x, e, q, z⟩ := h.ex; ⟨a, x, e, t _ _ q, z.stay t⟩
theorem BarsAt.stay (t : TupsStay K H H') (h : BarsAt K H v bs) : BarsAt K H' v bs := let ⟨a, xs, e, q, n, z⟩ := h.ex; ⟨a, xs, e, t _ _ q, n, fun i x b h1 h2 => (z i x b h1 h2).stay t⟩
end

end R
namespace R
open PySem PySem.Spec PyProof.Rows L2
/-! ## rules of my own: enumerate over a tuple, lcm of great numbers -/
abbrev itTup (t : Addr) : Obj := { cls := .type "tuple_iterator", data := .fields #[.ref t, .int 0 0] }
abbrev enObj (i : Addr) : Obj := { cls := .type "enumerate", data := .fields #[.none, .bool false, .ref i, rawInt 0, .none, .none] }
abbrev enHeap (h : Heap) (t : Addr) : Heap := (h.push (itTup t)).push (enObj h.objs.size)
theorem meets_enT (t : Addr) (items : Array Value) : Meets (Builtin.«enumerate.__new__» ⟨[.type "enumerate", .ref t], []⟩)
    (fun _ R s => s.heap.IsTuple t items ∧ R (.ok (.ret (.ref (s.heap.push (itTup t)).objs.size))) { s with heap := enHeap s.heap t }) := by
  refine .of_wp fun prog w A R s ⟨ht, h⟩ => ?_
  obtain ⟨hp, g, d, tk, os⟩ := s
  have sub_ := PySem.sub_enumerate
  have it_ : ∀ {A' : Around} {E : Value → Shared → Prop} {Q : Value → Shared → Prop}, Q (.ref hp.objs.size) ⟨hp.push (itTup t), g, d, tk, os⟩ → wpAny (model prog w) A' (pyIter (.ref t)) Q E ⟨hp, g, d, tk, os⟩ :=
    fun q => wpAny_pyIter_tuple ht q
  wp_walk using it_
  refine wpAny_stack_any fun st => wpAny_pure ?_
  split
  · rename_i c _ _ _ _ _
    cases (c == Value.type "enumerate") <;> (wp_walk using it_; exact ⟨_, rfl, h⟩)
  · (wp_walk using it_; exact ⟨_, rfl, h⟩)
theorem call_enT {prog : Program} {w : World} {A : Around} {E : Value → Shared → Prop} {s : Shared} {t : Addr} {items : Array Value} {Q : Value → Shared → Prop} (ht : s.heap.IsTuple t items)
    (h : ∀ h', IsEnum h' (s.heap.objs.size + 1) s.heap.objs.size 0 .none → h'.IsTupleIter s.heap.objs.size t 0 → (∀ b o, s.heap.get? b = some o → h'.get? b = some o) → Q (.ref (s.heap.objs.size + 1)) { s with heap := h' }) :
    wpAny (model prog w) A (call (.type "enumerate") [.ref t]) Q E s := by
  have sz : (s.heap.push (itTup t)).objs.size = s.heap.objs.size + 1 := Heap.size_push ..
  have he : IsEnum (enHeap s.heap t) (s.heap.objs.size + 1) s.heap.objs.size 0 .none := by
    have q := Heap.get?_push_size (s.heap.push (itTup t)) (o := enObj s.heap.objs.size) rfl
    rw [sz] at q
    exact q
  have kp : ∀ b o, s.heap.get? b = some o → (enHeap s.heap t).get? b = some o := fun b o x => Heap.get?_push_of_some _ (Heap.get?_push_of_some _ x)
  refine callType_new F.called_enumerate (by decide) (F.typeCall_enumerate_1 _) (F.newCall_enumerate_1 _) (fun obj => F.args_object_init_2 obj _) F.entry_enumerate_new (meets_enT t items) ⟨ht, ?_⟩
  show _ ∧ _
  rw [sz]
  exact ⟨⟨_, he, rfl⟩, h _ he ⟨_, Heap.get?_push_of_some _ (Heap.get?_push_size _ rfl), rfl, rfl⟩ kp⟩
/-- the tuple at a, each item in a new pair with its place -/
def IteT (K : PySem.W.Frag) (a : Addr) : It :=
  ⟨fun i H => ∃ (xs : List V) (x : V), SqT K H a xs ∧ xs[i]? = some x,
   fun i H v H' => ∃ T x, v = .ref T ∧ H T = none ∧ H' = upd H T (.tup [.int (i : Nat), x]) ∧ ∀ xs, SqT K H a xs → xs[i]? = some x,
   fun i H => ∃ xs : List V, SqT K H a xs ∧ xs.length ≤ i⟩
theorem turn_enT {P : Program} {w : World} {K : PySem.W.Frag} {elts : List Expr} {kk : Nat} {tpos : Pos} (a e it : Addr) :
    Turn P w K (.Tuple elts kk tpos) (IteT K a) [e, it] e (fun i h => (∃ old, IsEnum h e it ((i : Nat) : Int) old) ∧ h.IsTupleIter it a i ∧ e ≠ it) where
  mem := List.mem_cons_self ..
  obj := fun i h ⟨⟨old, he⟩, ⟨o, ho, _, hd⟩, _⟩ b hb => by
    rcases List.mem_cons.mp hb with rfl | hb
    · exact ⟨_, he, fun v q => nomatch q⟩
    · rw [List.mem_singleton.mp hb]
      exact ⟨o, ho, fun v q => by rw [hd] at q; cases q⟩
  keep := fun i h h' ⟨⟨old, he⟩, hi, hne⟩ k => ⟨⟨old, k e (by simp) _ he⟩, hi.at fun o q => k it (by simp) o q, hne⟩
  item := by
    intro X hP hw hK hc i pins s σ H E I hf ⟨⟨old, he⟩, hit, hne⟩ ⟨xs, x, hq, hx⟩
    subst hP hw hK
    obtain ⟨its, rv, p, hz⟩ := I.tuple hq
    have hT : s.heap.IsTuple a its.toArray := p
    have nta : a ≠ it := fun z => by
      subst z
      obtain ⟨o, e1, c1, _⟩ := hT
      obtain ⟨o2, e2, c2, _⟩ := hit
      rw [e1] at e2
      cases e2
      rw [c1] at c2
      exact absurd c2 (by decide)
    have nea : e ≠ a := fun z => by
      subst z
      obtain ⟨o, e1, c1, _⟩ := hT
      rw [he] at e1
      cases e1
      exact absurd (show Value.type "enumerate" = Value.type "tuple" from c1) (by decide)
    have el : e < s.heap.objs.size := Heap.lt_size he
    have il : it < s.heap.objs.size := by obtain ⟨_, q, _⟩ := hit; exact Heap.lt_size q
    have hlt : i < its.toArray.size := by
      have := (List.getElem?_eq_some_iff.mp hx).1
      rw [rv.length] at this
      rw [List.size_toArray]
      exact this
    refine wpAny_pyNext_enum_itemD (Draws.tuple (A := X.A.in1) (I.ok.hd hc) it a nta its.toArray) he ⟨hit, hT⟩ hlt hne (by simp [hne, nea]) fun u h' tk hP ho st' ht' hsz hk => ?_
    obtain ⟨u', hu', ru⟩ := rv.get hx
    have eu : u = u' := by
      rw [List.getElem?_toArray] at hP
      exact Option.some.inj (hP.symm.trans hu')
    subst eu
    refine ⟨_, rfl, wpAny_letOwnedTupleGo_enum (s := { s with heap := h', toks := tk + 1 }) ho fun h2 he2 sb => ?_⟩
    have t2 := (sb.2 _ (Nat.ne_of_gt el)).trans ht'
    have new : ObjOk X.prog X.w (upd H s.heap.objs.size (.tup [.int (i : Nat), x])) h2 s.heap.objs.size (.tup [.int (i : Nat), x]) :=
      ⟨sizeOk (by show (2 : Nat) ≤ 100000; decide), [.int i tk, u], .cons ⟨_, rfl⟩ (.cons ru .nil), _, t2, rfl, _, rfl⟩
    have I1 : Inv X pins σ (upd H s.heap.objs.size (.tup [.int (i : Nat), x])) { s with heap := h2, toks := tk + 1 } := by
      refine I.turnedNew (ch := [e, it]) (fun b ob hb q => ?_) hf (Nat.le_refl _) new
      have hbe : b ≠ e := fun z => hb (by simp [z])
      exact (sb.2 b hbe).trans (hk b ob hbe (fun z => hb (by simp [z])) q)
    refine ⟨.ref s.heap.objs.size, _, I1, rfl, ⟨_, x, rfl, I.hok.fresh (Nat.le_refl _), rfl, fun ys hy => by rw [I.tuple_inj hy hq]; exact hx⟩, ⟨⟨u, ?_⟩, st'.1.at fun o q => (sb.2 it (Ne.symm hne)).trans q, hne⟩, fun b hb => ?_⟩
    · rw [show ((i + 1 : Nat) : Int) = (i : Int) + 1 from rfl]
      exact he2
    · have lt : b < s.heap.objs.size := by
        rcases List.mem_cons.mp hb with rfl | hb
        · exact el
        · rw [List.mem_singleton.mp hb]; exact il
      rw [upd_ne (Nat.ne_of_lt lt)]
      exact (hf b hb).1
  done := by
    intro X hP hw hK hc i pins s σ H E I hf ⟨⟨old, he⟩, hit, hne⟩ ⟨xs, hq, hx⟩
    subst hP hw hK
    obtain ⟨its, rv, p, hz⟩ := I.tuple hq
    have hT : s.heap.IsTuple a its.toArray := p
    obtain ⟨f0, f1, f2, f3, f4, f5⟩ := hf it (by simp)
    have hT' : s.TypeIs (.ref e) "enumerate" := ⟨_, he, rfl⟩
    unfold pyNext
    refine wpAny_bind (wpAny_attempt (wpAny_callSpecial?_slot (name := Str.ofString "__next__") hT' F.slot_enumerate_next (wpAny_call_entry F.slot_enumerate_next hT' F.entry_enumerate_next ?_ (F.args_enumerate_next_1 _))))
    show wpAny _ _ (field (.ref e) 2 >>= _) _ _ _
    refine wpAny_bind (wpAny_field he rfl (x := .ref it) rfl ?_)
    refine wpAny_bind (PySem.wpAny_nextOf_tuple_end (I.ok.hd hc) hit hT (Array.getElem?_eq_none (by rw [List.size_toArray, ← rv.length]; exact hx)) fun h' y eb hy => ?_)
    obtain ⟨o, ho, hcl⟩ := hy
    refine wpAny_bind (wpAny_isInstance (T := "StopIteration") (b := true) ⟨o, ho, hcl⟩ isSubtype_stop ?_)
    exact wpAny_pure ⟨rfl, I.turned (t' := s.toks) (fun b o hb q => eb b o hb q) f0 f1 f3 f4 f5⟩
  self := fun A i s Q E ⟨⟨_, he⟩, _⟩ h => wpAny_pyIter_enum he h
def iEnT (K : PySem.W.Frag) (ta : TA) : TI := fun σ H R => ta σ H fun vs H1 => ∃ a xs, vs = [.ref a] ∧ SqT K H1 a xs ∧ R (IteT K a) H1
theorem pi_enT {X : Cx} {e : Expr} {ta : TA} {p pos tpos : Pos} {elts : List Expr} {kk : Nat} (hg : Gl X "enumerate") (hm : X.mg "enumerate" = none) (ha : PA X [e] ta)
    (hs : starEach [e] X.env = [(false, eval e X.env)] := by rfl) : PI X (.Tuple elts kk tpos) (.Call (.Name "enumerate" p) [e] [] pos) (iEnT X.K ta) := by
  refine ⟨fun pins s σ H R I h => Call_ (ld_blt I hg hm boot_enumerate (PyProof.Rows.callWith_type1 (thn (ha.run pos pins s σ H _ I h) fun us s1 ⟨vs, H1, I1, r1, a, xs, ex, hq, q⟩ => ?_) hs rfl))⟩
  subst ex
  obtain ⟨u, us', rfl⟩ : ∃ u us', us = u :: us' := by
    cases r1 with
    | cons r rr => exact ⟨_, _, rfl⟩
  cases r1 with
  | cons r rr =>
    cases rr
    cases r
    obtain ⟨its, rv, p', hz⟩ := I1.tuple hq
    refine call_enT (show s1.heap.IsTuple a its.toArray from p') fun h' he hit hk => wpAny_pyIter_enum he ?_
    have I2 : Inv X pins σ H1 { s1 with heap := h' } := I1.kept (t' := s1.toks) hk
    refine ⟨s1.heap.objs.size + 1, [s1.heap.objs.size + 1, s1.heap.objs.size], _, _, H1, rfl, I2, turn_enT a _ _, ⟨⟨.none, he⟩, hit, Nat.succ_ne_self _⟩, fun b hb => ?_, q⟩
    have hle : s1.heap.objs.size ≤ b := by
      rcases List.mem_cons.mp hb with rfl | hb
      · exact Nat.le_succ _
      · rw [List.mem_singleton.mp hb]; exact Nat.le_refl _
    exact I1.fpOk hle (I1.hok.fresh hle)
theorem walk_enT {K : PySem.W.Frag} {a : Addr} {xs : List V} : Walk (IteT K a) xs.length (fun H => SqT K H a xs) (YPair (fun i => some (.int (i : Nat))) (fun i => xs[i]?)) := by
  refine ⟨fun i H hi hG => ⟨xs, xs[i], hG, by simp [hi]⟩, fun H hG => ⟨xs, hG, Nat.le_refl _⟩, fun i H x H' hi hG ⟨T, y, h1, h2, h3, h4⟩ => ?_⟩
  exact ⟨T, .int (i : Nat), y, h1, h2, h3, rfl, h4 xs hG⟩
/-- lcm of two numbers below 2 ^ 5000 -/
def rLcmW : List V → Hp → VK → Prop := fun vs H Q => ∃ a b : Nat, vs = [.int a, .int b] ∧ a < 2 ^ 5000 ∧ b < 2 ^ 5000 ∧ Q (.int (Nat.lcm a b : Nat)) H
theorem logLe {n k : Nat} (h : n < 2 ^ (k + 1)) : n.log2 ≤ k := PySem.W.mg_log h
theorem cr_lcmW {X : Cx} : CallR X (.builtin "math.lcm") rLcmW := by
  intro pins s σ H vs us Q I r ⟨a, b, e, ha, hb, q⟩
  subst e
  obtain ⟨t, u, rfl⟩ := Vals.int2 r
  have h1 : (max 1 (a : Int).natAbs).log2 ≤ 4999 := logLe (by rw [Int.natAbs_natCast]; show max 1 a < 2 ^ 5000; have : 1 < 2 ^ 5000 := by decide
                                                              omega)
  have h2 : (max (a : Int).natAbs (b : Int).natAbs).log2 ≤ 4999 := logLe (by rw [Int.natAbs_natCast, Int.natAbs_natCast]; show max a b < 2 ^ 5000; omega)
  have ee : (((Nat.lcm 1 (a : Int).natAbs).lcm (b : Int).natAbs : Nat) : Int) = ((Nat.lcm a b : Nat) : Int) := by
    rw [Int.natAbs_natCast, Int.natAbs_natCast, PySem.W.mc_lcm_one]
  have hm : Nat.lcm a b < 2 ^ 10000 := by
    have h3 : Nat.lcm a b ≤ a * b := Nat.div_le_self _ _
    have h4 : a * b < 2 ^ 5000 * 2 ^ 5000 := Nat.mul_lt_mul'' ha hb
    rw [← Nat.pow_add] at h4
    exact Nat.lt_of_le_of_lt h3 h4
  have hz : ((((Nat.lcm 1 (a : Int).natAbs).lcm (b : Int).natAbs : Nat) : Int)).natAbs.log2 < bitsLine := by
    rw [ee, Int.natAbs_natCast]
    have h5 : (Nat.lcm a b).log2 ≤ 9999 := logLe hm
    rw [PySem.bitsLine_eq]
    omega
  have g := PySem.W.mg_run_lcm a t b u (by omega) (by omega) hz
  rw [ee] at g
  exact PySem.call_function_meets PySem.W.MGF.kind_lcm PySem.W.MGF.plain_lcm PySem.W.MGF.entry_lcm (PySem.W.MGF.args_lcm _ _) g.meets ⟨.int _, H, I.tok _, ⟨_, rfl⟩, q⟩
theorem tyTup {K : PySem.W.Frag} {H : Hp} {a : Addr} {xs : List V} (h : SqT K H a xs) : TyX K H (.ref a) (.type "tuple") := by
  rcases h with (h | ⟨o, h⟩) | ⟨o, its, n, e, c, _⟩
  · exact .base (.tup h)
  · exact .fTuple h
  · exact .kTuple e c

end R
namespace R
open PySem PySem.Spec PyProof.Rows L2
/-! ## an exception that a suite holds -/
def rIsE' (K : PySem.W.Frag) (D a : Addr) (cls : Value) (d : Option Addr) : List V → Hp → VK → Prop := fun xs H Q => cls = .ref D ∧ d = none ∧ rIsE K D a xs H Q
theorem call_isE' {X : Cx} {a D : Addr} {oe : Obj} {pn : List (Addr × Obj)} {cls : Value} {d : Option Addr} (C : ExcC X.K D) (hz : Zc cls d oe) (hf : ∃ vs, oe.data = .fields vs) :
    CallR (X.suite a ((a, oe) :: pn)) (.builtin "isinstance") (rIsE' X.K D a cls d) := by
  intro pins s σ H xs us Q I r h
  obtain ⟨h1, h2, h3⟩ := h
  subst h1 h2
  exact call_isE C hz hf pins s σ H xs us Q I r h3
/-! ## try with several clauses that name the exception -/
abbrev Suites := List (Value × (Addr → Value → Option Addr → TS))
/-- what the clauses wish, one behind the other; the name's slot is i -/
def wAsM (K : PySem.W.Frag) (i : Nat) (Wout : WX) (D : Ends) : Suites → WX
  | [] => Wout
  | p :: r => fun cls d σ H => ∃ b, PySem.W.exmOne K cls p.1 = some b ∧
      (b = true → ∀ a, H a = none → p.2 a cls d ⟨fun τ G => D.nx (τ.set i none) G, D.rt, fun τ G => D.bk (τ.set i none) G, fun τ G => D.ct (τ.set i none) G⟩ (σ.set i (some (.ref a))) H) ∧ (b = false → wAsM K i Wout D r cls d σ H)
/-- the clauses, each «except x as n», with their suites' readings -/
inductive HdsAs (X : Cx) (n : Str) : List ExceptHandler → Suites → Prop
  | nil : HdsAs X n [] []
  | cons {x : Str} {c : Value} {ts : Addr → Value → Option Addr → TS} {b0 : Stmt} {su : List Stmt} {p1 p2 : Pos} {hds : List ExceptHandler} {l : Suites} (hc : Names X x c)
      (hsu : ∀ (a : Addr) (oe : Obj) (cls : Value) (d : Option Addr) (pn : List (Addr × Obj)), Zc cls d oe → (∃ vs, oe.data = .fields vs) → PSs (X.suite a ((a, oe) :: pn)) (b0 :: su) (ts a cls d)) (r : HdsAs X n hds l) :
      HdsAs X n (.ExceptHandler (some (.Name x p1)) (some n) (b0 :: su) p2 :: hds) ((c, ts) :: l)
/-- what is done where the body let an exception out -/
theorem hds_run {X : Cx} {n : Str} {i : Nat} {pins : List (Addr × Obj)} {τ : L2.St} {G : Hp} {D : Ends} {Wout : WX} {e0 : Addr} {B h3 : Heap} {sJ s2 : Shared} {cls : Value} {d : Option Addr} (ok : X.Ok)
    (hst : X.stack = X.env :: X.outer) (hfr : X.env.frame = some X.env.locals) (nod : X.N.Nodup) (hi : X.N[i]? = some n) (hloc : X.env.kindOf n = some .local) (tk : Takes X Wout) (J : Inv X pins τ G sJ)
    (nb : ∀ b o, sJ.heap.get? b = some o → b ∉ frs X.stack → B.get? b = some o) (up : sJ.heap.UpToSlots s2.heap) (up3 : s2.heap.UpToSlots h3) (na : G e0 = none) (os : s2.os = sJ.os) (ag : AllBare s2.gens)
    (fl : HandSPX.FlyingZ B (X.env :: X.outer) e0 (Zc cls d) h3) : ∀ {hds : List ExceptHandler} {l : Suites}, HdsAs X n hds l → wAsM X.K i Wout D l cls d τ G →
      wpAny (model X.prog X.w) X.A (handleBy (.ref e0) X.env hds) (SP X pins D) X.xe { s2 with heap := h3 } := by
  have J3 : Inv X pins τ G { s2 with heap := h3 } := J.landed nb fl.1 (up.trans up3) os ag
  obtain ⟨ob, vb, he3, hz3, hd3⟩ := fl.there
  have out : e0 ∉ frs (X.env :: X.outer) := fun hm => by
    obtain ⟨_, o2, q1, q2⟩ := fl.2.2.1.mem hm
    rw [he3] at q1
    cases q1
    exact q2 _ hd3
  have nL : e0 ≠ X.env.locals := fun z => out (List.mem_filterMap.mpr ⟨_, List.mem_cons_self, z ▸ hfr⟩)
  have nF : e0 ∉ X.fs := fun hm => let ⟨q1, q2, q3⟩ := List.mem_filterMap.mp hm; out (List.mem_filterMap.mpr ⟨q1, List.mem_cons_of_mem _ q2, q3⟩)
  have S3 := J3.suite he3 hd3 na nL nF
  intro hds l hk
  induction hk with
  | nil =>
    intro w
    refine wpAny_handleBy_nil ?_
    obtain ⟨_, _, _, o1, v1, tb, _, _, g1, _, g3, g4, _⟩ := id fl
    unfold PySem.passOn
    refine wpAny_bind (wpAny_field g1 g3 g4 ?_)
    rw [if_neg (by simp : ¬ ((Value.ref tb == Value.none) = true))]
    have last : wpAny (model X.prog X.w) X.A (setFlight (.ref e0) X.env.frame) (fun _ s4 => wpAny (model X.prog X.w) X.A (throw (.ref e0) : Sem Flow) (SP X pins D) X.xe s4) X.xe { s2 with heap := h3 } := by
      rw [hfr]
      refine HandSPX.setFlight_upZ fl fun h4 hh4 up4 => wpAny_throw (tk _ _ ⟨e0, B, sJ, pins, τ, G, cls, d, rfl, J, nb, (up.trans up3).trans up4, .inr (.inr ?_), na, os, ag, w⟩)
      rw [hst]
      exact hh4
    first | exact wpAny_bind (wpAny_pure (wpAny_bind last)) | exact wpAny_bind last
  | @cons x c ts b0 su p1 p2 hds2 l2 hc hsu r ih =>
    rintro ⟨b, hb1, yes, no⟩
    refine wpAny_handleBy_cons (codeAny_handlers_test ?_) (by intro q; cases q)
    have LM := PySem.W.exm_one (M := model X.prog X.w) J3.kIn (fun A Q E s k q => wpAny_typeOf_ref (k _ _ he3) (by rw [hz3.1]; exact q)) hb1
    have named : ∀ {Q E : Value → Shared → Prop}, Q c { s2 with heap := h3 } → wpAny (model X.prog X.w) (X.A.mark (some (.ref e0))) (eval (.Name x p1) X.env) Q E { s2 with heap := h3 } := by
      intro Q E q
      obtain ⟨k1, k2, k3 | ⟨k3, k4, k5⟩⟩ := hc
      · exact ld_glob (X := X.suite e0 ((e0, ob) :: (X.pn ++ pins))) S3 k1 k3 q k2
      · exact ld_blt (X := X.suite e0 ((e0, ob) :: (X.pn ++ pins))) S3 k1 k3 k4 q k5 k2
    refine named (LM.here ?_)
    cases b with
    | false => exact ih (no rfl)
    | true =>
      refine codeAny_handlers_suite_as (HandSPX.lands_againZ fl fun h4 fl4 up4 => ?_)
      have J4 : Inv X pins τ G { s2 with heap := h4 } := J.landed nb fl4.1 ((up.trans up3).trans up4) os ag
      obtain ⟨o4, v4, he4, hz4, hd4⟩ := fl4.there
      refine store_ok (X := X.suite e0 ((e0, o4) :: (X.pn ++ pins))) (v := .ref e0) (J4.suite he4 hd4 na nL nF) nod hi (.inl hloc) rfl (fun s5 S5 => ?_) (.inr hloc)
      refine wpAny_mono ((hsu e0 o4 cls d (X.pn ++ pins) hz4 ⟨_, hd4⟩).run [] s5 _ G _ S5 (yes rfl e0 na)) (fun f s6 sp => ?_) (fun _ _ z => z.elim)
      have close : ∀ {τ6 : L2.St} {G6 : Hp} {Q : Shared → Prop}, Inv (X.suite e0 ((e0, o4) :: (X.pn ++ pins))) [] τ6 G6 s6 → (∀ s7, Inv X pins (τ6.set i none) G6 s7 → Q s7) →
          wpAny (model X.prog X.w) X.A (do bindName X.env n .none; unbindBehindTheSuite X.env n p2) (fun _ s7 => Q s7) X.xe s6 := fun S6 k => gone_ok (S6.unsuite ok) nod hi hloc k
      cases f with
      | ret u => obtain ⟨_, _, _, S6, r6, q6⟩ := sp; exact close S6 fun s7 J7 => ⟨_, _, _, J7, r6, q6⟩
      | next => obtain ⟨_, _, S6, q6⟩ := sp; exact close S6 fun s7 J7 => ⟨_, _, J7, q6⟩
      | brk => obtain ⟨_, _, S6, q6⟩ := sp; exact close S6 fun s7 J7 => ⟨_, _, J7, q6⟩
      | cont => obtain ⟨_, _, S6, q6⟩ := sp; exact close S6 fun s7 J7 => ⟨_, _, J7, q6⟩
theorem ps_try_asM {X : Cx} {n : Str} {i : Nat} {body : List Stmt} {hd : ExceptHandler} {hds : List ExceptHandler} {l : Suites} {pos : Pos} {tb : WX → TS} {Wout : WX} (hst : X.stack = X.env :: X.outer)
    (hfr : X.env.frame = some X.env.locals) (nod : X.N.Nodup) (hi : X.N[i]? = some n) (hloc : X.env.kindOf n = some .local) (tk : Takes X Wout)
    (hb : ∀ (W : WX) (pn : List (Addr × Obj)) (xe : Value → Shared → Prop), Takes (X.tr pn xe) W → PassesOwn (model X.prog X.w) X.A X.env xe → PSs (X.tr pn xe) body (tb W))
    (hh : HdsAs X n (hd :: hds) l) : PS X (.Try body (hd :: hds) [] [] pos) (fun D σ H => tb (wAsM X.K i Wout D l) D σ H) := by
  refine ⟨fun pins s σ H D I h => wpAny_Try_except ?_⟩
  have ok := I.ok
  have fr : X.A.frames = some (X.env :: X.outer) := ok.frames.trans (congrArg some hst)
  let caught : Value → Shared → Prop := fun e s1 => wpAny (model X.prog X.w) X.A (noteFrame e X.env) (fun _ s2 => wpAny (model X.prog X.w) X.A (setFlight e none)
    (fun _ s3 => wpAny (model X.prog X.w) X.A (handleBy e X.env (hd :: hds)) (SP X pins D) X.xe s3) X.xe s2) X.xe s1
  have takes : Takes (X.tr (X.pn ++ pins) caught) (wAsM X.K i Wout D l) := by
    rintro _ s' ⟨a, B, sI, pins', σ', H', cls, d, rfl, J', nb, up, sky, na, os, ag, w⟩
    have sky' : Sky B (X.env :: X.outer) a (Zc cls d) X.env.locals s'.heap := hst ▸ sky
    show wpAny (model X.prog X.w) X.A (noteFrame (.ref a) X.env) _ _ _
    exact Sky.land Zc.steady fr hfr sky' fun h3 fl3 up3 => hds_run ok hst hfr nod hi hloc tk (J'.ofTry ok) nb up up3 na os ag fl3 hh w
  refine wpAny_mono ((hb _ (X.pn ++ pins) caught takes PassesOwn.looking).run [] s σ H D (I.toTry _) h) (fun f s1 sp => ?_) (fun e s1 he => he)
  cases f with
  | ret u => obtain ⟨v, τ, G, J', r, q⟩ := sp; exact ⟨v, τ, G, J'.ofTry ok, r, q⟩
  | next => obtain ⟨τ, G, J', q⟩ := sp; exact wpAny_execs_nil ⟨τ, G, J'.ofTry ok, q⟩
  | brk => obtain ⟨τ, G, J', q⟩ := sp; exact ⟨τ, G, J'.ofTry ok, q⟩
  | cont => obtain ⟨τ, G, J', q⟩ := sp; exact ⟨τ, G, J'.ofTry ok, q⟩

end R
namespace R
open PySem PySem.Spec PyProof.Rows L2
/-! ## the law's draws -/
/-- the row of a law's draws: the script's copy (at L), how far it is read, two numbers -/
structure RowAt (H : Hp) (r L : Addr) : Prop where
  ex : ∃ (ns : List Int) (i : Nat) (b s : Int), H r = some (.lst [.ref L, .int i, .int b, .int s]) ∧ H L = some (.lst (ns.map V.int)) ∧ 0 ≤ b
  ne : L ≠ r
section
variable {H H' : Hp} {r L p : Addr} {o : HO}
theorem RowAt.lst (h : RowAt H r L) : ∃ zs, H r = some (.lst zs) := let ⟨_, _, _, _, e, _⟩ := h.ex; ⟨_, e⟩
theorem RowAt.stay (h : RowAt H r L) (s : Same H H') : RowAt H' r L := by
  obtain ⟨ns, i, b, z, e, q, n⟩ := h.ex
  exact ⟨⟨ns, i, b, z, s _ _ e, s _ _ q, n⟩, h.ne⟩
theorem RowAt.tups {K : PySem.W.Frag} (h : RowAt H r L) (s : Kp r H H') : TupsStay K H H' := let ⟨_, e⟩ := h.lst; .sx s e
theorem RowAt.new (h : RowAt H r L) (hp : H p = none) : p ≠ r ∧ p ≠ L := by
  obtain ⟨ns, i, b, z, e, q, n⟩ := h.ex
  exact ⟨(ne_of_none e hp).symm, (ne_of_none q hp).symm⟩
theorem RowAt.upd (h : RowAt H r L) (n : p ≠ r ∧ p ≠ L) : RowAt (upd H p o) r L := by
  obtain ⟨ns, i, b, z, e, q, h0⟩ := h.ex
  exact ⟨⟨ns, i, b, z, by rw [upd_ne n.1.symm]; exact e, by rw [upd_ne n.2.symm]; exact q, h0⟩, h.ne⟩
end
def sp_l_draws (K : PySem.W.Frag) : Sp := fun vs H Q _ => ∃ (a : Addr) (ns : List Int), vs = [.ref a] ∧ SqL K H a (ns.map V.int) ∧ ∀ r L H', Same H H' → RowAt H' r L → Q (.ref r) H'
def sp_l_pick : Sp := fun vs H Q _ => ∃ (r L : Addr) (m : Int), vs = [.ref r, .int m] ∧ RowAt H r L ∧ 0 < m ∧ m.natAbs < 2 ^ 200 ∧
  ∀ v H', 0 ≤ v → v < m → Kp r H H' → RowAt H' r L → Q (.int v) H'
section
variable {P : Program} {w : World} {K : PySem.W.Frag} {mg : Str → Option Value} {base : Heap}
theorem ok_l_draws (T : Txt K mg) : FnOk P w K mg base CX0 2 T.f_l_draws T.fd_l_draws ["_law_script"] (sp_l_draws K) := by
  refine T.F_l_draws.ok sc_l_draws (fun vs H Q E h => ?_) (fun cdv A outer s H vs Q E hr h => ?_)
  · obtain ⟨a, ns, rfl, _⟩ := h
    rfl
  · obtain ⟨a, ns, rfl, hS, q⟩ := h
    refine ⟨_, (pss_one (ps_ret (pe_lst (pa_cons (pe_callTy call_list_of (by rfl) T.z_list (by decide +kernel) (pa_cons (pv 0) pa_nil)) (pa_cons pe_int (pa_cons pe_int (pa_cons pe_int pa_nil))))))), ?_⟩
    refine ⟨_, rfl, a, _, rfl, .inl hS, fun L nL => ⟨sizeOk (by show (4 : Nat) ≤ 100000; decide), fun r nr => ?_⟩⟩
    have n1 : L ≠ r := fun e => by
      subst e
      rw [upd_same] at nr
      cases nr
    refine q r L _ (Same.trans (same_upd nL) (same_upd nr)) ⟨⟨ns, 0, 0, 7, upd_same, ?_, Int.le_refl 0⟩, n1⟩
    rw [upd_ne n1, upd_same]
theorem ok_l_pick (T : Txt K mg) : FnOk P w K mg base CX0 2 T.f_l_pick T.fd_l_pick ["_law_row", "_law_many"] sp_l_pick := by
  refine T.F_l_pick.ok sc_l_pick (fun vs H Q E h => ?_) (fun cdv A outer s H vs Q E hr h => ?_)
  · obtain ⟨r, L, m, rfl, _⟩ := h
    rfl
  · obtain ⟨r, L, m, rfl, ⟨⟨ns, i, b, z, hr0, hL0, hb⟩, hLr⟩, hm, hm2, q⟩ := h
    have hL : SqL K H L (ns.map V.int) := lstOf hL0
    have S : SqL K H r [.ref L, .int i, .int b, .int z] := lstOf hr0
    refine ⟨_, (C8.pss_cut (ps_if (pt_cmpR op_eq (pe_ix ix_list (pv 0) pe_int (fun _ _ => rfl)) pe_int (nomark _)) (pss_one (ps_if (pt_cmpR op_lt (pe_ix ix_list (pv 0) pe_int (fun _ _ => rfl)) (pe_callB call_len_seq (by rfl) T.z_len (by decide +kernel) (pa_cons (pe_ix ix_list (pv 0) pe_int (fun _ _ => rfl)) pa_nil)) (nomark _)) (pss_cons (ps_set (i := 2) sc_l_pick.nd rfl (by first | exact .inl rfl | exact .inr rfl) (pe_ix ix_list (pe_ix ix_list (pv 0) pe_int (fun _ _ => rfl)) (pe_ix ix_list (pv 0) pe_int (fun _ _ => rfl)) (fun _ _ => rfl)))
      (pss_cons (ps_asg (pe_op op_add (pe_ix ix_list (pv 0) pe_int (fun _ _ => rfl)) pe_int) (pg_sub (pv 0) pe_int set_list))
      (pss_one (ps_if (pt_cmpR op_ge (pv 2) (pe_op op_pow pe_int pe_int) (nomark _)) (pss_one (ps_asg (pv 2) (pg_sub (pv 0) pe_int set_list))) (pss_one (ps_asg (pe_op op_mod (pe_callTy call_int1 (by rfl) T.z_int (by decide +kernel) (pa_cons (pe_op op_add (pe_op op_add (pe_op op_mul (pe_ix ix_list (pv 0) pe_int (fun _ _ => rfl)) pe_int) (pe_op op_mul (pv 2) pe_int)) pe_int) pa_nil)) pe_int) (pg_sub (pv 0) pe_int set_list))))))) (pss_one (ps_asg (pe_op op_mod (pe_callTy call_int1 (by rfl) T.z_int (by decide +kernel) (pa_cons (pe_op op_add (pe_op op_mul (pe_ix ix_list (pv 0) pe_int (fun _ _ => rfl)) pe_int) pe_int) pa_nil)) pe_int) (pg_sub (pv 0) pe_int set_list))))) pss_nil)
      (pss_cons (ps_if (pt_cmpR op_gt (pe_ix ix_list (pv 0) pe_int (fun _ _ => rfl)) pe_int (nomark _)) (pss_cons (ps_set (i := 3) sc_l_pick.nd rfl (by first | exact .inl rfl | exact .inr rfl) (pe_op op_mod (pe_callTy call_int1 (by rfl) T.z_int (by decide +kernel) (pa_cons (pe_ix ix_list (pv 0) pe_int (fun _ _ => rfl)) pa_nil)) (pv 1)))
      (pss_cons (ps_asg (pe_op op_fdivW (pe_ix ix_list (pv 0) pe_int (fun _ _ => rfl)) (pv 1)) (pg_sub (pv 0) pe_int set_list))
      (pss_one (ps_ret (pv 3))))) pss_nil)
      (pss_one (ps_ret (pe_op op_mod (pe_op op_mod (pe_callTy call_int1 (by rfl) T.z_int (by decide +kernel) (pa_cons (pe_op op_mul (pe_ix ix_list (pv 0) pe_int (fun _ _ => rfl)) pe_int) pa_nil)) pe_int) (pv 1)))))), ?_⟩
    refine ⟨fun σ H' => ∃ (c : Option V) (i' : Nat) (b' z' : Int), σ = [some (.ref r), some (.int m), c, none] ∧ Kp r H H' ∧ H' r = some (.lst [.ref L, .int i', .int b', .int z']) ∧ 0 ≤ b', ?_, ?_⟩
    · refine ⟨_, rfl, r, _, 2, _, rfl, rfl, S, atI_nat (j := 2) rfl, rfl, _, rfl, ite2 (fun _ => ?_) (fun _ => ?_)⟩
      · refine ⟨_, rfl, r, _, 1, _, rfl, rfl, S, atI_nat (j := 1) rfl, _, rfl, r, _, 0, _, rfl, rfl, S, atI_nat (j := 0) rfl, L, _, rfl, .inl hL, _, _, rfl, rfl, _, rfl, ite2 (fun e => ?_) (fun e => ?_)⟩
        · have hi : i < ns.length := by
            have e' := of_decide_eq_true e
            rw [List.length_map] at e'
            omega
          refine ⟨_, rfl, r, _, 0, _, rfl, rfl, S, atI_nat (j := 0) rfl, _, rfl, r, _, 1, _, rfl, rfl, S, atI_nat (j := 1) rfl, L, _, i, .int ns[i], rfl, rfl, hL, atI_nat (j := i) (getMapInt hi), ?_⟩
          refine ⟨_, rfl, r, _, 1, _, rfl, rfl, S, atI_nat (j := 1) rfl, _, _, rfl, rfl, _, rfl, r, _, 1, 1, rfl, rfl, hr0, rfl, ?_⟩
          have hr1 : (upd H r (.lst [.ref L, .int ((i : Int) + 1), .int b, .int z])) r = some (.lst [.ref L, .int ((i + 1 : Nat) : Int), .int b, .int z]) := upd_same
          have S1 : SqL K (upd H r (.lst [.ref L, .int ((i : Int) + 1), .int b, .int z])) r _ := lstOf hr1
          have x1 : Kp r H (upd H r (.lst [.ref L, .int ((i : Int) + 1), .int b, .int z])) := Kp.at_
          refine ⟨_, rfl, _, _, rfl, rfl, ⟨by decide, by decide, by decide⟩, _, _, rfl, rfl, _, rfl, ite2 (fun e2 => ?_) (fun e2 => ?_)⟩
          · refine ⟨_, rfl, _, rfl, r, _, 2, 2, rfl, rfl, hr1, rfl, ?_⟩
            refine ⟨_, i + 1, ns[i], z, rfl, fun b o n h => ?_, upd_same, ?_⟩
            · rw [upd_ne n]; exact x1 b o n h
            · have := of_decide_eq_true e2
              have : (0 : Int) ≤ 10 ^ (18 : Int).toNat := by decide
              omega
          · refine ⟨_, rfl, r, _, 3, _, rfl, rfl, S1, atI_nat (j := 3) rfl, _, _, rfl, rfl, .inr (by decide), _, rfl, _, _, rfl, rfl, .inr (by decide), _, _, rfl, rfl, _, _, rfl, rfl, .inl ⟨_, rfl, _, _, rfl, rfl, (show (0 : Int) < 2147483647 by decide), ?_⟩⟩
            refine ⟨_, rfl, r, _, 3, 3, rfl, rfl, hr1, rfl, ?_⟩
            refine ⟨_, i + 1, b, _, rfl, fun b o n h => ?_, upd_same, hb⟩
            rw [upd_ne n]; exact x1 b o n h
        · refine ⟨_, rfl, r, _, 3, _, rfl, rfl, S, atI_nat (j := 3) rfl, _, _, rfl, rfl, .inr (by decide), _, _, rfl, rfl, .inl ⟨_, rfl, _, _, rfl, rfl, (show (0 : Int) < 2147483647 by decide), ?_⟩⟩
          refine ⟨_, rfl, r, _, 3, 3, rfl, rfl, hr0, rfl, ?_⟩
          exact ⟨_, i, b, _, rfl, Kp.at_, upd_same, hb⟩
      · exact ⟨_, i, b, z, rfl, Kp.refl r H, hr0, hb⟩
    · rintro σ H' ⟨c, i', b', z', rfl, sx, hr', hb'⟩
      have S' : SqL K H' r [.ref L, .int i', .int b', .int z'] := lstOf hr'
      have hL' : H' L = some (.lst (ns.map V.int)) := sx _ _ hLr hL0
      refine ⟨_, rfl, r, _, 2, _, rfl, rfl, S', atI_nat (j := 2) rfl, _, _, rfl, rfl, _, rfl, ite2 (fun e => ?_) (fun e => ?_)⟩
      · have e' := of_decide_eq_true e
        refine ⟨_, rfl, r, _, 2, _, rfl, rfl, S', atI_nat (j := 2) rfl, .inl ⟨_, rfl, _, rfl, _, _, rfl, rfl, hm, ?_⟩⟩
        refine ⟨_, rfl, r, _, 2, _, rfl, rfl, S', atI_nat (j := 2) rfl, _, rfl, _, _, rfl, rfl, wide_div hm hm2 (by decide) (by decide), _, rfl, r, _, 2, 2, rfl, rfl, hr', rfl, ?_⟩
        refine ⟨_, rfl, q _ _ (Int.emod_nonneg _ (by omega)) (Int.emod_lt_of_pos _ hm) (fun c o n h => ?_) ⟨⟨ns, i', b' / m, z', upd_same, ?_, Int.ediv_nonneg hb' (by omega)⟩, hLr⟩⟩
        · rw [upd_ne n]; exact sx c o n h
        · rw [upd_ne hLr]; exact hL'
      · refine ⟨_, rfl, r, _, 3, _, rfl, rfl, S', atI_nat (j := 3) rfl, _, _, rfl, rfl, .inr (by decide), .inl ⟨_, rfl, _, _, rfl, rfl, (show (0 : Int) < 2147483629 by decide), _, rfl, _, _, rfl, rfl, hm, ?_⟩⟩
        exact q _ _ (Int.emod_nonneg _ (by omega)) (Int.emod_lt_of_pos _ hm) sx ⟨⟨ns, i', b', z', hr', hL', hb'⟩, hLr⟩
end

end R
namespace R
open PySem PySem.Spec PyProof.Rows L2
/-! ## the law's bars -/
theorem choices_add (bs : List Bar) (b : Bar) : choices (bs ++ [b]) = choices bs * max 1 b.2.length := by
  unfold choices
  rw [List.foldl_append]
  rfl
theorem wh_add (bs : List Bar) (b : Bar) : wh (bs ++ [b]) = Nat.lcm (wh bs) b.1.natAbs := by
  unfold wh
  rw [List.foldl_append]
  rfl
theorem LotAt.mk' {K : PySem.W.Frag} {H : Hp} {a : Addr} {l : List Int} (h : SqT K H a (l.map V.int)) : LotAt K H (.ref a) l := ⟨a, rfl, h⟩
theorem BarsAt.add {K : PySem.W.Frag} {H : Hp} {p : Addr} {xs : List V} {x : V} {bs : List Bar} {b : Bar} (hp : SqT K H p (xs ++ [x])) (n : xs.length = bs.length)
    (h : ∀ (i : Nat) x b, xs[i]? = some x → bs[i]? = some b → BarAt K H x b) (hx : BarAt K H x b) : BarsAt K H (.ref p) (bs ++ [b]) := by
  refine ⟨p, xs ++ [x], rfl, hp, by rw [List.length_append, List.length_append, n]; rfl, fun i y c h1 h2 => ?_⟩
  by_cases hi : i < xs.length
  · rw [List.getElem?_append_left hi] at h1
    rw [List.getElem?_append_left (by omega)] at h2
    exact h i y c h1 h2
  · have hl := (List.getElem?_eq_some_iff.mp h1).1
    rw [List.length_append] at hl
    have e : i = xs.length := by
      have : [x].length = 1 := rfl
      omega
    subst e
    rw [List.getElem?_append_right (Nat.le_refl _), Nat.sub_self] at h1
    rw [n, List.getElem?_append_right (Nat.le_refl _), Nat.sub_self] at h2
    cases Option.some.inj h1
    cases Option.some.inj h2
    exact hx
structure Drawn (most top : Nat) (bs : List Bar) : Prop where
  len : bs.length ≤ most
  bar : ∀ b ∈ bs, 1 ≤ b.1 ∧ b.1 ≤ top ∧ LotOk b.1 b.2
  many : choices bs ≤ 2000
def sp_l_bars (K : PySem.W.Frag) : Sp := fun vs H Q _ => ∃ (r L : Addr) (most top : Nat), vs = [.ref r, .int most, .int top] ∧ RowAt H r L ∧ most ≤ 6 ∧ 1 ≤ top ∧ top ≤ 60 ∧
  ∀ v bs H', Drawn most top bs → BarsAt K H' v bs → Kp r H H' → RowAt H' r L → Q v H'
/-- a lot that grows -/
structure Grown (i : Nat) (l : List Int) : Prop where
  up : l.Pairwise (· < ·)
  ge : ∀ x ∈ l, 0 ≤ x
  lt : ∀ x ∈ l, x < (i : Int)
  len : l.length ≤ i
theorem Grown.skip {i : Nat} {l : List Int} (g : Grown i l) : Grown (i + 1) l := ⟨g.up, g.ge, fun x h => by have := g.lt x h; omega, Nat.le_succ_of_le g.len⟩
theorem Grown.add {i : Nat} {l : List Int} (g : Grown i l) : Grown (i + 1) (l ++ [(i : Int)]) := by
  refine ⟨List.pairwise_append.mpr ⟨g.up, List.pairwise_singleton _ _, fun x h y hy => ?_⟩, fun x h => ?_, fun x h => ?_, ?_⟩
  · rw [List.mem_singleton.mp hy]
    exact g.lt x h
  · rcases List.mem_append.mp h with h | h
    · exact g.ge x h
    · rw [List.mem_singleton.mp h]; omega
  · rcases List.mem_append.mp h with h | h
    · have := g.lt x h; omega
    · rw [List.mem_singleton.mp h]; omega
  · rw [List.length_append]
    have := g.len
    show l.length + 1 ≤ i + 1
    omega
theorem cutOne (l : List Int) : cutV (l.map V.int) none (some 1) = (l.take 1).map V.int := by
  unfold cutV
  rw [HT.sIx_none, show HT.sIx (l.map V.int).length (l.map V.int).length (some 1) = min 1 (l.map V.int).length from HT.sIx_nat _ _ 1]
  cases l with
  | nil => rfl
  | cons x r =>
    rw [show min 1 ((x :: r).map V.int).length = 1 by rw [List.length_map, List.length_cons]; omega]
    rfl
theorem maxIte (n : Nat) : (if (n : Int) > 1 then (n : Int) else 1) = ((max 1 n : Nat) : Int) := by
  split <;> omega

end R
namespace R
open PySem PySem.Spec PyProof.Rows L2
/-! ## the law's own reckoning -/
theorem fade_step {a b i M : Nat} (hb : 0 < b) (hab : b < a) (h : a * b * 2 ^ i < M) : b * (a % b) * 2 ^ (i + 1) < M := by
  have h1 : a % b < b := Nat.mod_lt _ hb
  have h2 := Nat.mod_add_div a b
  have h3 : 1 ≤ a / b := Nat.div_pos (Nat.le_of_lt hab) hb
  have h4 : b * 1 ≤ b * (a / b) := Nat.mul_le_mul_left b h3
  have h5 : (a % b) * 2 ≤ a := by omega
  have h6 : b * ((a % b) * 2) ≤ b * a := Nat.mul_le_mul_left b h5
  have h7 : b * ((a % b) * 2) * 2 ^ i ≤ b * a * 2 ^ i := Nat.mul_le_mul_right _ h6
  have e : b * (a % b) * 2 ^ (i + 1) = b * ((a % b) * 2) * 2 ^ i := by
    rw [Nat.pow_succ, Nat.mul_comm (2 ^ i) 2, ← Nat.mul_assoc, ← Nat.mul_assoc]
  rw [e]
  rw [Nat.mul_comm b a] at h7
  omega
/-- how the two numbers of Euclid's walk fade -/
def Fade (M i a b : Nat) : Prop := (i = 0 ∧ a * b < M ∧ ∀ c, c < b → b * c < M) ∨ (∃ j, i = j + 1 ∧ b < a ∧ a * b * 2 ^ j < M)
theorem Fade.step {M i a b : Nat} (hb : b ≠ 0) (h : Fade M i a b) : Fade M (i + 1) b (a % b) := by
  have hb' : 0 < b := Nat.pos_of_ne_zero hb
  refine .inr ⟨i, rfl, Nat.mod_lt _ hb', ?_⟩
  rcases h with ⟨rfl, h1, h2⟩ | ⟨j, rfl, h1, h2⟩
  · rw [Nat.pow_zero, Nat.mul_one]
    exact h2 _ (Nat.mod_lt _ hb')
  · exact fade_step hb' h1 h2
theorem Fade.end_ {a b : Nat} (h : Fade (2 ^ 280) 300 a b) : b = 0 := by
  rcases h with ⟨h, _⟩ | ⟨j, hj, h1, h2⟩
  · omega
  · obtain rfl : j = 299 := by omega
    by_cases hb : b = 0
    · exact hb
    · have h3 : 1 * 1 ≤ a * b := Nat.mul_le_mul (by omega) (by omega)
      have h4 : 1 * 2 ^ 299 ≤ a * b * 2 ^ 299 := Nat.mul_le_mul_right _ h3
      exact absurd (Nat.lt_of_le_of_lt h4 h2) (by decide)
theorem Fade.start {a b : Nat} (ha : a < 2 ^ 140) (hb : b < 2 ^ 140) : Fade (2 ^ 280) 0 a b := by
  have e : (2 : Nat) ^ 140 * 2 ^ 140 = 2 ^ 280 := by rw [← Nat.pow_add]
  refine .inl ⟨rfl, ?_, fun c hc => ?_⟩
  · rw [← e]
    exact Nat.mul_lt_mul'' ha hb
  · rw [← e]
    exact Nat.mul_lt_mul'' hb (Nat.lt_trans hc hb)
def sp_l_gcd : Sp := fun vs H Q _ => ∃ a b : Nat, vs = [.int a, .int b] ∧ a < 2 ^ 140 ∧ b < 2 ^ 140 ∧ Q (.int (Nat.gcd a b : Nat)) H
theorem modNat (a b : Nat) : (a : Int) % (b : Int) = ((a % b : Nat) : Int) := (Int.natCast_emod a b).symm
theorem divNat (a b : Nat) : (a : Int) / (b : Int) = ((a / b : Nat) : Int) := (Int.natCast_ediv a b).symm
/-! the whole -/
theorem lcm_le_mul (m n : Nat) : Nat.lcm m n ≤ m * n := Nat.div_le_self _ _
theorem lcm_div (w m : Nat) : w / Nat.gcd w m * m = Nat.lcm w m := by
  unfold Nat.lcm
  exact Nat.div_mul_right_comm (Nat.gcd_dvd_left w m) m
theorem snocInd {α : Type} {p : List α → Prop} (h0 : p []) (hs : ∀ l x, p l → p (l ++ [x])) : ∀ l, p l := by
  intro l
  rw [← List.reverse_reverse l]
  induction l.reverse with
  | nil => exact h0
  | cons x r ih =>
    rw [List.reverse_cons]
    exact hs _ _ ih
theorem wh_pos : ∀ (bs : List Bar), (∀ b ∈ bs, 1 ≤ b.1) → 0 < wh bs := by
  refine snocInd (fun _ => by decide) fun bs b ih h => ?_
  · skip
    rw [wh_add]
    have h1 := ih fun c hc => h c (List.mem_append_left _ hc)
    have h2 := h b (List.mem_append_right _ (List.mem_singleton.mpr rfl))
    exact Nat.lcm_pos h1 (by omega)
theorem wh_le : ∀ (bs : List Bar), (∀ b ∈ bs, b.1.natAbs ≤ 1000000) → wh bs ≤ 1000000 ^ bs.length := by
  refine snocInd (fun _ => by decide) fun bs b ih h => ?_
  · skip
    rw [wh_add, List.length_append]
    have h1 := ih fun c hc => h c (List.mem_append_left _ hc)
    have h2 := h b (List.mem_append_right _ (List.mem_singleton.mpr rfl))
    exact Nat.le_trans (lcm_le_mul _ _) (Nat.mul_le_mul h1 h2)
structure ModsOk (bs : List Bar) : Prop where
  six : bs.length ≤ 6
  mod : ∀ b ∈ bs, 1 ≤ b.1 ∧ b.1 ≤ 1000000
theorem ModsOk.lt {bs : List Bar} (h : ModsOk bs) : wh bs < 2 ^ 130 := by
  have h1 := wh_le bs fun b hb => by have := h.mod b hb; omega
  have h2 : (1000000 : Nat) ^ bs.length ≤ 1000000 ^ 6 := Nat.pow_le_pow_right (by decide) h.six
  exact Nat.lt_of_le_of_lt (Nat.le_trans h1 h2) (by decide)
theorem ModsOk.take {bs : List Bar} (h : ModsOk bs) (n : Nat) : ModsOk (bs.take n) := ⟨by rw [List.length_take]; have := h.six; omega, fun b hb => h.mod b (List.mem_of_mem_take hb)⟩
theorem ModsOk.pos {bs : List Bar} (h : ModsOk bs) : 0 < wh bs := wh_pos bs fun b hb => (h.mod b hb).1
def sp_l_whole (K : PySem.W.Frag) : Sp := fun vs H Q _ => ∃ (v : V) (bs : List Bar), vs = [v] ∧ BarsAt K H v bs ∧ ModsOk bs ∧ Q (.int (wh bs : Nat)) H
theorem takeSucc {α : Type} {l : List α} {i : Nat} {x : α} (h : l[i]? = some x) : l.take (i + 1) = l.take i ++ [x] := by
  rw [List.take_add_one, h]
  rfl

/-! what fits -/
theorem inVInt (x : Int) (l : List Int) : inV (.int x) (l.map V.int) = decide (x ∈ l) := by
  unfold inV
  rw [List.any_map]
  by_cases h : x ∈ l
  · rw [decide_eq_true h]
    exact List.any_eq_true.mpr ⟨x, h, by show (x == x) = true; exact beq_self_eq_true x⟩
  · rw [decide_eq_false h]
    refine List.any_eq_false.mpr fun y hy e => h ?_
    have e' : (y == x) = true := e
    rw [← beq_iff_eq.mp e']
    exact hy
theorem fitsB_add (bs : List Bar) (b : Bar) (x : Int) : fitsB (bs ++ [b]) x = (fitsB bs x && decide (x % b.1 ∈ b.2)) := by
  unfold fitsB
  rw [List.all_append]
  simp
theorem fitsB_take {bs : List Bar} {x : Int} {i : Nat} {b : Bar} (hb : bs[i]? = some b) (h : x % b.1 ∉ b.2) : fitsB bs x = false := by
  unfold fitsB
  refine List.all_eq_false.mpr ⟨b, List.mem_of_getElem? hb, ?_⟩
  rw [decide_eq_false h]
  exact Bool.false_ne_true
def sp_l_fits (K : PySem.W.Frag) : Sp := fun vs H Q _ => ∃ (v : V) (bs : List Bar) (x : Int), vs = [v, .int x] ∧ BarsAt K H v bs ∧ (∀ b ∈ bs, 1 ≤ b.1) ∧ Q (.bl (fitsB bs x)) H
def sp_l_own (K : PySem.W.Frag) : Sp := fun vs H Q _ => ∃ (v : V) (bs : List Bar), vs = [v] ∧ BarsAt K H v bs ∧ ModsOk bs ∧ wh bs ≤ 100000 ∧
  ∀ D H', Same H H' → H D = none → H' D = some (.lst ((cls bs).map V.int)) → Q (.ref D) H'
def clsTo (bs : List Bar) (n : Nat) : List Int := ((List.range n).map fun i : Nat => (i : Int)).filter (fitsB bs)
theorem clsTo_succ (bs : List Bar) (n : Nat) : clsTo bs (n + 1) = clsTo bs n ++ (if fitsB bs n = true then [(n : Int)] else []) := by
  unfold clsTo
  rw [List.range_succ, List.map_append, List.filter_append]
  by_cases h : fitsB bs n = true
  · rw [if_pos h, List.map_singleton, List.filter_cons_of_pos h]
    rfl
  · rw [if_neg h, List.map_singleton, List.filter_cons_of_neg h]
    rfl
theorem clsTo_len (bs : List Bar) (n : Nat) : (clsTo bs n).length ≤ n := by
  have h := List.length_filter_le (fitsB bs) ((List.range n).map fun i : Nat => (i : Int))
  rw [List.length_map, List.length_range] at h
  exact h

end R
namespace R
open PySem PySem.Spec PyProof.Rows L2
/-! ## joining rests: the mathematics -/
theorem emod_of_dvd_sub {a b m : Int} (h0 : 0 ≤ b) (h1 : b < m) (h : m ∣ a - b) : a % m = b := by
  obtain ⟨k, hk⟩ := h
  have e : a = b + m * k := by omega
  rw [e, Int.add_mul_emod_self_left]
  exact Int.emod_eq_of_lt h0 h1
def rowL (g turns back whole known : Int) (lot : List Int) : List Int := (lot.filter fun r => decide ((r - known) % g = 0)).map fun r => known + whole * ((r - known) / g * back % turns)
def joinL (g turns back whole : Int) (classes lot : List Int) : List Int := classes.flatMap fun k => rowL g turns back whole k lot
theorem rowL_add (g turns back whole known r : Int) (lot : List Int) : rowL g turns back whole known (lot ++ [r]) = rowL g turns back whole known lot ++ (if (r - known) % g = 0 then [known + whole * ((r - known) / g * back % turns)] else []) := by
  unfold rowL
  rw [List.filter_append, List.map_append]
  by_cases h : (r - known) % g = 0
  · rw [if_pos h, List.filter_cons_of_pos (by rw [decide_eq_true h])]
    rfl
  · rw [if_neg h, List.filter_cons_of_neg (by rw [decide_eq_false h]; exact Bool.false_ne_true)]
    rfl
theorem joinL_add (g turns back whole k : Int) (classes lot : List Int) : joinL g turns back whole (classes ++ [k]) lot = joinL g turns back whole classes lot ++ rowL g turns back whole k lot := by
  unfold joinL
  rw [List.flatMap_append]
  congr 1
  exact List.append_nil _
theorem mem_rowL {g turns back whole known y : Int} {lot : List Int} : y ∈ rowL g turns back whole known lot ↔ ∃ r ∈ lot, (r - known) % g = 0 ∧ y = known + whole * ((r - known) / g * back % turns) := by
  unfold rowL
  rw [List.mem_map]
  constructor
  · rintro ⟨r, hr, e⟩
    obtain ⟨h1, h2⟩ := List.mem_filter.mp hr
    exact ⟨r, h1, of_decide_eq_true h2, e.symm⟩
  · rintro ⟨r, h1, h2, e⟩
    exact ⟨r, List.mem_filter.mpr ⟨h1, decide_eq_true h2⟩, e.symm⟩
theorem mem_joinL {g turns back whole y : Int} {classes lot : List Int} : y ∈ joinL g turns back whole classes lot ↔ ∃ k ∈ classes, ∃ r ∈ lot, (r - k) % g = 0 ∧ y = k + whole * ((r - k) / g * back % turns) := by
  unfold joinL
  rw [List.mem_flatMap]
  constructor
  · rintro ⟨k, hk, h⟩
    exact ⟨k, hk, mem_rowL.mp h⟩
  · rintro ⟨k, hk, h⟩
    exact ⟨k, hk, mem_rowL.mpr h⟩
/-- what the joining leans on: g the common measure, w = g * w', m = g * turns, back the inverse of w' by turns -/
structure Meet (g turns back w w' m : Int) : Prop where
  g0 : 0 < g
  t0 : 0 < turns
  w0 : 0 < w
  ew : w = g * w'
  em : m = g * turns
  inv : turns ∣ w' * back - 1
section
variable {g turns back w w' m : Int}
theorem Meet.m0 (M : Meet g turns back w w' m) : 0 < m := by rw [M.em]; exact Int.mul_pos M.g0 M.t0
theorem Meet.out (M : Meet g turns back w w' m) {k r : Int} (hd : (r - k) % g = 0) : m ∣ (k + w * ((r - k) / g * back % turns)) - r := by
  obtain ⟨e, he⟩ := M.inv
  have hq : g * ((r - k) / g) = r - k := Int.mul_ediv_cancel' (Int.dvd_of_emod_eq_zero hd)
  generalize (r - k) / g = q at hq ⊢
  have ht := Int.mul_ediv_add_emod (q * back) turns
  generalize (q * back) % turns = t at ht ⊢
  generalize (q * back) / turns = j at ht
  refine ⟨q * e - w' * j, ?_⟩
  have h1 : w' * t - q = turns * (q * e - w' * j) := by
    have : t = q * back - turns * j := by omega
    rw [this, Int.mul_sub, Int.mul_sub]
    have a1 : w' * (q * back) = q * (w' * back) := by rw [← Int.mul_assoc, Int.mul_comm w' q, Int.mul_assoc]
    have a2 : w' * back = turns * e + 1 := by omega
    have a3 : w' * (turns * j) = turns * (w' * j) := by rw [← Int.mul_assoc, Int.mul_comm w' turns, Int.mul_assoc]
    have a4 : q * (turns * e + 1) = turns * (q * e) + q := by rw [Int.mul_add, Int.mul_one, ← Int.mul_assoc, Int.mul_comm q turns, Int.mul_assoc]
    rw [a1, a2, a3, a4]
    omega
  have h2 : k + w * t - r = g * (w' * t - q) := by
    rw [Int.mul_sub, hq, M.ew, ← Int.mul_assoc]
    omega
  rw [h2, h1, M.em, Int.mul_assoc]
theorem Meet.into (M : Meet g turns back w w' m) {y : Int} (h0 : 0 ≤ y) (h1 : y < w * turns) : (y % m - y % w) % g = 0 ∧ y = y % w + w * ((y % m - y % w) / g * back % turns) := by
  obtain ⟨e, he⟩ := M.inv
  have hw := Int.mul_ediv_add_emod y w
  have hm := Int.mul_ediv_add_emod y m
  have k0 := Int.emod_nonneg y (Int.ne_of_gt M.w0)
  have t0 : 0 ≤ y / w := Int.ediv_nonneg h0 (Int.le_of_lt M.w0)
  have t1 : y / w < turns := Int.ediv_lt_of_lt_mul M.w0 (by rw [Int.mul_comm]; exact h1)
  generalize y / w = t at hw t0 t1
  generalize y / m = s at hm
  generalize y % w = k at hw k0 ⊢
  generalize y % m = r at hm ⊢
  have hd : r - k = g * (w' * t - turns * s) := by
    have a1 : w * t = g * (w' * t) := by rw [M.ew, Int.mul_assoc]
    have a2 : m * s = g * (turns * s) := by rw [M.em, Int.mul_assoc]
    rw [Int.mul_sub, ← a1, ← a2]
    omega
  rw [hd]
  refine ⟨Int.mul_emod_right _ _, ?_⟩
  rw [Int.mul_ediv_cancel_left _ (Int.ne_of_gt M.g0)]
  have hq : (w' * t - turns * s) * back = t + turns * (e * t - s * back) := by
    have a2 : w' * back = turns * e + 1 := by omega
    rw [Int.sub_mul, Int.mul_sub]
    have a3 : w' * t * back = (w' * back) * t := by rw [Int.mul_assoc, Int.mul_comm t back, ← Int.mul_assoc]
    have a4 : (turns * e + 1) * t = turns * (e * t) + t := by rw [Int.add_mul, Int.one_mul, Int.mul_assoc]
    have a5 : turns * s * back = turns * (s * back) := Int.mul_assoc _ _ _
    rw [a3, a2, a4, a5]
    omega
  rw [hq, Int.add_mul_emod_self_left, Int.emod_eq_of_lt t0 t1]
  omega
/-- a number made of known and rest tells both -/
theorem Meet.tells (M : Meet g turns back w w' m) {k r : Int} (hk : 0 ≤ k ∧ k < w) (hr : 0 ≤ r ∧ r < m) (hd : (r - k) % g = 0) :
    (k + w * ((r - k) / g * back % turns)) % w = k ∧ (k + w * ((r - k) / g * back % turns)) % m = r := by
  refine ⟨?_, emod_of_dvd_sub hr.1 hr.2 (M.out hd)⟩
  rw [Int.add_mul_emod_self_left]
  exact Int.emod_eq_of_lt hk.1 hk.2
theorem Meet.rowNodup (M : Meet g turns back w w' m) {k : Int} {lot : List Int} (hk : 0 ≤ k ∧ k < w) (hl : ∀ r ∈ lot, 0 ≤ r ∧ r < m) (nd : lot.Nodup) : (rowL g turns back w k lot).Nodup := by
  unfold rowL
  have nf : (lot.filter fun r => decide ((r - k) % g = 0)).Nodup := nd.filter _
  refine List.pairwise_map.mpr (List.Pairwise.imp_of_mem (fun {a b} ha hb hne e => hne ?_) nf)
  obtain ⟨a1, a2⟩ := List.mem_filter.mp ha
  obtain ⟨b1, b2⟩ := List.mem_filter.mp hb
  have q1 := (M.tells hk (hl _ a1) (of_decide_eq_true a2)).2
  have q2 := (M.tells hk (hl _ b1) (of_decide_eq_true b2)).2
  rw [← q1, ← q2, e]
theorem Meet.joinNodup (M : Meet g turns back w w' m) {cs lot : List Int} (hc : ∀ k ∈ cs, 0 ≤ k ∧ k < w) (nc : cs.Nodup) (hl : ∀ r ∈ lot, 0 ≤ r ∧ r < m) (nd : lot.Nodup) : (joinL g turns back w cs lot).Nodup := by
  induction cs with
  | nil => exact List.nodup_nil
  | cons k r ih =>
    obtain ⟨n1, n2⟩ := List.nodup_cons.mp nc
    show (rowL g turns back w k lot ++ joinL g turns back w r lot).Nodup
    refine List.nodup_append.mpr ⟨M.rowNodup (hc k List.mem_cons_self) hl nd, ih (fun x hx => hc x (List.mem_cons_of_mem _ hx)) n2, fun a ha b hb e => ?_⟩
    obtain ⟨r1, hr1, d1, e1⟩ := mem_rowL.mp ha
    obtain ⟨k2, hk2, r2, hr2, d2, e2⟩ := mem_joinL.mp hb
    have q1 := (M.tells (hc k List.mem_cons_self) (hl _ hr1) d1).1
    have q2 := (M.tells (hc k2 (List.mem_cons_of_mem _ hk2)) (hl _ hr2) d2).1
    rw [← e1] at q1
    rw [← e2] at q2
    rw [e] at q1
    rw [← q1, q2] at n1
    exact n1 hk2
end
/-! what fits by a row of bars hangs on the rest by the whole alone -/
theorem dvd_wh : ∀ (bs : List Bar) (b : Bar), b ∈ bs → b.1.natAbs ∣ wh bs := by
  refine snocInd (fun b h => by simp at h) fun bs c ih b h => ?_
  rw [wh_add]
  rcases List.mem_append.mp h with h | h
  · exact Nat.dvd_trans (ih b h) (Nat.dvd_lcm_left _ _)
  · rw [List.mem_singleton.mp h]
    exact Nat.dvd_lcm_right _ _
theorem emod_emod_wh {bs : List Bar} {b : Bar} (h : b ∈ bs) (x : Int) : x % (wh bs : Int) % b.1 = x % b.1 := by
  refine Int.emod_emod_of_dvd x ?_
  have := dvd_wh bs b h
  exact Int.natAbs_dvd.mp (Int.natCast_dvd_natCast.mpr this)
theorem fitsB_iff {bs : List Bar} {x : Int} : fitsB bs x = true ↔ ∀ b ∈ bs, x % b.1 ∈ b.2 := by
  unfold fitsB
  rw [List.all_eq_true]
  exact ⟨fun h b hb => of_decide_eq_true (h b hb), fun h b hb => decide_eq_true (h b hb)⟩
theorem fitsB_mod (bs : List Bar) (x : Int) : fitsB bs (x % (wh bs : Int)) = fitsB bs x := by
  rw [Bool.eq_iff_iff, fitsB_iff, fitsB_iff]
  exact ⟨fun h b hb => by rw [← emod_emod_wh hb]; exact h b hb, fun h b hb => by rw [emod_emod_wh hb]; exact h b hb⟩
/-- xs: each number from 0 to w - 1 that fits, once -/
structure ClsIs (bs : List Bar) (xs : List Int) : Prop where
  nd : xs.Nodup
  mem : ∀ x, x ∈ xs ↔ 0 ≤ x ∧ x < (wh bs : Int) ∧ fitsB bs x = true
theorem ClsIs.nil : ClsIs [] [0] := by
  refine ⟨by simp, fun x => ?_⟩
  rw [List.mem_singleton]
  have e : (wh [] : Int) = 1 := rfl
  rw [e]
  constructor
  · rintro rfl
    exact ⟨by decide, by decide, rfl⟩
  · rintro ⟨a, b, _⟩
    omega
theorem ClsIs.add {g turns back w' : Int} {bs : List Bar} {b : Bar} {xs : List Int} (M : Meet g turns back (wh bs : Int) w' b.1) (h : ClsIs bs xs) (L : LotOk b.1 b.2) (hw : (wh (bs ++ [b]) : Int) = (wh bs : Int) * turns) :
    ClsIs (bs ++ [b]) (joinL g turns back (wh bs : Int) xs b.2) := by
  have hc : ∀ k ∈ xs, 0 ≤ k ∧ k < (wh bs : Int) := fun k hk => let ⟨a, c, _⟩ := (h.mem k).mp hk; ⟨a, c⟩
  have hl : ∀ r ∈ b.2, 0 ≤ r ∧ r < b.1 := fun r hr => ⟨L.ge r hr, L.lt r hr⟩
  refine ⟨M.joinNodup hc h.nd hl (L.up.imp fun h => Int.ne_of_lt h), fun y => ?_⟩
  rw [mem_joinL, hw, fitsB_add]
  constructor
  · rintro ⟨k, hk, r, hr, hd, e⟩
    obtain ⟨q1, q2⟩ := M.tells (hc k hk) (hl r hr) hd
    obtain ⟨k0, k1, kf⟩ := (h.mem k).mp hk
    have t0 := Int.emod_nonneg ((r - k) / g * back) (Int.ne_of_gt M.t0)
    have t1 := Int.emod_lt_of_pos ((r - k) / g * back) M.t0
    rw [← e] at q1 q2
    generalize (r - k) / g * back % turns = t at e t0 t1
    have p0 : 0 ≤ (wh bs : Int) * t := Int.mul_nonneg (Int.le_of_lt M.w0) t0
    have p1 : (wh bs : Int) * (t + 1) ≤ (wh bs : Int) * turns := Int.mul_le_mul_of_nonneg_left (by omega) (Int.le_of_lt M.w0)
    rw [Int.mul_add, Int.mul_one] at p1
    refine ⟨by omega, by omega, ?_⟩
    rw [q2, decide_eq_true hr, Bool.and_true, ← fitsB_mod, q1]
    exact kf
  · rintro ⟨y0, y1, yf⟩
    obtain ⟨f1, f2⟩ := Bool.and_eq_true_iff.mp yf
    obtain ⟨d1, d2⟩ := M.into y0 y1
    refine ⟨y % (wh bs : Int), (h.mem _).mpr ⟨Int.emod_nonneg _ (Int.ne_of_gt M.w0), Int.emod_lt_of_pos _ M.w0, by rw [fitsB_mod]; exact f1⟩, y % b.1, of_decide_eq_true f2, d1, d2⟩
/-- sorted, it is the list of them in order -/
theorem cls_is (bs : List Bar) : ClsIs bs (cls bs) := by
  refine ⟨?_, fun x => ?_⟩
  · refine List.Pairwise.filter _ (List.pairwise_map.mpr (List.nodup_range.imp fun h e => h (by omega)))
  · unfold cls
    rw [List.mem_filter, List.mem_map]
    constructor
    · rintro ⟨⟨n, hn, rfl⟩, f⟩
      have := List.mem_range.mp hn
      exact ⟨by omega, by omega, f⟩
    · rintro ⟨x0, x1, f⟩
      exact ⟨⟨x.toNat, List.mem_range.mpr (by omega), by omega⟩, f⟩
theorem cls_up (bs : List Bar) : (cls bs).Pairwise (· < ·) := by
  unfold cls
  refine List.Pairwise.filter _ (List.pairwise_map.mpr (List.pairwise_lt_range.imp fun h => by omega))
theorem sorted_unique : ∀ {xs ys : List Int}, xs.Pairwise (· < ·) → ys.Pairwise (· < ·) → (∀ x, x ∈ xs ↔ x ∈ ys) → xs = ys
  | [], [], _, _, _ => rfl
  | [], y :: r, _, _, h => absurd ((h y).mpr List.mem_cons_self) (by simp)
  | x :: r, [], _, _, h => absurd ((h x).mp List.mem_cons_self) (by simp)
  | x :: r, y :: s, p, q, h => by
    obtain ⟨p1, p2⟩ := List.pairwise_cons.mp p
    obtain ⟨q1, q2⟩ := List.pairwise_cons.mp q
    have e : x = y := by
      rcases List.mem_cons.mp ((h x).mp List.mem_cons_self) with e | e
      · exact e
      · rcases List.mem_cons.mp ((h y).mpr List.mem_cons_self) with f | f
        · exact f.symm
        · have := q1 x e
          have := p1 y f
          omega
    subst e
    congr 1
    refine sorted_unique p2 q2 fun z => ⟨fun hz => ?_, fun hz => ?_⟩
    · rcases List.mem_cons.mp ((h z).mp (List.mem_cons_of_mem _ hz)) with e | e
      · have := p1 z hz
        omega
      · exact e
    · rcases List.mem_cons.mp ((h z).mpr (List.mem_cons_of_mem _ hz)) with e | e
      · have := q1 z hz
        omega
      · exact e
theorem le_nodup_lt {xs : List Int} (h : xs.Pairwise (· ≤ ·)) (n : xs.Nodup) : xs.Pairwise (· < ·) := by
  refine (h.and n).imp fun ⟨a, b⟩ => ?_
  omega
theorem ClsIs.sorted {bs : List Bar} {xs ys : List Int} (h : ClsIs bs xs) (p : ys.Perm xs) (s : ys.Pairwise (· ≤ ·)) : ys = cls bs := by
  refine sorted_unique (le_nodup_lt s (p.nodup_iff.mpr h.nd)) (cls_up bs) fun x => ?_
  rw [p.mem_iff, h.mem, (cls_is bs).mem]
theorem joinL_len (g turns back whole : Int) (classes lot : List Int) : (joinL g turns back whole classes lot).length ≤ classes.length * lot.length := by
  induction classes with
  | nil => exact Nat.zero_le _
  | cons k r ih =>
    show (rowL g turns back whole k lot ++ joinL g turns back whole r lot).length ≤ (r.length + 1) * lot.length
    have h1 : (rowL g turns back whole k lot).length ≤ lot.length := by
      unfold rowL
      rw [List.length_map]
      exact List.length_filter_le _ _
    rw [List.length_append, Nat.add_mul, Nat.one_mul]
    omega

end R
namespace R
open PySem PySem.Spec PyProof.Rows L2
/-! ## the program's own: the checks, the joining, the sieve -/
/-- Euclid's walk with its factors: r, a the two numbers, F, G the factors' sizes -/
structure Euc (n m r a F G : Nat) (f g : Int) : Prop where
  r1 : 1 ≤ r
  co : Nat.gcd r a = 1
  sum : r * G + a * F = m
  sg : (f = F ∧ g = -(G : Int)) ∨ (f = -(F : Int) ∧ g = G)
  df : (m : Int) ∣ f * n - r
  dg : (m : Int) ∣ g * n - a
theorem Euc.start {n m : Nat} (h1 : 1 ≤ n) (co : Nat.gcd n m = 1) : Euc n m n m 1 0 1 0 := by
  refine ⟨h1, co, by omega, .inl ⟨rfl, rfl⟩, ⟨0, by omega⟩, ⟨-1, by omega⟩⟩
theorem Euc.step {n m r a F G : Nat} {f g : Int} (E : Euc n m r a F G f g) (ha : a ≠ 0) : Euc n m a (r % a) G (F + r / a * G) g (f - ((r / a : Nat) : Int) * g) := by
  have hd := Nat.div_add_mod r a
  refine ⟨Nat.pos_of_ne_zero ha, ?_, ?_, ?_, E.dg, ?_⟩
  · rw [Nat.gcd_comm a (r % a), ← Nat.gcd_rec, Nat.gcd_comm]
    exact E.co
  · have e := E.sum
    rw [← hd] at e
    rw [← e, Nat.mul_add, Nat.add_mul, Nat.mul_assoc]
    omega
  · rcases E.sg with ⟨h1, h2⟩ | ⟨h1, h2⟩
    · refine .inr ⟨h2, ?_⟩
      rw [h1, h2, Int.mul_neg, Int.natCast_add, Int.natCast_mul]
      omega
    · refine .inl ⟨h2, ?_⟩
      rw [h1, h2, Int.natCast_add, Int.natCast_mul]
      omega
  · obtain ⟨x, hx⟩ := E.df
    obtain ⟨y, hy⟩ := E.dg
    refine ⟨x - ((r / a : Nat) : Int) * y, ?_⟩
    have e1 : ((r : Nat) : Int) = (a : Int) * ((r / a : Nat) : Int) + ((r % a : Nat) : Int) := by
      rw [← Int.natCast_mul, ← Int.natCast_add, hd]
    have e2 : f * n = (m : Int) * x + r := by omega
    have e3 : g * n = (m : Int) * y + a := by omega
    rw [Int.sub_mul, Int.mul_assoc, e2, e3, Int.mul_sub, Int.mul_add]
    have e4 : ((r / a : Nat) : Int) * ((m : Int) * y) = (m : Int) * (((r / a : Nat) : Int) * y) := by rw [← Int.mul_assoc, Int.mul_comm _ (m : Int), Int.mul_assoc]
    have e5 : ((r / a : Nat) : Int) * (a : Int) = (a : Int) * ((r / a : Nat) : Int) := Int.mul_comm _ _
    rw [e4, e5]
    omega
theorem Euc.last {n m r F G : Nat} {f g : Int} (E : Euc n m r 0 F G f g) : (m : Int) ∣ (n : Int) * (f % (m : Int)) - 1 := by
  have h1 := E.co
  rw [Nat.gcd_zero_right] at h1
  obtain ⟨x, hx⟩ := E.df
  have hm := Int.mul_ediv_add_emod f (m : Int)
  generalize f / (m : Int) = q at hm
  refine ⟨x - (n : Int) * q, ?_⟩
  have e : f % (m : Int) = f - (m : Int) * q := by omega
  have e2 : (n : Int) * f = (m : Int) * x + 1 := by
    rw [Int.mul_comm]
    omega
  rw [e, Int.mul_sub, e2, Int.mul_sub]
  have e4 : (n : Int) * ((m : Int) * q) = (m : Int) * ((n : Int) * q) := by rw [← Int.mul_assoc, Int.mul_comm (n : Int), Int.mul_assoc]
  rw [e4]
  omega
def sp_p_inverse : Sp := fun vs H Q _ => ∃ n m : Nat, vs = [.int n, .int m] ∧ 1 ≤ n ∧ n < 2 ^ 150 ∧ 1 ≤ m ∧ m < 2 ^ 150 ∧ Nat.gcd n m = 1 ∧ ∀ (v : Int) (H' : Hp), Same H H' → 0 ≤ v → v < m → (m : Int) ∣ (n : Int) * v - 1 → Q (.int v) H'
section
variable {P : Program} {w : World} {K : PySem.W.Frag} {mg : Str → Option Value} {base : Heap}
theorem ok_p_inverse (T : Txt K mg) : FnOk P w K mg base CX0 2 T.f_p_inverse T.fd_p_inverse ["number", "modulus"] sp_p_inverse := by
  refine T.F_p_inverse.ok sc_p_inverse (fun vs H Q E h => ?_) (fun cdv A outer s H vs Q E hr h => ?_)
  · obtain ⟨n, m, rfl, _⟩ := h
    rfl
  · obtain ⟨n, m, rfl, h1, h2, h3, h4, co, q⟩ := h
    refine ⟨_, (pss_cons (ps_par (i := 2) (j := 3) (by rfl) sc_p_inverse.nd rfl rfl (by decide) rfl rfl (pa_cons (pv 0) (pa_cons (pv 1) pa_nil)) (by rfl))
      (pss_cons (ps_asg (pe_tup (pa_cons pe_int (pa_cons pe_int pa_nil))) (pg_tup (by rfl) (pgs_cons (pg_name (i := 4) sc_p_inverse.nd rfl (by first | exact .inl rfl | exact .inr rfl)) (pgs_cons (pg_name (i := 5) sc_p_inverse.nd rfl (by first | exact .inl rfl | exact .inr rfl)) pgs_nil))))
      (pss_cons (ps_while PassesOwn.never (pt_cmpR op_ne (pv 3) pe_int (nomark _)) (pss_cons (ps_set (i := 6) sc_p_inverse.nd rfl (by first | exact .inl rfl | exact .inr rfl) (pe_op op_fdivW (pv 2) (pv 3)))
      (pss_cons (ps_par (i := 2) (j := 3) (by rfl) sc_p_inverse.nd rfl rfl (by decide) rfl rfl (pa_cons (pv 3) (pa_cons (pe_op op_sub (pv 2) (pe_op op_mulW (pv 6) (pv 3))) pa_nil)) (by rfl))
      (pss_one (ps_par (i := 4) (j := 5) (by rfl) sc_p_inverse.nd rfl rfl (by decide) rfl rfl (pa_cons (pv 5) (pa_cons (pe_op op_sub (pv 4) (pe_op op_mulW (pv 6) (pv 5))) pa_nil)) (by rfl))))))
      (pss_one (ps_ret (pe_op op_mod (pv 4) (pv 1))))))), ?_⟩
    refine ⟨_, rfl, _, rfl, _, _, rfl, ?_⟩
    refine ⟨sizeOk (by show (2 : Nat) ≤ 100000; decide), fun p np => ⟨p, _, rfl, tupOf upd_same, rfl, _, _, rfl, _, _, rfl, rfl, ?_⟩⟩
    have s1 : Same H (upd H p (.tup [.int 1, .int 0])) := same_upd np
    generalize upd H p (.tup [.int 1, .int 0]) = H1 at s1
    refine while_by (fun σ H2 => ∃ (r a F G : Nat) (f g : Int) (x : Option V), σ = [some (.int n), some (.int m), some (.int r), some (.int a), some (.int f), some (.int g), x] ∧ Euc n m r a F G f g ∧ r < 2 ^ 150 ∧ a < 2 ^ 150 ∧ H2 = H1)
      (fun σ _ => match σ with | [_, _, _, some (.int a), _, _, _] => a.toNat | _ => 0) ⟨n, m, 1, 0, 1, 0, none, rfl, Euc.start h1 co, h2, h4, rfl⟩ ?_ ?_
    · rintro σ H2 ⟨r, a, F, G, f, g, x, rfl, U, hr1, ha1, rfl⟩
      refine ⟨_, rfl, rfl, _, rfl, ite2 (fun e => ?_) (fun e => ?_)⟩
      · have h0 : a ≠ 0 := fun z => by
          subst z
          have e' : (!decide (V.int ((0 : Nat) : Int) = V.int 0)) = true := e
          exact absurd e' (by decide)
        have ap : 0 < a := Nat.pos_of_ne_zero h0
        have hd := Nat.div_add_mod r a
        have q1 : r / a ≤ r := Nat.div_le_self _ _
        have sm := U.sum
        have g1 : 1 * G ≤ r * G := Nat.mul_le_mul_right _ U.r1
        have f1 : 1 * F ≤ a * F := Nat.mul_le_mul_right _ ap
        have gl : g.natAbs < 2 ^ 150 := by
          rcases U.sg with ⟨_, z⟩ | ⟨_, z⟩ <;> omega
        refine ⟨_, rfl, _, rfl, _, _, rfl, rfl, wide_div (b := 150) (by omega) (by rw [Int.natAbs_natCast]; exact ha1) (by decide) (by decide), ?_⟩
        refine ⟨_, rfl, _, rfl, _, rfl, _, rfl, _, _, rfl, rfl, ?_, _, _, rfl, rfl, _, _, rfl, ?_⟩
        · rw [divNat]
          exact wide_mul (a := 150) (b := 150) (by rw [Int.natAbs_natCast]; omega) (by rw [Int.natAbs_natCast]; exact ha1) (by decide) (by decide) (by decide)
        refine ⟨_, rfl, _, rfl, _, rfl, _, rfl, _, _, rfl, rfl, ?_, _, _, rfl, rfl, _, _, rfl, ?_, ?_⟩
        · rw [divNat]
          exact wide_mul (a := 150) (b := 150) (by rw [Int.natAbs_natCast]; omega) gl (by decide) (by decide) (by decide)
        · refine ⟨a, r % a, G, F + r / a * G, g, f - ((r / a : Nat) : Int) * g, some (.int ((r / a : Nat) : Int)), ?_, U.step h0, ha1, Nat.lt_of_le_of_lt (Nat.mod_le _ _) hr1, rfl⟩
          have em : (r : Int) - (r : Int) / (a : Int) * (a : Int) = ((r % a : Nat) : Int) := by
            rw [← modNat, Int.emod_def, Int.mul_comm]
          show ([some (.int n), some (.int m), some (.int a), some (.int ((r : Int) - (r : Int) / (a : Int) * (a : Int))), some (.int g), some (.int (f - (r : Int) / (a : Int) * g)), some (.int ((r : Int) / (a : Int)))] : L2.St) = _
          rw [em, divNat]
        · show ((r : Int) - (r : Int) / (a : Int) * (a : Int)).toNat < ((a : Nat) : Int).toNat
          have em : (r : Int) - (r : Int) / (a : Int) * (a : Int) = ((r % a : Nat) : Int) := by
            rw [← modNat, Int.emod_def, Int.mul_comm]
          rw [em, Int.toNat_natCast, Int.toNat_natCast]
          exact Nat.mod_lt _ ap
      · have e' : ¬ (!decide (V.int (a : Int) = V.int 0)) = true := e
        have a0 : a = 0 := by
          by_cases z : V.int (a : Int) = V.int 0
          · have := V.int.inj z
            omega
          · rw [decide_eq_false z] at e'
            exact absurd rfl e'
        subst a0
        refine ⟨_, rfl, _, rfl, _, _, rfl, rfl, by show 0 < (m : Int); omega, ?_⟩
        exact q _ _ s1 (Int.emod_nonneg _ (by omega)) (Int.emod_lt_of_pos _ (by omega)) U.last
    · intro σ H2 Q1 Q2 hQ h
      obtain ⟨v, hv, hs, k, hk, hq⟩ := h
      exact ⟨v, hv, hs, k, hk, hQ _ _ hq⟩
end

end R
namespace R
open PySem PySem.Spec PyProof.Rows L2
theorem samePut {H H' : Hp} {p : Addr} {o : HO} (s : Same H H') (h : H p = none) : Same H (upd H' p o) := fun b u e => by
  rw [upd_ne (ne_of_none e h)]
  exact s b u e
theorem freshOf {H H' : Hp} {p : Addr} (s : Same H H') (h : H' p = none) : H p = none := s.free h
theorem rowL_len (g turns back whole known : Int) (lot : List Int) : (rowL g turns back whole known lot).length ≤ lot.length := by
  unfold rowL
  rw [List.length_map]
  exact List.length_filter_le _ _
theorem joinL_len2 {g turns back whole k : Int} {xs lot : List Int} {i j : Nat} (hi : i < xs.length) : (joinL g turns back whole (xs.take i) lot ++ rowL g turns back whole k (lot.take j)).length ≤ xs.length * lot.length := by
  have h1 := joinL_len g turns back whole (xs.take i) lot
  have h2 := rowL_len g turns back whole k (lot.take j)
  rw [List.length_take] at h1 h2
  rw [List.length_append]
  have h3 : (i + 1) * lot.length ≤ xs.length * lot.length := Nat.mul_le_mul_right _ hi
  rw [Nat.add_mul, Nat.one_mul] at h3
  have h4 : min i xs.length = i := by omega
  rw [h4] at h1
  omega
def sp_p_joined (K : PySem.W.Frag) : Sp := fun vs H Q _ => ∃ (c : Addr) (xs lot : List Int) (w m : Nat) (v : V), vs = [.ref c, .int w, .int m, v] ∧ SqL K H c (xs.map V.int) ∧ LotAt K H v lot ∧ 1 ≤ w ∧ w < 2 ^ 130 ∧ 1 ≤ m ∧ m ≤ 1000000 ∧
  (∀ x ∈ xs, 0 ≤ x ∧ x < (w : Int)) ∧ (∀ r ∈ lot, 0 ≤ r ∧ r < (m : Int)) ∧ xs.length * lot.length ≤ 100000 ∧
  ∀ (D : Addr) (H' : Hp) (g t b w' : Int), Same H H' → Meet g t b w w' m → ((Nat.lcm w m : Nat) : Int) = (w : Int) * t → H' D = some (.lst ((joinL g t b w xs lot).map V.int)) → Q (.ref D) H'
section
variable {P : Program} {w : World} {K : PySem.W.Frag} {mg : Str → Option Value} {base : Heap}
theorem ok_p_joined (T : Txt K mg) : FnOk P w K mg base CX0 3 T.f_p_joined T.fd_p_joined ["classes", "whole", "modulus", "lot"] (sp_p_joined K) := by
  refine T.F_p_joined.ok sc_p_joined (fun vs H Q E h => ?_) (fun cdv A outer s H vs Q E hr h => ?_)
  · obtain ⟨c, xs, lot, W, m, v, rfl, _⟩ := h
    rfl
  · obtain ⟨c, xs, lot, W, m, v, rfl, hc, hL, w1, w2, m1, m2, hx, hl, hsz, q⟩ := h
    refine ⟨_, (pss_cons (ps_set (i := 4) sc_p_joined.nd rfl (by first | exact .inl rfl | exact .inr rfl) (pe_callBfun cr_gcd (by rfl) T.g_gcd (pa_cons (pv 1) (pa_cons (pv 2) pa_nil))))
      (pss_cons (ps_set (i := 5) sc_p_joined.nd rfl (by first | exact .inl rfl | exact .inr rfl) (pe_op op_fdivW (pv 2) (pv 4)))
      (pss_cons (ps_set (i := 6) sc_p_joined.nd rfl (by first | exact .inl rfl | exact .inr rfl) (pe_call (ok_p_inverse T) (hr.mono (by decide)) (by rfl) T.g_p_inverse T.F_p_inverse.kp T.b_p_inverse .nil pass0 (pa_cons (pe_op op_fdivW (pv 1) (pv 4)) (pa_cons (pv 5) pa_nil))))
      (pss_cons (ps_set (i := 7) sc_p_joined.nd rfl (by first | exact .inl rfl | exact .inr rfl) (pe_lst pa_nil))
      (pss_cons (ps_for PassesOwn.never rfl (pi_list (pv 0)) (pg_name (i := 8) sc_p_joined.nd rfl (by first | exact .inl rfl | exact .inr rfl)) (pss_one (ps_for PassesOwn.never rfl (pi_tup (pv 3)) (pg_name (i := 9) sc_p_joined.nd rfl (by first | exact .inl rfl | exact .inr rfl)) (pss_cons (ps_set (i := 10) sc_p_joined.nd rfl (by first | exact .inl rfl | exact .inr rfl) (pe_op op_sub (pv 9) (pv 8)))
      (pss_one (ps_if (pt_cmpR op_eq (pe_op op_mod (pv 10) (pv 4)) pe_int (nomark _)) (pss_one (ps_expr (pe_bm PySem.F.plainAttrs_list PySem.F.slot_list_append PySem.F.type_list_append mt_append (pv 7) (pa_cons (pe_op op_add (pv 8) (pe_op op_mulW (pv 1) (pe_op op_mod (pe_op op_mulW (pe_op op_fdivW (pv 10) (pv 4)) (pv 6)) (pv 5)))) pa_nil)))) pss_nil))))))
      (pss_one (ps_ret (pv 7)))))))), ?_⟩
    have hg : 0 < Nat.gcd W m := Nat.gcd_pos_of_pos_left _ w1
    have gm : Nat.gcd W m ≤ m := Nat.gcd_le_right _ m1
    have gw : Nat.gcd W m ≤ W := Nat.gcd_le_left _ w1
    refine ⟨_, rfl, _, rfl, _, _, rfl, ?_⟩
    rw [Int.natAbs_natCast, Int.natAbs_natCast]
    have ew : Nat.gcd W m * (W / Nat.gcd W m) = W := Nat.mul_div_cancel' (Nat.gcd_dvd_left W m)
    have em : Nat.gcd W m * (m / Nat.gcd W m) = m := Nat.mul_div_cancel' (Nat.gcd_dvd_right W m)
    have cop : Nat.gcd (W / Nat.gcd W m) (m / Nat.gcd W m) = 1 := by rw [Nat.gcd_div (Nat.gcd_dvd_left W m) (Nat.gcd_dvd_right W m)]; exact Nat.div_self hg
    have lcmE : Nat.lcm W m = W * (m / Nat.gcd W m) := Nat.mul_div_assoc W (Nat.gcd_dvd_right W m)
    have t1 : 1 ≤ m / Nat.gcd W m := Nat.div_pos gm hg
    have t2 : m / Nat.gcd W m ≤ m := Nat.div_le_self _ _
    have v1 : 1 ≤ W / Nat.gcd W m := Nat.div_pos gw hg
    have v2 : W / Nat.gcd W m ≤ W := Nat.div_le_self _ _
    generalize Nat.gcd W m = g at *
    generalize ht : m / g = t at *
    generalize hw : W / g = w' at *
    have dm : (m : Int) / (g : Int) = (t : Int) := by rw [divNat, ht]
    have dw : (W : Int) / (g : Int) = (w' : Int) := by rw [divNat, hw]
    refine ⟨_, rfl, _, rfl, _, _, rfl, rfl, wide_div (b := 30) (by omega) (by rw [Int.natAbs_natCast]; omega) (by decide) (by decide), ?_⟩
    refine ⟨_, rfl, _, rfl, _, _, rfl, rfl, wide_div (b := 30) (by omega) (by rw [Int.natAbs_natCast]; omega) (by decide) (by decide), _, rfl, w', t, by rw [← dw, ← dm]; rfl, v1, by omega, t1, by omega, cop, fun back H1 s1 b0 b1 hb => ?_⟩
    have M : Meet (g : Int) (t : Int) back (W : Int) (w' : Int) (m : Int) := ⟨by omega, by omega, by omega, by rw [← Int.natCast_mul, ew], by rw [← Int.natCast_mul, em], hb⟩
    refine ⟨Nat.zero_le _, fun F nF => ?_⟩
    have nF0 := freshOf s1 nF
    obtain ⟨a, rfl, ta⟩ := hL.ex
    have s2 : Same H (upd H1 F (.lst [])) := samePut s1 nF0
    refine ⟨_, rfl, c, rfl, ⟨_, s2.seq hc⟩, for_list (K := K) (a := c) (xs := xs.map V.int) (fun i σ Hj => ∃ (x8 x9 x10 : Option V), σ = [some (.ref c), some (.int W), some (.int m), some (.ref a), some (.int g), some (.int ((m : Int) / (g : Int))), some (.int back), some (.ref F), x8, x9, x10] ∧
      Same H Hj ∧ Hj F = some (.lst ((joinL g t back W (xs.take i) lot).map V.int)))
      ⟨none, none, none, rfl, s2, upd_same⟩ (fun i σ Hj _ ⟨_, _, _, _, sj, _⟩ => sj.seq hc) ?_ ?_⟩
    · rintro i y σ Hj hi ⟨x8, x9, x10, rfl, sj, ej⟩
      obtain ⟨k, hk, rfl⟩ := getMapInt' hi
      have kx := hx k (List.mem_of_getElem? hk)
      refine ⟨_, rfl, a, rfl, ⟨_, Same.seqTT sj ta⟩, for_tup (K := K) (a := a) (xs := lot.map V.int) (fun j σ H2 => ∃ (x9 x10 : Option V), σ = [some (.ref c), some (.int W), some (.int m), some (.ref a), some (.int g), some (.int ((m : Int) / (g : Int))), some (.int back), some (.ref F), some (.int k), x9, x10] ∧
        Same H H2 ∧ H2 F = some (.lst ((joinL g t back W (xs.take i) lot ++ rowL g t back W k (lot.take j)).map V.int)))
        ⟨x9, x10, rfl, sj, by rw [ej]; show _ = some (HO.lst ((_ ++ []).map V.int)); rw [List.append_nil]⟩ (fun j σ H2 _ ⟨_, _, _, s3, _⟩ => Same.seqTT s3 ta) ?_ ?_⟩
      · rintro j z σ H2 hj ⟨y9, y10, rfl, s3, e3⟩
        obtain ⟨r, hr0, rfl⟩ := getMapInt' hj
        have rx := hl r (List.mem_of_getElem? hr0)
        refine ⟨_, rfl, _, rfl, _, _, rfl, rfl, ?_⟩
        refine ⟨_, rfl, _, rfl, _, _, rfl, rfl, by show (0 : Int) < (g : Int); omega, rfl, _, rfl, ite2 (fun e => ?_) (fun e => ?_)⟩
        · have e0 : (r - k) % (g : Int) = 0 := V.int.inj (of_decide_eq_true e)
          have nd : ((r - k) / (g : Int)).natAbs ≤ (r - k).natAbs := Int.natAbs_ediv_le_natAbs _ _
          refine ⟨_, rfl, .inl ⟨rfl, _, lstOf e3⟩, _, rfl, _, rfl, _, rfl, _, rfl, _, _, rfl, rfl, wide_div (b := 30) (by omega) (by rw [Int.natAbs_natCast]; omega) (by decide) (by decide), _, rfl, _, _, rfl, rfl,
            wide_mul (a := 150) (b := 30) (by omega) (by omega) (by decide) (by decide) (by decide), _, rfl, _, _, rfl, rfl, by show (0 : Int) < (m : Int) / (g : Int); rw [dm]; omega, _, _, rfl, rfl, ?_, _, _, rfl, rfl, ?_⟩
          · have u0 := Int.emod_nonneg ((r - k) / (g : Int) * back) (show ((m : Int) / (g : Int)) ≠ 0 by rw [dm]; omega)
            have u1 := Int.emod_lt_of_pos ((r - k) / (g : Int) * back) (show 0 < ((m : Int) / (g : Int)) by rw [dm]; omega)
            rw [dm] at u0 u1 ⊢
            exact wide_mul (a := 150) (b := 30) (by rw [Int.natAbs_natCast]; omega) (by omega) (by decide) (by decide) (by decide)
          · have hlen : (joinL g t back W (xs.take i) lot ++ rowL g t back W k (lot.take j)).length ≤ 100000 := Nat.le_trans (joinL_len2 (List.getElem?_eq_some_iff.mp hk).1) hsz
            refine ⟨F, _, _, rfl, rfl, e3, by rw [List.length_map]; exact sizeLt (by omega), ?_⟩
            refine ⟨_, _, rfl, samePut s3 nF0, ?_⟩
            rw [upd_same, takeSucc hr0, rowL_add, if_pos e0, ← List.append_assoc]
            generalize joinL g t back W (xs.take i) lot ++ rowL g t back W k (lot.take j) = L
            rw [List.map_append, dm]
            rfl
        · have e0 : ¬ (r - k) % (g : Int) = 0 := fun z => e (decide_eq_true (congrArg V.int z))
          refine ⟨_, _, rfl, s3, ?_⟩
          rw [e3, takeSucc hr0, rowL_add, if_neg e0, List.append_nil]
      · rintro σ H2 ⟨y9, y10, rfl, s3, e3⟩
        refine ⟨_, _, _, rfl, s3, ?_⟩
        rw [e3, List.length_map, List.take_length, takeSucc hk, joinL_add]
    · rintro σ H2 ⟨y8, y9, y10, rfl, s3, e3⟩
      rw [List.length_map, List.take_length] at e3
      exact ⟨_, rfl, q F H2 g t back w' s3 M (by rw [lcmE, Int.natCast_mul]) e3⟩
end

end R
namespace R
open PySem PySem.Spec PyProof.Rows L2
/-! ## what any value is: integers, lots, bars -/
def kOdd (K : PySem.W.Frag) (H : Hp) (x : V) : Prop := (∃ b, x = .bl b) ∨ ∃ t, TyX K H x (.type t) ∧ kitB t "int" = some false
theorem kOdd.ni {K : PySem.W.Frag} {H : Hp} {x : V} (h : kOdd K H x) (i : Int) : x ≠ .int i := by
  rintro rfl
  rcases h with ⟨b, e⟩ | ⟨t, h1, h2⟩
  · cases e
  · cases h1 with
    | base h =>
      cases h
      exact absurd h2 (by decide +kernel)
/-- an integer or something else whose kind is known -/
def Itm (K : PySem.W.Frag) (H : Hp) (x : V) : Prop := (∃ i, x = .int i) ∨ kOdd K H x
def NotTup (K : PySem.W.Frag) (H : Hp) (x : V) : Prop := ∃ t, TyX K H x (.type t) ∧ kitB t "tuple" = some false
def ascV (m : Int) : Int → List V → Bool
  | _, [] => true
  | lo, .int i :: r => (decide (lo ≤ i) && decide (i ≤ m - 1)) && ascV m (i + 1) r
  | _, _ :: _ => false
theorem ascV_ni {m lo : Int} {x : V} {r : List V} (h : ∀ i, x ≠ .int i) : ascV m lo (x :: r) = false := by
  cases x with
  | int i => exact absurd rfl (h i)
  | _ => rfl
theorem ascV_int {m lo i : Int} {r : List V} : ascV m lo (.int i :: r) = ((decide (lo ≤ i) && decide (i ≤ m - 1)) && ascV m (i + 1) r) := rfl
theorem ascV_iff {m : Int} : ∀ {l : List Int} {lo : Int}, ascV m lo (l.map V.int) = true ↔ l.Pairwise (· < ·) ∧ (∀ r ∈ l, lo ≤ r) ∧ ∀ r ∈ l, r < m
  | [], lo => ⟨fun _ => ⟨.nil, fun r h => by simp at h, fun r h => by simp at h⟩, fun _ => rfl⟩
  | x :: l, lo => by
    show ((decide (lo ≤ x) && decide (x ≤ m - 1)) && ascV m (x + 1) (l.map V.int)) = true ↔ _
    rw [Bool.and_eq_true, Bool.and_eq_true, decide_eq_true_iff, decide_eq_true_iff, ascV_iff (l := l) (lo := x + 1)]
    constructor
    · rintro ⟨⟨h1, h2⟩, h3, h4, h5⟩
      refine ⟨List.pairwise_cons.mpr ⟨fun z hz => by have := h4 z hz; omega, h3⟩, fun r hr => ?_, fun r hr => ?_⟩
      · rcases List.mem_cons.mp hr with rfl | hr
        · exact h1
        · have := h4 r hr
          omega
      · rcases List.mem_cons.mp hr with rfl | hr
        · omega
        · exact h5 r hr
    · rintro ⟨h1, h2, h3⟩
      obtain ⟨h4, h5⟩ := List.pairwise_cons.mp h1
      have := h3 x List.mem_cons_self
      exact ⟨⟨h2 x List.mem_cons_self, by omega⟩, h5, fun r hr => by have := h4 r hr; omega, fun r hr => h3 r (List.mem_cons_of_mem _ hr)⟩
theorem LotOk.asc {m : Int} {l : List Int} (h : LotOk m l) : ascV m 0 (l.map V.int) = true := ascV_iff.mpr ⟨h.up, h.ge, h.lt⟩
def barV : V → List V → Bool
  | .int m, zs => (decide (1 ≤ m) && decide (m ≤ 1000000)) && (ascV m 0 zs && decide (zs.length ≤ 60))
  | _, _ => false
theorem barV_ni {x : V} {r : List V} (h : ∀ i, x ≠ .int i) : barV x r = false := by
  cases x with
  | int i => exact absurd rfl (h i)
  | _ => rfl
theorem itmInts {K : PySem.W.Frag} {H : Hp} (l : List Int) : ∀ y ∈ l.map V.int, Itm K H y := fun y h => by
  obtain ⟨i, _, rfl⟩ := List.mem_map.mp h
  exact .inl ⟨i, rfl⟩
def sp_p_is_integer (K : PySem.W.Frag) : Sp := fun vs H Q _ => ∃ x : V, vs = [x] ∧ ((∃ i, x = .int i ∧ Q (.bl true) H) ∨ (kOdd K H x ∧ Q (.bl false) H))
def sp_p_integer_within (K : PySem.W.Frag) : Sp := fun vs H Q _ => ∃ (x : V) (lo hi : Int), vs = [x, .int lo, .int hi] ∧ ((∃ i, x = .int i ∧ Q (.bl (decide (lo ≤ i) && decide (i ≤ hi))) H) ∨ (kOdd K H x ∧ Q (.bl false) H))
def sp_p_is_ascending (K : PySem.W.Frag) : Sp := fun vs H Q _ => ∃ (x : V) (m : Int), vs = [x, .int m] ∧ ((NotTup K H x ∧ Q (.bl false) H) ∨ ∃ a xs, x = .ref a ∧ SqT K H a xs ∧ (∀ y ∈ xs, Itm K H y) ∧ Q (.bl (ascV m 0 xs)) H)
def sp_p_is_lot (K : PySem.W.Frag) : Sp := fun vs H Q _ => ∃ (x : V) (m : Int), vs = [x, .int m] ∧ ((NotTup K H x ∧ Q (.bl false) H) ∨ ∃ a xs, x = .ref a ∧ SqT K H a xs ∧ (∀ y ∈ xs, Itm K H y) ∧ Q (.bl (ascV m 0 xs && decide (xs.length ≤ 60))) H)
def sp_p_is_pair (K : PySem.W.Frag) : Sp := fun vs H Q _ => ∃ x : V, vs = [x] ∧ ((NotTup K H x ∧ Q (.bl false) H) ∨ ∃ a xs, x = .ref a ∧ SqT K H a xs ∧ Q (.bl (decide (xs.length = 2))) H)
def sp_p_is_bar (K : PySem.W.Frag) : Sp := fun vs H Q _ => ∃ x : V, vs = [x] ∧ ((NotTup K H x ∧ Q (.bl false) H) ∨ ∃ a xs, x = .ref a ∧ SqT K H a xs ∧ ((xs.length ≠ 2 ∧ Q (.bl false) H) ∨
  ∃ y z, xs = [y, z] ∧ Itm K H y ∧ ((NotTup K H z ∧ Q (.bl false) H) ∨ ∃ c zs, z = .ref c ∧ SqT K H c zs ∧ (∀ u ∈ zs, Itm K H u) ∧ Q (.bl (barV y zs)) H)))
section
variable {P : Program} {w : World} {K : PySem.W.Frag} {mg : Str → Option Value} {base : Heap}
theorem ok_p_is_integer (T : Txt K mg) : FnOk P w K mg base CX0 2 T.f_p_is_integer T.fd_p_is_integer ["value"] (sp_p_is_integer K) := by
  refine T.F_p_is_integer.ok sc_p_is_integer (fun vs H Q E h => ?_) (fun cdv A outer s H vs Q E hr h => ?_)
  · obtain ⟨x, rfl, _⟩ := h
    rfl
  · obtain ⟨x, rfl, h⟩ := h
    refine ⟨_, (pss_one (ps_ret (pe_and (pe_callB call_isi (by rfl) T.z_isinstance (by decide +kernel) (pa_cons (pv 0) (pa_cons (pe_bltn (v := .ty "int") (by rfl) T.z_int (by decide +kernel) rfl) pa_nil))) (pe_one (pe_not (pe_callB call_isi (by rfl) T.z_isinstance (by decide +kernel) (pa_cons (pv 0) (pa_cons (pe_bltn (v := .ty "bool") (by rfl) T.z_bool (by decide +kernel) rfl) pa_nil)))))))), ?_⟩
    rcases h with ⟨x, rfl, q⟩ | ⟨⟨b, rfl⟩ | ⟨t, ht, hk⟩, q⟩
    · refine ⟨_, rfl, _, _, _, _, _, rfl, .ty "int", .base (.int x), kit_ty (r := true) (by decide +kernel), true, rfl, iteT ?_⟩
      exact ⟨_, rfl, _, _, _, _, _, rfl, .ty "bool", .base (.int x), kit_ty (r := false) (by decide +kernel), false, rfl, q⟩
    · refine ⟨_, rfl, _, _, _, _, _, rfl, .ty "int", .base (.bl b), kit_ty (r := true) (by decide +kernel), true, rfl, iteT ?_⟩
      exact ⟨_, rfl, _, _, _, _, _, rfl, .ty "bool", .base (.bl b), kit_ty (r := true) (by decide +kernel), true, rfl, q⟩
    · exact ⟨_, rfl, _, _, _, _, _, rfl, .ty "int", ht, kit_ty (r := false) hk, false, rfl, iteF q⟩
theorem ok_p_integer_within (T : Txt K mg) : FnOk P w K mg base CX0 3 T.f_p_integer_within T.fd_p_integer_within ["value", "least", "greatest"] (sp_p_integer_within K) := by
  refine T.F_p_integer_within.ok sc_p_integer_within (fun vs H Q E h => ?_) (fun cdv A outer s H vs Q E hr h => ?_)
  · obtain ⟨x, lo, hi, rfl, _⟩ := h
    rfl
  · obtain ⟨x, lo, hi, rfl, h⟩ := h
    refine ⟨_, (pss_one (ps_ret (pe_and (pe_call (ok_p_is_integer T) (hr.mono (by decide)) (by rfl) T.g_p_is_integer T.F_p_is_integer.kp T.b_p_is_integer .nil pass0 (pa_cons (pv 0) pa_nil)) (pe_one (pe_chain op_le op_le (pv 1) (pv 0) (pv 2)))))), ?_⟩
    rcases h with ⟨x, rfl, q⟩ | ⟨o, q⟩
    · refine ⟨_, rfl, _, rfl, .inl ⟨x, rfl, true, rfl, iteT ⟨_, rfl, _, rfl, _, _, rfl, rfl, _, rfl, ?_⟩⟩⟩
      by_cases h : lo ≤ x
      · rw [decide_eq_true h] at q ⊢
        exact iteT ⟨_, rfl, _, _, rfl, rfl, q⟩
      · rw [decide_eq_false h] at q ⊢
        exact iteF q
    · exact ⟨_, rfl, _, rfl, .inr ⟨o, false, rfl, iteF q⟩⟩
theorem ok_p_is_ascending (T : Txt K mg) : FnOk P w K mg base CX0 4 T.f_p_is_ascending T.fd_p_is_ascending ["value", "limit"] (sp_p_is_ascending K) := by
  refine T.F_p_is_ascending.ok sc_p_is_ascending (fun vs H Q E h => ?_) (fun cdv A outer s H vs Q E hr h => ?_)
  · obtain ⟨v, m, rfl, _⟩ := h
    rfl
  · obtain ⟨v, m, rfl, h⟩ := h
    refine ⟨_, (pss_cons (ps_if (pt_not (pt_val (pe_callB call_isi (by rfl) T.z_isinstance (by decide +kernel) (pa_cons (pv 0) (pa_cons (pe_bltn (v := .ty "tuple") (by rfl) T.z_tuple (by decide +kernel) rfl) pa_nil))))) (pss_one (ps_ret pe_bl)) pss_nil)
      (pss_cons (ps_set (i := 2) sc_p_is_ascending.nd rfl (by first | exact .inl rfl | exact .inr rfl) pe_int)
      (pss_cons (ps_for PassesOwn.never rfl (pi_tup (pv 0)) (pg_name (i := 3) sc_p_is_ascending.nd rfl (by first | exact .inl rfl | exact .inr rfl)) (pss_cons (ps_if (pt_not (pt_val (pe_call (ok_p_integer_within T) (hr.mono (by decide)) (by rfl) T.g_p_integer_within T.F_p_integer_within.kp T.b_p_integer_within .nil pass0 (pa_cons (pv 3) (pa_cons (pv 2) (pa_cons (pe_op op_sub (pv 1) pe_int) pa_nil)))))) (pss_one (ps_ret pe_bl)) pss_nil)
      (pss_one (ps_set (i := 2) sc_p_is_ascending.nd rfl (by first | exact .inl rfl | exact .inr rfl) (pe_op op_add (pv 3) pe_int)))))
      (pss_one (ps_ret pe_bl))))), ?_⟩
    rcases h with ⟨⟨t, ht, hk⟩, q⟩ | ⟨a, xs, rfl, ta, it, q⟩
    · exact ⟨_, rfl, _, _, _, _, _, rfl, .ty "tuple", ht, kit_ty (r := false) hk, false, rfl, iteT q⟩
    · refine ⟨_, rfl, _, _, _, _, _, rfl, .ty "tuple", tyTup ta, kit_ty (r := true) (by decide +kernel), true, rfl, iteF ?_⟩
      refine ⟨_, rfl, a, rfl, ⟨_, ta⟩, for_tup (K := K) (a := a) (xs := xs) (fun i σ H2 => ∃ (n : Int) (x : Option V), σ = [some (.ref a), some (.int m), some (.int n), x] ∧ ascV m 0 xs = ascV m n (xs.drop i) ∧ H2 = H)
        ⟨0, none, rfl, rfl, rfl⟩ (fun i σ H2 _ ⟨_, _, _, _, e⟩ => by rw [e]; exact ta) ?_ ?_⟩
      · rintro i y σ H2 hi ⟨n, x, rfl, hn, rfl⟩
        have hd : xs.drop i = y :: xs.drop (i + 1) := by
          obtain ⟨h1, h2⟩ := List.getElem?_eq_some_iff.mp hi
          rw [List.drop_eq_getElem_cons h1, h2]
        rw [hd] at hn
        refine ⟨_, rfl, _, rfl, _, rfl, _, _, rfl, rfl, _, _, _, rfl, ?_⟩
        rcases it y (List.mem_of_getElem? hi) with ⟨r, rfl⟩ | o
        · refine .inl ⟨r, rfl, _, rfl, ?_⟩
          rw [ascV_int] at hn
          by_cases h : (decide (n ≤ r) && decide (r ≤ m - 1)) = true
          · rw [h] at hn ⊢
            exact iteF ⟨_, rfl, _, _, rfl, rfl, _, _, rfl, hn, rfl⟩
          · rw [Bool.not_eq_true] at h
            rw [h] at hn ⊢
            rw [Bool.false_and] at hn
            rw [hn] at q
            exact iteT q
        · refine .inr ⟨o, _, rfl, iteT ?_⟩
          rw [hn, ascV_ni o.ni] at q
          exact q
      · rintro σ H2 ⟨n, x, rfl, hn, rfl⟩
        rw [List.drop_length] at hn
        rw [hn] at q
        exact q
theorem ok_p_is_lot (T : Txt K mg) : FnOk P w K mg base CX0 5 T.f_p_is_lot T.fd_p_is_lot ["value", "modulus"] (sp_p_is_lot K) := by
  refine T.F_p_is_lot.ok sc_p_is_lot (fun vs H Q E h => ?_) (fun cdv A outer s H vs Q E hr h => ?_)
  · obtain ⟨v, m, rfl, _⟩ := h
    rfl
  · obtain ⟨v, m, rfl, h⟩ := h
    refine ⟨_, (pss_one (ps_ret (pe_and (pe_call (ok_p_is_ascending T) (hr.mono (by decide)) (by rfl) T.g_p_is_ascending T.F_p_is_ascending.kp T.b_p_is_ascending .nil pass0 (pa_cons (pv 0) (pa_cons (pv 1) pa_nil))) (pe_one (pe_cmpR op_le (pe_callB call_len_seq (by rfl) T.z_len (by decide +kernel) (pa_cons (pv 0) pa_nil)) (pe_glob (v := .int 60) (by rfl) T.c_MOST_RESTS.choose_spec ⟨_, rfl⟩) (nomark _)))))), ?_⟩
    rcases h with ⟨o, q⟩ | ⟨a, xs, rfl, ta, it, q⟩
    · exact ⟨_, rfl, _, rfl, v, m, rfl, .inl ⟨o, false, rfl, iteF q⟩⟩
    · refine ⟨_, rfl, _, rfl, _, m, rfl, .inr ⟨a, xs, rfl, ta, it, _, rfl, ?_⟩⟩
      cases e : ascV m 0 xs with
      | false =>
        rw [e] at q
        exact iteF q
      | true =>
        refine iteT ⟨_, rfl, a, _, rfl, .inr ta, _, _, rfl, rfl, ?_⟩
        rw [e, Bool.true_and] at q
        have e2 : decide ((xs.length : Int) ≤ 60) = decide (xs.length ≤ 60) := by
          rw [Bool.eq_iff_iff, decide_eq_true_iff, decide_eq_true_iff]
          omega
        show Q (.bl (decide ((xs.length : Int) ≤ 60))) H
        rw [e2]
        exact q
theorem ok_p_is_pair (T : Txt K mg) : FnOk P w K mg base CX0 2 T.f_p_is_pair T.fd_p_is_pair ["value"] (sp_p_is_pair K) := by
  refine T.F_p_is_pair.ok sc_p_is_pair (fun vs H Q E h => ?_) (fun cdv A outer s H vs Q E hr h => ?_)
  · obtain ⟨v, rfl, _⟩ := h
    rfl
  · obtain ⟨v, rfl, h⟩ := h
    refine ⟨_, (pss_one (ps_ret (pe_and (pe_callB call_isi (by rfl) T.z_isinstance (by decide +kernel) (pa_cons (pv 0) (pa_cons (pe_bltn (v := .ty "tuple") (by rfl) T.z_tuple (by decide +kernel) rfl) pa_nil))) (pe_one (pe_cmpR op_eq (pe_callB call_len_seq (by rfl) T.z_len (by decide +kernel) (pa_cons (pv 0) pa_nil)) pe_int (nomark _)))))), ?_⟩
    rcases h with ⟨⟨t, ht, hk⟩, q⟩ | ⟨a, xs, rfl, ta, q⟩
    · exact ⟨_, rfl, _, _, _, _, _, rfl, .ty "tuple", ht, kit_ty (r := false) hk, false, rfl, iteF q⟩
    · refine ⟨_, rfl, _, _, _, _, _, rfl, .ty "tuple", tyTup ta, kit_ty (r := true) (by decide +kernel), true, rfl, iteT ?_⟩
      refine ⟨_, rfl, a, _, rfl, .inr ta, rfl, ?_⟩
      have e2 : decide (V.int (xs.length : Int) = V.int 2) = decide (xs.length = 2) := by
        rw [Bool.eq_iff_iff, decide_eq_true_iff, decide_eq_true_iff]
        exact ⟨fun h => by have := V.int.inj h; omega, fun h => by rw [h]; rfl⟩
      show Q (.bl (decide (V.int (xs.length : Int) = V.int 2))) H
      rw [e2]
      exact q
theorem ok_p_is_bar (T : Txt K mg) : FnOk P w K mg base CX0 6 T.f_p_is_bar T.fd_p_is_bar ["value"] (sp_p_is_bar K) := by
  refine T.F_p_is_bar.ok sc_p_is_bar (fun vs H Q E h => ?_) (fun cdv A outer s H vs Q E hr h => ?_)
  · obtain ⟨v, rfl, _⟩ := h
    rfl
  · obtain ⟨v, rfl, h⟩ := h
    refine ⟨_, (pss_cons (ps_if (pt_not (pt_val (pe_call (ok_p_is_pair T) (hr.mono (by decide)) (by rfl) T.g_p_is_pair T.F_p_is_pair.kp T.b_p_is_pair .nil pass0 (pa_cons (pv 0) pa_nil)))) (pss_one (ps_ret pe_bl)) pss_nil)
      (pss_cons (ps_asg (pv 0) (pg_tup (by rfl) (pgs_cons (pg_name (i := 1) sc_p_is_bar.nd rfl (by first | exact .inl rfl | exact .inr rfl)) (pgs_cons (pg_name (i := 2) sc_p_is_bar.nd rfl (by first | exact .inl rfl | exact .inr rfl)) pgs_nil))))
      (pss_one (ps_ret (pe_and (pe_call (ok_p_integer_within T) (hr.mono (by decide)) (by rfl) T.g_p_integer_within T.F_p_integer_within.kp T.b_p_integer_within .nil pass0 (pa_cons (pv 1) (pa_cons pe_int (pa_cons (pe_glob (v := .int 1000000) (by rfl) T.c_GREATEST_MODULUS.choose_spec ⟨_, rfl⟩) pa_nil)))) (pe_one (pe_call (ok_p_is_lot T) (hr.mono (by decide)) (by rfl) T.g_p_is_lot T.F_p_is_lot.kp T.b_p_is_lot .nil pass0 (pa_cons (pv 2) (pa_cons (pv 1) pa_nil))))))))), ?_⟩
    rcases h with ⟨o, q⟩ | ⟨a, xs, rfl, ta, h⟩
    · exact ⟨_, rfl, v, rfl, .inl ⟨o, _, rfl, iteT q⟩⟩
    · refine ⟨_, rfl, _, rfl, .inr ⟨a, xs, rfl, ta, ?_⟩⟩
      rcases h with ⟨h, q⟩ | ⟨y, z, rfl, iy, h⟩
      · rw [decide_eq_false h]
        exact ⟨_, rfl, iteT q⟩
      · refine ⟨_, rfl, iteF ⟨_, rfl, a, _, rfl, ta, rfl, _, _, rfl, _, _, rfl, rfl, ?_⟩⟩
        refine ⟨_, rfl, _, _, _, rfl, ?_⟩
        rcases iy with ⟨m, rfl⟩ | o
        · refine .inl ⟨m, rfl, _, rfl, ?_⟩
          cases e : (decide (1 ≤ m) && decide (m ≤ 1000000)) with
          | false =>
            refine iteF ?_
            rcases h with ⟨_, q⟩ | ⟨c, zs, rfl, tc, iz, q⟩
            · exact q
            · have e3 : barV (.int m) zs = false := by
                show ((decide (1 ≤ m) && decide (m ≤ 1000000)) && _) = false
                rw [e]
                rfl
              rw [e3] at q
              exact q
          | true =>
            refine iteT ⟨_, rfl, _, rfl, z, m, rfl, ?_⟩
            rcases h with ⟨o, q⟩ | ⟨c, zs, rfl, tc, iz, q⟩
            · exact .inl ⟨o, q⟩
            · refine .inr ⟨c, zs, rfl, tc, iz, ?_⟩
              have e3 : barV (.int m) zs = (ascV m 0 zs && decide (zs.length ≤ 60)) := by
                show ((decide (1 ≤ m) && decide (m ≤ 1000000)) && _) = _
                rw [e]
                rfl
              rw [e3] at q
              exact q
        · refine .inr ⟨o, _, rfl, iteF ?_⟩
          rcases h with ⟨_, q⟩ | ⟨c, zs, rfl, tc, iz, q⟩
          · exact q
          · rw [barV_ni o.ni] at q
            exact q
end
theorem BarOk.bar {b : Bar} (h : BarOk b) : barV (.int b.1) (b.2.map V.int) = true := by
  have h1 := h.pos
  have h2 := h.most
  have h3 := h.lot.few
  show ((decide (1 ≤ b.1) && decide (b.1 ≤ 1000000)) && (ascV b.1 0 (b.2.map V.int) && decide ((b.2.map V.int).length ≤ 60))) = true
  rw [decide_eq_true h1, decide_eq_true h2, h.lot.asc, List.length_map, decide_eq_true h3]
  rfl

end R
namespace R
open PySem PySem.Spec PyProof.Rows L2
theorem small5000 {n : Nat} (h : n ≤ 1000000) : n < 2 ^ 5000 := Nat.lt_of_le_of_lt h (by decide)
theorem choices_take_le : ∀ (bs : List Bar) (i : Nat), choices (bs.take i) ≤ choices bs := by
  refine snocInd (fun i => by rw [List.take_nil]; exact Nat.le_refl _) fun bs b ih i => ?_
  rw [choices_add]
  by_cases hi : i ≤ bs.length
  · rw [List.take_append_of_le_length hi]
    have h1 := ih i
    have h2 : choices bs * 1 ≤ choices bs * max 1 b.2.length := Nat.mul_le_mul_left _ (by omega)
    omega
  · rw [List.take_of_length_le (by rw [List.length_append]; show bs.length + 1 ≤ i; omega), choices_add]
    exact Nat.le_refl _
/-- bars that are in order, whatever their whole -/
structure PreOk (bs : List Bar) : Prop where
  six : bs.length ≤ 6
  bar : ∀ b ∈ bs, BarOk b
theorem SvOk.pre {bs : List Bar} (h : SvOk bs) : PreOk bs := ⟨h.six, h.bar⟩
theorem PreOk.mods {bs : List Bar} (h : PreOk bs) : ModsOk bs := ⟨h.six, fun b hb => ⟨(h.bar b hb).pos, (h.bar b hb).most⟩⟩
theorem SvOk.mods {bs : List Bar} (h : SvOk bs) : ModsOk bs := ⟨h.six, fun b hb => ⟨(h.bar b hb).pos, (h.bar b hb).most⟩⟩
theorem Drawn.sv {most top : Nat} {bs : List Bar} (h : Drawn most top bs) (h6 : most ≤ 6) (ht : top ≤ 1000000) (hw : wh bs ≤ 10 ^ 30) : SvOk bs :=
  ⟨Nat.le_trans h.len h6, fun b hb => let ⟨a, c, d⟩ := h.bar b hb; ⟨a, by omega, d⟩, hw, h.many⟩
def sp_p_classes_of (K : PySem.W.Frag) : Sp := fun vs H Q _ => ∃ (v : V) (bs : List Bar), vs = [v] ∧ BarsAt K H v bs ∧ SvOk bs ∧ ∀ t H', Same H H' → H' t = some (.tup ((cls bs).map V.int)) → Q (.ref t) H'
section
variable {P : Program} {w : World} {K : PySem.W.Frag} {mg : Str → Option Value} {base : Heap}
theorem ok_p_classes_of (T : Txt K mg) : FnOk P w K mg base CX0 4 T.f_p_classes_of T.fd_p_classes_of ["bars"] (sp_p_classes_of K) := by
  refine T.F_p_classes_of.ok sc_p_classes_of (fun vs H Q E h => ?_) (fun cdv A outer s H vs Q E hr h => ?_)
  · obtain ⟨v, bs, rfl, _⟩ := h
    rfl
  · obtain ⟨v, bs, rfl, B, S, q⟩ := h
    refine ⟨_, (pss_cons (ps_set (i := 1) sc_p_classes_of.nd rfl (by first | exact .inl rfl | exact .inr rfl) pe_int)
      (pss_cons (ps_set (i := 2) sc_p_classes_of.nd rfl (by first | exact .inl rfl | exact .inr rfl) (pe_lst (pa_cons pe_int pa_nil)))
      (pss_cons (ps_for PassesOwn.never rfl (pi_tup (pv 0)) (pg_tup (by rfl) (pgs_cons (pg_name (i := 3) sc_p_classes_of.nd rfl (by first | exact .inl rfl | exact .inr rfl)) (pgs_cons (pg_name (i := 4) sc_p_classes_of.nd rfl (by first | exact .inl rfl | exact .inr rfl)) pgs_nil))) (pss_cons (ps_set (i := 2) sc_p_classes_of.nd rfl (by first | exact .inl rfl | exact .inr rfl) (pe_call (ok_p_joined T) (hr.mono (by decide)) (by rfl) T.g_p_joined T.F_p_joined.kp T.b_p_joined .nil pass0 (pa_cons (pv 2) (pa_cons (pv 1) (pa_cons (pv 3) (pa_cons (pv 4) pa_nil))))))
      (pss_one (ps_set (i := 1) sc_p_classes_of.nd rfl (by first | exact .inl rfl | exact .inr rfl) (pe_callBfun cr_lcmW (by rfl) T.g_lcm (pa_cons (pv 1) (pa_cons (pv 3) pa_nil)))))))
      (pss_one (ps_ret (pe_callTy call_tuple_of (by rfl) T.z_tuple (by decide +kernel) (pa_cons (pe_callB cr_sortedI (by rfl) T.z_sorted (by decide +kernel) (pa_cons (pv 2) pa_nil)) pa_nil))))))), ?_⟩
    obtain ⟨a, xs, rfl, ta, nx, hx⟩ := B.ex
    have M := S.mods
    refine ⟨sizeOk (by show (1 : Nat) ≤ 100000; decide), fun c0 n0 => ?_⟩
    have s0 : Same H (upd H c0 (.lst [.int 0])) := same_upd n0
    refine ⟨_, rfl, a, rfl, ⟨_, Same.seqTT s0 ta⟩, for_tup (K := K) (a := a) (xs := xs) (fun i σ H2 => ∃ (c : Addr) (ys : List Int) (x y : Option V), σ = [some (.ref a), some (.int (wh (bs.take i) : Nat)), some (.ref c), x, y] ∧
        H2 c = some (.lst (ys.map V.int)) ∧ ClsIs (bs.take i) ys ∧ ys.length ≤ choices (bs.take i) ∧ Same H H2)
      ⟨c0, [0], none, none, rfl, upd_same, ClsIs.nil, Nat.le_refl _, s0⟩ (fun i σ H2 _ ⟨_, _, _, _, _, _, _, _, s2⟩ => Same.seqTT s2 ta) ?_ ?_⟩
    · rintro i x σ H2 hi ⟨c, ys, y1, y2, rfl, ec, C, hlen, s2⟩
      have hl : i < bs.length := by
        have := (List.getElem?_eq_some_iff.mp hi).1
        omega
      have hb : bs[i]? = some bs[i] := List.getElem?_eq_getElem hl
      obtain ⟨p, l, rfl, tp, L⟩ := (hx i x _ hi hb).ex
      have hB := S.bar _ (List.getElem_mem hl)
      have hch := Nat.le_trans (choices_take_le bs i) S.many
      generalize bs[i] = b at hb tp hB L
      have hw := (M.take i).lt
      have hp := (M.take i).pos
      have h1 := hB.pos
      have h2 := hB.most
      have hf := hB.lot.few
      have hmn : b.1 = ((b.1.toNat : Nat) : Int) := by omega
      have hmul : ys.length * b.2.length ≤ choices (bs.take (i + 1)) := by
        rw [takeSucc hb, choices_add]
        exact Nat.mul_le_mul hlen (by omega)
      have hch2 := Nat.le_trans (choices_take_le bs (i + 1)) S.many
      refine ⟨p, [_, _], rfl, Same.seqTT s2 tp, rfl, _, _, rfl, _, _, rfl, rfl, ?_⟩
      refine ⟨_, rfl, _, rfl, _, rfl, _, rfl, c, ys, b.2, wh (bs.take i), b.1.toNat, l, by rw [← hmn]; rfl, lstOf ec, L.stay (.same s2), hp, hw, by omega, by omega, fun z hz => let ⟨q1, q2, _⟩ := (C.mem z).mp hz; ⟨q1, q2⟩,
        fun r hr => ⟨hB.lot.ge r hr, by have := hB.lot.lt r hr; omega⟩, ?_, fun D H3 g t bk w' s3 Mt hlcm eD => ?_⟩
      · omega
      · rw [← hmn] at Mt
        refine ⟨_, rfl, _, rfl, wh (bs.take i), b.1.toNat, by rw [← hmn], Nat.lt_trans hw (by decide), small5000 (by omega), ?_⟩
        have ew : wh (bs.take (i + 1)) = Nat.lcm (wh (bs.take i)) b.1.toNat := by
          rw [takeSucc hb, wh_add, show b.1.natAbs = b.1.toNat by omega]
        refine ⟨D, joinL g t bk (wh (bs.take i) : Nat) ys b.2, some (.int b.1), some l, ?_, eD, ?_, ?_, s2.trans s3⟩
        · rw [ew]
          rfl
        · rw [takeSucc hb]
          refine C.add Mt hB.lot ?_
          rw [← takeSucc hb, ew]
          exact hlcm
        · rw [takeSucc hb, choices_add]
          have j1 := joinL_len g t bk (wh (bs.take i) : Nat) ys b.2
          have j2 : ys.length * b.2.length ≤ choices (bs.take i) * max 1 b.2.length := Nat.mul_le_mul hlen (by omega)
          omega
    · rintro σ H2 ⟨c, ys, y1, y2, rfl, ec, C, hlen, s2⟩
      rw [nx, List.take_length] at C
      refine ⟨_, rfl, c, ys, rfl, lstOf ec, fun zs p pz sz np => ?_⟩
      have e := C.sorted pz sz
      subst e
      refine ⟨p, _, rfl, .inl ⟨lstOf upd_same, fun t nt => ?_⟩⟩
      exact q t _ ((s2.trans (same_upd np)).trans (same_upd nt)) upd_same
end

end R
namespace R
open PySem PySem.Spec PyProof.Rows L2
def sp_p_check_bars (K : PySem.W.Frag) : Sp := fun vs H Q _ => ∃ (v : V) (bs : List Bar), vs = [v] ∧ BarsAt K H v bs ∧ PreOk bs ∧ ∀ H', Same H H' → Q .non H'
section
variable {P : Program} {w : World} {K : PySem.W.Frag} {mg : Str → Option Value} {base : Heap}
theorem ok_p_check_bars (T : Txt K mg) : FnOk P w K mg base CX0 7 T.f_p_check_bars T.fd_p_check_bars ["bars"] (sp_p_check_bars K) := by
  refine T.F_p_check_bars.ok sc_p_check_bars (fun vs H Q E h => ?_) (fun cdv A outer s H vs Q E hr h => ?_)
  · obtain ⟨v, bs, rfl, _⟩ := h
    rfl
  · obtain ⟨v, bs, rfl, B, S, q⟩ := h
    refine ⟨_, (pss_cons (ps_if (PW.pt (pw_or (pt_not (pt_val (pe_callB call_isi (by rfl) T.z_isinstance (by decide +kernel) (pa_cons (pv 0) (pa_cons (pe_bltn (v := .ty "tuple") (by rfl) T.z_tuple (by decide +kernel) rfl) pa_nil))))) (pw_or1 (pt_cmpR op_gt (pe_callB call_len_seq (by rfl) T.z_len (by decide +kernel) (pa_cons (pv 0) pa_nil)) (pe_glob (v := .int 6) (by rfl) T.c_MOST_BARS.choose_spec ⟨_, rfl⟩) (nomark _))))) (pss_one ps_never) pss_nil)
      (pss_one (ps_for PassesOwn.never rfl (pi_enT (by rfl) T.z_enumerate (pa_cons (pv 0) pa_nil)) (pg_tup (by rfl) (pgs_cons (pg_name (i := 1) sc_p_check_bars.nd rfl (by first | exact .inl rfl | exact .inr rfl)) (pgs_cons (pg_name (i := 2) sc_p_check_bars.nd rfl (by first | exact .inl rfl | exact .inr rfl)) pgs_nil))) (pss_one (ps_if (pt_not (pt_val (pe_call (ok_p_is_bar T) (hr.mono (by decide)) (by rfl) T.g_p_is_bar T.F_p_is_bar.kp T.b_p_is_bar .nil pass0 (pa_cons (pv 2) pa_nil)))) (pss_one ps_never) pss_nil))))), ?_⟩
    obtain ⟨a, xs, rfl, ta, nx, hx⟩ := B.ex
    refine ⟨_, rfl, _, _, _, _, _, rfl, .ty "tuple", tyTup ta, kit_ty (r := true) (by decide +kernel), true, rfl, iteF ?_⟩
    refine ⟨_, rfl, a, _, rfl, .inr ta, _, _, rfl, rfl, _, rfl, ite2 (fun e => ?_) (fun e => ?_)⟩
    · have e' := of_decide_eq_true e
      have := S.six
      omega
    · refine ⟨_, rfl, a, xs, rfl, ta, for_it (walk_enT (K := K) (a := a) (xs := xs)) (fun i σ H2 => ∃ (x y : Option V), σ = [some (.ref a), x, y] ∧ Same H H2) ⟨none, none, rfl, Same.refl _⟩ (fun i σ H2 _ ⟨_, _, _, s2⟩ => Same.seqTT s2 ta) ?_ ?_⟩
      · rintro i y σ H2 H3 hi ⟨x1, x2, rfl, s2⟩ ⟨p, z1, z2, rfl, np, rfl, e1, e2⟩
        have s3 := s2.trans (same_upd np (o := .tup [z1, z2]))
        have hl : i < bs.length := by omega
        have hb : bs[i]? = some bs[i] := List.getElem?_eq_getElem hl
        refine ⟨p, _, rfl, tupOf upd_same, rfl, _, _, rfl, _, _, rfl, rfl, ?_⟩
        obtain ⟨a2, x2, rfl, ta2, ⟨c2, rfl, tc2⟩⟩ := ((hx i z2 _ e2 hb).stay (.same s3)).ex
        refine ⟨_, rfl, _, rfl, .inr ⟨a2, _, rfl, ta2, .inr ⟨_, _, rfl, .inl ⟨_, rfl⟩, .inr ⟨c2, _, rfl, tc2, itmInts _, true, congrArg V.bl (S.bar _ (List.getElem_mem hl)).bar, iteF ?_⟩⟩⟩⟩
        exact ⟨_, _, rfl, s3⟩
      · rintro σ H2 ⟨x1, x2, rfl, s2⟩
        exact q _ s2
end

end R
namespace R
open PySem PySem.Spec PyProof.Rows L2
def sp_p_whole_of (K : PySem.W.Frag) : Sp := fun vs H Q _ => ∃ (v : V) (bs : List Bar), vs = [v] ∧ BarsAt K H v bs ∧ SvOk bs ∧ Q (.int (wh bs : Nat)) H
section
variable {P : Program} {w : World} {K : PySem.W.Frag} {mg : Str → Option Value} {base : Heap}
theorem ok_p_whole_of (T : Txt K mg) : FnOk P w K mg base CX0 2 T.f_p_whole_of T.fd_p_whole_of ["bars"] (sp_p_whole_of K) := by
  refine T.F_p_whole_of.ok sc_p_whole_of (fun vs H Q E h => ?_) (fun cdv A outer s H vs Q E hr h => ?_)
  · obtain ⟨v, bs, rfl, _⟩ := h
    rfl
  · obtain ⟨v, bs, rfl, B, S, q⟩ := h
    refine ⟨_, (pss_cons (ps_set (i := 1) sc_p_whole_of.nd rfl (by first | exact .inl rfl | exact .inr rfl) pe_int)
      (pss_cons (ps_for PassesOwn.never rfl (pi_tup (pv 0)) (pg_tup (by rfl) (pgs_cons (pg_name (i := 2) sc_p_whole_of.nd rfl (by first | exact .inl rfl | exact .inr rfl)) (pgs_cons (pg_name (i := 3) sc_p_whole_of.nd rfl (by first | exact .inl rfl | exact .inr rfl)) pgs_nil))) (pss_one (ps_set (i := 1) sc_p_whole_of.nd rfl (by first | exact .inl rfl | exact .inr rfl) (pe_callBfun cr_lcmW (by rfl) T.g_lcm (pa_cons (pv 1) (pa_cons (pv 2) pa_nil))))))
      (pss_cons (ps_if (pt_cmpR op_gt (pv 1) (pe_glob (v := .int 1000000000000000000000000000000) (by rfl) T.c_GREATEST_WHOLE.choose_spec ⟨_, rfl⟩) (nomark _)) (pss_one ps_never) pss_nil)
      (pss_one (ps_ret (pv 1)))))), ?_⟩
    obtain ⟨a, xs, rfl, ta, nx, hx⟩ := B.ex
    have M := S.mods
    refine ⟨_, rfl, a, rfl, ⟨_, ta⟩, for_tup (K := K) (a := a) (xs := xs) (fun i σ H2 => ∃ x y : Option V, σ = [some (.ref a), some (.int (wh (bs.take i) : Nat)), x, y] ∧ H2 = H)
      ⟨none, none, rfl, rfl⟩ (fun i σ H2 _ ⟨_, _, _, e⟩ => by rw [e]; exact ta) ?_ ?_⟩
    · rintro i x σ H2 hi ⟨y1, y2, rfl, rfl⟩
      have hl : i < bs.length := by
        have := (List.getElem?_eq_some_iff.mp hi).1
        omega
      have hb : bs[i]? = some bs[i] := List.getElem?_eq_getElem hl
      obtain ⟨p, l, rfl, tp, _⟩ := (hx i x _ hi hb).ex
      have hm := M.mod _ (List.getElem_mem hl)
      generalize bs[i] = b at hb tp hm
      have hw := (M.take i).lt
      have hmn : b.1 = ((b.1.toNat : Nat) : Int) := by omega
      refine ⟨p, [_, _], rfl, tp, rfl, _, _, rfl, _, _, rfl, rfl, ?_⟩
      refine ⟨_, rfl, _, rfl, wh (bs.take i), b.1.toNat, by rw [← hmn], Nat.lt_trans hw (by decide), small5000 (by omega), ?_⟩
      refine ⟨some (.int b.1), some l, ?_, rfl⟩
      rw [takeSucc hb, wh_add, show b.1.natAbs = b.1.toNat by omega]
      rfl
    · rintro σ H2 ⟨y1, y2, rfl, rfl⟩
      rw [nx, List.take_length]
      refine ⟨_, rfl, _, _, rfl, rfl, _, rfl, ite2 (fun e => ?_) (fun e => ?_)⟩
      · have e' := of_decide_eq_true e
        have := S.great
        omega
      · exact ⟨_, rfl, q⟩
end

end R
namespace R
open PySem PySem.Spec PyProof.Rows L2
def sp_p_check_choices (K : PySem.W.Frag) : Sp := fun vs H Q _ => ∃ (v : V) (bs : List Bar), vs = [v] ∧ BarsAt K H v bs ∧ SvOk bs ∧ Q .non H
section
variable {P : Program} {w : World} {K : PySem.W.Frag} {mg : Str → Option Value} {base : Heap}
theorem ok_p_check_choices (T : Txt K mg) : FnOk P w K mg base CX0 2 T.f_p_check_choices T.fd_p_check_choices ["bars"] (sp_p_check_choices K) := by
  refine T.F_p_check_choices.ok sc_p_check_choices (fun vs H Q E h => ?_) (fun cdv A outer s H vs Q E hr h => ?_)
  · obtain ⟨v, bs, rfl, _⟩ := h
    rfl
  · obtain ⟨v, bs, rfl, B, S, q⟩ := h
    refine ⟨_, (pss_cons (ps_set (i := 1) sc_p_check_choices.nd rfl (by first | exact .inl rfl | exact .inr rfl) pe_int)
      (pss_cons (ps_for PassesOwn.never rfl (pi_tup (pv 0)) (pg_tup (by rfl) (pgs_cons (pg_name (i := 2) sc_p_check_choices.nd rfl (by first | exact .inl rfl | exact .inr rfl)) (pgs_cons (pg_name (i := 3) sc_p_check_choices.nd rfl (by first | exact .inl rfl | exact .inr rfl)) pgs_nil))) (pss_one (ps_set (i := 1) sc_p_check_choices.nd rfl (by first | exact .inl rfl | exact .inr rfl) (pe_op op_mulW (pv 1) (pe_callB (call_max2 rfl) (by rfl) T.z_max (by decide +kernel) (pa_cons pe_int (pa_cons (pe_callB call_len_seq (by rfl) T.z_len (by decide +kernel) (pa_cons (pv 3) pa_nil)) pa_nil)))))))
      (pss_one (ps_if (pt_cmpR op_gt (pv 1) (pe_glob (v := .int 2000) (by rfl) T.c_MOST_CHOICES.choose_spec ⟨_, rfl⟩) (nomark _)) (pss_one ps_never) pss_nil)))), ?_⟩
    obtain ⟨a, xs, rfl, ta, nx, hx⟩ := B.ex
    refine ⟨_, rfl, a, rfl, ⟨_, ta⟩, for_tup (K := K) (a := a) (xs := xs) (fun i σ H2 => ∃ x y : Option V, σ = [some (.ref a), some (.int (choices (bs.take i) : Nat)), x, y] ∧ H2 = H)
      ⟨none, none, rfl, rfl⟩ (fun i σ H2 _ ⟨_, _, _, e⟩ => by rw [e]; exact ta) ?_ ?_⟩
    · rintro i x σ H2 hi ⟨y1, y2, rfl, rfl⟩
      have hl : i < bs.length := by
        have := (List.getElem?_eq_some_iff.mp hi).1
        omega
      have hb : bs[i]? = some bs[i] := List.getElem?_eq_getElem hl
      obtain ⟨p, l, rfl, tp, ⟨c, rfl, tc⟩⟩ := (hx i x _ hi hb).ex
      have hm := (S.bar _ (List.getElem_mem hl)).lot.few
      have hch := Nat.le_trans (choices_take_le bs i) S.many
      generalize bs[i] = b at hb tp hm tc
      refine ⟨p, [_, _], rfl, tp, rfl, _, _, rfl, _, _, rfl, rfl, ?_⟩
      refine ⟨_, rfl, _, rfl, c, _, rfl, .inr tc, _, _, rfl, _, _, rfl, rfl, ?_, ?_⟩
      · rw [List.length_map, maxIte]
        exact wide_mul (a := 20) (b := 20) (by rw [Int.natAbs_natCast]; omega) (by rw [Int.natAbs_natCast]; omega) (by decide) (by decide) (by decide)
      · refine ⟨some (.int b.1), some (.ref c), ?_, rfl⟩
        rw [List.length_map, maxIte, takeSucc hb, choices_add, Int.natCast_mul]
        rfl
    · rintro σ H2 ⟨y1, y2, rfl, rfl⟩
      rw [nx, List.take_length]
      refine ⟨_, rfl, _, _, rfl, rfl, _, rfl, ite2 (fun e => ?_) (fun e => ?_)⟩
      · have e' := of_decide_eq_true e
        have := S.many
        omega
      · exact q
end

end R
namespace R
open PySem PySem.Spec PyProof.Rows L2
/-! ## the sieve as an object -/
theorem putF_len (f : Str) (v : V) : ∀ fs : List (Str × V), (putF f v fs).length ≤ fs.length + 1
  | [] => Nat.le_refl _
  | (g, x) :: r => by
    show (if g = f then (g, v) :: r else (g, x) :: putF f v r).length ≤ r.length + 1 + 1
    split
    · exact Nat.le_succ _
    · exact Nat.succ_le_succ (putF_len f v r)
theorem nBW : ¬ (("_bars" : Str) = "_whole") := by decide +kernel
theorem nBC : ¬ (("_bars" : Str) = "_classes") := by decide +kernel
theorem nWC : ¬ (("_whole" : Str) = "_classes") := by decide +kernel
/-- the attributes in the order in which they are stored -/
def flds (v : V) (n : Int) (t : V) : List (Str × V) := putF "_classes" t (putF "_whole" (.int n) (putF "_bars" v []))
theorem flds_bars (v : V) (n : Int) (t : V) : (flds v n t).lookup ("_bars" : Str) = some v := by
  unfold flds
  rw [lookup_putF, if_neg nBC, lookup_putF, if_neg nBW, lookup_putF, if_pos rfl]
theorem flds_whole (v : V) (n : Int) (t : V) : (flds v n t).lookup ("_whole" : Str) = some (.int n) := by
  unfold flds
  rw [lookup_putF, if_neg nWC, lookup_putF, if_pos rfl]
theorem flds_classes (v : V) (n : Int) (t : V) : (flds v n t).lookup ("_classes" : Str) = some t := by
  unfold flds
  rw [lookup_putF, if_pos rfl]
/-- a Sieve of the bars bs stands at p: v its bars, t its classes -/
structure SvAt (K : PySem.W.Frag) (C : Addr) (H : Hp) (p : Addr) (v : V) (t : Addr) (bs : List Bar) : Prop where
  ob : ∃ dx, H p = some (.ins C dx (flds v (wh bs : Nat) (.ref t)))
  bars : BarsAt K H v bs
  cls : SqT K H t ((cls bs).map V.int)
  ok : SvOk bs
theorem SvAt.stay {K : PySem.W.Frag} {C : Addr} {H H' : Hp} {p : Addr} {v : V} {t : Addr} {bs : List Bar} (h : SvAt K C H p v t bs) (s : Same H H') : SvAt K C H' p v t bs :=
  ⟨let ⟨dx, e⟩ := h.ob; ⟨dx, s _ _ e⟩, h.bars.stay (.same s), Same.seqTT s h.cls, h.ok⟩
theorem SvAt.keep {K : PySem.W.Frag} {C : Addr} {H H' : Hp} {p r : Addr} {v : V} {t : Addr} {bs : List Bar} {L : Addr} (h : SvAt K C H p v t bs) (R : RowAt H r L) (s : Kp r H H') : SvAt K C H' p v t bs := by
  obtain ⟨dx, e⟩ := h.ob
  obtain ⟨zs, er⟩ := R.lst
  refine ⟨⟨dx, s _ _ (ne_of e er (by intro z; cases z)) e⟩, h.bars.stay (R.tups s), R.tups s _ _ h.cls, h.ok⟩
section
variable {P : Program} {w : World} {K : PySem.W.Frag} {mg : Str → Option Value} {base : Heap}
def sp_get (K : PySem.W.Frag) (C : Addr) (f : V → Addr → List Bar → V) : Sp := fun vs H Q _ => ∃ (p : Addr) (v : V) (t : Addr) (bs : List Bar), vs = [.ref p] ∧ SvAt K C H p v t bs ∧ Q (f v t bs) H
theorem ok_m_Sieve_bars (T : Txt K mg) : FnOk P w K mg base CX0 2 T.f_m_Sieve_bars T.fd_m_Sieve_bars ["self"] (sp_get K T.C fun v _ _ => v) := by
  refine T.F_m_Sieve_bars.ok sc_m_Sieve_bars (fun vs H Q E h => ?_) (fun cdv A outer s H vs Q E hr h => ?_)
  · obtain ⟨p, v, t, bs, rfl, _⟩ := h
    rfl
  · obtain ⟨p, v, t, bs, rfl, S, q⟩ := h
    obtain ⟨dx, e⟩ := S.ob
    exact ⟨_, (pss_one (ps_ret (pe_fld (pv 0) rfl))), _, rfl, p, T.C, dx, _, _, rfl, e, T.cl, T.n_bars, flds_bars _ _ _, q⟩
theorem ok_m_Sieve_whole (T : Txt K mg) : FnOk P w K mg base CX0 2 T.f_m_Sieve_whole T.fd_m_Sieve_whole ["self"] (sp_get K T.C fun _ _ bs => .int (wh bs : Nat)) := by
  refine T.F_m_Sieve_whole.ok sc_m_Sieve_whole (fun vs H Q E h => ?_) (fun cdv A outer s H vs Q E hr h => ?_)
  · obtain ⟨p, v, t, bs, rfl, _⟩ := h
    rfl
  · obtain ⟨p, v, t, bs, rfl, S, q⟩ := h
    obtain ⟨dx, e⟩ := S.ob
    exact ⟨_, (pss_one (ps_ret (pe_fld (pv 0) rfl))), _, rfl, p, T.C, dx, _, _, rfl, e, T.cl, T.n_whole, flds_whole _ _ _, q⟩
theorem ok_m_Sieve_classes (T : Txt K mg) : FnOk P w K mg base CX0 2 T.f_m_Sieve_classes T.fd_m_Sieve_classes ["self"] (sp_get K T.C fun _ t _ => .ref t) := by
  refine T.F_m_Sieve_classes.ok sc_m_Sieve_classes (fun vs H Q E h => ?_) (fun cdv A outer s H vs Q E hr h => ?_)
  · obtain ⟨p, v, t, bs, rfl, _⟩ := h
    rfl
  · obtain ⟨p, v, t, bs, rfl, S, q⟩ := h
    obtain ⟨dx, e⟩ := S.ob
    exact ⟨_, (pss_one (ps_ret (pe_fld (pv 0) rfl))), _, rfl, p, T.C, dx, _, _, rfl, e, T.cl, T.n_classes, flds_classes _ _ _, q⟩

end
/-! ## data -/
def okD (n : Nat) (d : PyData) : Prop := d.canLay0 = true ∧ d.depth ≤ n
theorem okD.shaped {n : Nat} {d : PyData} (h : okD n d) (hn : n ≤ 64) : SeqAt.shaped d = true := by
  unfold SeqAt.shaped
  rw [h.1, decide_eq_true (Nat.le_trans h.2 hn)]
  rfl
theorem okD.eqv {n : Nat} {d : PyData} (h : okD n d) : PyData.eqv d d = true := SeqAt.eqv_refl d h.1
theorem okD.int (i : Int) : okD 0 (.int i) := ⟨rfl, Nat.le_refl _⟩
theorem okD.all {n : Nat} : ∀ {ds : List PyData}, (∀ d ∈ ds, okD n d) → PyData.canLayAll0 ds = true ∧ PyData.depthAll ds ≤ n
  | [], _ => ⟨rfl, Nat.zero_le _⟩
  | d :: ds, h => by
    obtain ⟨a, b⟩ := h d List.mem_cons_self
    obtain ⟨c, e⟩ := okD.all fun x hx => h x (List.mem_cons_of_mem d hx)
    refine ⟨?_, ?_⟩
    · rw [PyData.canLayAll0, a, c]
      rfl
    · rw [PyData.depthAll]
      omega
theorem okD.tup {n : Nat} {ds : List PyData} (h : ∀ d ∈ ds, okD n d) : okD (n + 1) (.tuple ds) := by
  obtain ⟨a, b⟩ := okD.all h
  refine ⟨?_, ?_⟩
  · rw [PyData.canLay0]
    exact a
  · rw [PyData.depth]
    omega
theorem okD.lst {n : Nat} {ds : List PyData} (h : ∀ d ∈ ds, okD n d) : okD (n + 1) (.list ds) := by
  obtain ⟨a, b⟩ := okD.all h
  refine ⟨?_, ?_⟩
  · rw [PyData.canLay0]
    exact a
  · rw [PyData.depth]
    omega
theorem dpInts {K : PySem.W.Frag} {H : Hp} : ∀ l : List Int, DpAll K H (l.map V.int) (l.map PyData.int)
  | [] => .nil
  | i :: l => .cons (.int i) (dpInts l)
theorem dpTup {K : PySem.W.Frag} {H : Hp} {a : Addr} {l : List Int} (h : SqT K H a (l.map V.int)) : Dp K H (.ref a) (.tuple (l.map PyData.int)) := .tup h (dpInts l)
theorem dpLst {K : PySem.W.Frag} {H : Hp} {a : Addr} {l : List Int} (h : SqL K H a (l.map V.int)) : Dp K H (.ref a) (.list (l.map PyData.int)) := .lst h (dpInts l)
theorem okInts (l : List Int) : ∀ d ∈ l.map PyData.int, okD 0 d := fun d h => by
  obtain ⟨i, _, rfl⟩ := List.mem_map.mp h
  exact .int i
theorem eqvNil (l : List Int) : PyData.eqv (.list (l.map PyData.int)) (.list []) = decide (l = []) := by
  rw [PyData.eqv]
  cases l with
  | nil => rfl
  | cons x r => rfl
theorem eqvNilT (l : List Int) : PyData.eqv (.tuple (l.map PyData.int)) (.tuple []) = decide (l = []) := by
  rw [PyData.eqv]
  cases l with
  | nil => rfl
  | cons x r => rfl

end R
namespace R
open PySem PySem.Spec PyProof.Rows L2
def sp_m_Sieve_init (K : PySem.W.Frag) (C : Addr) : Sp := fun vs H Q _ => ∃ (p dx : Addr) (v : V) (bs : List Bar), vs = [.ref p, v] ∧ H p = some (.ins C dx []) ∧ BarsAt K H v bs ∧ SvOk bs ∧
  ∀ (t : Addr) (H' : Hp), (∀ b o, b ≠ p → H b = some o → H' b = some o) → SvAt K C H' p v t bs → Q .non H'
section
variable {P : Program} {w : World} {K : PySem.W.Frag} {mg : Str → Option Value} {base : Heap}
theorem ok_m_Sieve_init (T : Txt K mg) : FnOk P w K mg base CX0 8 T.f_m_Sieve_init T.fd_m_Sieve_init ["self", "bars"] (sp_m_Sieve_init K T.C) := by
  refine T.F_m_Sieve_init.ok sc_m_Sieve_init (fun vs H Q E h => ?_) (fun cdv A outer s H vs Q E hr h => ?_)
  · obtain ⟨p, dx, v, bs, rfl, _⟩ := h
    rfl
  · obtain ⟨p, dx, v, bs, rfl, hp, B, S, q⟩ := h
    refine ⟨_, (pss_cons (ps_expr (pe_call (ok_p_check_bars T) (hr.mono (by decide)) (by rfl) T.g_p_check_bars T.F_p_check_bars.kp T.b_p_check_bars .nil pass0 (pa_cons (pv 1) pa_nil)))
      (pss_cons (ps_fld (pv 0) (pv 1) rfl)
      (pss_cons (ps_fld (pv 0) (pe_call (ok_p_whole_of T) (hr.mono (by decide)) (by rfl) T.g_p_whole_of T.F_p_whole_of.kp T.b_p_whole_of .nil pass0 (pa_cons (pv 1) pa_nil)) rfl)
      (pss_cons (ps_expr (pe_call (ok_p_check_choices T) (hr.mono (by decide)) (by rfl) T.g_p_check_choices T.F_p_check_choices.kp T.b_p_check_choices .nil pass0 (pa_cons (pv 1) pa_nil)))
      (pss_one (ps_fld (pv 0) (pe_call (ok_p_classes_of T) (hr.mono (by decide)) (by rfl) T.g_p_classes_of T.F_p_classes_of.kp T.b_p_classes_of .nil pass0 (pa_cons (pv 1) pa_nil)) rfl)))))), ?_⟩
    have st : ∀ {H1 H2 : Hp} {fs fs' : List (Str × V)}, H1 p = some (.ins T.C dx fs) → TupsStay K H1 (upd H1 p (.ins T.C dx fs')) := fun {H1 H2 fs fs'} e a xs h => by
      rcases h with (h | ⟨o, h⟩) | h
      · exact .inl (.inl (by rw [upd_ne (ne_of h e (by intro z; cases z))]; exact h))
      · exact .inl (.inr ⟨o, by rw [upd_ne (ne_of h e (by intro z; cases z))]; exact h⟩)
      · exact .inr h
    refine ⟨_, rfl, v, bs, rfl, B, S.pre, fun H1 s1 => ?_⟩
    have p1 := s1 _ _ hp
    have B1 := B.stay (.same s1)
    refine ⟨_, rfl, _, rfl, p, T.C, dx, [], rfl, p1, T.cl, T.n_bars, (by show 0 < 1000; decide), ?_⟩
    have B2 : BarsAt K _ v bs := B1.stay (st (H2 := H1) (fs' := putF "_bars" v []) p1)
    refine ⟨_, rfl, v, bs, rfl, B2, S, _, rfl, p, T.C, dx, _, rfl, upd_same, T.cl, T.n_whole, (by show 1 < 1000; decide), ?_⟩
    have B3 := B2.stay (st (H2 := H1) (fs' := putF "_whole" (.int (wh bs : Nat)) (putF "_bars" v [])) upd_same)
    refine ⟨_, rfl, v, bs, rfl, B3, S, ?_⟩
    refine ⟨_, rfl, v, bs, rfl, B3, S, fun t H4 s4 e4 => ?_⟩
    have p4 := s4 _ _ (upd_same (H := upd H1 p (.ins T.C dx (putF "_bars" v []))) (a := p) (o := .ins T.C dx (putF "_whole" (.int (wh bs : Nat)) (putF "_bars" v []))))
    refine ⟨_, rfl, p, T.C, dx, _, rfl, p4, T.cl, T.n_classes, ?_, ?_⟩
    · have l1 := putF_len "_whole" (.int (wh bs : Nat)) (putF "_bars" v [])
      have l2 := putF_len "_bars" v []
      have l3 : ([] : List (Str × V)).length = 0 := rfl
      omega
    · have B4 := B3.stay (.same s4)
      refine q t _ (fun b o n e => ?_) ⟨⟨dx, upd_same⟩, B4.stay (st (H2 := H1) p4), st (H2 := H1) p4 _ _ (tupOf e4), S⟩
      rw [upd_ne n]
      refine s4 _ _ ?_
      rw [upd_ne n, upd_ne n]
      exact s1 _ _ e
/-- Sieve(bars) at a new place x -/
theorem make_sieve {C : Addr} {H : Hp} {v : V} {bs : List Bar} {Q : VK} {E : XK} {x dx : Addr} (B : BarsAt K H v bs) (S : SvOk bs) (nx : H x = none) (ndx : H dx = none)
    (k : ∀ t H', Same H H' → SvAt K C H' x v t bs → Q .non H') : sp_m_Sieve_init K C (.ref x :: ([v] ++ [])) (upd (upd H dx (.own x)) x (.ins C dx [])) Q E := by
  have s0 : Same H (upd (upd H dx (.own x)) x (.ins C dx [])) := samePut (same_upd ndx) nx
  exact ⟨x, dx, v, bs, rfl, upd_same, B.stay (.same s0), S, fun t H' s1 A => k t H' (fun b o e => s1 b o (ne_of_none e nx) (s0 b o e)) A⟩
end

end R
namespace R
open PySem PySem.Spec PyProof.Rows L2
/-! ## the law -/
def sp_law (K : PySem.W.Frag) : Sp := fun vs H Q _ => ∃ (a : Addr) (ns : List Int), vs = [.ref a] ∧ SqL K H a (ns.map V.int) ∧ ns.length ≤ 63 ∧ ∀ H', Q (.bl true) H'
theorem powTop {bs : List Bar} {most top : Nat} (D : Drawn most top bs) (h6 : most ≤ 6) (ht : top ≤ 60) : wh bs ≤ top ^ bs.length := by
  have h : ∀ bs : List Bar, (∀ b ∈ bs, b.1.natAbs ≤ top) → wh bs ≤ top ^ bs.length := by
    refine snocInd (fun _ => by rw [List.length_nil, Nat.pow_zero]; decide) fun bs b ih h => ?_
    rw [wh_add, List.length_append]
    exact Nat.le_trans (lcm_le_mul _ _) (Nat.mul_le_mul (ih fun c hc => h c (List.mem_append_left _ hc)) (h b (List.mem_append_right _ (List.mem_singleton.mpr rfl))))
  exact h bs fun b hb => by
    have := D.bar b hb
    omega
theorem powLe {bs : List Bar} {most top N : Nat} (D : Drawn most top bs) (h6 : most ≤ 6) (h1 : 1 ≤ top) (ht : top ≤ 60) (hN : top ^ most ≤ N) : wh bs ≤ N :=
  Nat.le_trans (powTop D h6 ht) (Nat.le_trans (Nat.pow_le_pow_right h1 D.len) hN)
theorem nilOk : SvOk [] := ⟨by decide, fun b h => by simp at h, by decide, by decide⟩
theorem clsNil : cls [] = [0] := rfl

end R
namespace R
open PySem PySem.Spec PyProof.Rows L2
/-! ## an empty set -/
abbrev noSet (w : World) : Obj := { cls := .type "set", dict := none, data := .set #[] 0 (.fresh 0 0 (!w.params.followText "set-order")) }

end R
namespace R
open PySem PySem.Spec PyProof.Rows L2
/-! ## {e for t in it if ..}, e an int -/
open PpSet in
/-- D the new set; W by the turn and a measure -/
def tScI (w : World) (wi : TI) (g : TG) (tt : TT) (te : TE) (vs : List Nat) : TE := fun σ H Q => wi σ H fun J H1 => ∀ D, H1 D = none →
  ∃ W : Nat → Nat → Hp → Prop, (∃ m, W 0 m (upd H1 D (SetO w D (fun _ => false) 0))) ∧ ∀ i m H, W i m H → (J.stop i H ∧ Q (.ref D) H) ∨
    (J.go i H ∧ ∃ Nx : Hp → Prop, (∀ H', Nx H' → ∃ m', m' < m ∧ W (i + 1) m' H') ∧ ∀ x H', J.yld i H x H' → g x (wipe σ vs) H' fun σ2 H2 => wipe σ2 vs = wipe σ vs ∧ tt σ2 H2 fun b H3 =>
      if b = true then te σ2 H3 fun y H4 => ∃ (c : Int) (S : Int → Bool) (n : Nat), y = .int c ∧ H4 D = some (SetO w D S n) ∧ n + 1 < scanBound ∧ Nx (upd H4 D (SetO w D (fun j => S j || decide (j = c)) (if S c = true then n else n + 1))) else Nx H3)
open PpSet in
theorem addI_ok {X : Cx} {pins : List (Addr × Obj)} {σ : L2.St} {H : Hp} {s : Shared} {E : Value → Shared → Prop} {D : Addr} {S : Int → Bool} {n : Nat} {y : Int} {tk : Tok} {Q : Value → Shared → Prop} (I : Inv X pins σ H s)
    (hD : H D = some (SetO X.w D S n)) (room : n + 1 < scanBound) (h : ∀ s', Inv X pins σ (upd H D (SetO X.w D (fun j => S j || decide (j = y)) (if S y = true then n else n + 1))) s' → Q .none s') :
    wpAny (model X.prog X.w) X.A (call (.builtin "set.add") [.ref D, .int y tk]) Q E s := by
  refine setR_add (setO_get I hD) room fun h' sb new => h _ ?_
  obtain ⟨o, _, _, _, ho, _⟩ := id new
  exact I.write (e := D) (t' := s.toks + 1) (by rw [hD]; trivial) (.inl rfl) (fun b u hb hu => (sb.2 b hb).trans hu) ⟨o, ho⟩ (setO_new new)
open PpSet in
set_option maxHeartbeats 8000000 in
theorem scI_core {X : Cx} {pins : List (Addr × Obj)} {s : Shared} {σ : L2.St} {H : Hp} {Q : VK} {elt tg iter : Expr} {ifs : List Expr} {scope : Scope} {own : List (PySem.Str × Nat)} {pos pos' : Pos} {wi : TI} {g : TG} {tt : TT} {te : TE}
    {use : Option (Value → Sem Unit)} {Qf : Value → Shared → Prop} (hc : X.calm = true) (hN : X.N.Nodup) (I : Inv X pins σ H s) (hi : PI X tg iter wi) (ok : BlkOk X.N X.env.scope scope own)
    (hg : ∀ (s : Shared) (H : Hp) (C : Addr) (cl : List (PySem.Str × Addr)) (fp : List Addr), PG (X.blk s H scope (compEnvC scope cl C X.env) fp) tg g)
    (ht : ∀ (s : Shared) (H : Hp) (C : Addr) (cl : List (PySem.Str × Addr)) (fp : List Addr), PTs (X.blk s H scope (compEnvC scope cl C X.env) fp) ifs tt)
    (he : ∀ (s : Shared) (H : Hp) (C : Addr) (cl : List (PySem.Str × Addr)) (fp : List Addr), PE (X.blk s H scope (compEnvC scope cl C X.env) fp) elt te) (hs : ∀ x, foldedSetIterable iter X.env x = pure x)
    (h : tScI X.w wi g tt te (own.map (·.2)) σ H Q)
    (last : ∀ D C s' m H', Inv X pins σ H' s' → Q (.ref D) H' → s'.heap.Ns C m → FpOk X pins H' C → compPost (model X.prog X.w) X.A X.xe use Qf (.ref D) C (.ok .next) s') :
    wpAny (model X.prog X.w) X.A (comprehension (.SetComp elt [⟨tg, iter, ifs, 0⟩] scope pos) scope X.env pos' (newSet (.type "set")) false (eval iter X.env) use) Qf X.xe s := by
  have cap : ∀ y ∈ scope.names, y.2 = .free → ∃ c, X.env.cells.lookup y.1 = some c := fun y hy e => I.ok.has _ (ok.free y hy e)
  refine wpAny_comprehension_free (use := use) rfl hs (closure_ok cap) ok.kind (fun y hy e => by rw [ok.uniq y hy, e]) (thn (hi.run pins s σ H _ I h) fun xv s1 hx => thn hx fun itv s2 h2 => ?_)
  obtain ⟨it, fp, tn, J, H2, e, I2, T, st2, f2, q⟩ := h2
  subst e
  refine newSet_ok (newEnv_comp ?_)
  generalize hD : s2.heap.objs.size = D
  have fresh := I2.hok.fresh (Nat.le_of_eq hD)
  obtain ⟨W, ⟨m0, w0⟩, turn⟩ := q D fresh
  generalize hs3 : ({ s2 with heap := s2.heap.push (noSet X.w) } : Shared) = s3
  have h3 : s3.heap = s2.heap.push (noSet X.w) := hs3 ▸ rfl
  have I3 : Inv X pins σ (upd H2 D (SetO X.w D (fun _ => false) 0)) s3 := by
    rw [← hs3]
    refine I2.laid (t' := s2.toks) (fun b o e => Heap.get?_push_of_some _ e) (Nat.le_of_eq hD) ?_
    subst hD
    exact setO_new (setR_fresh X.w)
  have old : ∀ b ∈ fp, b < s2.heap.objs.size := fun b hb => let ⟨_, e, _⟩ := T.obj _ _ st2 b hb; Heap.lt_size e
  have f3 : ∀ b ∈ fp, FpOk X pins (upd H2 D (SetO X.w D (fun _ => false) 0)) b ∧ b < s3.heap.objs.size := fun b hb => by
    have lt := old b hb
    refine ⟨⟨?_, (f2 b hb).2⟩, h3 ▸ (by rw [Heap.size_push]; exact Nat.lt_succ_of_lt lt)⟩
    rw [upd_ne (hD ▸ Nat.ne_of_lt lt)]
    exact (f2 b hb).1
  have st3 : tn 0 s3.heap := T.keep _ _ _ st2 fun b _ o e => h3 ▸ Heap.get?_push_of_some _ e
  have I4 := block_start I3 ok hN f3
  have pg := hg s3 (upd H2 D (SetO X.w D (fun _ => false) 0)) s3.heap.objs.size (cellsFrom (s3.heap.objs.size + 1) scope.names (cloFrom X.env.cells scope.names [])) fp
  have pt := ht s3 (upd H2 D (SetO X.w D (fun _ => false) 0)) s3.heap.objs.size (cellsFrom (s3.heap.objs.size + 1) scope.names (cloFrom X.env.cells scope.names [])) fp
  have pe := he s3 (upd H2 D (SetO X.w D (fun _ => false) 0)) s3.heap.objs.size (cellsFrom (s3.heap.objs.size + 1) scope.names (cloFrom X.env.cells scope.names [])) fp
  show codeAny _ _ (.compStart (.SetComp elt [⟨tg, iter, ifs, 0⟩] scope pos) 0 (.ref it) (.ref D) (compEnvC scope (cellsFrom (s3.heap.objs.size + 1) scope.names (cloFrom X.env.cells scope.names [])) s3.heap.objs.size X.env))
    (compPost (model X.prog X.w) X.A X.xe use Qf (.ref D) s3.heap.objs.size) { s3 with heap := pushCells (s3.heap.push { cls := .type "dict", data := .dict #[] }) scope.names }
  have none3 : ∀ b ∈ fp, (upd H2 D (SetO X.w D (fun _ => false) 0)) b = none := fun b hb => (f3 b hb).1.1
  generalize hce : compEnvC scope (cellsFrom (s3.heap.objs.size + 1) scope.names (cloFrom X.env.cells scope.names [])) s3.heap.objs.size X.env = ce at I4 pg pt pe ⊢
  have cL : ce.locals = s3.heap.objs.size := hce ▸ rfl
  generalize hH3 : upd H2 D (SetO X.w D (fun _ => false) 0) = H3 at I3 I4 pg pt pe w0 none3 f3
  generalize hs4 : ({ s3 with heap := pushCells (s3.heap.push { cls := .type "dict", data := .dict #[] }) scope.names } : Shared) = s4 at I4 ⊢
  have st4 : tn 0 s4.heap := T.keep _ _ _ st3 fun b _ o e => hs4 ▸ pushCells_keeps _ _ _ _ (Heap.get?_push_of_some _ e)
  have still : ∀ {σ' : L2.St} {H' : Hp} {s' : Shared}, Inv (X.blk s3 H3 scope ce fp) [] σ' H' s' → (∀ b ∈ fp, H' b = none) → ∀ b ∈ fp, FpOk (X.blk s3 H3 scope ce fp) [] H' b := by
    intro σ' H' s' I' hn b hb
    obtain ⟨x1, x2⟩ := I'.ok.exf b hb
    exact ⟨hn b hb, x1, I'.ok.exfs b hb, .inl hb, x2, fun p hp => absurd (show p ∈ ([] : List (Addr × Obj)) ++ [] from hp) (by simp)⟩
  have loop : codeAny (model X.prog X.w) X.A (.compLoop (.SetComp elt [⟨tg, iter, ifs, 0⟩] scope pos) 0 (.ref it) (.ref D) ce) (compPost (model X.prog X.w) X.A X.xe use Qf (.ref D) s3.heap.objs.size) s4 := by
    refine compLoopS_any (fun n s' => ∃ i H', Inv (X.blk s3 H3 scope ce fp) [] (wipe σ (own.map (·.2))) H' s' ∧ tn i s'.heap ∧ (∀ b ∈ fp, H' b = none) ∧ W i n H') ?_ m0 ⟨0, H3, I4, st4, none3, w0⟩
    rintro n s5 ⟨i, H5, I5, st5, n5, w5⟩
    rcases turn i n H5 w5 with ⟨stop, done⟩ | ⟨go, Nx, hNx, step⟩
    · refine thnF (T.done (X.blk s3 H3 scope ce fp) rfl rfl rfl hc i [] s5 _ H5 (fun _ _ => False) I5 (still I5 n5) st5 stop) fun r s6 ⟨hr, I6⟩ => ?_
      subst hr
      have I7 : Inv X pins σ H5 s6 := I3.call' (ch := fp) I6.os I6.base I6.hok I6.bare fun b hb => let z := (f3 b hb).1.2; ⟨z.2.2.1, z.1, z.2.2.2.1, z.2.2.2.2⟩
      have gone : H5 s3.heap.objs.size = none := cL ▸ (show H5 ce.locals = none from I6.free)
      obtain ⟨m, hm, _⟩ := I6.loc
      have hm' : s6.heap.Ns ce.locals m := hm
      rw [cL] at hm'
      exact last D s3.heap.objs.size s6 m H5 I7 done hm' (I3.fpOk (Nat.le_refl _) gone)
    · refine thnF (T.item (X.blk s3 H3 scope ce fp) rfl rfl rfl hc i [] s5 _ H5 (fun _ _ => False) I5 (still I5 n5) st5 go) fun r s6 ⟨u, hr, h6⟩ => ?_
      subst hr
      refine thnF h6 fun _ s7 ⟨x, H7, I7, r7, y7, st7, n7⟩ => ?_
      have I7' := I7.pinned (still I7 n7) (T.obj _ _ st7)
      refine thnF (pg.run _ s7 _ H7 x u _ I7' r7 (step x H7 y7)) fun _ s8 ⟨σ8, H8, I8, hw8, q8⟩ => ?_
      refine thnF (pt.run _ s8 σ8 H8 _ I8 q8) fun b s9 ⟨H9, I9, q9⟩ => ?_
      have fin : ∀ {s' : Shared} {H' : Hp}, Inv (X.blk s3 H3 scope ce fp) ([] ++ pinsAt fp s7.heap) σ8 H' s' → Nx H' →
          ∃ m, m < n ∧ ∃ i H', Inv (X.blk s3 H3 scope ce fp) [] (wipe σ (own.map (·.2))) H' s' ∧ tn i s'.heap ∧ (∀ b ∈ fp, H' b = none) ∧ W i m H' := by
        intro s' H' I' nx
        obtain ⟨m', hm, w'⟩ := hNx H' nx
        have pinned : ∀ b ∈ fp, ∀ o, s7.heap.get? b = some o → s'.heap.get? b = some o ∧ H' b = none := fun b hb o e => by
          have z := I'.pin (b, o) (List.mem_append_right _ (List.mem_append_right _ (mem_pinsAt hb e)))
          exact ⟨z.1, z.2.1⟩
        have len : (wipe σ (own.map (·.2))).length = σ8.length := by rw [← hw8, wipe_length]
        refine ⟨m', hm, i + 1, H', (I'.unpinned (pins := [])).weak len (fun j v e => (wipe_some (hw8 ▸ e)).1), T.keep _ _ _ st7 fun b hb o e => (pinned b hb o e).1, fun b hb => ?_, w'⟩
        obtain ⟨o, e, _⟩ := T.obj _ _ st7 b hb
        exact (pinned b hb o e).2
      cases b with
      | false =>
        rw [if_neg Bool.false_ne_true] at q9 ⊢
        exact fin I9 q9
      | true =>
        rw [if_pos rfl] at q9 ⊢
        refine thnF (pe.run _ s9 σ8 H9 _ I9 q9) fun z s10 ⟨yv, H10, I10, r10, c, S0, n0, ey, hD10, room, nx⟩ => ?_
        subst ey
        obtain ⟨tk, rfl⟩ : ∃ t, z = Value.int c t := r10
        exact addI_ok (X := X.blk s3 H3 scope ce fp) I10 hD10 room fun s11 I11 => fin I11 nx
  exact codeAny_compStart_set loop (T.self X.A 0 _ _ _ st4 loop)
open PpSet in
theorem pe_scI {X : Cx} {elt tg iter : Expr} {ifs : List Expr} {scope : Scope} {own : List (PySem.Str × Nat)} {pos : Pos} {wi : TI} {g : TG} {tt : TT} {te : TE} (hc : X.calm = true) (hN : X.N.Nodup) (hi : PI X tg iter wi)
    (ok : BlkOk X.N X.env.scope scope own) (hg : ∀ (s : Shared) (H : Hp) (C : Addr) (cl : List (PySem.Str × Addr)) (fp : List Addr), PG (X.blk s H scope (compEnvC scope cl C X.env) fp) tg g)
    (ht : ∀ (s : Shared) (H : Hp) (C : Addr) (cl : List (PySem.Str × Addr)) (fp : List Addr), PTs (X.blk s H scope (compEnvC scope cl C X.env) fp) ifs tt)
    (he : ∀ (s : Shared) (H : Hp) (C : Addr) (cl : List (PySem.Str × Addr)) (fp : List Addr), PE (X.blk s H scope (compEnvC scope cl C X.env) fp) elt te) (hs : ∀ x, foldedSetIterable iter X.env x = pure x := by intro _; rfl) :
    PE X (.SetComp elt [⟨tg, iter, ifs, 0⟩] scope pos) (tScI X.w wi g tt te (own.map (·.2))) := by
  refine ⟨fun pins s σ H Q I h => ?_⟩
  rw [eval_SetComp]
  refine scI_core hc hN I hi ok hg ht he hs h fun D C s' m H' I' q hn f => ⟨m, hn, fun h'' sb => ⟨.ref D, H', ?_, rfl, q⟩⟩
  exact I'.turned (t' := s'.toks) (fun b o hb e => (sb.2 b hb).trans e) f.1 f.2.1 f.2.2.2.1 f.2.2.2.2.1 f.2.2.2.2.2
/-- over a tuple that stands still -/
theorem scI_tup {w : World} {K : PySem.W.Frag} {a : Addr} {xs : List V} {g : TG} {tt : TT} {te : TE} {vs : List Nat} {σ : L2.St} {H1 : Hp} {D : Addr} {Qd : Hp → Prop} (Pv : Nat → Hp → Prop) (h0 : Pv 0 (upd H1 D (SetO w D (fun _ => false) 0)))
    (hl : ∀ i H, i ≤ xs.length → Pv i H → SqT K H a xs)
    (hs : ∀ i x H, xs[i]? = some x → Pv i H → g x (wipe σ vs) H fun σ2 H2 => wipe σ2 vs = wipe σ vs ∧ tt σ2 H2 fun b H3 => if b = true then te σ2 H3 fun y H4 =>
      ∃ (c : Int) (S : Int → Bool) (n : Nat), y = .int c ∧ H4 D = some (SetO w D S n) ∧ n + 1 < scanBound ∧ Pv (i + 1) (upd H4 D (SetO w D (fun j => S j || decide (j = c)) (if S c = true then n else n + 1))) else Pv (i + 1) H3)
    (hd : ∀ H, Pv xs.length H → Qd H) : ∃ W : Nat → Nat → Hp → Prop, (∃ m, W 0 m (upd H1 D (SetO w D (fun _ => false) 0))) ∧ ∀ i m H, W i m H → ((Itt K a).stop i H ∧ Qd H) ∨
      ((Itt K a).go i H ∧ ∃ Nx : Hp → Prop, (∀ H', Nx H' → ∃ m', m' < m ∧ W (i + 1) m' H') ∧ ∀ x H', (Itt K a).yld i H x H' → g x (wipe σ vs) H' fun σ2 H2 => wipe σ2 vs = wipe σ vs ∧ tt σ2 H2 fun b H3 =>
        if b = true then te σ2 H3 fun y H4 => ∃ (c : Int) (S : Int → Bool) (n : Nat), y = .int c ∧ H4 D = some (SetO w D S n) ∧ n + 1 < scanBound ∧ Nx (upd H4 D (SetO w D (fun j => S j || decide (j = c)) (if S c = true then n else n + 1))) else Nx H3) := by
  refine ⟨fun i m H => m = xs.length - i ∧ i ≤ xs.length ∧ Pv i H, ⟨_, rfl, Nat.zero_le _, h0⟩, ?_⟩
  rintro i _ H ⟨rfl, hi, p⟩
  by_cases lt : i < xs.length
  · refine .inr ⟨⟨xs, xs[i], hl i H hi p, by simp [lt]⟩, Pv (i + 1), fun H' p' => ⟨xs.length - (i + 1), by omega, rfl, lt, p'⟩, fun x H' ⟨e, y⟩ => ?_⟩
    subst e
    exact hs i x _ (y xs (hl i _ hi p)) p
  · obtain rfl : i = xs.length := by omega
    exact .inl ⟨⟨xs, hl _ H hi p, Nat.le_refl _⟩, hd H p⟩

end R
namespace R
open PySem PySem.Spec PyProof.Rows L2
/-! ## set(xs) of a list of ints, sorted(set(xs)) -/
/-- how many members such a set may have -/
def Capped (w : World) (ns : List Int) (cap : Nat) : Prop := ∀ (i : Nat) (h : Heap) (a : Addr) (c : Nat), SetR w h a (fun j => decide (j ∈ ns.take i)) c → c ≤ cap
theorem nodup_le : ∀ {xs ys : List Int}, xs.Nodup → (∀ x ∈ xs, x ∈ ys) → xs.length ≤ ys.length
  | [], _, _, _ => Nat.zero_le _
  | x :: xs, ys, nd, sub => by
    obtain ⟨n1, n2⟩ := List.nodup_cons.mp nd
    have hx : x ∈ ys := sub x List.mem_cons_self
    have e := nodup_le (ys := ys.erase x) n2 fun z hz => (List.mem_erase_of_ne fun q => n1 (by rw [← q]; exact hz)).mpr (sub z (List.mem_cons_of_mem _ hz))
    rw [List.length_erase_of_mem hx] at e
    have := List.length_pos_of_mem hx
    show xs.length + 1 ≤ ys.length
    omega
theorem capBy {w : World} {ns ys : List Int} (sub : ∀ x ∈ ns, x ∈ ys) : Capped w ns ys.length := by
  rintro i h a c ⟨o, es, ep, t, _, _, _, _, nd, mem, _, _, cnt, _⟩
  have e := nodup_le nd fun x hx => sub x (List.mem_of_mem_take (of_decide_eq_true ((mem x).mpr hx)))
  rw [List.length_map, Array.length_toList, cnt] at e
  exact e
theorem capRange {w : World} {ns : List Int} {m : Nat} (h : ∀ x ∈ ns, 0 ≤ x ∧ x < (m : Int)) : Capped w ns m := by
  have e := capBy (w := w) (ns := ns) (ys := (List.range m).map fun i : Nat => (i : Int)) fun x hx => by
    obtain ⟨h1, h2⟩ := h x hx
    exact List.mem_map.mpr ⟨x.toNat, List.mem_range.mpr (by omega), by omega⟩
  rw [List.length_map, List.length_range] at e
  exact e
theorem capLen {w : World} (ns : List Int) : Capped w ns ns.length := capBy fun _ h => h
/-- the walk of set.update over ints -/
theorem upd_ints {P : Program} {w : World} {A : Around} {I : Addr} {fp wr : List Addr} {G : Array GenState → Array GenState → Prop} {n : Nat} {Pv : Nat → Value → Prop} {St : Nat → Shared → Prop} {R : Result → Shared → Prop}
    (W : WalksS P w A.in1 I fp wr G n Pv St) (S : Addr) (far : S ∉ fp) (ns : List Int) (hn : n = ns.length) (cap : Nat) (few : cap + 1 < scanBound) (cp : Capped w ns cap) (val : ∀ i v, Pv i v → ∃ k t, ns[i]? = some k ∧ v = .int k t) :
    ∀ (k i : Nat) (s : Shared), n - i = k → i ≤ n → St i s → (∃ c, SetR w s.heap S (fun j => decide (j ∈ ns.take i)) c) →
      (∀ s' c, Moved (S :: wr) G s s' → c ≤ cap → SetR w s'.heap S (fun j => decide (j ∈ ns)) c → R (.ok (.ret .none)) s') →
      codeAny (model P w) A (.builtin "set.update.loop" ⟨[.ref S, .ref I], []⟩) R s := by
  have farW : S ∉ wr := fun z => far (W.sub _ z)
  have more : ∀ b ∈ wr, b ∈ S :: wr := fun b z => List.mem_cons_of_mem _ z
  intro k
  induction k with
  | zero =>
    rintro i s ek le st ⟨c, hS⟩ hR
    obtain rfl : i = n := by omega
    refine codeAny_builtin F.entry_set_update_loop ?_
    rw [Around.under_plainId F.plain_set_update_loop _]
    show wpAny _ A.in1 (pyNext (.ref I) >>= _) _ _ s
    refine wpAny_bind (W.done s _ _ st fun s' mv => ?_)
    show wpAny _ A.in1 (ret Value.none) _ _ s'
    rw [List.take_of_length_le (by omega)] at hS
    have hS' := hS.at (h' := s'.heap) fun o e => mv.heap S o farW e
    exact wpAny_pure (hR s' c (mv.mono more) (cp ns.length _ S c (by rw [List.take_length]; exact hS')) hS')
  | succ k ih =>
    rintro i s ek le st ⟨c, hS⟩ hR
    have lt : i < n := by omega
    refine codeAny_builtin F.entry_set_update_loop ?_
    rw [Around.under_plainId F.plain_set_update_loop _]
    show wpAny _ A.in1 (pyNext (.ref I) >>= _) _ _ s
    refine wpAny_bind (W.item i s _ _ lt st fun v s' pv st' mv => ?_)
    obtain ⟨z, t, hz, rfl⟩ := val i v pv
    have hS1 : SetR w s'.heap S (fun j => decide (j ∈ ns.take i)) c := hS.at fun o e => mv.heap S o farW e
    have hc := cp i _ S c hS1
    show wpAny _ A.in1 (holding [Value.int z t] (setAdd S (.int z t)) >>= _) _ _ s'
    refine wpAny_bind (wpAny_holding ?_)
    unfold setAdd
    refine wpAny_holding (wpAny_bind ((intKind P w).pyHash (k := z) (intKind_is _ _ _ _) ?_))
    refine setR_add_hashed (s := { s' with toks := s'.toks + 1 }) hS1 (by omega) fun h' sb hS2 => ?_
    have hS3 := hS2.congr (S' := fun j => decide (j ∈ ns.take (i + 1))) fun j => by
      rw [List.take_add_one, hz]
      simp [List.mem_append]
    refine wpAny_pure ⟨plainId_quiet F.plain_set_update_loop _, ih (i + 1) _ (by omega) lt (W.frame _ s' _ _ st' (Nat.le_succ _) fun b hb o e => ?_) ⟨_, hS3⟩ fun s2 c2 mv2 hc2 hS4 => ?_⟩
    · rw [sb.2 b (fun q : b = S => far (by rw [← q]; exact hb))]; exact e
    · refine hR s2 c2 (Moved.trans W.gtrans ((mv.mono more).then_heap (Nat.le_succ _) fun b o hb e => ?_) mv2) hc2 hS4
      rw [sb.2 b (fun q : b = S => hb (by rw [q]; exact List.mem_cons_self))]; exact e
set_option maxHeartbeats 8000000 in
theorem call_setG {P : Program} {w : World} {A : Around} {E : Value → Shared → Prop} {s : Shared} {l : Addr} {items : Array Value} (ns : List Int) {Q : Value → Shared → Prop} (hh : A.handled = none) (hl : s.heap.IsList l items)
    (hit : IntsAre items.toList ns) (cap : Nat) (few : cap + 1 < scanBound) (cp : Capped w ns cap)
    (h : ∀ (h' : Heap) (tk c : Nat), c ≤ cap → SetR w h' s.heap.objs.size (fun j => decide (j ∈ ns)) c → (∀ b o, s.heap.get? b = some o → h'.get? b = some o) → Q (.ref s.heap.objs.size) { s with heap := h', toks := tk }) :
    wpAny (model P w) A (call (.type "set") [.ref l]) Q E s := by
  have size_ : items.size = ns.length := Array.length_toList.symm.trans (IntsAre.length hit)
  obtain ⟨c, tl, hmro⟩ := F.called_set.mro
  have m1 := F.called_set.made
  have m2 := F.called_set.sub
  refine wpAny_call (codeAny_of_tree (show wpAny _ _ (callAny (.type "set") _) _ _ _ from wpAny_pure ⟨Code.quiet_builtin _ (by decide +kernel), codeAny_builtin F.entry_type_call ?_⟩))
  rw [Around.under_plain (weight_type_call_type "set" [.ref l] []) rfl]
  have m3 := F.called_set.notType
  have m4 := F.called_set.canCreate
  have m5 := F.typeCall_set_1 (.ref l)
  repeat (any_goals (first | assumption | wp_step))
  refine codeAny_mono (code_set_led1 (.ref l) (E := E) (Q₁ := fun ob s1 => ob = .ref s.heap.objs.size ∧ s1 = { s with heap := s.heap.push (noSet w) }) ⟨rfl, rfl⟩) fun r s1 hr => ?_
  cases r with
  | error e => exact hr
  | ok fl =>
    cases fl with
    | ret ob =>
      obtain ⟨rfl, rfl⟩ := hr
      have gS : (s.heap.push (noSet w)).get? s.heap.objs.size = some (noSet w) := Heap.get?_push_size _ rfl
      have tS : Shared.TypeIs { s with heap := s.heap.push (noSet w) } (.ref s.heap.objs.size) "set" := ⟨_, gS, rfl⟩
      have m6 := F.called_set.init.lookup
      have m7 := F.called_set.init.bind (.ref s.heap.objs.size)
      repeat (any_goals (first | assumption | wp_step))
      refine codeAny_mono (codeAny_call_builtin (R := wants (fun r s2 => r = .none ∧ ∃ h' tk c, s2 = { s with heap := h', toks := tk } ∧ c ≤ cap ∧ SetR w h' s.heap.objs.size (fun j => decide (j ∈ ns)) c ∧ (∀ b o, s.heap.get? b = some o → h'.get? b = some o)) E)
        F.called_set.init.plain F.entry_set_init (check_set_init_1 tS ?_)) fun r2 s2 hr2 => ?_
      · obtain ⟨⟨oc, od, odt, osl⟩, gL, e1, nl, e2⟩ := hl
        dsimp only at e1 e2
        subst e1 e2
        have gL' : (s.heap.push (noSet w)).get? l = some { cls := .type "list", dict := od, data := .seq items nl, slots := osl } := Heap.get?_push_of_some _ gL
        have n1 := F.sub_list_set
        have n2 := F.sub_list_frozenset
        have n3 : (Value.type "list" == Value.type "dict") = false := by decide
        have lL : (s.heap.push (noSet w)).IsList l items := ⟨_, gL', rfl, nl, rfl⟩
        unfold Builtin.«set.__init__» noKeywords Builtin.Frozenset.updateFrom
        generalize iter_ : pyIter = PI
        wp_walk
        subst iter_
        refine wpAny_pyIter_list lL (wpAny_bind (wpAny_runValue ?_))
        have lt : l < s.heap.objs.size := Heap.lt_size gL
        have sz : (s.heap.push (noSet w)).objs.size = s.heap.objs.size + 1 := Heap.size_push ..
        have far : l ≠ (s.heap.push (noSet w)).objs.size := by rw [sz]; exact Nat.ne_of_lt (Nat.lt_succ_of_lt lt)
        have out : s.heap.objs.size ∉ [(s.heap.push (noSet w)).objs.size, l] := by
          rw [sz]
          simp only [List.mem_cons, List.not_mem_nil, or_false, not_or]
          exact ⟨Nat.ne_of_lt (Nat.lt_succ_self _), Nat.ne_of_gt lt⟩
        have val : ∀ (i : Nat) (v : Value), items[i]? = some v → ∃ k t, ns[i]? = some k ∧ v = .int k t := fun i v hv => by
          have hi : i < ns.length := size_ ▸ (Array.getElem?_eq_some_iff.mp hv).1
          obtain ⟨t, e⟩ := PyProof.Rows.IntsAre.int_at hit i v (by rw [Array.getElem?_toList]; exact hv)
          exact ⟨ns[i], t, List.getElem?_eq_getElem hi, by rw [e, List.getD_eq_getElem?_getD, List.getElem?_eq_getElem hi]; rfl⟩
        refine upd_ints ((Walks.list (A := A.in1.in1.in1) (by simp [hh]) _ l far items).toS) s.heap.objs.size out ns size_ cap few cp val (items.size - 0) 0 _ (by omega) (Nat.zero_le _)
          ⟨⟨_, Heap.get?_push_size _ rfl, rfl, rfl⟩, lL.push _⟩ ⟨0, setR_new_at (Heap.get?_push_of_some _ gS)⟩ fun s' c' mv hc' hS' => ?_
        obtain ⟨h', g2, d', tk', os'⟩ := s'
        obtain rfl : g2 = s.gens := mv.gens
        obtain rfl : d' = s.drawn := mv.drawn
        obtain rfl : os' = s.os := mv.os
        refine wpAny_pure (show wpAny _ _ (ret Value.none) _ _ _ from wpAny_pure ⟨rfl, h', tk', c', rfl, hc', hS', fun b o e => ?_⟩)
        have b0 : b < s.heap.objs.size := Heap.lt_size e
        refine mv.heap b o ?_ (Heap.get?_push_of_some _ (Heap.get?_push_of_some _ e))
        rw [sz]
        simp only [List.mem_cons, List.not_mem_nil, or_false, not_or]
        exact ⟨Nat.ne_of_lt b0, Nat.ne_of_lt (Nat.lt_succ_of_lt b0)⟩
      · cases r2 with
        | error e => exact hr2
        | ok fl2 =>
          cases fl2 with
          | ret r =>
            obtain ⟨rfl, h', tk, c', rfl, hc', hS', hk'⟩ := hr2
            repeat (any_goals (first | assumption | wp_step))
            exact h _ _ _ hc' hS' hk'
          | _ => exact hr2.elim
    | _ => exact hr.elim
/-- set(xs), xs a list of ints -/
def rSetG (K : PySem.W.Frag) (w : World) : List V → Hp → VK → Prop := fun vs H Q => ∃ (a : Addr) (ns : List Int) (cap : Nat), vs = [.ref a] ∧ SqL K H a (ns.map V.int) ∧ Capped w ns cap ∧ cap ≤ 4000 ∧
  ∀ p c, c ≤ cap → H p = none → Q (.ref p) (upd H p (SetO w p (fun j => decide (j ∈ ns)) c))
theorem cr_setG {X : Cx} (hc : X.calm = true) : CallR X (.type "set") (rSetG X.K X.w) := by
  intro pn st σ H vs us Q I r h
  obtain ⟨a, ns, cap, rfl, ha, cp, few, q⟩ := h
  rw [Vals.ref1 r]
  obtain ⟨its, rv, p, _⟩ := I.list ha
  have new : H st.heap.objs.size = none := I.hok.fresh (Nat.le_refl _)
  have b4 : (4001 : Nat) < scanBound := by decide
  refine call_setG ns (I.ok.hd hc) p.isList (by simpa using ints_of_vals rv) cap (by omega) cp fun h' tk c hc R k => ?_
  exact ⟨.ref _, _, I.laid (t' := tk) k (Nat.le_refl _) (setO_new R), rfl, q _ _ hc new⟩

end R
namespace R
open PySem PySem.Spec PyProof.Rows L2
/-! ## sorted of a set of ints, any number of them -/
theorem run_sortedS {P : Program} {w : World} {A : Around} {E : Value → Shared → Prop} {st : Shared} {a : Addr} {S : Int → Bool} {n : Nat} {Q : Value → Shared → Prop} (R : SetR w st.heap a S n) (nh : A.handled = none)
    (fin : ∀ s' p (out : Array Value) (c : Nat) (ns : List Int), (∀ b o, st.heap.get? b = some o → s'.heap.get? b = some o) → s'.gens = st.gens → s'.os = st.os → st.heap.objs.size ≤ p →
      s'.heap.get? p = some (seqObj "list" out c) → IntsAre out.toList ns → ns.Pairwise (· < ·) ∧ (∀ k, k ∈ ns ↔ S k = true) ∧ ns.length = n → Q (.ref p) s') :
    wpAny (model P w) A (call (.builtin "sorted") [.ref a]) Q E st := by
  obtain ⟨o, es, ep, t, ho, hex, hd, g, nd, mem, bound, fit, cnt, ris, led⟩ := R
  refine Calls.call_function_entry PyProof.Rows.kind_sorted PyProof.Rows.plain_sorted PyProof.Rows.entry_sorted (PyProof.Rows.args_sorted1 _) ?_
  unfold Builtin.«sorted»
  refine wpAny_bind (m := checkCount "sorted" 1 1 _) <| wpAny_pure ?_
  refine wpAny_bind (collect_set (A := A.in1) nh ⟨o, ho, hex.1, hd⟩ fit bound ris led fun s1 vs kp sz gn os pm => ?_)
  have lv : vs.length = n := by rw [pm.length_eq, List.length_map, Array.length_toList, cnt]
  have iv : IntsAre vs (vs.map Builtin.Re.reRawOf) := L2.ints_of vs fun v hv => by
    obtain ⟨e, he, ev⟩ := List.mem_map.mp (pm.mem_iff.mp hv)
    obtain ⟨k, tk, ek, _⟩ := g e he
    exact ⟨k, tk, ev ▸ ek⟩
  have kk : (vs.map Builtin.Re.reRawOf).Perm (es.toList.map keyOf) := by
    have q := pm.map Builtin.Re.reRawOf
    rw [List.map_map] at q
    exact q
  have small : vs.length ≤ sizeLine := by
    rw [lv, ← cnt]
    exact fits_of_scanBound bound
  refine wpAny_bind (wpAny_newList ?_ small)
  have at1 : (s1.heap.push (seqObj "list" vs.toArray 0)).get? s1.heap.objs.size = some (seqObj "list" vs.toArray 0) := Heap.get?_push_size _ rfl
  refine wpAny_bind (wpAny_holding (wpAny_call_entry PyProof.Rows.slot_list_sort ⟨_, at1, rfl⟩ PyProof.Rows.entry_list_sort
    (SrtO.list_sort_ord SrtO.swo_int at1 small (fun two => SrtO.ints_sortable iv two) fun out o1 o2 => ⟨_, rfl, ?_⟩) (PyProof.Rows.args_list_sort _)))
  obtain ⟨c, hc⟩ := PyProof.Rows.sortedHeap_at (vs := vs) (out := out.toArray) at1
  obtain ⟨k1, k2, k3⟩ := SrtO.ints_out iv o1 o2
  have pn := k2.trans kk
  refine wpAny_pure ⟨_, rfl, fin _ s1.heap.objs.size out.toArray c (out.map SrtO.iv) (fun b u e => ?_) gn os sz hc k1 ⟨L2.lt_of_le_nodup _ k3 (pn.nodup_iff.mpr nd), fun k => by rw [pn.mem_iff, ← mem k], ?_⟩⟩
  · have q := kp b u e
    have lt := Heap.lt_size q
    show (PyProof.Rows.sortedHeap (s1.heap.push (seqObj "list" vs.toArray 0)) s1.heap.objs.size vs out.toArray).get? b = some u
    rw [PyProof.Rows.sortedHeap_old (Nat.ne_of_lt lt) (by rw [size_push']; exact Nat.lt_succ_of_lt lt)]
    exact Heap.get?_push_of_some _ q
  · rw [pn.length_eq, List.length_map, Array.length_toList]; exact cnt
def rSortedSL (w : World) : List V → Hp → VK → Prop := fun vs H Q => ∃ (a : Addr) (S : Int → Bool) (n : Nat), vs = [V.ref a] ∧ H a = some (SetO w a S n) ∧ n ≤ 100000 ∧
  ∀ (ns : List Int) (p : Addr), ns.Pairwise (· < ·) → (∀ k : Int, k ∈ ns ↔ S k = true) → ns.length = n → H p = none → Q (.ref p) (upd H p (.lst (ns.map V.int)))
theorem cr_sortedSL {X : Cx} (hc : X.calm = true) : CallR X (.builtin "sorted") (rSortedSL X.w) := by
  intro pn st σ H vs us Q I r h
  obtain ⟨a, S, n, rfl, ha, few, q⟩ := h
  rw [Vals.ref1 r]
  refine run_sortedS (setO_get I ha) (I.ok.hd hc) fun s' p out c ns k g o hp hg hi ⟨h1, h2, h3⟩ => ?_
  have new : H p = none := I.hok.fresh hp
  have small : (ns.map V.int).length ≤ sizeLine := by rw [List.length_map, h3]; exact sizeOk few
  have J : Inv X pn σ (upd H p (.lst (ns.map V.int))) { st with heap := s'.heap, gens := s'.gens, drawn := s'.drawn, toks := s'.toks } :=
    I.call (ch := []) (Un.laid k hp new) (I.hok.laid k hp ⟨small, out.toList, c, vals_of_ints hi, hg⟩) (by rw [g]; exact I.bare) fun _ z => nomatch z
  have e : s' = { st with heap := s'.heap, gens := s'.gens, drawn := s'.drawn, toks := s'.toks } := by
    cases s'
    cases st
    cases o
    rfl
  rw [e]
  exact ⟨.ref p, _, J, rfl, q ns p h1 h2 h3 new⟩

end R
namespace R
open PySem PySem.Spec PyProof.Rows L2
/-! ## places: the fitting numbers in a row -/
def below (c : List Int) (y : Int) : Nat := (c.filter fun z => decide (z < y)).length
/-- the place of the least fitting number from x on -/
def pl (bs : List Bar) (x : Int) : Int := x / (wh bs : Int) * ((cls bs).length : Int) + (below (cls bs) (x % (wh bs : Int)) : Int)
theorem below_succ {c : List Int} (h : c.Pairwise (· < ·)) (y : Int) : below c (y + 1) = below c y + (if y ∈ c then 1 else 0) := by
  induction c with
  | nil => rfl
  | cons a r ih =>
    obtain ⟨h1, h2⟩ := List.pairwise_cons.mp h
    have ih := ih h2
    unfold below at ih ⊢
    by_cases e : a = y
    · subst e
      have n : a ∉ r := fun z => by have := h1 a z; omega
      rw [if_neg n] at ih
      rw [List.filter_cons_of_pos (by simp; omega), List.filter_cons_of_neg (by simp), List.length_cons, if_pos List.mem_cons_self, ih]
    · have em : (y ∈ a :: r) = (y ∈ r) := by
        rw [List.mem_cons]
        exact propext ⟨fun z => z.elim (fun w => absurd w.symm e) id, .inr⟩
      simp only [em]
      by_cases l : a < y
      · rw [List.filter_cons_of_pos (by simp; omega), List.filter_cons_of_pos (by simp; omega), List.length_cons, List.length_cons, ih]
        omega
      · rw [List.filter_cons_of_neg (by simp; omega), List.filter_cons_of_neg (by simp; omega), ih]
theorem below_zero {c : List Int} (h : ∀ z ∈ c, 0 ≤ z) : below c 0 = 0 := by
  unfold below
  rw [List.filter_eq_nil_iff.mpr fun z hz => by have := h z hz; simp; omega]
  rfl
theorem below_all {c : List Int} {w : Int} (h : ∀ z ∈ c, z < w) : below c w = c.length := by
  unfold below
  rw [List.filter_eq_self.mpr fun z hz => by have := h z hz; simp; omega]
theorem cls_mem {bs : List Bar} {x : Int} : x ∈ cls bs ↔ 0 ≤ x ∧ x < (wh bs : Int) ∧ fitsB bs x = true := (cls_is bs).mem x
theorem divStep {x w : Int} (hw : 0 < w) : (x % w + 1 < w ∧ (x + 1) / w = x / w ∧ (x + 1) % w = x % w + 1) ∨ (x % w + 1 = w ∧ (x + 1) / w = x / w + 1 ∧ (x + 1) % w = 0) := by
  have h0 := Int.emod_nonneg x (Int.ne_of_gt hw)
  have h1 := Int.emod_lt_of_pos x hw
  have h2 := Int.mul_ediv_add_emod x w
  by_cases h : x % w + 1 < w
  · refine .inl ⟨h, ?_⟩
    have e : x + 1 = (x % w + 1) + w * (x / w) := by omega
    rw [e, Int.add_mul_ediv_left _ _ (Int.ne_of_gt hw), Int.add_mul_emod_self_left, Int.ediv_eq_zero_of_lt (by omega) h, Int.emod_eq_of_lt (by omega) h]
    exact ⟨by omega, rfl⟩
  · refine .inr ⟨by omega, ?_⟩
    have e : x + 1 = 0 + w * (x / w + 1) := by rw [Int.mul_add]; omega
    rw [e, Int.add_mul_ediv_left _ _ (Int.ne_of_gt hw), Int.add_mul_emod_self_left]
    exact ⟨by rw [Int.zero_ediv, Int.zero_add], Int.zero_emod _⟩
def PosOk (bs : List Bar) : Prop := 0 < wh bs
theorem pl_succ {bs : List Bar} (hw : 0 < wh bs) (x : Int) : pl bs (x + 1) = pl bs x + (if fitsB bs x = true then 1 else 0) := by
  have hw' : (0 : Int) < (wh bs : Int) := by omega
  have r0 := Int.emod_nonneg x (Int.ne_of_gt hw')
  have r1 := Int.emod_lt_of_pos x hw'
  have key : (below (cls bs) (x % (wh bs : Int) + 1) : Int) = (below (cls bs) (x % (wh bs : Int)) : Int) + (if fitsB bs x = true then 1 else 0) := by
    rw [below_succ (cls_up bs)]
    have em : (x % (wh bs : Int) ∈ cls bs) ↔ fitsB bs x = true := by
      rw [cls_mem, fitsB_mod]
      exact ⟨fun h => h.2.2, fun h => ⟨r0, r1, h⟩⟩
    by_cases f : fitsB bs x = true
    · rw [if_pos (em.mpr f), if_pos f]
      rfl
    · rw [if_neg (fun z => f (em.mp z)), if_neg f]
      rfl
  unfold pl
  rcases divStep (x := x) hw' with ⟨_, e1, e2⟩ | ⟨h, e1, e2⟩
  · rw [e1, e2, key]
    omega
  · rw [e1, e2, below_zero fun z hz => (cls_mem.mp hz).1]
    rw [h, below_all fun z hz => (cls_mem.mp hz).2.1] at key
    rw [Int.add_mul, Int.one_mul]
    omega
/-- how many fit from a on, k numbers -/
def cnt (bs : List Bar) (a : Int) (k : Nat) : Nat := ((List.range k).filter fun i : Nat => fitsB bs (a + i)).length
theorem cnt_succ (bs : List Bar) (a : Int) (k : Nat) : cnt bs a (k + 1) = cnt bs a k + (if fitsB bs (a + k) = true then 1 else 0) := by
  unfold cnt
  rw [List.range_succ, List.filter_append, List.length_append]
  by_cases f : fitsB bs (a + k) = true
  · rw [List.filter_cons_of_pos (p := fun i : Nat => fitsB bs (a + i)) f, if_pos f]
    rfl
  · rw [List.filter_cons_of_neg (p := fun i : Nat => fitsB bs (a + i)) f, if_neg f]
    rfl
theorem pl_add {bs : List Bar} (hw : 0 < wh bs) (a : Int) (k : Nat) : pl bs (a + k) = pl bs a + (cnt bs a k : Int) := by
  induction k with
  | zero =>
    show pl bs (a + 0) = pl bs a + ((0 : Nat) : Int)
    rw [Int.add_zero]
    omega
  | succ k ih =>
    rw [cnt_succ, show a + ((k + 1 : Nat) : Int) = (a + k) + 1 by omega, pl_succ hw, ih]
    by_cases f : fitsB bs (a + k) = true
    · rw [if_pos f, if_pos f]
      omega
    · rw [if_neg f, if_neg f]
      omega
theorem pl_whole {bs : List Bar} (hw : 0 < wh bs) (x j : Int) : pl bs (x + j * (wh bs : Int)) = pl bs x + j * ((cls bs).length : Int) := by
  unfold pl
  rw [Int.add_mul_ediv_right _ _ (by omega), Int.add_mul_emod_self_right, Int.add_mul]
  omega
theorem pl_mono {bs : List Bar} (hw : 0 < wh bs) {a b : Int} (h : a ≤ b) : pl bs a ≤ pl bs b := by
  have e := pl_add hw a (b - a).toNat
  rw [show a + (((b - a).toNat : Nat) : Int) = b by omega] at e
  omega
theorem pl_fit {bs : List Bar} (hw : 0 < wh bs) {a b : Int} (f : fitsB bs a = true) (h : a < b) : pl bs a < pl bs b := by
  have e := pl_succ hw a
  rw [if_pos f] at e
  have := pl_mono hw (show a + 1 ≤ b by omega)
  omega
theorem fit_unique {bs : List Bar} (hw : 0 < wh bs) {a b : Int} (fa : fitsB bs a = true) (fb : fitsB bs b = true) (e : pl bs a = pl bs b) : a = b := by
  by_cases h : a = b
  · exact h
  · by_cases l : a < b
    · have := pl_fit hw fa l
      omega
    · have := pl_fit hw fb (show b < a by omega)
      omega
/-- the fitting number at a place -/
def st (bs : List Bar) (q : Int) : Int := q / ((cls bs).length : Int) * (wh bs : Int) + (cls bs).getD (q % ((cls bs).length : Int)).toNat 0
theorem below_at {c : List Int} (h : c.Pairwise (· < ·)) : ∀ {j : Nat} {x : Int}, c[j]? = some x → below c x = j := by
  induction c with
  | nil => intro j x e; simp at e
  | cons a r ih =>
    obtain ⟨h1, h2⟩ := List.pairwise_cons.mp h
    intro j x e
    cases j with
    | zero =>
      cases Option.some.inj e
      unfold below
      rw [List.filter_eq_nil_iff.mpr fun z hz => ?_]
      · rfl
      · rcases List.mem_cons.mp hz with rfl | hz
        · simp
        · have := h1 z hz
          simp
          omega
    | succ j =>
      have e' : r[j]? = some x := e
      have q := ih h2 e'
      have lt := h1 x (List.mem_of_getElem? e')
      unfold below at q ⊢
      rw [List.filter_cons_of_pos (by simp; omega), List.length_cons, q]
section
variable {bs : List Bar} {q : Int}
theorem st_parts (hw : 0 < wh bs) (hn : 0 < (cls bs).length) : ∃ x, (cls bs)[(q % ((cls bs).length : Int)).toNat]? = some x ∧ st bs q = x + q / ((cls bs).length : Int) * (wh bs : Int) ∧ 0 ≤ x ∧ x < (wh bs : Int) ∧ fitsB bs x = true := by
  have r0 := Int.emod_nonneg q (show ((cls bs).length : Int) ≠ 0 by omega)
  have r1 := Int.emod_lt_of_pos q (show (0 : Int) < ((cls bs).length : Int) by omega)
  have hj : (q % ((cls bs).length : Int)).toNat < (cls bs).length := by omega
  have e := List.getElem?_eq_getElem hj
  refine ⟨_, e, ?_, cls_mem.mp (List.mem_of_getElem? e)⟩
  unfold st
  rw [List.getD_eq_getElem?_getD, e, Int.add_comm]
  rfl
theorem fits_st (hw : 0 < wh bs) (hn : 0 < (cls bs).length) : fitsB bs (st bs q) = true := by
  obtain ⟨x, _, e, x0, x1, f⟩ := st_parts (q := q) hw hn
  rw [e, ← fitsB_mod, Int.add_mul_emod_self_right, fitsB_mod]
  exact f
theorem pl_st (hw : 0 < wh bs) (hn : 0 < (cls bs).length) : pl bs (st bs q) = q := by
  obtain ⟨x, h, e, x0, x1, f⟩ := st_parts (q := q) hw hn
  have r0 := Int.emod_nonneg q (show ((cls bs).length : Int) ≠ 0 by omega)
  have d := Int.mul_ediv_add_emod q ((cls bs).length : Int)
  rw [e, pl_whole hw]
  unfold pl
  rw [Int.emod_eq_of_lt x0 x1, Int.ediv_eq_zero_of_lt x0 x1, Int.zero_mul, Int.zero_add, below_at (cls_up bs) h, Int.mul_comm]
  omega
theorem st_pl (hw : 0 < wh bs) {x : Int} (f : fitsB bs x = true) : st bs (pl bs x) = x := by
  have hn : 0 < (cls bs).length := List.length_pos_of_mem (cls_mem.mpr ⟨Int.emod_nonneg x (by omega), Int.emod_lt_of_pos x (by omega), by rw [fitsB_mod]; exact f⟩)
  exact fit_unique hw (fits_st hw hn) f (pl_st hw hn)
end
theorem cls_empty {bs : List Bar} (hw : 0 < wh bs) (h : cls bs = []) (x : Int) : fitsB bs x = false := by
  cases f : fitsB bs x with
  | false => rfl
  | true =>
    have := cls_mem.mpr ⟨Int.emod_nonneg x (show (wh bs : Int) ≠ 0 by omega), Int.emod_lt_of_pos x (show (0 : Int) < (wh bs : Int) by omega), by rw [fitsB_mod]; exact f⟩
    rw [h] at this
    simp at this
theorem cnt_le (bs : List Bar) (a : Int) (k : Nat) : cnt bs a k ≤ k := by
  unfold cnt
  have h := List.length_filter_le (fun i : Nat => fitsB bs (a + i)) (List.range k)
  rw [List.length_range] at h
  exact h
theorem below_le (c : List Int) (y : Int) : below c y ≤ c.length := List.length_filter_le _ _
/-- how great a place may be -/
theorem pl_size {bs : List Bar} (hw : 0 < wh bs) {x : Int} {N : Nat} (hx : x.natAbs ≤ N) : (pl bs x).natAbs ≤ N * (cls bs).length + (cls bs).length := by
  unfold pl
  have h1 : (x / (wh bs : Int)).natAbs ≤ N := Nat.le_trans (Int.natAbs_ediv_le_natAbs _ _) hx
  have h2 := below_le (cls bs) (x % (wh bs : Int))
  have h3 : (x / (wh bs : Int) * ((cls bs).length : Int)).natAbs ≤ N * (cls bs).length := by
    rw [Int.natAbs_mul, Int.natAbs_natCast]
    exact Nat.mul_le_mul_right _ h1
  omega

end R
namespace R
open PySem PySem.Spec PyProof.Rows L2
theorem below_split {c : List Int} {y : Int} {n : Nat} (hn : n ≤ c.length) (h1 : ∀ (j : Nat) x, j < n → c[j]? = some x → x < y) (h2 : ∀ (j : Nat) x, n ≤ j → c[j]? = some x → ¬ x < y) : below c y = n := by
  unfold below
  have e : c = c.take n ++ c.drop n := (List.take_append_drop n c).symm
  rw [e, List.filter_append]
  rw [List.filter_eq_self.mpr fun z hz => ?_, List.filter_eq_nil_iff.mpr fun z hz => ?_, List.append_nil, List.length_take]
  · omega
  · obtain ⟨j, hj, ez⟩ := List.mem_iff_getElem.mp hz
    rw [List.length_drop] at hj
    rw [List.getElem_drop] at ez
    have q := h2 (n + j) z (by omega) (by rw [List.getElem?_eq_getElem (by omega), ez])
    simpa using q
  · obtain ⟨j, hj, ez⟩ := List.mem_iff_getElem.mp hz
    rw [List.length_take] at hj
    rw [List.getElem_take] at ez
    have q := h1 j z (by omega) (by rw [List.getElem?_eq_getElem (by omega), ez])
    simpa using q
theorem ups {c : List Int} (h : c.Pairwise (· < ·)) {i j : Nat} {x y : Int} (hi : c[i]? = some x) (hj : c[j]? = some y) (l : i ≤ j) : x ≤ y := by
  obtain ⟨a, ea⟩ := List.getElem?_eq_some_iff.mp hi
  obtain ⟨b, eb⟩ := List.getElem?_eq_some_iff.mp hj
  by_cases e : i = j
  · subst e
    rw [← ea, ← eb]
    exact Int.le_refl _
  · have := List.pairwise_iff_getElem.mp h i j a b (by omega)
    omega
/-- divmod of numbers that are not too great -/
theorem divp_small {i j : Int} (hj : 0 < j) (hi : i.natAbs < 2 ^ 3000) : CDivP i j := by
  refine divp_ok hj ?_
  have := PyProof.Rows.intBits_le hi
  omega
theorem nodup_len : ∀ {xs ys : List Int}, xs.Nodup → (∀ x ∈ xs, x ∈ ys) → xs.length ≤ ys.length
  | [], _, _, _ => Nat.zero_le _
  | x :: r, ys, n, h => by
    obtain ⟨n1, n2⟩ := List.nodup_cons.mp n
    have hx := h x List.mem_cons_self
    have ih := nodup_len (ys := ys.erase x) n2 fun y hy => (List.mem_erase_of_ne (fun e => n1 (by rw [← e]; exact hy))).mpr (h y (List.mem_cons_of_mem _ hy))
    rw [List.length_erase_of_mem hx] at ih
    have := List.length_pos_of_mem hx
    show r.length + 1 ≤ ys.length
    omega
theorem cls_choices {bs : List Bar} (S : SvOk bs) : (cls bs).length ≤ choices bs := by
  have h : ∀ bs : List Bar, (∀ b ∈ bs, BarOk b) → ∃ xs, ClsIs bs xs ∧ xs.length ≤ choices bs := by
    refine snocInd (fun _ => ⟨[0], ClsIs.nil, Nat.le_refl _⟩) fun bs b ih h => ?_
    obtain ⟨xs, C, hl⟩ := ih fun c hc => h c (List.mem_append_left _ hc)
    have B := h b (List.mem_append_right _ (List.mem_singleton.mpr rfl))
    have w1 : 0 < wh bs := wh_pos bs fun c hc => (h c (List.mem_append_left _ hc)).pos
    have m1 := B.pos
    have hg : 0 < Nat.gcd (wh bs) b.1.toNat := Nat.gcd_pos_of_pos_left _ w1
    obtain ⟨back, hb⟩ : ∃ back : Int, ((b.1.toNat / Nat.gcd (wh bs) b.1.toNat : Nat) : Int) ∣ ((wh bs / Nat.gcd (wh bs) b.1.toNat : Nat) : Int) * back - 1 := by
      have cop : Nat.gcd (wh bs / Nat.gcd (wh bs) b.1.toNat) (b.1.toNat / Nat.gcd (wh bs) b.1.toNat) = 1 := by
        rw [Nat.gcd_div (Nat.gcd_dvd_left _ _) (Nat.gcd_dvd_right _ _)]
        exact Nat.div_self hg
      have v1 : 1 ≤ wh bs / Nat.gcd (wh bs) b.1.toNat := Nat.div_pos (Nat.gcd_le_left _ w1) hg
      generalize wh bs / Nat.gcd (wh bs) b.1.toNat = n at cop v1
      generalize b.1.toNat / Nat.gcd (wh bs) b.1.toNat = m at cop
      have walk : ∀ (k : Nat) (r a F G : Nat) (f g : Int), a ≤ k → Euc n m r a F G f g → ∃ back : Int, (m : Int) ∣ (n : Int) * back - 1 := by
        intro k
        induction k with
        | zero =>
          intro r a F G f g ha E
          obtain rfl : a = 0 := by omega
          exact ⟨_, E.last⟩
        | succ k ih =>
          intro r a F G f g ha E
          by_cases h0 : a = 0
          · subst h0
            exact ⟨_, E.last⟩
          · exact ih _ _ _ _ _ _ (by have := Nat.mod_lt r (Nat.pos_of_ne_zero h0); omega) (E.step h0)
      exact walk m n m 1 0 1 0 (Nat.le_refl _) (Euc.start v1 cop)
    have ew : Nat.gcd (wh bs) b.1.toNat * (wh bs / Nat.gcd (wh bs) b.1.toNat) = wh bs := Nat.mul_div_cancel' (Nat.gcd_dvd_left _ _)
    have em : Nat.gcd (wh bs) b.1.toNat * (b.1.toNat / Nat.gcd (wh bs) b.1.toNat) = b.1.toNat := Nat.mul_div_cancel' (Nat.gcd_dvd_right _ _)
    have t1 : 1 ≤ b.1.toNat / Nat.gcd (wh bs) b.1.toNat := Nat.div_pos (Nat.gcd_le_right _ (by omega)) hg
    have M : Meet (Nat.gcd (wh bs) b.1.toNat : Nat) (b.1.toNat / Nat.gcd (wh bs) b.1.toNat : Nat) back (wh bs : Nat) (wh bs / Nat.gcd (wh bs) b.1.toNat : Nat) b.1 :=
      ⟨by omega, by omega, by omega, by rw [← Int.natCast_mul, ew], by rw [← Int.natCast_mul, em]; omega, hb⟩
    refine ⟨_, C.add M B.lot ?_, ?_⟩
    · rw [wh_add, show b.1.natAbs = b.1.toNat by omega, ← Int.natCast_mul]
      congr 1
      exact Nat.mul_div_assoc _ (Nat.gcd_dvd_right _ _)
    · rw [choices_add]
      exact Nat.le_trans (joinL_len _ _ _ _ _ _) (Nat.mul_le_mul hl (by omega))
  obtain ⟨xs, C, hl⟩ := h bs S.bar
  have h1 := nodup_len (cls_is bs).nd (ys := xs) fun x hx => (C.mem x).mpr ((cls_is bs).mem x |>.mp hx)
  exact Nat.le_trans h1 hl
theorem choices_cls {bs : List Bar} (S : SvOk bs) : (cls bs).length ≤ 2000 := Nat.le_trans (cls_choices S) S.many

end R
namespace R
open PySem PySem.Spec PyProof.Rows L2
def sp_p_share (K : PySem.W.Frag) (C : Addr) : Sp := fun vs H Q _ => ∃ (p : Addr) (v : V) (t : Addr) (bs : List Bar), vs = [.ref p] ∧ SvAt K C H p v t bs ∧
  ∀ (u : Addr) (H' : Hp), Same H H' → H' u = some (.tup [.int ((cls bs).length / Nat.gcd (cls bs).length (wh bs) : Nat), .int (wh bs / Nat.gcd (cls bs).length (wh bs) : Nat)]) → Q (.ref u) H'
theorem cls_len (bs : List Bar) : (cls bs).length ≤ wh bs := clsTo_len bs (wh bs)
section
variable {P : Program} {w : World} {K : PySem.W.Frag} {mg : Str → Option Value} {base : Heap}
theorem ok_p_share (T : Txt K mg) : FnOk P w K mg base CX0 4 T.f_p_share T.fd_p_share ["sieve"] (sp_p_share K T.C) := by
  refine T.F_p_share.ok sc_p_share (fun vs H Q E h => ?_) (fun cdv A outer s H vs Q E hr h => ?_)
  · obtain ⟨p, v, t, bs, rfl, _⟩ := h
    rfl
  · obtain ⟨p, v, t, bs, rfl, S, q⟩ := h
    refine ⟨_, (pss_cons (ps_set (i := 1) sc_p_share.nd rfl (by first | exact .inl rfl | exact .inr rfl) (pe_callB call_len_seq (by rfl) T.z_len (by decide +kernel) (pa_cons (pe_prop (pv 0) T.cl T.pp_classes (ok_m_Sieve_classes T) (hr.mono (by decide)) T.b_m_Sieve_classes .nil pass0 (by rfl)) pa_nil)))
      (pss_cons (ps_set (i := 2) sc_p_share.nd rfl (by first | exact .inl rfl | exact .inr rfl) (pe_callBfun cr_gcd (by rfl) T.g_gcd (pa_cons (pv 1) (pa_cons (pe_prop (pv 0) T.cl T.pp_whole (ok_m_Sieve_whole T) (hr.mono (by decide)) T.b_m_Sieve_whole .nil pass0 (by rfl)) pa_nil))))
      (pss_one (ps_ret (pe_tup (pa_cons (pe_op op_fdivW (pv 1) (pv 2)) (pa_cons (pe_op op_fdivW (pe_prop (pv 0) T.cl T.pp_whole (ok_m_Sieve_whole T) (hr.mono (by decide)) T.b_m_Sieve_whole .nil pass0 (by rfl)) (pv 2)) pa_nil))))))), ?_⟩
    have hp := S.ok.mods.pos
    have hw := S.ok.mods.lt
    have hn := cls_len bs
    have g1 : 0 < Nat.gcd (cls bs).length (wh bs) := Nat.gcd_pos_of_pos_right _ hp
    have g2 : Nat.gcd (cls bs).length (wh bs) ≤ wh bs := Nat.gcd_le_right _ hp
    refine ⟨_, rfl, p, _, _, rfl, S.ob.choose_spec, p, v, t, bs, rfl, S, t, _, rfl, .inr S.cls, ?_⟩
    refine ⟨_, rfl, _, rfl, p, _, _, rfl, S.ob.choose_spec, p, v, t, bs, rfl, S, _, _, rfl, ?_⟩
    rw [Int.natAbs_natCast, Int.natAbs_natCast, List.length_map]
    generalize Nat.gcd (cls bs).length (wh bs) = g at *
    refine ⟨_, rfl, _, rfl, _, _, rfl, rfl, wide_div (b := 131) (by omega) (by rw [Int.natAbs_natCast]; omega) (by decide) (by decide), ?_⟩
    refine ⟨_, rfl, p, _, _, rfl, S.ob.choose_spec, p, v, t, bs, rfl, S, _, rfl, _, _, rfl, rfl, wide_div (b := 131) (by omega) (by rw [Int.natAbs_natCast]; omega) (by decide) (by decide), ?_⟩
    refine ⟨sizeOk (by show (2 : Nat) ≤ 100000; decide), fun u nu => q u _ (same_upd nu) ?_⟩
    rw [upd_same]
    show some (HO.tup [.int (((cls bs).length : Int) / (g : Int)), .int ((wh bs : Int) / (g : Int))]) = _
    rw [divNat, divNat]
end

end R
namespace R
open PySem PySem.Spec PyProof.Rows L2
theorem st_add {bs : List Bar} (hn : 0 < (cls bs).length) (q u : Int) : st bs (q + u * ((cls bs).length : Int)) = st bs q + u * (wh bs : Int) := by
  unfold st
  rw [Int.add_mul_ediv_right _ _ (by omega), Int.add_mul_emod_self_right, Int.add_mul]
  omega
def sp_p_standing_at (K : PySem.W.Frag) (C : Addr) : Sp := fun vs H Q _ => ∃ (p : Addr) (v : V) (t : Addr) (bs : List Bar) (x : Int), vs = [.ref p, .int x] ∧ SvAt K C H p v t bs ∧ 0 < (cls bs).length ∧ x.natAbs < 2 ^ 300 ∧ ∀ H', Same H H' → Q (.int (st bs x)) H'
section
variable {P : Program} {w : World} {K : PySem.W.Frag} {mg : Str → Option Value} {base : Heap}
theorem ok_p_standing_at (T : Txt K mg) : FnOk P w K mg base CX0 4 T.f_p_standing_at T.fd_p_standing_at ["sieve", "place"] (sp_p_standing_at K T.C) := by
  refine T.F_p_standing_at.ok sc_p_standing_at (fun vs H Q E h => ?_) (fun cdv A outer s H vs Q E hr h => ?_)
  · obtain ⟨p, v, t, bs, x, rfl, _⟩ := h
    rfl
  · obtain ⟨p, v, t, bs, x, rfl, S, hn, hx, q⟩ := h
    refine ⟨_, (pss_cons (ps_asg (pe_callB call_divmodW (by rfl) T.z_divmod (by decide +kernel) (pa_cons (pv 1) (pa_cons (pe_callB call_len_seq (by rfl) T.z_len (by decide +kernel) (pa_cons (pe_prop (pv 0) T.cl T.pp_classes (ok_m_Sieve_classes T) (hr.mono (by decide)) T.b_m_Sieve_classes .nil pass0 (by rfl)) pa_nil)) pa_nil))) (pg_tup (by rfl) (pgs_cons (pg_name (i := 2) sc_p_standing_at.nd rfl (by first | exact .inl rfl | exact .inr rfl)) (pgs_cons (pg_name (i := 3) sc_p_standing_at.nd rfl (by first | exact .inl rfl | exact .inr rfl)) pgs_nil))))
      (pss_one (ps_ret (pe_op op_add (pe_op op_mulW (pv 2) (pe_prop (pv 0) T.cl T.pp_whole (ok_m_Sieve_whole T) (hr.mono (by decide)) T.b_m_Sieve_whole .nil pass0 (by rfl))) (pe_ix ix_tup (pe_prop (pv 0) T.cl T.pp_classes (ok_m_Sieve_classes T) (hr.mono (by decide)) T.b_m_Sieve_classes .nil pass0 (by rfl)) (pv 3) (fun _ _ => rfl)))))), ?_⟩
    have hw := S.ok.mods.pos
    have hw2 := S.ok.mods.lt
    refine ⟨_, rfl, _, rfl, p, _, _, rfl, S.ob.choose_spec, p, v, t, bs, rfl, S, t, _, rfl, .inr S.cls, ?_⟩
    rw [List.length_map]
    refine ⟨_, _, rfl, divp_small (by omega) (Nat.lt_of_lt_of_le hx (by decide)), fun d nd => ?_⟩
    have S1 := S.stay (same_upd nd (o := .tup [.int (x / ((cls bs).length : Int)), .int (x % ((cls bs).length : Int))]))
    refine ⟨d, _, rfl, tupOf upd_same, rfl, _, _, rfl, _, _, rfl, rfl, ?_⟩
    obtain ⟨y, ey, es, y0, y1, f⟩ := st_parts (q := x) hw hn
    have r0 := Int.emod_nonneg x (show ((cls bs).length : Int) ≠ 0 by omega)
    refine ⟨_, rfl, _, rfl, p, _, _, rfl, S1.ob.choose_spec, p, v, t, bs, rfl, S1, _, _, rfl, rfl, ?_, _, rfl, p, _, _, rfl, S1.ob.choose_spec, p, v, t, bs, rfl, S1, _, rfl, t, _, _, .int y, rfl, rfl, S1.cls, ?_, _, _, rfl, rfl, ?_⟩
    · have h1 : (x / ((cls bs).length : Int)).natAbs ≤ x.natAbs := Int.natAbs_ediv_le_natAbs _ _
      exact wide_mul (a := 300) (b := 140) (by omega) (by rw [Int.natAbs_natCast]; omega) (by decide) (by decide) (by decide)
    · refine at_of (j := (x % ((cls bs).length : Int)).toNat) (by omega) ?_
      rw [List.getElem?_map, ey]
      rfl
    · rw [es, Int.add_comm] at q
      exact q _ (same_upd nd)
end

end R
namespace R
open PySem PySem.Spec PyProof.Rows L2
/-! ## integers off their limits -/
/-- no integer from lo to hi -/
def OffI (K : PySem.W.Frag) (H : Hp) (lo hi : Int) (x : V) : Prop := kOdd K H x ∨ ∃ i, x = .int i ∧ ¬ (lo ≤ i ∧ i ≤ hi)
theorem offNo {lo hi i : Int} (h : ¬ (lo ≤ i ∧ i ≤ hi)) : (decide (lo ≤ i) && decide (i ≤ hi)) = false := by
  rw [← Bool.decide_and, decide_eq_false h]
theorem onYes {lo hi i : Int} (h1 : lo ≤ i) (h2 : i ≤ hi) : (decide (lo ≤ i) && decide (i ≤ hi)) = true := by
  rw [decide_eq_true h1, decide_eq_true h2]
  rfl

end R
namespace R
open PySem PySem.Spec PyProof.Rows L2
/-! ## numbers by two moduli -/
theorem bezout (a b : Nat) : ∃ x y : Int, (a : Int) * x + (b : Int) * y = (Nat.gcd a b : Nat) := by
  refine Nat.gcd.induction (P := fun a b => ∃ x y : Int, (a : Int) * x + (b : Int) * y = (Nat.gcd a b : Nat)) a b (fun n => ⟨0, 1, ?_⟩) fun m n hm ih => ?_
  · rw [Nat.gcd_zero_left, Int.mul_one, Int.mul_zero, Int.zero_add]
  · obtain ⟨x, y, e⟩ := ih
    refine ⟨y - ((n / m : Nat) : Int) * x, x, ?_⟩
    rw [Nat.gcd_rec m n, ← e]
    have d : (n : Int) = (m : Int) * ((n / m : Nat) : Int) + ((n % m : Nat) : Int) := by
      rw [← Int.natCast_mul, ← Int.natCast_add, Nat.div_add_mod]
    have d2 : (n : Int) * x = (m : Int) * (((n / m : Nat) : Int) * x) + ((n % m : Nat) : Int) * x := by
      rw [← Int.mul_assoc, ← Int.add_mul, ← d]
    rw [Int.mul_sub, d2]
    omega
theorem lcm_pos' {w m : Nat} (hw : 0 < w) (hm : 0 < m) : 0 < Nat.lcm w m := Nat.lcm_pos hw hm
theorem crt {w m : Nat} (hw : 0 < w) (hm : 0 < m) {a r : Int} (h : ((Nat.gcd w m : Nat) : Int) ∣ r - a) : ∃ x : Int, 0 ≤ x ∧ x < (Nat.lcm w m : Nat) ∧ x % (w : Int) = a % (w : Int) ∧ x % (m : Int) = r % (m : Int) := by
  obtain ⟨k, hk⟩ := h
  obtain ⟨u, v, e⟩ := bezout w m
  have hl : 0 < Nat.lcm w m := Nat.lcm_pos hw hm
  have dw : (w : Int) ∣ ((Nat.lcm w m : Nat) : Int) := Int.natCast_dvd_natCast.mpr (Nat.dvd_lcm_left w m)
  have dm : (m : Int) ∣ ((Nat.lcm w m : Nat) : Int) := Int.natCast_dvd_natCast.mpr (Nat.dvd_lcm_right w m)
  refine ⟨(a + (w : Int) * (u * k)) % ((Nat.lcm w m : Nat) : Int), Int.emod_nonneg _ (by omega), Int.emod_lt_of_pos _ (by omega), ?_, ?_⟩
  · rw [Int.emod_emod_of_dvd _ dw, Int.add_mul_emod_self_left]
  · rw [Int.emod_emod_of_dvd _ dm]
    refine Int.emod_eq_emod_iff_emod_sub_eq_zero.mpr (Int.emod_eq_zero_of_dvd ⟨-(v * k), ?_⟩)
    have e1 : (w : Int) * (u * k) + (m : Int) * (v * k) = r - a := by
      rw [← Int.mul_assoc, ← Int.mul_assoc, ← Int.add_mul, e, hk]
    rw [Int.mul_neg]
    omega
/-- two numbers below the least common multiple that leave the same by both are one -/
theorem crt_one {w m : Nat} {x y : Int} (hx : 0 ≤ x ∧ x < (Nat.lcm w m : Nat)) (hy : 0 ≤ y ∧ y < (Nat.lcm w m : Nat)) (h1 : x % (w : Int) = y % (w : Int)) (h2 : x % (m : Int) = y % (m : Int)) : x = y := by
  have d1 : (w : Int) ∣ x - y := Int.dvd_of_emod_eq_zero (Int.emod_eq_emod_iff_emod_sub_eq_zero.mp h1)
  have d2 : (m : Int) ∣ x - y := Int.dvd_of_emod_eq_zero (Int.emod_eq_emod_iff_emod_sub_eq_zero.mp h2)
  have d3 : ((Nat.lcm w m : Nat) : Int) ∣ x - y := by
    rw [← Int.dvd_natAbs] at d1 d2 ⊢
    exact Int.natCast_dvd_natCast.mpr (Nat.lcm_dvd (Int.natCast_dvd_natCast.mp d1) (Int.natCast_dvd_natCast.mp d2))
  rcases Int.lt_or_le x y with l | l
  · have := Int.le_of_dvd (a := ((Nat.lcm w m : Nat) : Int)) (b := y - x) (by omega) (by obtain ⟨c, e⟩ := d3; exact ⟨-c, by rw [Int.mul_neg]; omega⟩)
    omega
  · rcases Int.lt_or_le y x with l2 | l2
    · have := Int.le_of_dvd (a := ((Nat.lcm w m : Nat) : Int)) (b := x - y) (by omega) d3
      omega
    · omega
/-- the rest r by m is left by a fitting number just if some class agrees with it by the common measure -/
def agrees (bs : List Bar) (m : Nat) (r : Int) : Bool := (cls bs).any fun c => decide (c % ((Nat.gcd (wh bs) m : Nat) : Int) = r % ((Nat.gcd (wh bs) m : Nat) : Int))
theorem agrees_iff {bs : List Bar} {m : Nat} {r : Int} : agrees bs m r = true ↔ ∃ c ∈ cls bs, c % ((Nat.gcd (wh bs) m : Nat) : Int) = r % ((Nat.gcd (wh bs) m : Nat) : Int) := by
  unfold agrees
  rw [List.any_eq_true]
  constructor
  · rintro ⟨c, h1, h2⟩
    exact ⟨c, h1, of_decide_eq_true h2⟩
  · rintro ⟨c, h1, h2⟩
    exact ⟨c, h1, decide_eq_true h2⟩
theorem gcd_dvd_int (w m : Nat) : ((Nat.gcd w m : Nat) : Int) ∣ (w : Int) ∧ ((Nat.gcd w m : Nat) : Int) ∣ (m : Int) :=
  ⟨Int.natCast_dvd_natCast.mpr (Nat.gcd_dvd_left w m), Int.natCast_dvd_natCast.mpr (Nat.gcd_dvd_right w m)⟩
theorem emod_cls {bs : List Bar} (hp : 0 < wh bs) {x : Int} (f : fitsB bs x = true) : x % (wh bs : Int) ∈ cls bs := by
  refine (cls_is bs).mem _ |>.mpr ⟨Int.emod_nonneg _ (by omega), Int.emod_lt_of_pos _ (by omega), ?_⟩
  rw [fitsB_mod]
  exact f
theorem leaves_iff {bs : List Bar} {m : Nat} (hp : 0 < wh bs) (hm : 0 < m) {r : Int} :
    agrees bs m r = true ↔ ∃ x : Int, 0 ≤ x ∧ x < (Nat.lcm (wh bs) m : Nat) ∧ fitsB bs x = true ∧ x % (m : Int) = r % (m : Int) := by
  obtain ⟨g1, g2⟩ := gcd_dvd_int (wh bs) m
  rw [agrees_iff]
  constructor
  · rintro ⟨c, hc, e⟩
    obtain ⟨c1, c2, c3⟩ := ((cls_is bs).mem c).mp hc
    obtain ⟨x, x1, x2, x3, x4⟩ := crt hp hm (a := c) (r := r) (Int.dvd_of_emod_eq_zero (Int.emod_eq_emod_iff_emod_sub_eq_zero.mp e.symm))
    refine ⟨x, x1, x2, ?_, x4⟩
    rw [← fitsB_mod, x3, fitsB_mod]
    exact c3
  · rintro ⟨x, _, _, f, e⟩
    refine ⟨_, emod_cls hp f, ?_⟩
    rw [Int.emod_emod_of_dvd _ g1, ← Int.emod_emod_of_dvd x g2, e, Int.emod_emod_of_dvd _ g2]
/-- the rests of some classes by g -/
def modsTo (c : List Int) (g : Int) (n : Nat) : List Int := (c.take n).map (· % g)
theorem modsTo_succ {c : List Int} {g x : Int} {n : Nat} (h : c[n]? = some x) : modsTo c g (n + 1) = modsTo c g n ++ [x % g] := by
  unfold modsTo
  rw [takeSucc h, List.map_append]
  rfl

end R
namespace R
open PySem PySem.Spec PyProof.Rows L2
/-! ## the keys of a dict of classes -/
/-- the dict kvs has just the keys of ns -/
def KeysAre (kvs : List (L2.Key × V)) (ns : List Int) : Prop := ∀ k : Int, (valV kvs (Sum.inl k)).isSome = decide (k ∈ ns)
theorem KeysAre.nil : KeysAre [] [] := fun k => by
  rw [valV_nil]
  rfl
theorem KeysAre.put {kvs : List (L2.Key × V)} {ns : List Int} (h : KeysAre kvs ns) (x : Int) (v : V) : KeysAre (putK kvs (Sum.inl x) v) (ns ++ [x]) := fun k => by
  rw [valV_put]
  by_cases e : k = x
  · subst e
    rw [if_pos rfl]
    exact (decide_eq_true (by simp)).symm
  · rw [if_neg (fun z => e (Sum.inl.inj z)), h k]
    exact decide_eq_decide.mpr (by simp [e])
theorem fits_cls {bs : List Bar} (hp : 0 < wh bs) (x : Int) : decide (x % (wh bs : Int) ∈ cls bs) = fitsB bs x := by
  rw [Bool.eq_iff_iff, decide_eq_true_iff]
  constructor
  · intro h
    have := (cls_mem.mp h).2.2
    rwa [fitsB_mod] at this
  · exact emod_cls hp

end R
namespace R
open PySem PySem.Spec PyProof.Rows L2
/-! ## steps checked -/
def sp_p_check_step (K : PySem.W.Frag) (B : Addr) : Sp := fun vs H Q E => ∃ x : V, vs = [x] ∧ ((∃ i, x = .int i ∧ 1 ≤ i ∧ i ≤ 1000000000000000000000000000000 ∧ Q .non H) ∨ (OffI K H 1 1000000000000000000000000000000 x ∧ E (.ref B) none H))
section
variable {P : Program} {w : World} {K : PySem.W.Frag} {mg : Str → Option Value} {base : Heap}
theorem ok_p_check_step (T : Txt K mg) : FnOk P w K mg base (L2.CX P w) 4 T.f_p_check_step T.fd_p_check_step ["value"] (sp_p_check_step K T.C_BadNumber) := by
  refine T.F_p_check_step.okX sc_p_check_step (fun vs H Q E h => ?_) (fun cdv A outer s H vs Q E hr h => ?_)
  · obtain ⟨x, rfl, _⟩ := h
    rfl
  · obtain ⟨x, rfl, h⟩ := h
    refine ⟨_, (pss_one (ps_if (pt_not (pt_val (pe_call (ok_p_integer_within T) (hr.mono (by decide)) (by rfl) T.g_p_integer_within T.F_p_integer_within.kp T.b_p_integer_within .nil pass0 (pa_cons (pv 0) (pa_cons pe_int (pa_cons (pe_glob (v := .int 1000000000000000000000000000000) (by rfl) T.c_GREATEST_STEP.choose_spec ⟨_, rfl⟩) pa_nil)))))) (pss_one (ps_raise rfl (takes_of rfl rfl rfl rfl) (pmk_own PySem.F.excBase_ValueError T.x_BadNumber T.g_BadNumber T.k_BadNumber (raises_own T.b_BadNumber T.t_BadNumber) (by rfl)))) pss_nil)), ?_⟩
    rcases h with ⟨i, rfl, h1, h2, q⟩ | ⟨o | ⟨i, rfl, o⟩, q⟩
    · refine ⟨_, rfl, _, 1, 1000000000000000000000000000000, rfl, .inl ⟨i, rfl, _, rfl, ?_⟩⟩
      rw [onYes h1 h2]
      exact iteF q
    · exact ⟨_, rfl, _, 1, 1000000000000000000000000000000, rfl, .inr ⟨o, _, rfl, iteT q⟩⟩
    · refine ⟨_, rfl, _, 1, 1000000000000000000000000000000, rfl, .inl ⟨i, rfl, _, rfl, ?_⟩⟩
      rw [offNo o]
      exact iteT q
end

end R
namespace R
open PySem PySem.Spec PyProof.Rows L2
/-! ## at_distance -/
def atDTo (bs : List Bar) (s : Int) (n : Nat) : List Int := ((cls bs).take n).filter fun c => fitsB bs (c + s)
theorem atDTo_succ {bs : List Bar} {s x : Int} {n : Nat} (h : (cls bs)[n]? = some x) : atDTo bs s (n + 1) = atDTo bs s n ++ (if fitsB bs (x + s) = true then [x] else []) := by
  unfold atDTo
  rw [takeSucc h, List.filter_append]
  by_cases f : fitsB bs (x + s) = true
  · rw [if_pos f, show List.filter (fun c => fitsB bs (c + s)) [x] = [x] from List.filter_cons_of_pos f]
  · rw [if_neg f, show List.filter (fun c => fitsB bs (c + s)) [x] = [] from List.filter_cons_of_neg f]
theorem atDTo_len (bs : List Bar) (s : Int) (n : Nat) : (atDTo bs s n).length ≤ (cls bs).length := by
  unfold atDTo
  refine Nat.le_trans (List.length_filter_le _ _) ?_
  rw [List.length_take]
  omega
def sp_p_at_distance (K : PySem.W.Frag) (C B : Addr) : Sp := fun vs H Q E => ∃ (p : Addr) (v : V) (t : Addr) (bs : List Bar) (x : V), vs = [.ref p, x] ∧ SvAt K C H p v t bs ∧
  ((OffI K H 1 1000000000000000000000000000000 x ∧ E (.ref B) none H) ∨ ∃ i, x = .int i ∧ 1 ≤ i ∧ i ≤ 1000000000000000000000000000000 ∧ ∀ H', Same H H' → Q (.int (atDTo bs i (cls bs).length).length) H')
section
variable {P : Program} {w : World} {K : PySem.W.Frag} {mg : Str → Option Value} {base : Heap}
theorem ok_p_at_distance (T : Txt K mg) : FnOk P w K mg base (L2.CX P w) 5 T.f_p_at_distance T.fd_p_at_distance ["sieve", "step"] (sp_p_at_distance K T.C T.C_BadNumber) := by
  refine T.F_p_at_distance.okX sc_p_at_distance (fun vs H Q E h => ?_) (fun cdv A outer s H vs Q E hr h => ?_)
  · obtain ⟨p, v, t, bs, x, rfl, _⟩ := h
    rfl
  · obtain ⟨p, v, t, bs, x, rfl, S, h⟩ := h
    refine ⟨_, (pss_cons (ps_expr (pe_call (ok_p_check_step T) (hr.mono (by decide)) (by rfl) T.g_p_check_step T.F_p_check_step.kp T.b_p_check_step .nil (passes_call (takes_of rfl rfl rfl rfl) (fun _ _ _ _ h => h)) (pa_cons (pv 1) pa_nil)))
      (pss_cons (ps_set (i := 2) sc_p_at_distance.nd rfl (by first | exact .inl rfl | exact .inr rfl) (pe_dc (own := [("number", 3)]) rfl sc_p_at_distance.nd (pi_tup (pe_prop (pv 0) T.cl T.pp_classes (ok_m_Sieve_classes T) (hr.mono (by decide)) T.b_m_Sieve_classes .nil pass0 (by rfl))) (blkOk_by (N := ["sieve", "step", "known", "number"]) (sc := defScope s_p_at_distance) (by decide +kernel)) (fun _ _ _ _ _ => (pg_name (i := 3) sc_p_at_distance.nd rfl (by first | exact .inl rfl | exact .inr rfl))) (fun _ _ _ _ _ => pts_nil) (fun _ _ _ _ _ => (pv 3)) (fun _ _ _ _ _ => pe_bl)))
      (pss_one (ps_ret (pe_callB call_len_seq (by rfl) T.z_len (by decide +kernel) (pa_cons (pe_lc (own := [("number", 3)]) rfl sc_p_at_distance.nd (pi_tup (pe_prop (pv 0) T.cl T.pp_classes (ok_m_Sieve_classes T) (hr.mono (by decide)) T.b_m_Sieve_classes .nil pass0 (by rfl))) (blkOk_by (N := ["sieve", "step", "known", "number"]) (sc := defScope s_p_at_distance) (by decide +kernel)) (fun _ _ _ _ _ => (pg_name (i := 3) sc_p_at_distance.nd rfl (by first | exact .inl rfl | exact .inr rfl))) (fun _ _ _ _ _ => (pts_one (pt_cmp (pc_din (hu_of hr) (pe_op op_mod (pe_op op_add (pv 3) (pv 1)) (pe_prop (pv 0) T.cl T.pp_whole (ok_m_Sieve_whole T) (hr.mono (by decide)) T.b_m_Sieve_whole .nil pass0 (by rfl))) (pv 2))))) (fun _ _ _ _ _ => (pv 3))) pa_nil)))))), ?_⟩
    rcases h with ⟨o, q⟩ | ⟨st, rfl, h1, h2, q⟩
    · exact ⟨_, rfl, x, rfl, .inr ⟨o, q⟩⟩
    · refine ⟨_, rfl, _, rfl, .inl ⟨st, rfl, h1, h2, ?_⟩⟩
      have few := choices_cls S.ok
      have hp := S.ok.mods.pos
      refine ⟨_, rfl, p, _, _, rfl, S.ob.choose_spec, p, v, t, bs, rfl, S, t, rfl, ⟨_, S.cls⟩, fun D nD => ?_⟩
      refine dc_tup (K := K) (a := t) (xs := (cls bs).map V.int) (fun i Hi => ∃ kvs, Hi D = some (.dK kvs) ∧ KeysAre kvs ((cls bs).take i) ∧ kvs.length ≤ i ∧ Same H Hi)
        ⟨[], upd_same, KeysAre.nil, Nat.le_refl _, same_upd nD⟩ (fun i Hi _ ⟨_, _, _, _, si⟩ => Same.seqTT si S.cls) ?_ ?_
      · rintro i y Hi hi ⟨kvs, ei, ki, li, si⟩
        obtain ⟨c, hc, rfl⟩ := getMapInt' hi
        have il := (List.getElem?_eq_some_iff.mp hc).1
        refine ⟨rfl, _, rfl, kvs, Sum.inl c, rfl, ei, sizeLt (by omega), _, upd_same, ?_, ?_, samePut si nD⟩
        · rw [takeSucc hc]
          exact ki.put c _
        · have := length_putK kvs (Sum.inl c) (V.bl true)
          omega
      · rintro H1 ⟨kvs, e1, k1, _, s1⟩
        rw [List.length_map, List.take_length] at k1
        refine ⟨_, rfl, p, _, _, rfl, (S.stay s1).ob.choose_spec, p, v, t, bs, rfl, S.stay s1, t, rfl, ⟨_, (S.stay s1).cls⟩, fun F nF => ?_⟩
        refine lc_tup (K := K) (a := t) (xs := (cls bs).map V.int) (fun k Hk => Hk F = some (.lst ((atDTo bs st k).map V.int)) ∧ Same H1 Hk) ⟨upd_same, same_upd nF⟩ (fun k Hk _ ⟨_, sk⟩ => (S.stay (s1.trans sk)).cls) ?_ ?_
        · rintro k y Hk hk ⟨ek, sk⟩
          obtain ⟨c, hc, rfl⟩ := getMapInt' hk
          have Sk := S.stay (s1.trans sk)
          refine ⟨rfl, _, rfl, _, rfl, _, _, rfl, rfl, _, rfl, p, _, _, rfl, Sk.ob.choose_spec, p, v, t, bs, rfl, Sk, _, _, rfl, rfl, by show (0 : Int) < (wh bs : Int); omega, ?_⟩
          refine ⟨_, rfl, D, _, rfl, DGet.k (k := Sum.inl ((c + st) % (wh bs : Int))) (sk _ _ e1), _, rfl, ?_⟩
          rw [k1, fits_cls hp]
          refine ite2 (fun e => ?_) (fun e => ?_)
          · refine ⟨_, rfl, _, ek, ?_, ?_, samePut sk nF⟩
            · rw [List.length_map]
              have := atDTo_len bs st k
              exact sizeLt (by omega)
            · rw [upd_same, atDTo_succ hc, if_pos e, List.map_append]
              rfl
          · refine ⟨?_, sk⟩
            rw [ek, atDTo_succ hc, if_neg e, List.append_nil]
        · rintro Hk ⟨ek, sk⟩
          rw [List.length_map] at ek
          refine ⟨F, _, rfl, .inl (lstOf ek), ?_⟩
          rw [List.length_map]
          exact q _ (s1.trans sk)
end

end R
namespace R
open PySem PySem.Spec PyProof.Rows L2
def sp_p_check_some (K : PySem.W.Frag) (C B : Addr) : Sp := fun vs H Q E => ∃ (p : Addr) (v : V) (t : Addr) (bs : List Bar), vs = [.ref p] ∧ SvAt K C H p v t bs ∧
  ((cls bs ≠ [] ∧ ∀ H', Same H H' → Q .non H') ∨ (cls bs = [] ∧ ∀ H', Same H H' → E (.ref B) none H'))
section
variable {P : Program} {w : World} {K : PySem.W.Frag} {mg : Str → Option Value} {base : Heap}
theorem ok_p_check_some (T : Txt K mg) : FnOk P w K mg base (L2.CX P w) 4 T.f_p_check_some T.fd_p_check_some ["sieve"] (sp_p_check_some K T.C T.C_Nothing) := by
  refine T.F_p_check_some.okX sc_p_check_some (fun vs H Q E h => ?_) (fun cdv A outer s H vs Q E hr h => ?_)
  · obtain ⟨p, v, t, bs, rfl, _⟩ := h
    rfl
  · obtain ⟨p, v, t, bs, rfl, S, h⟩ := h
    refine ⟨_, (pss_one (ps_if (pt_cmpR (op_eqD hr.units) (pe_prop (pv 0) T.cl T.pp_classes (ok_m_Sieve_classes T) (hr.mono (by decide)) T.b_m_Sieve_classes .nil pass0 (by rfl)) (pe_tup pa_nil) (nomark _)) (pss_one (ps_raise rfl (takes_of rfl rfl rfl rfl) (pmk_own PySem.F.excBase_ValueError T.x_Nothing T.g_Nothing T.k_Nothing (raises_own T.b_Nothing T.t_Nothing) (by rfl)))) pss_nil)), ?_⟩
    refine ⟨_, rfl, p, _, _, rfl, S.ob.choose_spec, p, v, t, bs, rfl, S, sizeOk (by show (0 : Nat) ≤ 100000; decide), fun d nd => ?_⟩
    have s1 : Same H (upd H d (.tup [])) := same_upd nd
    refine ⟨_, _, dpTup (Same.seqTT s1 S.cls), .tup (tupOf upd_same) .nil, (okD.tup (okInts _)).shaped (by decide), by decide, _, rfl, ?_⟩
    rw [eqvNilT]
    rcases h with ⟨h, q⟩ | ⟨h, q⟩
    · rw [decide_eq_false h]
      exact iteF (q _ s1)
    · rw [decide_eq_true h]
      exact iteT (q _ s1)
end

end R
namespace R
open PySem PySem.Spec PyProof.Rows L2
/-- an int under a name of its own -/
theorem pe_cutI {X : Cx} {e : Expr} {te : TE} (h0 : PE X e te) : PE X e (fun σ H Q => te σ H fun x H' => ∃ y : Int, x = .int y ∧ Q (.int y) H') := by
  constructor
  intro pn s σ H Q I h
  refine thn (h0.run pn s σ H _ I h) ?_
  rintro v s1 ⟨x, H1, I1, r1, y, rfl, q⟩
  exact ⟨_, H1, I1, r1, q⟩

end R
namespace R
open PySem PySem.Spec PyProof.Rows L2
/-! ## bars of great moduli -/
structure GreatTo (i : Nat) (bs : List Bar) : Prop where
  len : bs.length = i
  bar : ∀ b ∈ bs, 1 ≤ b.1 ∧ b.1 ≤ 1000000 ∧ LotOk b.1 b.2 ∧ b.2.length ≤ 4 ∧ b.2 ≠ []
  many : choices bs ≤ 4 ^ i
theorem GreatTo.sv {i : Nat} {bs : List Bar} (h : GreatTo i bs) (hi : i ≤ 4) : SvOk bs := by
  refine ⟨by rw [h.len]; omega, fun b hb => ⟨(h.bar b hb).1, (h.bar b hb).2.1, (h.bar b hb).2.2.1⟩, ?_, ?_⟩
  · have h1 := wh_le bs fun b hb => by have := h.bar b hb; omega
    have h2 : (1000000 : Nat) ^ bs.length ≤ 1000000 ^ 4 := Nat.pow_le_pow_right (by decide) (by rw [h.len]; exact hi)
    exact Nat.le_trans (Nat.le_trans h1 h2) (by decide)
  · exact Nat.le_trans h.many (Nat.le_trans (Nat.pow_le_pow_right (by decide) hi) (by decide))
theorem GreatTo.wh {i : Nat} {bs : List Bar} (h : GreatTo i bs) (hi : i ≤ 4) : wh bs ≤ 1000000000000000000000000 := by
  have h1 := wh_le bs fun b hb => by have := h.bar b hb; omega
  have h2 : (1000000 : Nat) ^ bs.length ≤ 1000000 ^ 4 := Nat.pow_le_pow_right (by decide) (by rw [h.len]; exact hi)
  exact Nat.le_trans (Nat.le_trans h1 h2) (by decide)
theorem GreatTo.add {i : Nat} {bs : List Bar} {m : Int} {l : List Int} (h : GreatTo i bs) (m0 : 1 ≤ m) (m1 : m ≤ 1000000) (lo : LotOk m l) (l4 : l.length ≤ 4) (ne : l ≠ []) : GreatTo (i + 1) (bs ++ [(m, l)]) := by
  refine ⟨by rw [List.length_append, h.len]; rfl, fun b hb => ?_, ?_⟩
  · rcases List.mem_append.mp hb with hb | hb
    · exact h.bar b hb
    · rw [List.mem_singleton.mp hb]
      exact ⟨m0, m1, lo, l4, ne⟩
  · rw [choices_add, Nat.pow_succ]
    exact Nat.mul_le_mul h.many (by show max 1 l.length ≤ 4; omega)
def sp_l_great (K : PySem.W.Frag) : Sp := fun vs H Q _ => ∃ (r L : Addr) (most : Nat), vs = [.ref r, .int most] ∧ RowAt H r L ∧ 1 ≤ most ∧ most ≤ 4 ∧
  ∀ v bs i H', i ≤ most → 1 ≤ i → GreatTo i bs → BarsAt K H' v bs → Kp r H H' → RowAt H' r L → Q v H'
theorem lot_sorted {m : Int} {l ns : List Int} (up : ns.Pairwise (· < ·)) (mem : ∀ k, k ∈ ns ↔ decide (k ∈ l) = true) (h : ∀ x ∈ l, 0 ≤ x ∧ x < m) (few : ns.length ≤ 4) : LotOk m ns :=
  ⟨up, fun k hk => (h k (of_decide_eq_true ((mem k).mp hk))).1, fun k hk => (h k (of_decide_eq_true ((mem k).mp hk))).2, by omega⟩
theorem lot_ne {l ns : List Int} (mem : ∀ k, k ∈ ns ↔ decide (k ∈ l) = true) (h : l ≠ []) : ns ≠ [] := by
  obtain ⟨x, hx⟩ := List.exists_mem_of_ne_nil l h
  exact List.ne_nil_of_mem ((mem x).mpr (decide_eq_true hx))
section
variable {P : Program} {w : World} {K : PySem.W.Frag} {mg : Str → Option Value} {base : Heap}
set_option maxHeartbeats 1600000 in
theorem ok_l_great (T : Txt K mg) : FnOk P w K mg base CX0 3 T.f_l_great T.fd_l_great ["_law_row", "_law_most"] (sp_l_great K) := by
  refine T.F_l_great.ok sc_l_great (fun vs H Q E h => ?_) (fun cdv A outer s H vs Q E hr h => ?_)
  · obtain ⟨r, L, most, rfl, _⟩ := h
    rfl
  · obtain ⟨r, L, most, rfl, R0, h1, h4, q⟩ := h
    refine ⟨_, (pss_cons (ps_asg (pe_tup (pa_cons (pe_tup pa_nil) (pa_cons (pe_op op_add pe_int (pe_call (ok_l_pick T) (hr.mono (by decide)) (by rfl) T.g_l_pick T.F_l_pick.kp T.b_l_pick .nil pass0 (pa_cons (pv 0) (pa_cons pe_int pa_nil)))) pa_nil))) (pg_tup (by rfl) (pgs_cons (pg_name (i := 2) sc_l_great.nd rfl (by first | exact .inl rfl | exact .inr rfl)) (pgs_cons (pg_name (i := 3) sc_l_great.nd rfl (by first | exact .inl rfl | exact .inr rfl)) pgs_nil))))
      (pss_cons (ps_for PassesOwn.never rfl (pi_range1 (by rfl) T.z_range (pa_cons (pe_op op_add pe_int (pe_call (ok_l_pick T) (hr.mono (by decide)) (by rfl) T.g_l_pick T.F_l_pick.kp T.b_l_pick .nil pass0 (pa_cons (pv 0) (pa_cons (pv 1) pa_nil)))) pa_nil)) (pg_name (i := 4) sc_l_great.nd rfl (by first | exact .inl rfl | exact .inr rfl)) (pss_cons (ps_set (i := 5) sc_l_great.nd rfl (by first | exact .inl rfl | exact .inr rfl) (pe_op op_mulW (pv 3) (pe_op op_add pe_int (pe_call (ok_l_pick T) (hr.mono (by decide)) (by rfl) T.g_l_pick T.F_l_pick.kp T.b_l_pick .nil pass0 (pa_cons (pv 0) (pa_cons pe_int pa_nil))))))
      (pss_cons (ps_set (i := 6) sc_l_great.nd rfl (by first | exact .inl rfl | exact .inr rfl) (pe_callB (cr_sortedSL rfl) (by rfl) T.z_sorted (by decide +kernel) (pa_cons (pe_callTy (cr_setG rfl) (by rfl) T.z_set (by decide +kernel) (pa_cons (pe_lc (own := [("_law_j", 7)]) rfl sc_l_great.nd (pi_range1 (by rfl) T.z_range (pa_cons (pe_op op_add pe_int (pe_call (ok_l_pick T) (hr.mono (by decide)) (by rfl) T.g_l_pick T.F_l_pick.kp T.b_l_pick .nil pass0 (pa_cons (pv 0) (pa_cons pe_int pa_nil)))) pa_nil)) (blkOk_by (N := ["_law_row", "_law_most", "_law_bars", "_law_common", "_law_k", "_law_modulus", "_law_lot", "_law_j", "_law_one"]) (sc := defScope s_l_great) (by decide +kernel)) (fun _ _ _ _ _ => (pg_name (i := 7) sc_l_great.nd rfl (by first | exact .inl rfl | exact .inr rfl))) (fun _ _ _ _ _ => pts_nil) (fun _ _ _ _ _ => (pe_call (ok_l_pick T) (hr.mono (by decide)) (by rfl) T.g_l_pick T.F_l_pick.kp T.b_l_pick .nil pass0 (pa_cons (pv 0) (pa_cons (pv 5) pa_nil))))) pa_nil)) pa_nil)))
      (C8.pss_cut (ps_if (pt_cmpR op_gt (pe_call (ok_l_pick T) (hr.mono (by decide)) (by rfl) T.g_l_pick T.F_l_pick.kp T.b_l_pick .nil pass0 (pa_cons (pv 0) (pa_cons pe_int pa_nil))) pe_int (nomark _)) (pss_one (ps_set (i := 6) sc_l_great.nd rfl (by first | exact .inl rfl | exact .inr rfl) (pe_callB (cr_sortedSL rfl) (by rfl) T.z_sorted (by decide +kernel) (pa_cons (pe_callTy (cr_setG rfl) (by rfl) T.z_set (by decide +kernel) (pa_cons (pe_lc (own := [("_law_one", 8)]) rfl sc_l_great.nd (pi_list (pv 6)) (blkOk_by (N := ["_law_row", "_law_most", "_law_bars", "_law_common", "_law_k", "_law_modulus", "_law_lot", "_law_j", "_law_one"]) (sc := defScope s_l_great) (by decide +kernel)) (fun _ _ _ _ _ => (pg_name (i := 8) sc_l_great.nd rfl (by first | exact .inl rfl | exact .inr rfl))) (fun _ _ _ _ _ => pts_nil) (fun _ _ _ _ _ => (pe_op op_sub (pv 8) (pe_op op_mod (pv 8) (pv 3))))) pa_nil)) pa_nil)))) pss_nil)
      (pss_one (ps_set (i := 2) sc_l_great.nd rfl (by first | exact .inl rfl | exact .inr rfl) (pe_op op_catA (pv 2) (pe_tup (pa_cons (pe_tup (pa_cons (pv 5) (pa_cons (pe_callTy call_tuple_of (by rfl) T.z_tuple (by decide +kernel) (pa_cons (pv 6) pa_nil)) pa_nil))) pa_nil)))))))))
      (pss_one (ps_ret (pv 2))))), ?_⟩
    refine ⟨sizeOk (by show (0 : Nat) ≤ 100000; decide), fun p0 np0 => ?_⟩
    have s0 : Same H (upd H p0 (.tup [])) := same_upd np0
    refine ⟨_, rfl, r, L, 30, rfl, R0.stay s0, by decide, by decide, fun c0 H1 c00 c01 k1 R1 => ⟨_, _, rfl, rfl, sizeOk (by show (2 : Nat) ≤ 100000; decide), fun p1 np1 => ⟨p1, _, rfl, tupOf upd_same, rfl, _, _, rfl, _, _, rfl, rfl, ?_⟩⟩⟩
    have t0 : SqT K H1 p0 [] := (R0.stay s0).tups k1 _ _ (tupOf upd_same)
    have s1 : Same H1 (upd H1 p1 (.tup [.ref p0, .int (1 + c0)])) := same_upd np1
    replace k1 := k1.trans (Kp.of s1)
    replace R1 := R1.stay s1
    replace t0 := Same.seqTT s1 t0
    clear s1
    generalize upd H1 p1 (.tup [.ref p0, .int (1 + c0)]) = H1 at k1 R1 t0 ⊢
    have b1 : BarsAt K H1 (.ref p0) [] := ⟨p0, [], rfl, t0, rfl, fun i x b h => by simp at h⟩
    have kp1 : Kp r H H1 := (Kp.of s0).trans k1
    obtain ⟨c, hc⟩ : ∃ c : Int, c = 1 + c0 := ⟨_, rfl⟩
    refine ⟨_, rfl, _, rfl, r, L, _, rfl, R1, by omega, by omega, fun n H2 n0 n1 k2 R2 => ⟨_, _, rfl, rfl, 1 + n, rfl, by omega, by omega, ?_⟩⟩
    refine for_range (lo := 0) (n := (1 + n).toNat) (fun i σ H2 => ∃ (v : V) (bs : List Bar) (x4 x5 x6 : Option V), σ = [some (.ref r), some (.int most), some v, some (.int c), x4, x5, x6, none, none] ∧ BarsAt K H2 v bs ∧ GreatTo i bs ∧ Kp r H H2 ∧ RowAt H2 r L)
      ⟨.ref p0, [], none, none, none, by rw [hc]; rfl, b1.stay (R1.tups k2), ⟨rfl, fun b h => by simp at h, by decide⟩, kp1.trans k2, R2⟩ ?_ ?_
    · clear R1 k2 R2 b1 kp1 k1 t0 H2 H1 np0 s0 p0 R0
      rintro i σ H2 hi ⟨v, bs, x4, x5, x6, rfl, B2, G2, k2, R2⟩
      refine ⟨_, rfl, _, rfl, r, L, 30000, rfl, R2, by decide, by decide, fun m0 H3 m00 m01 k3 R3 => ⟨_, _, rfl, rfl, _, _, rfl, rfl, wide_mul (a := 12) (b := 20) (by omega) (by omega) (by decide) (by decide) (by decide), ?_⟩⟩
      have hm0 : 1 ≤ c * (1 + m0) := Int.mul_le_mul (a := 1) (b := 1) (by omega) (by omega) (by decide) (by omega)
      have hm1 : c * (1 + m0) ≤ 30 * 30000 := Int.mul_le_mul (by omega) (by omega) (by omega) (by decide)
      obtain ⟨m, hm⟩ : ∃ m : Int, m = c * (1 + m0) := ⟨_, rfl⟩
      rw [← hm] at hm0 hm1
      refine ⟨_, rfl, r, L, 4, rfl, R3, by decide, by decide, fun j0 H4 j1 j2 k4 R4 => ⟨_, _, rfl, rfl, 1 + j0, rfl, by omega, by omega, fun D nD => ?_⟩⟩
      have nDr := R4.new nD
      refine lc_range (lo := 0) (n := (1 + j0).toNat) (fun j Hj => ∃ l : List Int, Hj D = some (.lst (l.map V.int)) ∧ l.length = j ∧ (∀ x ∈ l, 0 ≤ x ∧ x < m) ∧ Kp r H4 Hj ∧ RowAt Hj r L)
        ⟨[], upd_same, rfl, fun x h => by simp at h, Kp.new nD, R4.upd nDr⟩ ?_ ?_
      · rintro j Hj hj ⟨l, ej, lj, gj, kj, Rj⟩
        refine ⟨rfl, _, rfl, _, rfl, r, L, m, by rw [hm]; rfl, Rj, by omega, by omega, fun z H5 z0 z1 k5 R5 => ?_⟩
        refine ⟨_, k5 _ _ nDr.1 ej, ?_, l ++ [z], ?_, by rw [List.length_append, lj]; rfl, fun x h => ?_, ?_, R5.upd nDr⟩
        · rw [List.length_map]
          exact sizeLt (by omega)
        · rw [upd_same, List.map_append]
          rfl
        · rcases List.mem_append.mp h with h | h
          · exact gj x h
          · rw [List.mem_singleton.mp h]
            exact ⟨z0, z1⟩
        · exact (kj.trans k5).add nD
      · rintro H5 ⟨l, e5, l5, g5, k5, R5⟩
        refine ⟨D, l, _, rfl, lstOf e5, capLen l, by omega, fun p6 cc hcc n6 => ⟨p6, _, cc, rfl, upd_same, by omega, fun ns p7 up mem len n7 => ?_⟩⟩
        have lo7 : LotOk m ns := lot_sorted up mem g5 (by omega)
        have ne7 : ns ≠ [] := lot_ne mem fun z => by
          rw [z] at l5
          have : (1 + j0).toNat = 0 := l5.symm
          omega
        have len7 : ns.length ≤ 4 := by omega
        have k7 : Kp r H2 (upd (upd H5 p6 (SetO w p6 (fun j => decide (j ∈ l)) cc)) p7 (.lst (ns.map V.int))) := ((k3.trans k4).trans k5).trans ((Kp.new n6).trans (Kp.new n7))
        have R6 : RowAt (upd H5 p6 (SetO w p6 (fun j => decide (j ∈ l)) cc)) r L := R5.upd (R5.new n6)
        have R7 : RowAt (upd (upd H5 p6 (SetO w p6 (fun j => decide (j ∈ l)) cc)) p7 (.lst (ns.map V.int))) r L := R6.upd (R6.new n7)
        refine ⟨fun σ H' => ∃ (a : Addr) (l' : List Int), σ = [some (.ref r), some (.int most), some v, some (.int c), some (.int (0 + (i : Int))), some (.int m), some (.ref a), none, none] ∧
          SqL K H' a (l'.map V.int) ∧ LotOk m l' ∧ l'.length ≤ 4 ∧ l' ≠ [] ∧ Kp r H2 H' ∧ RowAt H' r L, ?_, ?_⟩
        · refine ⟨_, rfl, r, L, 3, rfl, R7, by decide, by decide, fun u H8 u0 u1 k8 R8 => ⟨_, _, rfl, rfl, _, rfl, ite2 (fun _ => ?_) (fun _ => ?_)⟩⟩
          · have e8 : H8 p7 = some (.lst (ns.map V.int)) := k8 _ _ (R6.new n7).1 upd_same
            refine ⟨_, rfl, p7, rfl, ⟨_, lstOf e8⟩, fun D9 n9 => lc_list (xs := ns.map V.int) (fun m9 H9 => H9 D9 = some (.lst (((ns.take m9).map fun x => x - x % c).map V.int)) ∧ Same H8 H9) ⟨upd_same, same_upd n9⟩ (fun m9 H9 _ z => lstOf (z.2 _ _ e8)) ?_ ?_⟩
            · rintro j z H9 hz ⟨e9, s9⟩
              rw [List.getElem?_map] at hz
              obtain ⟨x, hx, rfl⟩ := Option.map_eq_some_iff.mp hz
              refine ⟨rfl, _, rfl, _, rfl, _, rfl, _, _, rfl, rfl, by omega, _, _, rfl, rfl, _, e9, ?_, ?_, samePut s9 n9⟩
              · rw [List.length_map, List.length_map, List.length_take]
                exact sizeLt (by omega)
              · rw [upd_same, List.take_add_one, hx, List.map_append, List.map_append]
                rfl
            · rintro H9 ⟨e9, s9⟩
              rw [List.length_map, List.take_length] at e9
              refine ⟨D9, _, _, rfl, lstOf e9, capLen _, by rw [List.length_map]; omega, fun p10 c10 hc10 n10 => ⟨p10, _, c10, rfl, upd_same, by rw [List.length_map] at hc10; omega, fun ns2 p11 up2 mem2 len2 n11 => ?_⟩⟩
              rw [List.length_map] at hc10
              have g9 : ∀ x ∈ (ns.map fun x => x - x % c), 0 ≤ x ∧ x < m := fun x h => by
                obtain ⟨y, hy, rfl⟩ := List.mem_map.mp h
                have y0 := lo7.ge y hy
                have y1 := lo7.lt y hy
                have e1 := Int.emod_nonneg y (show c ≠ 0 by omega)
                have e2 := Int.mul_ediv_add_emod y c
                have e3 : 0 ≤ c * (y / c) := Int.mul_nonneg (by omega) (Int.ediv_nonneg y0 (by omega))
                exact ⟨by omega, by omega⟩
              have R10 := ((R8.stay s9).upd ((R8.stay s9).new n10) (o := SetO w p10 (fun j => decide (j ∈ ns.map fun x => x - x % c)) c10))
              exact ⟨p11, ns2, by rw [hm]; rfl, lstOf upd_same, lot_sorted up2 mem2 g9 (by omega), by omega, lot_ne mem2 (fun z => ne7 (List.map_eq_nil_iff.mp z)), k7.trans ((k8.trans (Kp.of s9)).trans ((Kp.new n10).trans (Kp.new n11))), R10.upd (R10.new n11)⟩
          · exact ⟨p7, ns, by rw [hm]; rfl, lstOf (k8 _ _ (R6.new n7).1 upd_same), lo7, len7, ne7, k7.trans k8, R8⟩
        · rintro σ H' ⟨a, l', rfl, sa, lok, l4, ne, k9, R9⟩
          refine ⟨_, rfl, _, rfl, _, rfl, a, _, rfl, .inl ⟨sa, fun t nt => ⟨sizeOk (by show (2 : Nat) ≤ 100000; decide), fun p np => ⟨sizeOk (by show (1 : Nat) ≤ 100000; decide), fun p2 np2 => ?_⟩⟩⟩⟩
          obtain ⟨b, xs, rfl, tb, nb, hb⟩ := B2.ex
          have s7 : Same H' (upd H' t (.tup (l'.map V.int))) := same_upd nt
          have ta : SqT K (upd H' t (.tup (l'.map V.int))) t (l'.map V.int) := tupOf upd_same
          replace k9 := k9.trans (Kp.of s7)
          replace R9 := R9.stay s7
          generalize upd H' t (.tup (l'.map V.int)) = H8 at *
          have s8 : Same H8 (upd H8 p (.tup [.int m, .ref t])) := same_upd np
          have s9 := s8.trans (same_upd np2 (o := .tup [.ref p]))
          have T9 : TupsStay K H2 _ := fun _ _ h => Same.seqTT s9 (R2.tups k9 _ _ h)
          have np12 : p ≠ p2 := fun e => by
            subst e
            rw [upd_same] at np2
            cases np2
          have bar9 : BarAt K (upd (upd H8 p (.tup [.int m, .ref t])) p2 (.tup [.ref p])) (.ref p) (m, l') :=
            ⟨p, .ref t, rfl, tupOf (by rw [upd_ne np12]; exact upd_same), ⟨t, rfl, Same.seqTT s9 ta⟩⟩
          have fin : ∀ (c' : Addr) H9, Same (upd (upd H8 p (.tup [.int m, .ref t])) p2 (.tup [.ref p])) H9 → SqT K H9 c' (xs ++ [.ref p]) → BarsAt K H9 (.ref c') (bs ++ [(m, l')]) ∧ GreatTo (i + 1) (bs ++ [(m, l')]) ∧ Kp r H H9 ∧ RowAt H9 r L := by
            intro c' H9 s10 t10
            exact ⟨BarsAt.add t10 nb (fun j x d h1 h2 => (hb j x d h1 h2).stay fun _ _ h => Same.seqTT s10 (T9 _ _ h)) (bar9.stay (.same s10)), G2.add hm0 (by omega) lok l4 ne, k2.trans (k9.trans ((Kp.of s9).trans (Kp.of s10))), (R9.stay s9).stay s10⟩
          have hl := G2.len
          have hxl : xs.length ≤ 6 := by omega
          refine ⟨b, p2, xs, [.ref p], rfl, rfl, T9 _ _ tb, tupOf upd_same, sizeOk (by show xs.length + 1 ≤ 100000; omega), fun e => ?_, fun _ e => absurd e (List.cons_ne_nil _ _), fun _ _ q' nq' => ?_⟩
          · subst e
            obtain ⟨f1, f2, f3, f4⟩ := fin p2 _ (Same.refl _) (tupOf upd_same)
            exact ⟨_, _, _, _, _, rfl, f1, f2, f3, f4⟩
          · obtain ⟨f1, f2, f3, f4⟩ := fin q' _ (same_upd nq') (tupOf upd_same)
            exact ⟨_, _, _, _, _, rfl, f1, f2, f3, f4⟩
    · rintro σ H2 ⟨v, bs, x4, x5, x6, rfl, B2, G2, k2, R2⟩
      exact ⟨_, rfl, q v bs _ H2 (by omega) (by omega) G2 B2 k2 R2⟩
end

end R
namespace R
open PySem PySem.Spec PyProof.Rows L2
/-! ## runs of places -/
/-- m numbers stand one behind the other from the place j on -/
def RunTo (bs : List Bar) (j : Int) (m : Nat) : Prop := ∀ i : Nat, i < m → st bs (j + (i : Int)) = st bs j + (i : Int)

end R
namespace R
open PySem PySem.Spec PyProof.Rows L2
/-! ## the steps -/
def stepsTo (bs : List Bar) (m : Nat) : List Int := (List.range m).map fun j : Nat => st bs ((j : Int) + 1) - st bs (j : Int)
theorem stepsTo_len (bs : List Bar) (m : Nat) : (stepsTo bs m).length = m := by
  unfold stepsTo
  rw [List.length_map, List.length_range]
theorem stepsTo_succ (bs : List Bar) (m : Nat) : stepsTo bs (m + 1) = stepsTo bs m ++ [st bs ((m : Int) + 1) - st bs (m : Int)] := by
  unfold stepsTo
  rw [List.range_succ, List.map_append]
  rfl
def sp_p_steps_in_order (K : PySem.W.Frag) (C : Addr) : Sp := fun vs H Q _ => ∃ (p : Addr) (v : V) (t : Addr) (bs : List Bar), vs = [.ref p] ∧ SvAt K C H p v t bs ∧ 0 < (cls bs).length ∧
  ∀ D H', Same H H' → H D = none → H' D = some (.lst ((stepsTo bs (cls bs).length).map V.int)) → Q (.ref D) H'
section
variable {P : Program} {w : World} {K : PySem.W.Frag} {mg : Str → Option Value} {base : Heap}
theorem ok_p_steps_in_order (T : Txt K mg) : FnOk P w K mg base CX0 5 T.f_p_steps_in_order T.fd_p_steps_in_order ["sieve"] (sp_p_steps_in_order K T.C) := by
  refine T.F_p_steps_in_order.ok sc_p_steps_in_order (fun vs H Q E h => ?_) (fun cdv A outer s H vs Q E hr h => ?_)
  · obtain ⟨p, v, t, bs, rfl, _⟩ := h
    rfl
  · obtain ⟨p, v, t, bs, rfl, S, hn, q⟩ := h
    refine ⟨_, (pss_one (ps_ret (pe_lc (own := [("place", 1)]) rfl sc_p_steps_in_order.nd (pi_range1 (by rfl) T.z_range (pa_cons (pe_callB (r := rLenK K) call_len_seq (by rfl) T.z_len (by decide +kernel) (pa_cons (pe_prop (pv 0) T.cl T.pp_classes (ok_m_Sieve_classes T) (hr.mono (by decide)) T.b_m_Sieve_classes .nil pass0 (by rfl)) pa_nil)) pa_nil)) (blkOk_by (N := ["sieve", "place"]) (sc := defScope s_p_steps_in_order) (by decide +kernel)) (fun _ _ _ _ _ => (pg_name (i := 1) sc_p_steps_in_order.nd rfl (by first | exact .inl rfl | exact .inr rfl))) (fun _ _ _ _ _ => pts_nil) (fun _ _ _ _ _ => (pe_op op_sub (pe_call (ok_p_standing_at T) (hr.mono (by decide)) (by rfl) T.g_p_standing_at T.F_p_standing_at.kp T.b_p_standing_at .nil pass0 (pa_cons (pv 0) (pa_cons (pe_op op_add (pv 1) pe_int) pa_nil))) (pe_call (ok_p_standing_at T) (hr.mono (by decide)) (by rfl) T.g_p_standing_at T.F_p_standing_at.kp T.b_p_standing_at .nil pass0 (pa_cons (pv 0) (pa_cons (pv 1) pa_nil)))))))), ?_⟩
    have few := choices_cls S.ok
    refine ⟨_, rfl, p, _, _, rfl, S.ob.choose_spec, p, v, t, bs, rfl, S, t, _, rfl, .inr S.cls, ?_⟩
    rw [List.length_map]
    refine ⟨_, rfl, by omega, by omega, fun D nD => ?_⟩
    rw [Int.toNat_natCast]
    refine lc_range (lo := 0) (n := (cls bs).length) (fun m Hm => Hm D = some (.lst ((stepsTo bs m).map V.int)) ∧ Same H Hm) ⟨upd_same, same_upd nD⟩ ?_ ?_
    · rintro m Hm hm ⟨em, sm⟩
      have e0 : (0 : Int) + (m : Int) = (m : Int) := Int.zero_add _
      have e3 : (3000 : Nat) < 2 ^ 300 := by decide
      refine ⟨rfl, _, rfl, _, rfl, _, _, rfl, rfl, p, v, t, bs, _, rfl, S.stay sm, hn, by omega, fun H4 s4 => ?_⟩
      refine ⟨_, rfl, _, rfl, p, v, t, bs, _, rfl, (S.stay sm).stay s4, hn, by omega, fun H5 s5 => ⟨_, _, rfl, rfl, _, s5 _ _ (s4 _ _ em), ?_, ?_, samePut ((sm.trans s4).trans s5) nD⟩⟩
      · rw [List.length_map, stepsTo_len]
        exact sizeLt (by omega)
      · rw [upd_same, stepsTo_succ, List.map_append]
        show some (HO.lst (_ ++ [V.int (st bs (0 + (m : Int) + 1) - st bs (0 + (m : Int)))])) = _
        rw [e0]
        rfl
    · rintro Hm ⟨em, sm⟩
      exact q D Hm sm nD em
end

end R
namespace R
open PySem PySem.Spec PyProof.Rows L2
/-! ## a lambda as a value: its function stands in the abstract heap, its promise is told by its body -/
open LamX hiding takes0
open NdefX
/-- the object at f is a lambda's function: the words of F, the expression b -/
def LamO (f : Addr) (F : NF) (b : Expr) : HO := .ext fun h => ∃ pm ctv : Value, h.get? f = some (PySem.W.kla_obj "<lambda>" F.qual F.params b F.scope F.cl pm F.c ctv)
theorem lamO_tbl {f : Addr} {F : NF} {b : Expr} (ps : Array Value) : LamO f F b ≠ .tbl ps := fun z => by
  unfold LamO at z
  cases z
theorem lamO_get {P : Program} {w : World} {H : Hp} {h : Heap} {f : Addr} {F : NF} {b : Expr} (k : HOk P w H h) (e : H f = some (LamO f F b)) : ∃ pm ctv : Value, h.get? f = some (PySem.W.kla_obj "<lambda>" F.qual F.params b F.scope F.cl pm F.c ctv) := (k f _ e).1
/-- what the maker's frame gives it -/
abbrev lamF (env : Env) (params : Arguments) (scope : Scope) (c : Addr) : NF := ⟨"<lambda>", env.qual ++ "<lambda>", params, [], scope, cloFrom env.cells scope.names [], c⟩
/-- all but the tables of code objects stays, nothing that was told is gone -/
structure StN (H H' : Hp) : Prop where
  ext : ExtN H H'
  free : ∀ b, H' b = Option.none → H b = Option.none
theorem StN.of {H H' : Hp} (s : Same H H') : StN H H' := ⟨fun b o e _ => s b o e, fun _ => s.free⟩
theorem StN.refl (H : Hp) : StN H H := .of (.refl H)
theorem StN.trans {H H1 H2 : Hp} (a : StN H H1) (b : StN H1 H2) : StN H H2 := ⟨a.ext.trans b.ext, fun c e => a.free c (b.free c e)⟩
section
variable {X : Cx} {pins : List (Addr × Obj)} {σ : L2.St} {H : Hp} {s : Shared}
theorem lam_put {F : NF} {b : Expr} {t : Nat} {pm ctv : Value} (I : Inv X pins σ H s) :
    Inv X pins σ (upd H s.heap.objs.size (LamO s.heap.objs.size F b)) { s with heap := s.heap.push (PySem.W.kla_obj "<lambda>" F.qual F.params b F.scope F.cl pm F.c ctv), toks := t } := by
  have e : (s.heap.push (PySem.W.kla_obj "<lambda>" F.qual F.params b F.scope F.cl pm F.c ctv)).get? s.heap.objs.size = some (PySem.W.kla_obj "<lambda>" F.qual F.params b F.scope F.cl pm F.c ctv) := Heap.get?_push_size _ rfl
  exact I.laid (a := s.heap.objs.size) (fun _ _ q => Heap.get?_push_of_some _ q) (Nat.le_refl _) ⟨⟨pm, ctv, e⟩, ⟨_, e⟩, fun _ _ ⟨p, c, z⟩ st => ⟨p, c, st _ z⟩⟩
theorem upd_gone {H : Hp} {a b : Addr} {o : HO} (e : upd H a o b = Option.none) : H b = Option.none := by
  unfold upd at e
  split at e
  · cases e
  · exact e
/-- a lambda is made: its code object is new, or told by the table -/
theorem lam_mk {T : List (Addr × Str)} {c P : Addr} {params : Arguments} {b : Expr} {scope : Scope} {pos : Pos} {E Q : Value → Shared → Prop} (I : Inv X pins σ H s) (B : TabB X.base X.mg c P) (hcode : X.env.code = .ref c) (hm : (P, X.env.qual ++ "<lambda>") ∈ T)
    (one : ∀ p ∈ T, p.1 = P → p.2 = X.env.qual ++ "<lambda>") (tabs : Tabs T H) (hdef : defaultsOf params X.env = ([], [])) (fr : ∀ y ∈ scope.names, y.2 = .free → ∃ c, X.env.cells.lookup y.1 = some c)
    (fin : ∀ (f c' : Addr) (H1 : Hp) (s1 : Shared), Inv X pins σ H1 s1 → StN H H1 → Tabs T H1 → H f = Option.none → H1 f = some (LamO f (lamF X.env params scope c') b) → H1 c' = some (CodeO c' (X.env.qual ++ "<lambda>")) → Q (.ref f) s1) :
    wpAny (model X.prog X.w) X.A (eval (.Lambda params b scope pos) X.env) Q E s := by
  obtain ⟨ps, tP, ok3, told⟩ := tabs _ hm
  refine PySem.W.kla_eval hdef ?_
  have bat : s.heap.BuiltinsAt X.mg P := B.bm.keeps I.bk
  have rawP : s.heap.get? P = some { cls := .none, data := .fields ps } := I.hok P _ tP
  cases look : codeAmong pos ps.toList with
  | some cv =>
    obtain ⟨c', rfl, known⟩ := told pos cv look
    refine PySem.W.kla_makeFunctionHit (mg := X.mg) (c := c) (P := P) (ps := ps) (closure_ok fr) I.ok.glob (I.mod.glob.keeps I.bk) hcode (B.code.keeps I.bk) rawP ok3 look bat fun ctv h1 tk old big => ?_
    have J : Inv X pins σ H { s with heap := h1, toks := tk } := I.kept old
    have nf : H h1.objs.size = Option.none := J.hok.fresh (Nat.le_refl _)
    have J2 := lam_put (t := tk) (pm := (X.mg "__name__").getD .none) (ctv := ctv) (F := lamF X.env params scope c') (b := b) J
    have sm : Same H (upd H h1.objs.size (LamO h1.objs.size (lamF X.env params scope c') b)) := fun d o e => (upd_ne (ne_of_none e nf)).trans e
    exact fin h1.objs.size c' _ _ J2 (.of sm) (tabs.ext sm) nf upd_same (sm _ _ known)
  | none =>
    refine PySem.W.kla_makeFunction (mg := X.mg) (c := c) (P := P) (ps := ps) (closure_ok fr) I.ok.glob (I.mod.glob.keeps I.bk) hcode (B.code.keeps I.bk) rawP ok3 look B.gP bat fun c' ctv h1 tk old ge lt rec_ tab => ?_
    obtain ⟨c2, oc, vs, t, e2, g1, g2, g3⟩ := rec_
    cases e2
    have nc : H c' = Option.none := I.hok.fresh ge
    have J := inv_table (t' := tk) (more := #[rawInt pos.line, rawInt pos.col, .ref c']) (h' := h1) I tP (fun d o hd e => old d o hd e) tab ge ⟨oc, vs, t, g1, g2, g3⟩
    generalize hH1 : upd (upd H P (.tbl (ps ++ #[rawInt pos.line, rawInt pos.col, .ref c']))) c' (CodeO c' (X.env.qual ++ "<lambda>")) = H1 at J
    have x1 : ExtN H H1 := fun d o e n => by
      rw [← hH1, upd_ne (ne_of_none e nc), upd_ne (fun z => n ps (Option.some.inj (e.symm.trans (by rw [z]; exact tP))))]
      exact e
    have f1 : ∀ d, H1 d = Option.none → H d = Option.none := fun d e => by
      rw [← hH1] at e
      exact upd_gone (upd_gone e)
    have atc : H1 c' = some (CodeO c' (X.env.qual ++ "<lambda>")) := by rw [← hH1]; exact upd_same
    have row : (ps ++ #[rawInt pos.line, rawInt pos.col, .ref c']).toList = ps.toList ++ [rawInt pos.line, rawInt pos.col, .ref c'] := by simp
    have T1 : Tabs T H1 := fun p hp => by
      by_cases hb : p.1 = P
      · rw [one p hp hb, hb]
        refine ⟨ps ++ #[rawInt pos.line, rawInt pos.col, .ref c'], by rw [← hH1, upd_ne (ne_of_none tP nc), upd_same], by rw [row]; exact PySem.TriplesOk_snoc _ _ _ _ ok3, fun p' cv q => ?_⟩
        rw [row] at q
        rcases among_app _ ok3 q with z | z
        · obtain ⟨c0, e1, e2⟩ := told p' cv z
          exact ⟨c0, e1, x1 _ _ e2 codeO_ne⟩
        · exact ⟨c', z, atc⟩
      · obtain ⟨qs, a1, a2, a3⟩ := tabs p hp
        refine ⟨qs, by rw [← hH1, upd_ne (ne_of_none a1 nc), upd_ne hb]; exact a1, a2, fun p' cv q => ?_⟩
        obtain ⟨c0, e1, e2⟩ := a3 p' cv q
        exact ⟨c0, e1, x1 _ _ e2 codeO_ne⟩
    have nf : H1 h1.objs.size = Option.none := J.hok.fresh (Nat.le_refl _)
    have J2 := lam_put (t := tk) (pm := (X.mg "__name__").getD .none) (ctv := ctv) (F := lamF X.env params scope c') (b := b) J
    have sm : Same H1 (upd H1 h1.objs.size (LamO h1.objs.size (lamF X.env params scope c') b)) := fun d o e => (upd_ne (ne_of_none e nf)).trans e
    exact fin h1.objs.size c' _ _ J2 ⟨fun d o e n => sm d o (x1 d o e n), fun d e => f1 d (sm.free e)⟩ (T1.ext sm) (f1 _ nf) upd_same (sm _ _ atc)
end
/-- a call of f with these values goes well and ends in Q -/
def Gives (P : Program) (w : World) (K : PySem.W.Frag) (mg : Str → Option Value) (base : Heap) (k : Nat) (f : Addr) (vs : List V) (H : Hp) (Q : VK) : Prop :=
  ∀ (A : Around) (outer : List Env) (s : Shared) (us : List Value), Room k A → Env0 P w K mg base A outer s H → Vals vs us → codeAny (model P w) A (.call (.ref f) ⟨us, []⟩) (CR C8.CX0 outer P w H s Q C8.E0) s
section
variable {P : Program} {w : World} {K : PySem.W.Frag} {mg : Str → Option Value} {base : Heap} {N ps fr : List Str} {F : NF} {b : Expr} {f : Addr} {k : Nat} {H : Hp} {vs : List V} {ws : List (Option V)} {Q : VK}
/-- a lambda by its body -/
theorem lam_run (S : NScope N ps fr F.scope) (hb : ∀ (pm ctv : Value) (us : List Value), us.length = ps.length → bindArgs (PySem.W.kla_fn "<lambda>" F.qual F.params b F.scope F.cl pm (.ref F.c) ctv) ⟨us, []⟩ = pure (ps.zip us)) {A : Around} {outer : List Env} {s : Shared} {us : List Value}
    (hr : Room (k + 1) A) (e0 : Env0 P w K mg base A outer s H) (hf : H f = some (LamO f F b)) (hc : H F.c = some (CodeO F.c F.qual)) (C : CellsAt F.cl fr ws s.heap H) (hl : vs.length = ps.length) (r : Vals vs us)
    (hbody : Room k (A.deeper (envF F f s.heap.objs.size)) → ∃ t, PE (ncx C8.CX0 P w K mg base N F f A outer s H C8.E0) b t ∧ t (startF N vs ws) H Q) : codeAny (model P w) A (.call (.ref f) ⟨us, []⟩) (CR C8.CX0 outer P w H s Q C8.E0) s := by
  obtain ⟨pm, ctv, ho⟩ := lamO_get e0.hok hf
  have lim : s.heap.NoLimit := e0.mod.nolimit.keeps fun d o e => (e0.bs d o e).1
  refine PySem.W.kla_callFunE hr.depth ho rfl S.co S.gen rfl (codeO_at e0.hok hc) ?_
  rw [hb pm ctv us (by rw [← r.length]; exact hl)]
  refine wpAny_pure (wpAny_newFunctionEnv S.nocell (fun ⟨n, _⟩ hy => S.par n (List.of_mem_zip hy).1) (fun h1 hns sb => ⟨lim.fresh _ sb, ?_⟩) S.kind)
  show codeAny _ _ (.expr b (envF F f s.heap.objs.size)) _ _
  have kp : ∀ d o, s.heap.get? d = some o → h1.get? d = some o := fun d o e => sb.extBut d o (Nat.ne_of_lt (Heap.lt_size e)) (Heap.get?_push_of_some _ e)
  obtain ⟨t, ht, hq⟩ := hbody (hr.deeper _)
  have I : Inv (ncx C8.CX0 P w K mg base N F f A outer s H C8.E0) [] (startF N vs ws) H { s with heap := h1, toks := s.toks + (ps.zip us).length } := inv_startN S hr.hd e0 hl r C hns kp
  refine PySem.W.kla_codeExpr (wpAny_mono (ht.run [] _ _ H Q I hq) (fun u s2 hs => ?_) fun e s2 hs => hs)
  obtain ⟨v, H2, J, rv, q⟩ := hs
  exact ⟨v, H2, J.os, J.bare, J.base, J.hok, rv, q⟩
/-- one that captures nothing -/
theorem lam_gives (S : NScope N ps [] F.scope) (hcl : F.cl = []) (hb : ∀ (pm ctv : Value) (us : List Value), us.length = ps.length → bindArgs (PySem.W.kla_fn "<lambda>" F.qual F.params b F.scope F.cl pm (.ref F.c) ctv) ⟨us, []⟩ = pure (ps.zip us)) (hf : H f = some (LamO f F b)) (hc : H F.c = some (CodeO F.c F.qual))
    (hl : vs.length = ps.length) (hbody : ∀ (A : Around) (outer : List Env) (s : Shared), Room k (A.deeper (envF F f s.heap.objs.size)) → ∃ t, PE (ncx C8.CX0 P w K mg base N F f A outer s H C8.E0) b t ∧ t (startF N vs []) H Q) : Gives P w K mg base (k + 1) f vs H Q := fun A outer s us hr e0 r =>
  lam_run (ws := []) S hb hr e0 hf hc ⟨rfl, fun y c e => (nomatch (hcl ▸ e : ([] : List (Str × Addr)).lookup y = some c)), fun x y c e => (nomatch (hcl ▸ e : ([] : List (Str × Addr)).lookup x = some c)), fun i y e => (nomatch (e : ([] : List Str)[i]? = some y))⟩ hl r (hbody A outer s)
end
/-- the lambda's making, read -/
def tLam2 (T : List (Addr × Str)) (G : Addr → Addr → Hp → Prop) : TE := fun _ H Q => Tabs T H ∧ ∀ (f c' : Addr) (H1 : Hp), StN H H1 → Tabs T H1 → H f = Option.none → G f c' H1 → Q (.ref f) H1
theorem pe_lamO {X : Cx} {T : List (Addr × Str)} {c P : Addr} {params : Arguments} {b : Expr} {scope : Scope} {pos : Pos} (B : TabB X.base X.mg c P) (hcode : X.env.code = .ref c) (hm : (P, X.env.qual ++ "<lambda>") ∈ T) (one : ∀ p ∈ T, p.1 = P → p.2 = X.env.qual ++ "<lambda>")
    (hdef : defaultsOf params X.env = ([], [])) (fr : ∀ y ∈ scope.names, y.2 = .free → X.env.scope.names.lookup y.1 = some .cell ∨ X.env.scope.names.lookup y.1 = some .free) :
    PE X (.Lambda params b scope pos) (tLam2 T fun f c' H1 => H1 f = some (LamO f (lamF X.env params scope c') b) ∧ H1 c' = some (CodeO c' (X.env.qual ++ "<lambda>"))) :=
  ⟨fun pins s σ H Q I ⟨tabs, h⟩ => lam_mk I B hcode hm one tabs hdef (fun y hy e => (fr y hy e).elim (fun z => I.ok.has _ (.inl z)) fun z => I.ok.has _ (.inr z)) fun f c' H1 s1 J st T1 nf e1 e2 => ⟨.ref f, H1, J, rfl, h f c' H1 st T1 nf ⟨e1, e2⟩⟩⟩
section
variable {P : Program} {w : World} {K : PySem.W.Frag} {mg : Str → Option Value} {base : Heap}
/-- a def whose code object is known, by its body -/
theorem okC {x qual : Str} {st : Stmt} {f c : Addr} {fd : FuncData} {N ps : List Str} {k : Nat} {sp : Sp} (F : Fun K x qual st f fd) (hcd : fd.code = .ref c) (S : FnScope N ps (defScope st)) (len : ∀ vs H Q E, sp vs H Q E → vs.length = ps.length)
    (body : ∀ (A : Around) (outer : List Env) (s : Shared) (H : Hp) (vs : List V) (Q : VK) (E : XK), Room k (A.deeper (envOfC qual (defScope st) s.heap.objs.size f (.ref c))) → sp vs H Q E →
      ∃ t, PSs (cxOf CX0 P w K mg base N qual (defScope st) f (.ref c) A outer s H E).nox (defBody st) t ∧ t { nx := fun _ H' => Q .non H', rt := Q } (start N vs) H) : FnOk P w K mg base CX0 (k + 1) f fd ps sp := by
  obtain ⟨oc, od, kV, doc, pm, an, cdv, ct, osl, rfl, lk, code⟩ := F.ex
  obtain rfl : cdv = Value.ref c := hcd
  refine fn_of lk code S len fun A outer s H vs Q E hr hsp => ?_
  obtain ⟨t, h, q⟩ := body A outer s H vs Q E hr hsp
  exact ⟨t, h.nox, q⟩
end
/-- the end of a law whose program makes lambdas: the tables of the defs at names are empty at first -/
theorem walk_tabs {l : PySem.W.OpenLaw} {n k : Nat} {q : Program} {loose : List Str} {XP : (Str → Option Value) → Heap → Prop} {YP : World → Heap → Prop} {d : DefRec} {K : Params → PySem.W.Frag} {CX : World → CXT} {x : Str} (names : List Str)
    (hn : l.most = some n) (hn2 : n ≤ sizeLine) (hdf : d.params.defaults = []) (hr : Room k callerA) (there : ∀ y ∈ names, ((recsOf q).any fun e => e.name == y) = true) (hY : ∀ (w : World) (h : Heap), YP w h → (K w.params).In h)
    (F : ∀ (w : World) (mg : Str → Option Value) (fa : Addr) (h : Heap), YP w h → (K w.params).In h → h.Ns mainGlobals mg → mg d.name = some (.ref fa) → (∀ y ∈ names, ∀ f, mg y = some (.ref f) → OwnTab (K w.params) f h) → LawAtS l w (K w.params) (CX w) k n x mg fa h)
    (hCX : ∀ (w : World) (H : Hp) (s : Shared) (e : Value) (s' : Shared), CX w [] H s (fun _ _ _ => False) e s' → False) :
    PySem.W.WalkO q loose XP YP l.row.toRowW d [] (fun f vs => PySem.call f vs) := by
  refine Att.attach_callB hn hdf fun w s₀ s₁ mg mb fa o pm cd doc a vs ns G Y ho hd hcd hmg hobj hints hlen hbits hg => ?_
  have KX := hY w _ Y
  have own : ∀ y ∈ names, ∀ f, mg y = some (.ref f) → OwnTab (K w.params) f s₁.heap := fun y hy f hf c P o1 fd1 e dd vs1 sl k1 k2 k3 k4 k5 => by
    obtain ⟨dL, m1, m2⟩ := List.any_eq_true.mp (there y hy)
    have m3 : dL.name = y := beq_iff_eq.mp m2
    obtain ⟨a', o', fd', c', P', h1, h2, h3, h4, h5, h6⟩ := G.T.tab dL m1
    rw [m3, hf] at h1
    cases h1
    have g1 := KX _ _ k1
    rw [g1] at h2
    cases h2
    rw [k2] at h3
    cases h3
    rw [k3] at h4
    cases h4
    obtain ⟨⟨oc, vc, e1, _, e3, e4⟩, hP⟩ := h6
    have g2 := KX _ _ k4
    rw [g2] at e1
    cases e1
    cases e3
    rw [k5] at e4
    cases e4
    exact hP
  obtain ⟨fd, cs, sp, hT, nT, C, hb, hsp, hF⟩ := F w mg fa _ Y KX G.T.g hmg own
  exact law_callTs KX G.T.g G.T.b G.T.builtins G.T.nolimit hg hT nT C G.T.bmain hobj hints (Nat.le_trans hlen hn2) hr hF hb (fun H hH hS => hsp H a ns hlen hbits hH hS) fun H e s' => hCX w H s₁ e s'

end R
namespace R
open PySem PySem.Spec PyProof.Rows L2
/-! a list of pairs of ints -/
structure PrAt (H : Hp) (xs : List V) (ms : List (Int × Int)) : Prop where
  len : xs.length = ms.length
  at_ : ∀ (i : Nat) x m, xs[i]? = some x → ms[i]? = some m → ∃ t, x = .ref t ∧ H t = some (.tup [.int m.1, .int m.2])
theorem PrAt.nil (H : Hp) : PrAt H [] [] := ⟨rfl, fun i x m h _ => by simp at h⟩
theorem PrAt.stay {H H' : Hp} {xs : List V} {ms : List (Int × Int)} (h : PrAt H xs ms) (s : ∀ t u, H t = some (.tup u) → H' t = some (.tup u)) : PrAt H' xs ms :=
  ⟨h.len, fun i x m a b => let ⟨t, e, q⟩ := h.at_ i x m a b; ⟨t, e, s _ _ q⟩⟩
theorem PrAt.app {H : Hp} {xs ys : List V} {ms ns : List (Int × Int)} (h : PrAt H xs ms) (k : PrAt H ys ns) : PrAt H (xs ++ ys) (ms ++ ns) := by
  refine ⟨by rw [List.length_append, List.length_append, h.len, k.len], fun i x m a b => ?_⟩
  by_cases l : i < xs.length
  · rw [List.getElem?_append_left l] at a
    rw [List.getElem?_append_left (by rw [← h.len]; exact l)] at b
    exact h.at_ i x m a b
  · rw [List.getElem?_append_right (by omega)] at a
    rw [List.getElem?_append_right (by rw [← h.len]; omega), ← h.len] at b
    exact k.at_ _ x m a b
theorem PrAt.one {H : Hp} {t : Addr} {m : Int × Int} (h : H t = some (.tup [.int m.1, .int m.2])) : PrAt H [.ref t] [m] := by
  refine ⟨rfl, fun i x n a b => ?_⟩
  cases i with
  | zero =>
    cases Option.some.inj a
    cases Option.some.inj b
    exact ⟨t, rfl, h⟩
  | succ i => simp at a
/-- what a pair on the heap tells -/
def prOf (H : Hp) (x : V) : Int × Int := match x with
  | .ref t => match H t with
    | some (.tup [.int a, .int b]) => (a, b)
    | _ => (0, 0)
  | _ => (0, 0)
theorem prOf_at {H : Hp} {t : Addr} {m : Int × Int} (h : H t = some (.tup [.int m.1, .int m.2])) : prOf H (.ref t) = m := by
  show (match H t with | some (.tup [.int a, .int b]) => (a, b) | _ => (0, 0)) = m
  rw [h]
theorem PrAt.map {H : Hp} {xs : List V} {ms : List (Int × Int)} (h : PrAt H xs ms) : xs.map (prOf H) = ms := by
  refine List.ext_getElem? fun i => ?_
  rw [List.getElem?_map]
  cases a : xs[i]? with
  | none =>
    have := List.getElem?_eq_none_iff.mp a
    rw [List.getElem?_eq_none_iff.mpr (by rw [← h.len]; exact this)]
    rfl
  | some x =>
    have l := (List.getElem?_eq_some_iff.mp a).1
    have b : ms[i]? = some (ms[i]'(by rw [← h.len]; exact l)) := List.getElem?_eq_getElem _
    obtain ⟨t, rfl, e⟩ := h.at_ i x _ a b
    rw [b]
    exact congrArg some (prOf_at e)
theorem PrAt.all {H : Hp} {xs : List V} {ms : List (Int × Int)} (h : PrAt H xs ms) : ∀ x ∈ xs, ∃ t, x = V.ref t ∧ H t = some (.tup [.int (prOf H x).1, .int (prOf H x).2]) := fun x hx => by
  obtain ⟨i, hi⟩ := List.getElem?_of_mem hx
  have l := (List.getElem?_eq_some_iff.mp hi).1
  obtain ⟨t, rfl, e⟩ := h.at_ i x _ hi (List.getElem?_eq_getElem (by rw [← h.len]; exact l))
  exact ⟨t, rfl, by rw [prOf_at e]; exact e⟩
theorem PrAt.of {H : Hp} {ys : List V} (h : ∀ x ∈ ys, ∃ t, x = V.ref t ∧ H t = some (.tup [.int (prOf H x).1, .int (prOf H x).2])) : PrAt H ys (ys.map (prOf H)) := by
  refine ⟨(List.length_map ..).symm, fun i x m a b => ?_⟩
  rw [List.getElem?_map, a] at b
  obtain ⟨t, rfl, e⟩ := h x (List.mem_of_getElem? a)
  exact ⟨t, rfl, by rw [← Option.some.inj b]; exact e⟩
/-- the marks of one side as they grow -/
def MarksTo (H0 : Hp) (F : Addr) (l : List (Int × Int)) (H : Hp) : Prop := ∃ xs : List V, H F = some (.lst xs) ∧ PrAt H xs l ∧ ∀ b o, b ≠ F → H0 b = some o → H b = some o
theorem MarksTo.start {H : Hp} {F : Addr} (n : H F = none) : MarksTo H F [] (upd H F (.lst [])) := ⟨[], upd_same, PrAt.nil _, fun b o nb e => by rw [upd_ne nb]; exact e⟩
theorem MarksTo.add {H0 H : Hp} {F t : Addr} {l : List (Int × Int)} {m : Int × Int} {xs : List V} (e : H F = some (.lst xs)) (pr : PrAt H xs l) (k : ∀ b o, b ≠ F → H0 b = some o → H b = some o) (nt : H t = none) :
    upd H t (.tup [.int m.1, .int m.2]) F = some (.lst xs) ∧ MarksTo H0 F (l ++ [m]) (upd (upd H t (.tup [.int m.1, .int m.2])) F (.lst (xs ++ [.ref t]))) := by
  have ntF : t ≠ F := fun z => by rw [z, e] at nt; cases nt
  refine ⟨by rw [upd_ne (Ne.symm ntF)]; exact e, xs ++ [.ref t], upd_same, ?_, fun b o nb q => ?_⟩
  · refine PrAt.app (pr.stay fun a u q => ?_) (PrAt.one ?_)
    · rw [upd_ne (fun z => by rw [z, e] at q; cases q), upd_ne (ne_of_none q nt)]
      exact q
    · rw [upd_ne ntF]
      exact upd_same
  · rw [upd_ne nb, upd_ne (ne_of_none (k b o nb q) nt)]
    exact k b o nb q
/-! as data -/
def prD (m : Int × Int) : PyData := .tuple [.int m.1, .int m.2]
theorem dpPr {K : PySem.W.Frag} {H : Hp} : ∀ {xs : List V} {ms : List (Int × Int)}, PrAt H xs ms → DpAll K H xs (ms.map prD)
  | [], [], _ => .nil
  | [], m :: ms, h => nomatch h.len
  | x :: xs, [], h => nomatch h.len
  | x :: xs, m :: ms, h => by
    obtain ⟨t, rfl, e⟩ := h.at_ 0 x m rfl rfl
    exact .cons (.tup (tupOf e) (.cons (.int _) (.cons (.int _) .nil))) (dpPr ⟨Nat.succ.inj h.len, fun i y n a b => h.at_ (i + 1) y n a b⟩)
theorem okPr (ms : List (Int × Int)) : ∀ d ∈ ms.map prD, okD 1 d := fun d h => by
  obtain ⟨m, _, rfl⟩ := List.mem_map.mp h
  refine okD.tup fun d h => ?_
  rcases List.mem_cons.mp h with rfl | h
  · exact ⟨rfl, Nat.zero_le _⟩
  · rw [List.mem_singleton.mp h]
    exact ⟨rfl, Nat.zero_le _⟩
theorem eqvPrNil (ms : List (Int × Int)) : PyData.eqv (.list (ms.map prD)) (.list []) = decide (ms = []) := by
  rw [PyData.eqv]
  cases ms with
  | nil => rfl
  | cons x r => rfl
theorem eqvPr (m n : Int × Int) : PyData.eqv (prD m) (prD n) = decide (m = n) := by
  obtain ⟨a, b⟩ := m
  obtain ⟨c, d⟩ := n
  show PyData.eqv (.tuple [.int a, .int b]) (.tuple [.int c, .int d]) = _
  rw [PyData.eqv, PyData.eqvAll, PyData.eqvAll, PyData.eqvAll, PyData.eqv, PyData.eqv]
  by_cases h : a = c
  · subst h
    by_cases h2 : b = d
    · subst h2
      simp
    · simp [h2]
  · simp [h]
theorem inPr {m : Int × Int} {ms : List (Int × Int)} (h : m ∈ ms) : ((ms.map prD).any fun z => PyData.eqv z (prD m)) = true := by
  rw [List.any_map, List.any_eq_true]
  refine ⟨m, h, ?_⟩
  show PyData.eqv (prD m) (prD m) = true
  rw [eqvPr]
  exact decide_eq_true rfl

end R
namespace R
open PySem PySem.Spec PyProof.Rows L2
/-! ## min of a list with a key that is a function of the program's own: the keys are tuples of ints -/
open LamX hiding takes0
open NdefX
theorem minK_args (x d : Value) : argsOk "min" ⟨[x], [(Str.ofString "key", d)]⟩ := by
  unfold argsOk
  kernel_rfl
theorem refs_one : ∀ {xs : List V} {us vs : List Value}, (∀ x ∈ xs, ∃ t, x = V.ref t) → Vals xs us → Vals xs vs → us = vs
  | [], _, _, _, .nil, .nil => rfl
  | x :: r, _, _, h, .cons a b, .cons c d => by
    obtain ⟨t, rfl⟩ := h x List.mem_cons_self
    have e1 := a
    have e2 := c
    cases e1
    cases e2
    rw [refs_one (fun y hy => h y (List.mem_cons_of_mem _ hy)) b d]
theorem lex_keep {a b c : List Int} (h1 : HT.lexLt b a = true) (h2 : HT.lexLt c a = false) : HT.lexLt c b = false := NtL.lex_tr b a c (NtL.lex_asym b a h1) h2
section
variable {X : Cx} {pins : List (Addr × Obj)} {σ : L2.St} {k : Nat} {l It B f : Addr} {xs : List V} {items : List Value} {kf : Nat → List Int} {H0 : Hp} {R : Result → Shared → Prop}
/-- what the key tells at each place -/
abbrev KeyAt (X : Cx) (k : Nat) (f : Addr) (xs : List V) (kf : Nat → List Int) (H0 : Hp) : Prop := ∀ (i : Nat) (x : V) (H' : Hp), xs[i]? = some x → Same H0 H' → Gives X.prog X.w X.K X.mg X.base k f [x] H' fun v H2 => ∃ p, v = .ref p ∧ Same H' H2 ∧ H2 p = some (.tup ((kf i).map V.int))
/-- one item's key is asked -/
theorem minK_ask (hr : Room k X.A.in1) (nB : B ≠ It) {i : Nat} {x : V} {u : Value} {H : Hp} {s : Shared} {Q E : Value → Shared → Prop} (key : KeyAt X k f xs kf H0) (I : Inv X pins σ H s) (s0 : Same H0 H) (hx : xs[i]? = some x) (ru : RelV x u) (fI : FpOk X pins H It) (fB : FpOk X pins H B)
    {oI oB : Obj} (gI : s.heap.get? It = some oI) (gB : s.heap.get? B = some oB)
    (go : ∀ (p : Addr) (H2 : Hp) (s2 : Shared), Inv X pins σ H2 s2 → Same H H2 → H2 p = some (.tup ((kf i).map V.int)) → FpOk X pins H2 It → FpOk X pins H2 B → s2.heap.get? It = some oI → s2.heap.get? B = some oB → Q (.ref p) s2) :
    wpAny (model X.prog X.w) X.A.in1 (call (.ref f) [u]) Q E s := by
  refine wpAny_call (codeAny_mono (key i x H hx s0 X.A.in1 X.stack s [u] hr I.env0.in1 (.cons ru .nil)) fun r s2 hq => ?_)
  cases r with
  | error e => exact (show False from hq).elim
  | ok fl =>
    cases fl with
    | next => exact False.elim hq
    | brk => exact False.elim hq
    | cont => exact False.elim hq
    | ret y =>
      obtain ⟨v, H2, os, bare, un, hok, rv, p, rfl, sm, e⟩ := hq
      obtain rfl : y = Value.ref p := rv
      have out : ∀ b, FpOk X pins H b → b ∉ frs X.stack := fun b fb hb => (List.mem_cons.mp (I.stkSub b hb)).elim fb.2.1 fb.2.2.1
      obtain ⟨hh, g, d, t, os'⟩ := s2
      obtain rfl : os' = s.os := os
      have J := I.call (h' := hh) (g' := g) (d' := d) (t' := t) (ch := []) un hok bare (fun b z => absurd z (by simp))
      have kI := un.keep It _ gI fI.1 (out _ fI) (by simp)
      have kB := un.keep B _ gB fB.1 (out _ fB) (by simp)
      exact go p H2 _ J sm e ⟨un.free It _ gI fI.1 (by simp), fI.2⟩ ⟨un.free B _ gB fB.1 (by simp), fB.2⟩ kI kB
theorem minK_turned {H : Hp} {s : Shared} {b : Addr} {h' : Heap} {t : Nat} (I : Inv X pins σ H s) (fb : FpOk X pins H b) (k : ∀ c o, c ≠ b → s.heap.get? c = some o → h'.get? c = some o) : Inv X pins σ H { s with heap := h', toks := t } :=
  I.turned k fb.1 fb.2.1 fb.2.2.2.1 fb.2.2.2.2.1 fb.2.2.2.2.2
theorem minK_loop (hc : X.calm = true) (hr : Room k X.A.in1) (nB : B ≠ It) (refs : ∀ x ∈ xs, ∃ t, x = V.ref t) (hi : Vals xs items) (hl : SqL X.K H0 l xs) (key : KeyAt X k f xs kf H0) (hu : X.A.in1.units < cLine)
    (fin : ∀ (i : Nat) (v : Value) (H' : Hp) (s' : Shared), items[i]? = some v → (∀ j, j < items.length → HT.lexLt (kf j) (kf i) = false) → Inv X pins σ H' s' → Same H0 H' → R (.ok (.ret v)) s') :
    ∀ (r j i : Nat) (H : Hp) (s : Shared) (vb : Value) (p : Addr) (c : Nat), items.length - (j + 1) = r → j + 1 ≤ items.length → Inv X pins σ H s → Same H0 H → FpOk X pins H It → FpOk X pins H B → s.heap.IsListIter It l (j + 1) →
      s.heap.get? B = some { cls := .type "list", dict := none, data := .seq #[vb, .ref p] c, slots := #[] } → H p = some (.tup ((kf i).map V.int)) → items[i]? = some vb → (∀ j', j' ≤ j → HT.lexLt (kf j') (kf i) = false) →
      codeAny (model X.prog X.w) X.A (.builtin "min.loop" ⟨[.ref It, .ref f, .ref B], []⟩) R s := by
  have nm : (toString "min" ++ toString ".loop" : String) = "min.loop" := by decide
  have lst : ∀ {H : Hp} {s : Shared}, Inv X pins σ H s → Same H0 H → s.heap.IsList l items.toArray := fun I sm => by
    obtain ⟨its, rv, pl, _⟩ := I.list (sm.seq hl)
    rw [refs_one refs hi rv]
    exact pl.isList
  intro r
  induction r with
  | zero =>
    intro j i H s vb p c hr0 hj I s0 fI fB hit gB hp hv best
    have last : j + 1 = items.length := by omega
    have hl1 := lst I s0
    have hne : l ≠ It := fun z => by
      obtain ⟨o1, g1, c1, _⟩ := hl1
      obtain ⟨o2, g2, c2, _⟩ := id hit
      rw [z, g2] at g1
      cases g1
      rw [c1] at c2
      exact absurd c2 (by decide)
    have W := Walks.list (prog := X.prog) (w := X.w) (A := X.A.in1) (I.ok.hd hc) It l hne items.toArray
    refine codeAny_builtin F.entry_min_loop ?_
    rw [Around.under_plainId F.plain_min_loop _]
    show wpAny _ X.A.in1 (seqItems? (.ref B) >>= _) _ _ s
    refine wpAny_bind (wpAny_seqItems gB rfl ?_)
    show wpAny _ X.A.in1 (tryCatch (pyNext (.ref It)) _ >>= _) _ _ s
    refine wpAny_bind (wpAny_tryCatch (W.done s _ _ ⟨by rw [List.size_toArray, ← last]; exact hit, hl1⟩ fun h1 tk kp => ?_))
    have J := minK_turned (t := tk) I fI fun b o n e => kp b o (by simpa using n) e
    have gB1 := kp B _ (by simpa using nB) gB
    show wpAny _ X.A.in1 (updateSeq B (fun _ => #[]) >>= _) _ _ _
    refine wpAny_bind ?_
    refine wpAny_updateSeq gB1 rfl (wpAny_bind (wpAny_letGo (wpAny_pure ?_)))
    exact fin i vb H _ hv (fun j' h => best j' (by omega)) (minK_turned (t := tk) J fB fun b o n e => (Heap.get?_update_other _ _ (Ne.symm n)).trans e) s0
  | succ r ih =>
    intro j i H s vb p c hr0 hj I s0 fI fB hit gB hp hv best
    have more : j + 1 < items.length := by omega
    have hl1 := lst I s0
    have hne : l ≠ It := fun z => by
      obtain ⟨o1, g1, c1, _⟩ := hl1
      obtain ⟨o2, g2, c2, _⟩ := id hit
      rw [z, g2] at g1
      cases g1
      rw [c1] at c2
      exact absurd c2 (by decide)
    have W := Walks.list (prog := X.prog) (w := X.w) (A := X.A.in1) (I.ok.hd hc) It l hne items.toArray
    refine codeAny_builtin F.entry_min_loop ?_
    rw [Around.under_plainId F.plain_min_loop _]
    show wpAny _ X.A.in1 (seqItems? (.ref B) >>= _) _ _ s
    refine wpAny_bind (wpAny_seqItems gB rfl ?_)
    show wpAny _ X.A.in1 (tryCatch (pyNext (.ref It)) _ >>= _) _ _ s
    refine wpAny_bind (wpAny_tryCatch (W.item (j + 1) s _ _ (by rw [List.size_toArray]; exact more) ⟨hit, hl1⟩ fun y h1 tk Py st1 kp => ?_))
    have J := minK_turned (t := tk) I fI fun b o n e => kp b o (by simpa using n) e
    have gB1 := kp B _ (by simpa using nB) gB
    have hy : items[j + 1]? = some y := by simpa using Py
    obtain ⟨oI, gI, cI, dI⟩ := id st1.1
    obtain ⟨x, hx⟩ : ∃ x, xs[j + 1]? = some x := ⟨_, List.getElem?_eq_getElem (by rw [hi.length]; exact more)⟩
    obtain ⟨y', hy', ry⟩ := hi.get hx
    rw [hy] at hy'
    cases hy'
    show wpAny _ X.A.in1 (tryCatch (holding [y] (call (.ref f) [y])) _ >>= _) _ _ _
    refine wpAny_bind (wpAny_tryCatch (wpAny_holding (minK_ask hr nB key J s0 hx ry fI fB gI gB1 fun p2 H2 s2 J2 sm e2 fI2 fB2 gI2 gB2 => ?_)))
    have s02 := s0.trans sm
    have ep := sm _ _ hp
    obtain ⟨it1, r1, t1, _⟩ := J2.tuple (.inl (.inl e2) : SqT X.K H2 p2 _)
    obtain ⟨it2, r2, t2, _⟩ := J2.tuple (.inl (.inl ep) : SqT X.K H2 p _)
    show wpAny _ X.A.in1 (tryCatch (holding [y, .ref p2] (compareOp .Lt (.ref p2) (.ref p) >>= _)) _ >>= _) _ _ _
    refine wpAny_bind (wpAny_tryCatch (wpAny_holding (wpAny_bind (HT.lt_tupInts t1 t2 (intsAre_of r1) (intsAre_of r2) hu ?_))))
    refine wpAny_bind (wpAny_holding (wpAny_truthy_bool ?_))
    refine wpAny_bind (wpAny_letGo (wpAny_pure ?_))
    cases lt : HT.lexLt (kf (j + 1)) (kf i) with
    | true =>
      simp only [if_true]
      refine wpAny_bind ?_
      refine wpAny_updateSeq gB2 rfl (wpAny_bind (wpAny_letGo ?_))
      rw [nm]
      have J3 := minK_turned (t := s2.toks) (h' := s2.heap.update B (Obj.mapSeq fun _ => #[y, .ref p2])) J2 fB2 fun b o n e => (Heap.get?_update_other _ _ (Ne.symm n)).trans e
      refine wpAny_pure ⟨plainId_quiet F.plain_min_loop _, ih (j + 1) (j + 1) H2 _ y p2 _ (by omega) more J3 s02 fI2 fB2 ⟨oI, (Heap.get?_update_other _ _ nB).trans gI2, cI, dI⟩ (Heap.get?_update_self _ gB2 rfl) e2 hy fun j' hj' => ?_⟩
      by_cases z : j' = j + 1
      · rw [z]
        exact Bool.eq_false_iff.mpr fun q => by
          have := NtL.lex_asym _ _ q
          rw [q] at this
          cases this
      · exact lex_keep lt (best j' (by omega))
    | false =>
      simp only [Bool.false_eq_true, if_false]
      refine wpAny_bind (wpAny_letGo ?_)
      rw [nm]
      refine wpAny_pure ⟨plainId_quiet F.plain_min_loop _, ih (j + 1) i H2 _ vb p c (by omega) more J2 s02 fI2 fB2 ⟨oI, gI2, cI, dI⟩ gB2 ep hv fun j' hj' => ?_⟩
      by_cases z : j' = j + 1
      · rw [z]
        exact lt
      · exact best j' (by omega)
end
def rMinK (X : Cx) (k : Nat) : List V → List V → Hp → VK → Prop := fun vs zs H Q => ∃ (l f : Addr) (xs : List V) (kf : Nat → List Int), vs = [.ref l] ∧ zs = [.ref f] ∧ SqL X.K H l xs ∧ xs ≠ [] ∧ (∀ x ∈ xs, ∃ t, x = V.ref t) ∧ KeyAt X k f xs kf H ∧
  ∀ (i : Nat) (x : V) (H' : Hp), xs[i]? = some x → (∀ j, j < xs.length → HT.lexLt (kf j) (kf i) = false) → Same H H' → Q x H'
theorem cr_minK {X : Cx} {k : Nat} (hc : X.calm = true) (hr : Room (k + 1) X.A) : CallRK X (.builtin "min") [Str.ofString "key"] (rMinK X k) := by
  intro pins s σ H vs zs us ws Q I r rz h
  obtain ⟨l, f, xs, kf, rfl, rfl, hs, ne, refs, key, q⟩ := h
  have nm : (toString "min" ++ toString ".loop" : String) = "min.loop" := by decide
  obtain ⟨items, hi, pl, _⟩ := I.list hs
  have hl := pl.isList
  obtain rfl := Vals.ref1 r
  obtain ⟨w1, rfl, e1⟩ := vals1 rz
  obtain rfl : w1 = Value.ref f := e1
  have pos : 0 < items.length := by
    rw [← hi.length]
    exact List.length_pos_iff.mpr ne
  refine kmk_tree PySem.F.kind_min PySem.F.plain_min PySem.F.entry_min (minK_args _ _) ?_
  show wpAny _ X.A.in1 (Builtin.Builtins.bindParams "min" ["key", "default"] 0 ⟨[], [(Str.ofString "key", .ref f)]⟩ >>= _) _ _ s
  refine wpAny_bind (wpAny_of_eq (show Builtin.Builtins.bindParams "min" ["key", "default"] 0 ⟨[], [(Str.ofString "key", .ref f)]⟩ = pure [some (.ref f), none] from rfl) ?_)
  refine wpAny_bind (wpAny_pure ?_)
  refine wpAny_bind (wpAny_pyIter_list hl ?_)
  generalize hI : ({ cls := .type "list_iterator", data := .fields #[.ref l, .int 0 0] } : Obj) = oI0
  refine wpAny_bind (wpAny_newObj_type ?_ (by show (0 : Nat) ≤ sizeLine; exact Nat.zero_le _))
  rw [nm]
  have szI : (s.heap.push oI0).objs.size = s.heap.objs.size + 1 := Heap.size_push ..
  have nB : (s.heap.push oI0).objs.size ≠ s.heap.objs.size := by omega
  have kp1 : ∀ b o, s.heap.get? b = some o → ((s.heap.push oI0).push { cls := .type "list", data := .seq ([] : List Value).toArray }).get? b = some o := fun b o e => Heap.get?_push_of_some _ (Heap.get?_push_of_some _ e)
  have I1 : Inv X pins σ H { s with heap := (s.heap.push oI0).push { cls := .type "list", data := .seq ([] : List Value).toArray } } := I.kept (t' := s.toks) kp1
  have fI : FpOk X pins H s.heap.objs.size := I.fpOk (Nat.le_refl _) (I.hok.fresh (Nat.le_refl _))
  have fB : FpOk X pins H (s.heap.push oI0).objs.size := I.fpOk (by omega) (I.hok.fresh (by omega))
  have gI : ((s.heap.push oI0).push { cls := .type "list", data := .seq ([] : List Value).toArray }).get? s.heap.objs.size = some oI0 := Heap.get?_push_of_some _ (Heap.get?_push_size _ (by rw [← hI] <;> rfl))
  have gB : ((s.heap.push oI0).push { cls := .type "list", data := .seq ([] : List Value).toArray }).get? (s.heap.push oI0).objs.size = some { cls := .type "list", data := .seq ([] : List Value).toArray } := Heap.get?_push_size _ rfl
  have hne : l ≠ s.heap.objs.size := by
    obtain ⟨o, e, _⟩ := hl
    exact Nat.ne_of_lt (Heap.lt_size e)
  have hl1 : ((s.heap.push oI0).push { cls := .type "list", data := .seq ([] : List Value).toArray }).IsList l items.toArray := by
    obtain ⟨o, e, r⟩ := hl
    exact ⟨o, kp1 _ _ e, r⟩
  have W := Walks.list (prog := X.prog) (w := X.w) (A := X.A.in1) (I.ok.hd hc) s.heap.objs.size l hne items.toArray
  refine wpAny_pure ⟨plainId_quiet PySem.F.plain_min_loop _, ?_⟩
  refine codeAny_builtin F.entry_min_loop ?_
  rw [Around.under_plainId F.plain_min_loop _]
  show wpAny _ X.A.in1 (seqItems? (.ref (s.heap.push oI0).objs.size) >>= _) _ _ _
  refine wpAny_bind (wpAny_seqItems gB rfl ?_)
  show wpAny _ X.A.in1 (tryCatch (pyNext (.ref s.heap.objs.size)) _ >>= _) _ _ _
  refine wpAny_bind (wpAny_tryCatch (W.item 0 _ _ _ (by rw [List.size_toArray]; exact pos) ⟨⟨_, gI, by rw [← hI] <;> rfl, by rw [← hI] <;> rfl⟩, hl1⟩ fun y h1 tk Py st1 kp => ?_))
  have J := minK_turned (t := tk) I1 fI fun b o n e => kp b o (by simpa using n) e
  have gB1 := kp _ _ (by simpa using nB) gB
  have hy : items[0]? = some y := by simpa using Py
  obtain ⟨oI, gI1, cI, dI⟩ := id st1.1
  obtain ⟨x, hx⟩ : ∃ x, xs[0]? = some x := ⟨_, List.getElem?_eq_getElem (by rw [hi.length]; exact pos)⟩
  obtain ⟨y', hy', ry⟩ := hi.get hx
  rw [hy] at hy'
  cases hy'
  show wpAny _ X.A.in1 (tryCatch (holding [y] (call (.ref f) [y])) _ >>= _) _ _ _
  refine wpAny_bind (wpAny_tryCatch (wpAny_holding (minK_ask hr.in1 nB key J (Same.refl H) hx ry fI fB gI1 gB1 fun p2 H2 s2 J2 sm e2 fI2 fB2 gI2 gB2 => ?_)))
  show wpAny _ X.A.in1 (updateSeq (s.heap.push oI0).objs.size (fun _ => #[y, .ref p2]) >>= _) _ _ _
  refine wpAny_bind ?_
  refine wpAny_updateSeq gB2 rfl ?_
  rw [nm]
  have J3 := minK_turned (t := s2.toks) (h' := s2.heap.update (s.heap.push oI0).objs.size (Obj.mapSeq fun _ => #[y, .ref p2])) J2 fB2 fun b o n e => (Heap.get?_update_other _ _ (Ne.symm n)).trans e
  refine wpAny_pure ⟨plainId_quiet F.plain_min_loop _, minK_loop hc hr.in1 nB refs hi hs key ?_ (fun i v H' s' hv best I' sm' => ?_) _ 0 0 H2 _ y p2 _ rfl pos J3 sm fI2 fB2 ⟨oI, (Heap.get?_update_other _ _ nB).trans gI2, cI, dI⟩ (Heap.get?_update_self _ gB2 rfl) e2 hy fun j' hj' => ?_⟩
  · have := hr.in1.un
    omega
  · obtain ⟨x, hx⟩ : ∃ x, xs[i]? = some x := ⟨_, List.getElem?_eq_getElem (by rw [hi.length]; exact (List.getElem?_eq_some_iff.mp hv).1)⟩
    obtain ⟨v', hv', rv⟩ := hi.get hx
    rw [hv] at hv'
    cases hv'
    exact ⟨x, H', I', rv, q i x H' hx (fun j hj => best j (by rw [← hi.length]; exact hj)) sm'⟩
  · obtain rfl : j' = 0 := by omega
    exact Bool.eq_false_iff.mpr fun q => by
      have := NtL.lex_asym _ _ q
      rw [q] at this
      cases this

end R
namespace R
open PySem PySem.Spec PyProof.Rows L2
/-! ## laws whose program makes lambdas -/
open LamX hiding takes0
open NdefX
def sp_lawT {K : PySem.W.Frag} {mg : Str → Option Value} (T : Txt K mg) : Sp := fun vs H Q _ => ∃ (a : Addr) (ns : List Int), vs = [.ref a] ∧ SqL K H a (ns.map V.int) ∧ ns.length ≤ 63 ∧ Tabs (tabs T) H ∧ ∀ H', Q (.bl true) H'
theorem sameTabs {T : List (Addr × Str)} {H H' : Hp} (s : Same H H') (t : Tabs T H) : Tabs T H' := t.ext s
theorem StN.tups {K : PySem.W.Frag} {H H' : Hp} (f : StN H H') : TupsStay K H H' := fun a xs h => by
  rcases h with (h | ⟨o, h⟩) | h
  · exact .inl (.inl (f.ext _ _ h (by intro k z; cases z)))
  · exact .inl (.inr ⟨o, f.ext _ _ h (by intro k z; cases z)⟩)
  · exact .inr h
theorem StN.tup {H H' : Hp} (f : StN H H') {t : Addr} {xs : List V} (h : H t = some (.tup xs)) : H' t = some (.tup xs) := f.ext _ _ h (by intro k z; cases z)
theorem StN.lst {H H' : Hp} (f : StN H H') {t : Addr} {xs : List V} (h : H t = some (.lst xs)) : H' t = some (.lst xs) := f.ext _ _ h (by intro k z; cases z)
theorem StN.seq {K : PySem.W.Frag} {H H' : Hp} {a : Addr} {xs : List V} (f : StN H H') (h : SqL K H a xs) : SqL K H' a xs := by
  rcases h with (h | ⟨o, h⟩) | h
  · exact .inl (.inl (f.ext _ _ h (by intro k z; cases z)))
  · exact .inl (.inr ⟨o, f.ext _ _ h (by intro k z; cases z)⟩)
  · exact .inr h
theorem SvAt.stn {K : PySem.W.Frag} {C : Addr} {H H' : Hp} {p : Addr} {v : V} {t : Addr} {bs : List Bar} (h : SvAt K C H p v t bs) (f : StN H H') : SvAt K C H' p v t bs := by
  obtain ⟨dx, eo⟩ := h.ob
  exact ⟨⟨dx, f.ext _ _ eo (by intro k z; cases z)⟩, h.bars.stay f.tups, f.tups _ _ h.cls, h.ok⟩
theorem RowAt.stn {H H' : Hp} {r L : Addr} (h : RowAt H r L) (f : StN H H') : RowAt H' r L := by
  obtain ⟨ns, i, b, z, e, q, n⟩ := h.ex
  exact ⟨⟨ns, i, b, z, f.ext _ _ e (by intro k z; cases z), f.ext _ _ q (by intro k z; cases z), n⟩, h.ne⟩
theorem BarsAt.stn {K : PySem.W.Frag} {H H' : Hp} {v : V} {bs : List Bar} (h : BarsAt K H v bs) (f : StN H H') : BarsAt K H' v bs := h.stay f.tups
theorem tabsKp {T : List (Addr × Str)} {H H' : Hp} {r L : Addr} (t : Tabs T H) (R : RowAt H r L) (k : Kp r H H') : Tabs T H' := fun p hp => by
  obtain ⟨ps, h1, h2, h3⟩ := t p hp
  obtain ⟨ns, i, b, z, e, q, n⟩ := R.ex
  have ne : ∀ b o, H b = some o → (∀ xs, o ≠ .lst xs) → b ≠ r := fun b o e1 n z => by
    rw [z, e] at e1
    exact n _ (Option.some.inj e1).symm
  refine ⟨ps, k _ _ (ne _ _ h1 (fun xs z => by cases z)) h1, h2, fun pos cv hc => ?_⟩
  obtain ⟨c, e1, e2⟩ := h3 pos cv hc
  exact ⟨c, e1, k _ _ (ne _ _ e2 (fun xs z => by unfold CodeO at z; cases z)) e2⟩

end R
namespace R
open PySem PySem.Spec PyProof.Rows L2
/-! ## the longest of several -/
open LamX hiding takes0
open NdefX
theorem lex2 {a b c d : Int} : HT.lexLt [a, b] [c, d] = false → c < a ∨ (c = a ∧ d ≤ b) := by
  intro h
  rw [HT.lexLt_cons] at h
  by_cases e : a = c
  · rw [if_pos e, HT.lexLt_cons] at h
    by_cases e2 : b = d
    · exact .inr ⟨e.symm, by omega⟩
    · rw [if_neg e2] at h
      have := of_decide_eq_false h
      exact .inr ⟨e.symm, by omega⟩
  · rw [if_neg e] at h
    have := of_decide_eq_false h
    omega
def sp_p_longest {K : PySem.W.Frag} {mg : Str → Option Value} (T : Txt K mg) : Sp := fun vs H Q _ => ∃ (l : Addr) (xs : List V) (ps : List (Int × Int)), vs = [.ref l] ∧ SqL K H l xs ∧ PrAt H xs ps ∧ ps ≠ [] ∧ Tabs (tabs T) H ∧
  ∀ (p : Addr) (m : Int × Int) (H' : Hp), StN H H' → Tabs (tabs T) H' → m ∈ ps → (∀ q ∈ ps, q.1 < m.1 ∨ (q.1 = m.1 ∧ m.2 ≤ q.2)) → H' p = some (.tup [.int m.1, .int m.2]) → Q (.ref p) H'
section
variable {P : Program} {w : World} {K : PySem.W.Frag} {mg : Str → Option Value} {base : Heap}
theorem ok_p_longest (T : Txt K mg) (TB : Tbs base T) : FnOk P w K mg base CX0 3 T.f_p_longest T.fd_p_longest ["found"] (sp_p_longest T) := by
  refine okC T.F_p_longest T.cc_p_longest sc_p_longest (fun vs H Q E h => ?_) (fun A outer s H vs Q E hr h => ?_)
  · obtain ⟨l, xs, ps, rfl, _⟩ := h
    rfl
  · obtain ⟨l, xs, ps, rfl, hl, pr, ne, tb, q⟩ := h
    refine ⟨_, (pss_one (ps_ret (pe_callBK (cr_minK (k := 1) rfl (hr.mono (by decide))) (by rfl) T.z_min (by decide +kernel) (pa_cons (pv 0) pa_nil) (pk_cons (pe_lamO TB.b_p_longest rfl (in_p_longest T) (one_p_longest T) rfl (ndef_free (fr := []) (by kernel_rfl))) pk_nil)))), ?_⟩
    refine ⟨_, rfl, tb, fun f c' H1 st1 tb1 nf ⟨e1, e2⟩ => ?_⟩
    have pr1 : PrAt H1 xs ps := pr.stay fun t u e => st1.tup e
    have hlen := pr.len
    refine ⟨l, f, xs, fun i => [-(ps.getD i (0, 0)).1, (ps.getD i (0, 0)).2], rfl, rfl, st1.seq hl, fun z => ?_, fun x hx => ?_, fun i x H2 hx s2 => ?_, fun i x H2 hx best s2 => ?_⟩
    · rw [z] at hlen
      exact ne (List.length_eq_zero_iff.mp hlen.symm)
    · obtain ⟨t, e, _⟩ := pr1.all x hx
      exact ⟨t, e⟩
    · have il := (List.getElem?_eq_some_iff.mp hx).1
      obtain ⟨m, em⟩ : ∃ m, ps[i]? = some m := ⟨_, List.getElem?_eq_getElem (by omega)⟩
      obtain ⟨t, rfl, et⟩ := pr1.at_ i x m hx em
      refine lam_gives (N := ["one"]) (ps := ["one"]) (nscope_by (by kernel_rfl)) rfl (fun pm ctv us hl => match us, hl with | [_], _ => rfl) (s2 _ _ e1) (s2 _ _ e2) rfl fun A outer s hr => ⟨_, (pe_tup (pa_cons (pe_un un_neg (pe_ix ix_tup (pv 0) pe_int (fun _ _ => rfl))) (pa_cons (pe_ix ix_tup (pv 0) pe_int (fun _ _ => rfl)) pa_nil))), ?_⟩
      have eg : ps.getD i (0, 0) = m := by rw [List.getD_eq_getElem?_getD, em]; rfl
      refine ⟨_, rfl, t, _, _, _, rfl, rfl, tupOf (s2 _ _ et), atI_nat (j := 0) rfl, _, rfl, ?_⟩
      refine ⟨_, rfl, t, _, _, _, rfl, rfl, tupOf (s2 _ _ et), atI_nat (j := 1) rfl, sizeOk (by show (2 : Nat) ≤ 100000; decide), fun p np => ⟨p, rfl, same_upd np, ?_⟩⟩
      show _ = some (HO.tup (List.map V.int [-(ps.getD i (0, 0)).1, (ps.getD i (0, 0)).2]))
      rw [eg]
      exact upd_same
    · have il := (List.getElem?_eq_some_iff.mp hx).1
      obtain ⟨m, em⟩ : ∃ m, ps[i]? = some m := ⟨_, List.getElem?_eq_getElem (by omega)⟩
      obtain ⟨t, rfl, et⟩ := pr1.at_ i x m hx em
      have eg : ps.getD i (0, 0) = m := by rw [List.getD_eq_getElem?_getD, em]; rfl
      refine q t m H2 (st1.trans (.of s2)) (tb1.ext s2) (List.mem_of_getElem? em) (fun y hy => ?_) (s2 _ _ et)
      obtain ⟨j, jl, ej⟩ := List.mem_iff_getElem.mp hy
      have ey : ps.getD j (0, 0) = y := by rw [List.getD_eq_getElem?_getD, List.getElem?_eq_getElem jl, ej]; rfl
      have b := best j (by omega)
      simp only [eg, ey] at b
      have := lex2 b
      omega
end

end R
namespace R
open PySem PySem.Spec PyProof.Rows L2
/-! ## sorted(d.items()): keys and values ints -/
def rItemsK : V → List V → Hp → VK → Prop := fun x xs H Q => ∃ (a : Addr) (kvs : List (L2.Key × V)), x = .ref a ∧ xs = [] ∧ H a = some (.dK kvs) ∧ ∀ p, H p = none → Q (.ref p) (upd H p (DX.itemsO p a))
theorem mt_itemsK {X : Cx} : MtR X "dict.items" rItemsK := by
  intro pn st σ H x xs v us Q I rx rxs h
  obtain ⟨a, kvs, rfl, rfl, ha, q⟩ := h
  cases rx
  cases rxs
  obtain ⟨_, hs, vs, _, o, es, ep, ho, hx, hdat, _⟩ := dk_of I.hok ha
  refine DT.callItems (es := es) (ep := ep) hs ⟨o, ho, hx, hdat⟩ ?_
  have hf : H st.heap.objs.size = none := I.hok.fresh (Nat.le_refl _)
  have J := I.laid (t' := st.toks) (h' := st.heap.push { cls := .type "dict_items", data := .fields #[.ref a] }) (fun b u e => Heap.get?_push_of_some _ e) (Nat.le_refl _) (DX.itemsO_ok (Heap.get?_push_size _ rfl))
  exact ⟨.ref st.heap.objs.size, upd H st.heap.objs.size (DX.itemsO st.heap.objs.size a), J, rfl, q _ hf⟩
abbrev entI (e : Int × Int) : L2.Key × V := (Sum.inl e.1, V.int e.2)
/-- keys and values ints: a new list of new pairs, by the keys -/
def rSortDI : List V → Hp → VK → Prop := fun vs H Q => ∃ (p a : Addr) (ks : List (Int × Int)), vs = [.ref p] ∧ H p = some (DX.itemsO p a) ∧ H a = some (.dK (ks.map entI)) ∧
  ∀ (H' : Hp) (l : Addr) (ps : List (Addr × Int × Int)), Same H H' → H l = none → (ps.map (·.2)).Perm ks → SrtO.Srtd SrtO.lexB (ps.map (·.2)) → H' l = some (.lst (ps.map fun z => V.ref z.1)) →
    (∀ z ∈ ps, H' z.1 = some (.tup [.int z.2.1, .int z.2.2])) → Q (.ref l) H'
theorem pairs_get {prog : Program} {w : World} {K : Type} [DecidableEq K] {knd : PySem.KeyKind prog w K} : ∀ {es : List DictEntry} {kvs : List (K × Value)}, Pairs knd es kvs → es.length = kvs.length ∧ ∀ {j : Nat} {e : DictEntry}, es[j]? = some e → ∃ kv, kvs[j]? = some kv ∧ knd.is kv.1 e.key = true ∧ e.val = kv.2
  | _, _, .nil => ⟨rfl, fun h => by simp at h⟩
  | _, _, .cons a b r => ⟨congrArg (· + 1) (pairs_get r).1, fun {j e} h => by
    cases j with
    | zero =>
      cases Option.some.inj h
      exact ⟨_, rfl, a, b⟩
    | succ j => exact (pairs_get r).2 h⟩
def keyAt (as : List Addr) (ks : List (Int × Int)) : Value → Int × Int
  | .ref b => ks.getD (as.idxOf b) (0, 0)
  | _ => (0, 0)
theorem keyAt_is {as : List Addr} {ks : List (Int × Int)} (nd : as.Nodup) {j : Nat} {b : Addr} {e : Int × Int} (hj : as[j]? = some b) (he : ks[j]? = some e) : keyAt as ks (.ref b) = e := by
  obtain ⟨h1, h2⟩ := List.getElem?_eq_some_iff.mp hj
  have e1 : as.idxOf b = j := by
    rw [← h2]
    exact List.Nodup.idxOf_getElem nd j h1
  show ks.getD (as.idxOf b) (0, 0) = e
  rw [e1, List.getD_eq_getElem?_getD, he]
  rfl
theorem keyAt_map {as : List Addr} {ks : List (Int × Int)} (nd : as.Nodup) (hl : as.length = ks.length) : (as.map Value.ref).map (keyAt as ks) = ks := by
  refine List.ext_getElem? fun j => ?_
  rw [List.map_map, List.getElem?_map]
  cases hj : as[j]? with
  | none =>
    rw [List.getElem?_eq_none_iff] at hj
    rw [List.getElem?_eq_none (by omega)]
    rfl
  | some b =>
    have h1 := (List.getElem?_eq_some_iff.mp hj).1
    have he : ks[j]? = some ks[j] := List.getElem?_eq_getElem (by omega)
    rw [he]
    show some (keyAt as ks (.ref b)) = _
    rw [keyAt_is nd hj he]
theorem cr_sortedDI {X : Cx} (hc : X.calm = true) : CallR X (.builtin "sorted") rSortDI := by
  intro pn st σ H xs us Q I r h
  obtain ⟨p, a, ks, rfl, hp, ha, q⟩ := h
  obtain rfl := Vals.ref1 r
  have view : st.heap.IsItemsView p a := (show ObjOk X.prog X.w H st.heap p (DX.itemsO p a) from I.hok p _ hp).1
  obtain ⟨z, hs, vs, rel, o, es, ep, ho, hx, hdat, _, prs, _⟩ := dk_of I.hok ha
  have l1 : (ks.map entI).length = vs.length := Paired.length rel
  rw [List.length_map] at l1 z
  have l2 : es.size = vs.length := by
    rw [← Array.length_toList]
    exact (pairs_get prs).1
  refine DT.sortedI (es := es) (ep := ep) (I.ok.hd hc) view ⟨o, ho, hx, hdat⟩ (by omega) fun h' tk as hk hlt hl hG => ?_
  have lak : as.length = ks.length := by omega
  have nd : as.Nodup := hG.rise.imp fun h => Nat.ne_of_lt h
  -- the pairs
  have pr : ∀ (j : Nat) (b : Addr), as[j]? = some b → ∃ e : Int × Int, ks[j]? = some e ∧ ∃ t u, h'.get? b = some { cls := .type "tuple", data := .seq #[Value.int e.1 t, Value.int e.2 u] } := by
    intro j b hj
    obtain ⟨en, he, hg⟩ := hG.pairs j b hj
    rw [← Array.getElem?_toList] at he
    obtain ⟨kv, h1, h2, h3⟩ := (pairs_get prs).2 he
    obtain ⟨e0, g1, g2, g3⟩ := DX.pget rel h1
    rw [List.getElem?_map] at g1
    obtain ⟨e, ke, rfl⟩ := Option.map_eq_some_iff.mp g1
    refine ⟨e, ke, ?_⟩
    rw [← g2] at h2
    obtain ⟨t, ht⟩ := (show ∃ t, en.key = Value.int e.1 t from relV_key (k := Sum.inl e.1) h2)
    obtain ⟨u, hu⟩ := (show ∃ u, kv.2 = Value.int e.2 u from g3)
    rw [hg, ht, h3, hu]
    exact ⟨t, u, rfl⟩
  have hob : (h'.push { cls := .type "list", data := .seq (as.map Value.ref).toArray }).get? h'.objs.size = some (seqObj "list" (as.map Value.ref).toArray 0) := Heap.get?_push_size _ rfl
  have ka : ∀ b ob, h'.get? b = some ob → (h'.push { cls := .type "list", data := .seq (as.map Value.ref).toArray }).get? b = some ob := fun b ob e => Heap.get?_push_of_some _ e
  have ne0 : ∀ b ob, h'.get? b = some ob → b ≠ h'.objs.size := fun b ob e => Nat.ne_of_lt (Heap.lt_size e)
  generalize hh2 : h'.push { cls := .type "list", data := .seq (as.map Value.ref).toArray } = h2 at hob ka ⊢
  have ip : ∀ v ∈ as.map Value.ref, Srt.IsPair h2 v (keyAt as ks v).1 (keyAt as ks v).2 := fun v hv => by
    obtain ⟨b, hb, rfl⟩ := List.mem_map.mp hv
    obtain ⟨j, hj⟩ := List.mem_iff_getElem?.mp hb
    obtain ⟨e, ke, t, u, g⟩ := pr j b hj
    rw [keyAt_is nd hj ke]
    exact ⟨b, _, t, u, 0, rfl, ka _ _ g, rfl, rfl⟩
  refine wpAny_call_entry PyProof.Rows.slot_list_sort ⟨_, hob, rfl⟩ PyProof.Rows.entry_list_sort
    (SrtO.list_sort_ord (s := { st with heap := h2, toks := tk }) (SrtO.swo_lex (keyAt as ks)) hob (by rw [List.length_map]; omega) (fun h2' => SrtO.pairs_sortableO (by omega) ip fun ob e => ?_) fun out o1 o2 => ⟨.none, rfl, ?_⟩) (PyProof.Rows.args_list_sort _)
  · have e' : some ob = some (seqObj "list" (as.map Value.ref).toArray 0) := e.symm.trans hob
    cases e'
    intro c
    exact absurd (Value.type.inj c) (by decide)
  · show EP X pn σ Q (.ref h'.objs.size) { st with heap := sortedHeap h2 h'.objs.size (as.map Value.ref) out.toArray, toks := tk }
    have re : ∀ v ∈ out, ∃ b, v = Value.ref b := fun v hv => by
      obtain ⟨b, _, e⟩ := List.mem_map.mp (o2.perm.mem_iff.mp hv)
      exact ⟨b, e.symm⟩
    have kF : ∀ b ob, b ≠ h'.objs.size → h2.get? b = some ob → (sortedHeap h2 h'.objs.size (as.map Value.ref) out.toArray).get? b = some ob := fun b ob hb e => (PyProof.Rows.sortedHeap_old hb (Heap.lt_size e)).trans e
    have kS : ∀ b ob, st.heap.get? b = some ob → (sortedHeap h2 h'.objs.size (as.map Value.ref) out.toArray).get? b = some ob := fun b ob e => kF b ob (ne0 _ _ (hk b ob e)) (ka _ _ (hk b ob e))
    obtain ⟨eF, heF⟩ := PyProof.Rows.sortedHeap_at (vs := as.map Value.ref) (out := out.toArray) hob
    have I1 : Inv X pn σ H { st with heap := sortedHeap h2 h'.objs.size (as.map Value.ref) out.toArray, toks := tk } := I.kept (t' := tk) kS
    have hn0 : H h'.objs.size = none := I.hok.fresh (Nat.le_of_lt hlt)
    have eo : out = (out.map adO).map Value.ref := ref_map re
    have pm : (out.map (keyAt as ks)).Perm ks := by
      have e := o2.perm.map (keyAt as ks)
      rw [keyAt_map nd lak] at e
      exact e
    have so : SrtO.Srtd SrtO.lexB (out.map (keyAt as ks)) := SrtO.srtd_map o1
    have lo : out.length = ks.length := by rw [← pm.length_eq, List.length_map]
    let ps : List (Addr × Int × Int) := out.map fun v => (adO v, keyAt as ks v)
    have p1 : ps.map (fun z => V.ref z.1) = (out.map adO).map V.ref := by
      rw [List.map_map, List.map_map]
      rfl
    have p2 : ps.map (·.2) = out.map (keyAt as ks) := by
      rw [List.map_map]
      rfl
    have rv : Vals (ps.map fun z => V.ref z.1) out.toArray.toList := by
      rw [p1]
      have z := of_nts (out.map adO)
      rw [← eo] at z
      exact z
    have I2 : Inv X pn σ (upd H h'.objs.size (.lst (ps.map fun z => V.ref z.1))) { st with heap := sortedHeap h2 h'.objs.size (as.map Value.ref) out.toArray, toks := tk } :=
      I1.take (h' := sortedHeap h2 h'.objs.size (as.map Value.ref) out.toArray) (t' := tk) (fun b ob _ e => e) (I.fpOk (Nat.le_of_lt hlt) hn0) ⟨by rw [List.length_map, List.length_map]; omega, out.toArray.toList, eF, rv, heF⟩
    obtain ⟨H2, I3, g, qt⟩ := DX.takeT (P := fun b vs => ∃ (j : Nat) (e : Int × Int), as[j]? = some b ∧ ks[j]? = some e ∧ vs = [.int e.1, .int e.2]) I as _ I2 nd fun b hb => by
      obtain ⟨j, hj⟩ := List.mem_iff_getElem?.mp hb
      obtain ⟨e, ke, t, u, hg⟩ := pr j b hj
      have hbl : st.heap.objs.size ≤ b := Nat.le_of_lt (hG.above b hb)
      refine ⟨hbl, ?_, [.int e.1, .int e.2], ⟨j, e, hj, ke, rfl⟩, fun H3 => ⟨(by show 2 ≤ sizeLine; decide), [Value.int e.1 t, Value.int e.2 u], .cons ⟨t, rfl⟩ (.cons ⟨u, rfl⟩ .nil), ⟨_, kF _ _ (ne0 _ _ hg) (ka _ _ hg), rfl, 0, rfl⟩⟩⟩
      rw [upd_ne (ne0 _ _ hg)]
      exact I.hok.fresh hbl
    refine ⟨.ref h'.objs.size, H2, I3, rfl, q H2 h'.objs.size ps (fun b ob e => g b ob (by rw [upd_ne (ne_of_none e hn0)]; exact e)) hn0 (by rw [p2]; exact pm) (by rw [p2]; exact so) (g _ _ upd_same) fun z' hz' => ?_⟩
    obtain ⟨v, hv, rfl⟩ := List.mem_map.mp hz'
    obtain ⟨b, hb, e⟩ := List.mem_map.mp (o2.perm.mem_iff.mp hv)
    subst e
    obtain ⟨vs', ⟨j, e, hj, ke, ev⟩, hH⟩ := qt b hb
    show H2 b = some (.tup [.int (keyAt as ks (.ref b)).1, .int (keyAt as ks (.ref b)).2])
    rw [keyAt_is nd hj ke, hH, ev]

end R
namespace R
open PySem PySem.Spec PyProof.Rows L2
/-! ## sorted of a dict whose keys are ints, any number of them -/
def rSortedDN : List V → Hp → VK → Prop := fun vs H Q => ∃ (a : Addr) (kvs : List (L2.Key × V)) (ks : List Int), vs = [.ref a] ∧ H a = some (.dK kvs) ∧ kvs.map (·.1) = ks.map Sum.inl ∧
  ∀ (ys : List Int) (p : Addr), ys.Perm ks → ys.Pairwise (· ≤ ·) → H p = none → Q (.ref p) (upd H p (.lst (ys.map V.int)))
theorem cr_sortedDN {X : Cx} (hc : X.calm = true) : CallR X (.builtin "sorted") rSortedDN := by
  intro pn st σ H xs us Q I r q
  obtain ⟨a, kvs, ks, rfl, hd, hks, q⟩ := q
  rw [Vals.ref1 r]
  obtain ⟨z, lo, vs, rel, dd⟩ := dk_rd I.hok (.inl hd)
  obtain ⟨ep, hat⟩ := dd.dictAt
  have hkeys : vs.map (·.1) = ks.map Sum.inl := rel.keys.symm.trans hks
  have hl : vs.length = ks.length := by
    have e := congrArg List.length hkeys
    rw [List.length_map, List.length_map] at e
    exact e
  have few : vs.length ≤ sizeLine := by
    have e := Paired.length rel
    omega
  refine Calls.call_function_entry PyProof.Rows.kind_sorted PyProof.Rows.plain_sorted PyProof.Rows.entry_sorted (PyProof.Rows.args_sorted1 _) ?_
  unfold Builtin.«sorted»
  refine wpAny_bind (m := checkCount "sorted" 1 1 _) (wpAny_pure ?_)
  refine wpAny_bind (PySem.W.kdu_collect (A := X.A.in1) (PySem.W.kdl_dict (knd := mixKind X.prog X.w) (kvs := vs) (ep := ep) lo) (I.ok.hd hc) hat few fun h1 tk acc kp got => ?_)
  have la : acc.toList.length = ks.length := by
    rw [Array.length_toList, got.1, hl]
  have iv : IntsAre acc.toList ks := ints_each la fun j v e => by
    obtain ⟨k, x, e1, e2⟩ := got.2 j v (by rw [← Array.getElem?_toList]; exact e)
    have e3 : (vs.map (·.1))[j]? = some k := by
      rw [List.getElem?_map, e1]
      rfl
    rw [hkeys, List.getElem?_map] at e3
    obtain ⟨y, ey, rfl⟩ := Option.map_eq_some_iff.mp e3
    rcases keyIs_shape (show keyIs (Sum.inl y) v = true from e2) with ⟨i, t, ek, ev⟩ | ⟨z, t, ek, ev⟩
    · cases ek
      exact ⟨y, t, ey, ev⟩
    · cases ek
  have I1 : Inv X pn σ H { st with heap := h1, toks := tk } := I.kept kp
  have small : acc.toList.length ≤ sizeLine := by omega
  refine wpAny_bind (wpAny_newList ?_ small)
  have at1 : (h1.push (seqObj "list" acc.toList.toArray 0)).get? h1.objs.size = some (seqObj "list" acc.toList.toArray 0) := Heap.get?_push_size _ rfl
  show wpAny _ _ _ _ _ { st with heap := h1.push (seqObj "list" acc.toList.toArray 0), toks := tk }
  refine wpAny_bind (wpAny_holding (wpAny_call_entry PyProof.Rows.slot_list_sort ⟨_, at1, rfl⟩ PyProof.Rows.entry_list_sort
    (SrtO.list_sort_ord (s := { st with heap := h1.push (seqObj "list" acc.toList.toArray 0), toks := tk }) SrtO.swo_int at1 small (fun two => SrtO.ints_sortable iv two) fun out o1 o2 => ⟨_, rfl, ?_⟩) (PyProof.Rows.args_list_sort _)))
  obtain ⟨c, hcc⟩ := PyProof.Rows.sortedHeap_at (vs := acc.toList) (out := out.toArray) at1
  obtain ⟨k1, k2, k3⟩ := SrtO.ints_out iv o1 o2
  have hlen : ((out.map SrtO.iv).map V.int).length ≤ sizeLine := by
    rw [List.length_map, k2.length_eq]
    omega
  refine wpAny_pure ⟨_, rfl, .ref h1.objs.size, upd H h1.objs.size (.lst ((out.map SrtO.iv).map V.int)), I1.laid (t' := tk) (fun b u e => ?_) (Nat.le_refl _)
    (show ObjOk X.prog X.w _ _ _ (.lst _) from ⟨hlen, out.toArray.toList, c, vals_of_ints k1, by rw [Array.toArray_toList]; exact hcc⟩), rfl, q _ _ k2 k3 (I1.hok.fresh (Nat.le_refl _))⟩
  have hb : b < h1.objs.size := Heap.lt_size e
  rw [PyProof.Rows.sortedHeap_old (Nat.ne_of_lt hb) (by rw [size_push']; exact Nat.lt_succ_of_lt hb)]
  exact Heap.get?_push_of_some _ e

end R
namespace R
open PySem PySem.Spec PyProof.Rows L2
/-! ## a dict that counts -/
structure Tally (kvs : List (L2.Key × V)) (S : List Int) : Prop where
  ex : ∃ ks : List Int, ks.Nodup ∧ (∀ k, k ∈ ks ↔ k ∈ S) ∧ kvs = ks.map fun k => ((Sum.inl k : L2.Key), V.int (S.count k : Nat))
theorem Tally.nil : Tally [] [] := ⟨[], List.nodup_nil, fun _ => Iff.rfl, rfl⟩
theorem talVal (S : List Int) (x : Int) : ∀ ks : List Int, valV (ks.map fun k => ((Sum.inl k : L2.Key), V.int (S.count k : Nat))) (Sum.inl x) = if x ∈ ks then some (V.int (S.count x : Nat)) else none
  | [] => rfl
  | k :: r => by
    by_cases e : k = x
    · subst e
      rw [List.map_cons, valV_pos rfl, if_pos List.mem_cons_self]
    · rw [List.map_cons, valV_neg (fun z => e (Sum.inl.inj z)), talVal S x r]
      by_cases m : x ∈ r
      · rw [if_pos m, if_pos (List.mem_cons_of_mem _ m)]
      · rw [if_neg m, if_neg (fun z => (List.mem_cons.mp z).elim (fun q => e q.symm) m)]
theorem Tally.val {kvs : List (L2.Key × V)} {S : List Int} (h : Tally kvs S) {x : Int} (m : x ∈ S) : valV kvs (Sum.inl x) = some (V.int (S.count x : Nat)) := by
  obtain ⟨ks, nd, mem, rfl⟩ := h.ex
  rw [talVal, if_pos ((mem x).mpr m)]
theorem Tally.get {kvs : List (L2.Key × V)} {S : List Int} (h : Tally kvs S) (x : Int) : (valV kvs (Sum.inl x)).getD (V.int 0) = V.int (S.count x : Nat) := by
  by_cases m : x ∈ S
  · rw [h.val m]
    rfl
  · obtain ⟨ks, nd, mem, rfl⟩ := h.ex
    rw [talVal, if_neg (fun z => m ((mem x).mp z)), List.count_eq_zero.mpr m]
    rfl
theorem countAdd (S : List Int) (x k : Int) : (S ++ [x]).count k = S.count k + if k = x then 1 else 0 := by
  rw [List.count_append]
  congr 1
  by_cases e : k = x
  · subst e
    rw [if_pos rfl]
    simp
  · rw [if_neg e]
    exact List.count_eq_zero.mpr fun z => e (List.mem_singleton.mp z)
theorem Tally.add {kvs : List (L2.Key × V)} {S : List Int} (h : Tally kvs S) (x : Int) : Tally (putK kvs (Sum.inl x) (V.int ((S.count x : Nat) + 1))) (S ++ [x]) := by
  obtain ⟨ks, nd, mem, rfl⟩ := h.ex
  have one : ∀ k, k ≠ x → (S ++ [x]).count k = S.count k := fun k e => by
    rw [countAdd, if_neg e]
    omega
  have two : ((((S ++ [x]).count x : Nat)) : Int) = (S.count x : Nat) + 1 := by
    rw [countAdd, if_pos rfl]
    omega
  by_cases m : x ∈ ks
  · refine ⟨ks, nd, fun k => ?_, ?_⟩
    · rw [List.mem_append, List.mem_singleton, mem k]
      exact ⟨.inl, fun z => z.elim id fun e => (mem k).mp (e ▸ m)⟩
    · unfold putK
      have hc : ((ks.map fun k => ((Sum.inl k : L2.Key), V.int (S.count k : Nat))).any fun kv => decide (kv.1 = Sum.inl x)) = true := List.any_eq_true.mpr ⟨_, List.mem_map.mpr ⟨x, m, rfl⟩, decide_eq_true rfl⟩
      rw [if_pos hc, List.map_map]
      refine List.map_congr_left fun k _ => ?_
      show (if (Sum.inl k : L2.Key) = Sum.inl x then ((Sum.inl k : L2.Key), V.int ((S.count x : Nat) + 1)) else ((Sum.inl k : L2.Key), V.int (S.count k : Nat))) = _
      by_cases e : k = x
      · subst e
        rw [if_pos rfl, two]
      · rw [if_neg (fun z => e (Sum.inl.inj z)), one k e]
  · refine ⟨ks ++ [x], List.nodup_append.mpr ⟨nd, by simp, fun a ha b hb z => m (by rw [← List.mem_singleton.mp hb, ← z]; exact ha)⟩, fun k => ?_, ?_⟩
    · rw [List.mem_append, List.mem_append, mem k]
    · unfold putK
      rw [if_neg, List.map_append, List.map_cons, List.map_nil, two]
      · congr 1
        refine List.map_congr_left fun k hk => ?_
        rw [one k fun e => m (e ▸ hk)]
      · intro q
        obtain ⟨kv, q1, q2⟩ := List.any_eq_true.mp q
        obtain ⟨k, hk, rfl⟩ := List.mem_map.mp q1
        exact m (Sum.inl.inj (of_decide_eq_true q2) ▸ hk)
theorem Tally.len {kvs : List (L2.Key × V)} {S : List Int} (h : Tally kvs S) : kvs.length ≤ S.length := by
  obtain ⟨ks, nd, mem, rfl⟩ := h.ex
  rw [List.length_map]
  exact nodup_len nd fun x hx => (mem x).mp hx
theorem upOf' {l : List Int} (up : l.Pairwise (· ≤ ·)) (nd : l.Nodup) : l.Pairwise (· < ·) := (List.pairwise_and_iff.mpr ⟨up, nd⟩).imp fun ⟨a, b⟩ => by omega
/-- the tally, in order -/
structure IsTal (S : List Int) (l : List (Int × Int)) : Prop where
  ex : ∃ ys : List Int, ys.Pairwise (· < ·) ∧ (∀ k, k ∈ ys ↔ k ∈ S) ∧ l = ys.map fun k => (k, ((S.count k : Nat) : Int))
theorem IsTal.one {S : List Int} {l k : List (Int × Int)} (a : IsTal S l) (b : IsTal S k) : l = k := by
  obtain ⟨ys, u, m, rfl⟩ := a.ex
  obtain ⟨zs, v, n, rfl⟩ := b.ex
  rw [sorted_unique u v fun k => (m k).trans (n k).symm]
theorem IsTal.of {kvs : List (L2.Key × V)} {S : List Int} (h : Tally kvs S) {ms : List (Int × Int)} {ks : List (Int × Int)} (e : kvs = ks.map entI) (pm : ms.Perm ks) (so : SrtO.Srtd SrtO.lexB ms) : IsTal S ms := by
  obtain ⟨qs, nd, mem, e2⟩ := h.ex
  have ek : ks = qs.map fun k => (k, ((S.count k : Nat) : Int)) := by
    have e3 : ks.map entI = (qs.map fun k => (k, ((S.count k : Nat) : Int))).map entI := by
      rw [← e, e2, List.map_map]
      rfl
    refine List.ext_getElem? fun i => ?_
    have e4 := congrArg (fun l => l[i]?) e3
    simp only [List.getElem?_map] at e4
    rw [List.getElem?_map]
    cases a : ks[i]? with
    | none =>
      rw [a] at e4
      cases b : qs[i]? with
      | none => rfl
      | some q =>
        rw [b] at e4
        cases e4
    | some x =>
      rw [a] at e4
      cases b : qs[i]? with
      | none =>
        rw [b] at e4
        cases e4
      | some q =>
        rw [b] at e4
        have e5 := Option.some.inj e4
        obtain ⟨x1, x2⟩ := x
        have e6 : (Sum.inl x1 : L2.Key) = Sum.inl q := congrArg Prod.fst e5
        have e7 : V.int x2 = V.int ((S.count q : Nat) : Int) := congrArg Prod.snd e5
        rw [Sum.inl.inj e6, V.int.inj e7]
        rfl
  subst ek
  have all : ∀ m ∈ ms, m.2 = ((S.count m.1 : Nat) : Int) ∧ m.1 ∈ qs := fun m hm => by
    obtain ⟨k, hk, rfl⟩ := List.mem_map.mp (pm.mem_iff.mp hm)
    exact ⟨rfl, hk⟩
  have pf := pm.map (·.1)
  rw [List.map_map, show (qs.map ((fun m : Int × Int => m.1) ∘ fun k => (k, ((S.count k : Nat) : Int)))) = qs from List.map_id' _] at pf
  have ndf : (ms.map (·.1)).Nodup := pf.nodup_iff.mpr nd
  refine ⟨ms.map (·.1), ?_, fun k => ?_, ?_⟩
  · have le : (ms.map (·.1)).Pairwise (· ≤ ·) := by
      rw [List.pairwise_map]
      refine so.imp fun {a b} q => ?_
      have := mt SrtO.lexB_iff.mpr (by rw [q]; simp)
      omega
    exact upOf' le ndf
  · rw [pf.mem_iff, mem]
  · rw [List.map_map]
    have : ms.map id = ms.map ((fun k => (k, ((S.count k : Nat) : Int))) ∘ fun m : Int × Int => m.1) := List.map_congr_left fun m hm => by
      obtain ⟨m1, m2⟩ := m
      have q := (all _ hm).1
      simp only at q
      show (m1, m2) = (m1, ((S.count m1 : Nat) : Int))
      rw [q]
    rw [List.map_id] at this
    exact this
theorem IsTal.sorted {S ys : List Int} {kvs : List (L2.Key × V)} {ks : List Int} (h : Tally kvs S) (e : kvs.map (·.1) = ks.map Sum.inl) (pm : ys.Perm ks) (up : ys.Pairwise (· ≤ ·)) : ys.Pairwise (· < ·) ∧ ∀ k, k ∈ ys ↔ k ∈ S := by
  obtain ⟨qs, nd, mem, rfl⟩ := h.ex
  rw [List.map_map] at e
  have e2 : ks = qs := by
    refine List.ext_getElem? fun i => ?_
    have e4 := congrArg (fun l => l[i]?) e
    simp only [List.getElem?_map] at e4
    cases a : ks[i]? <;> cases b : qs[i]? <;> rw [a, b] at e4
    · cases e4
    · cases e4
    · rw [Sum.inl.inj (Option.some.inj e4)]
  subst e2
  exact ⟨upOf' up (pm.nodup_iff.mpr nd), fun k => by rw [pm.mem_iff, mem]⟩

end R
namespace R
open PySem PySem.Spec PyProof.Rows L2
/-! ## lists of pairs, compared -/
theorem dpPrL {K : PySem.W.Frag} {H : Hp} {D : Addr} {xs : List V} {ms : List (Int × Int)} (e : H D = some (.lst xs)) (h : PrAt H xs ms) : Dp K H (.ref D) (.list (ms.map prD)) := .lst (lstOf e) (dpPr h)
theorem okPrL (ms : List (Int × Int)) : okD 2 (.list (ms.map prD)) := okD.lst (okPr ms)
theorem dpPr1 {K : PySem.W.Frag} {H : Hp} {t : Addr} {m : Int × Int} (h : H t = some (.tup [.int m.1, .int m.2])) : Dp K H (.ref t) (prD m) := .tup (tupOf h) (.cons (.int _) (.cons (.int _) .nil))
theorem okPr1 (m : Int × Int) : okD 1 (prD m) := okPr [m] _ (List.mem_singleton.mpr rfl)

end R
namespace R
open PySem PySem.Spec PyProof.Rows L2
/-! ## runs of numbers that fit, or do not -/
theorem fits_shift {bs : List Bar} (x i : Int) : fitsB bs (x % (wh bs : Int) + i) = fitsB bs (x + i) := by
  rw [← fitsB_mod bs (x % (wh bs : Int) + i), ← fitsB_mod bs (x + i), Int.emod_add_emod]
theorem st_lt {bs : List Bar} (hw : 0 < wh bs) (hn : 0 < (cls bs).length) {a b : Int} (h : a < b) : st bs a < st bs b := by
  by_cases l : st bs a < st bs b
  · exact l
  · have := pl_mono hw (show st bs b ≤ st bs a by omega)
    rw [pl_st hw hn, pl_st hw hn] at this
    omega
theorem st_gap {bs : List Bar} (hw : 0 < wh bs) (hn : 0 < (cls bs).length) {j x : Int} (h1 : st bs j < x) (h2 : x < st bs (j + 1)) : fitsB bs x = false := by
  cases f : fitsB bs x with
  | false => rfl
  | true =>
    have a := pl_fit hw (fits_st hw hn (q := j)) h1
    have b := pl_fit hw f h2
    rw [pl_st hw hn] at a b
    omega
theorem st_at {bs : List Bar} (hw : 0 < wh bs) {j : Nat} {c : Int} (h : (cls bs)[j]? = some c) : st bs (j : Int) = c := by
  have jl := (List.getElem?_eq_some_iff.mp h).1
  have hm := cls_mem.mp (List.mem_of_getElem? h)
  have e : pl bs c = (j : Int) := by
    unfold pl
    rw [Int.emod_eq_of_lt hm.1 hm.2.1, Int.ediv_eq_zero_of_lt hm.1 hm.2.1, below_at (cls_up bs) h]
    omega
  rw [← e]
  exact st_pl hw hm.2.2
/-- the next fitting number behind c -/
theorem st_next {bs : List Bar} (hw : 0 < wh bs) (hn : 0 < (cls bs).length) {j : Int} {y : Int} (h1 : st bs j < y) (f : fitsB bs y = true) (no : ∀ x, st bs j < x → x < y → fitsB bs x = false) : st bs (j + 1) = y := by
  have a := pl_fit hw (fits_st hw hn (q := j)) h1
  rw [pl_st hw hn] at a
  have ey := st_pl hw f
  by_cases e : pl bs y = j + 1
  · rw [← e]
    exact ey
  · have lt := st_lt hw hn (show j + 1 < pl bs y by omega)
    have lt2 := st_lt hw hn (show j < j + 1 by omega)
    rw [ey] at lt
    have := no _ lt2 lt
    rw [fits_st hw hn] at this
    cases this
/-- from b on, s numbers are so, those at both ends not -/
structure MaxRun (bs : List Bar) (d : Bool) (s b : Int) : Prop where
  b0 : 0 ≤ b
  b1 : b < (wh bs : Int)
  s1 : 1 ≤ s
  in_ : ∀ i, 0 ≤ i → i < s → fitsB bs (b + i) = d
  pre : fitsB bs (b - 1) ≠ d
  end_ : fitsB bs (b + s) ≠ d
/-- the longest of them, of several such the first -/
structure BestRun (bs : List Bar) (d : Bool) (m : Int × Int) : Prop where
  run : MaxRun bs d m.1 m.2
  top : ∀ s b, MaxRun bs d s b → s < m.1 ∨ (s = m.1 ∧ m.2 ≤ b)
theorem BestRun.one {bs : List Bar} {d : Bool} {m n : Int × Int} (a : BestRun bs d m) (b : BestRun bs d n) : m = n := by
  have h1 := a.top _ _ b.run
  have h2 := b.top _ _ a.run
  obtain ⟨m1, m2⟩ := m
  obtain ⟨n1, n2⟩ := n
  have e1 : m1 = n1 := by
    simp only at h1 h2
    omega
  have e2 : m2 = n2 := by
    simp only at h1 h2
    omega
  rw [e1, e2]
theorem boolNe {a b : Bool} (h : a ≠ b) : a = !b := by
  cases a <;> cases b <;> first | rfl | exact absurd rfl h
/-- the gaps -/
def gapAt (bs : List Bar) (j : Nat) : Int × Int := (st bs ((j : Int) + 1) - st bs (j : Int) - 1, (st bs (j : Int) + 1) % (wh bs : Int))
theorem gap_run {bs : List Bar} (hw : 0 < wh bs) (hn : 0 < (cls bs).length) {j : Nat} (h : 1 ≤ (gapAt bs j).1) : MaxRun bs false (gapAt bs j).1 (gapAt bs j).2 := by
  unfold gapAt at h ⊢
  simp only at h ⊢
  refine ⟨Int.emod_nonneg _ (by omega), Int.emod_lt_of_pos _ (by omega), h, fun i i0 i1 => ?_, ?_, ?_⟩
  · rw [fits_shift]
    exact st_gap hw hn (j := (j : Int)) (by omega) (by omega)
  · rw [show ∀ x : Int, x - 1 = x + -1 from fun x => rfl, fits_shift, show st bs (j : Int) + 1 + -1 = st bs (j : Int) by omega, fits_st hw hn]
    simp
  · rw [fits_shift, show st bs (j : Int) + 1 + (st bs ((j : Int) + 1) - st bs (j : Int) - 1) = st bs ((j : Int) + 1) by omega, fits_st hw hn]
    simp
theorem run_gap {bs : List Bar} (hw : 0 < wh bs) (hn : 0 < (cls bs).length) {s b : Int} (M : MaxRun bs false s b) : ∃ j : Nat, j < (cls bs).length ∧ gapAt bs j = (s, b) := by
  have pre := boolNe M.pre
  have c0 := Int.emod_nonneg (b - 1) (show (wh bs : Int) ≠ 0 by omega)
  have c1 := Int.emod_lt_of_pos (b - 1) (show (0 : Int) < (wh bs : Int) by omega)
  have fc : fitsB bs ((b - 1) % (wh bs : Int)) = true := by
    rw [fitsB_mod]
    exact pre
  obtain ⟨j, hj⟩ := List.mem_iff_getElem?.mp (cls_mem.mpr ⟨c0, c1, fc⟩)
  have es := st_at hw hj
  have sh : ∀ i : Int, fitsB bs ((b - 1) % (wh bs : Int) + i) = fitsB bs (b - 1 + i) := fun i => fits_shift _ i
  refine ⟨j, (List.getElem?_eq_some_iff.mp hj).1, ?_⟩
  have s1 := M.s1
  have nx : st bs ((j : Int) + 1) = (b - 1) % (wh bs : Int) + (s + 1) := by
    refine st_next hw hn (by rw [es]; omega) ?_ fun x x1 x2 => ?_
    · rw [sh, show b - 1 + (s + 1) = b + s by omega]
      exact boolNe M.end_
    · rw [es] at x1
      have e := sh (x - (b - 1) % (wh bs : Int))
      rw [show (b - 1) % (wh bs : Int) + (x - (b - 1) % (wh bs : Int)) = x by omega] at e
      rw [e]
      have := M.in_ (x - (b - 1) % (wh bs : Int) - 1) (by omega) (by omega)
      rw [show b + (x - (b - 1) % (wh bs : Int) - 1) = b - 1 + (x - (b - 1) % (wh bs : Int)) by omega] at this
      exact this
  unfold gapAt
  rw [nx, es, Int.emod_add_emod, show b - 1 + 1 = b by omega, Int.emod_eq_of_lt M.b0 M.b1]
  refine congrArg (fun z => (z, b)) ?_
  omega
/-- what is told of the longest: the best, or (0, 0) if there is none -/
def TopRun (bs : List Bar) (d : Bool) (m : Int × Int) : Prop := (m = (0, 0) ∧ ∀ s b, ¬ MaxRun bs d s b) ∨ BestRun bs d m
theorem TopRun.one {bs : List Bar} {d : Bool} {m n : Int × Int} (a : TopRun bs d m) (b : TopRun bs d n) : m = n := by
  rcases a with ⟨rfl, a⟩ | a
  · rcases b with ⟨rfl, _⟩ | b
    · rfl
    · exact absurd b.run (a _ _)
  · rcases b with ⟨rfl, b⟩ | b
    · exact absurd a.run (b _ _)
    · exact a.one b
theorem st_whole {bs : List Bar} (hn : 0 < (cls bs).length) (j : Int) : st bs (j + ((cls bs).length : Int)) = st bs j + (wh bs : Int) := by
  have := st_add hn j 1
  rw [Int.one_mul, Int.one_mul] at this
  exact this
theorem gaps_top {bs : List Bar} (hw : 0 < wh bs) (hn : 0 < (cls bs).length) {m : Int × Int} (hm : m ∈ (List.range (cls bs).length).map (gapAt bs)) (top : ∀ q ∈ (List.range (cls bs).length).map (gapAt bs), q.1 < m.1 ∨ (q.1 = m.1 ∧ m.2 ≤ q.2)) : TopRun bs false m := by
  obtain ⟨j, hj, ej⟩ := List.mem_map.mp hm
  have all : ∀ s b, MaxRun bs false s b → s < m.1 ∨ (s = m.1 ∧ m.2 ≤ b) := fun s b M => by
    obtain ⟨i, hi, ei⟩ := run_gap hw hn M
    exact top (s, b) (List.mem_map.mpr ⟨i, List.mem_range.mpr hi, ei⟩)
  by_cases h : 1 ≤ m.1
  · rw [← ej] at h ⊢
    rw [← ej] at all
    exact .inr ⟨gap_run hw hn h, all⟩
  · have none_ : ∀ s b, ¬ MaxRun bs false s b := fun s b M => by
      have := all s b M
      have := M.s1
      omega
    refine .inl ⟨?_, none_⟩
    have step : ∀ i : Nat, i < (cls bs).length → st bs ((i : Int) + 1) = st bs (i : Int) + 1 := fun i hi => by
      have a := top (gapAt bs i) (List.mem_map.mpr ⟨i, List.mem_range.mpr hi, rfl⟩)
      have b := st_lt hw hn (show (i : Int) < (i : Int) + 1 by omega)
      unfold gapAt at a
      simp only at a
      omega
    have m0 : m.1 = 0 := by
      have := step j (List.mem_range.mp hj)
      rw [← ej]
      unfold gapAt
      simp only
      omega
    have c0 : (cls bs)[0]? = some ((cls bs)[0]'hn) := List.getElem?_eq_getElem hn
    generalize (cls bs)[0]'hn = c at c0
    have s0 := st_at hw c0
    have cm := cls_mem.mp (List.mem_of_getElem? c0)
    have sn := st_whole (bs := bs) hn 0
    rw [Int.zero_add] at sn
    have last := step ((cls bs).length - 1) (by omega)
    rw [show (((cls bs).length - 1 : Nat) : Int) + 1 = ((cls bs).length : Int) by omega, sn] at last
    have s00 : st bs 0 = c := s0
    have lf := fits_st hw hn (q := (((cls bs).length - 1 : Nat) : Int))
    have cz : c = 0 := by
      by_cases z : c = 0
      · exact z
      · have f : fitsB bs (c - 1) = true := by
          have e : st bs (((cls bs).length - 1 : Nat) : Int) = c - 1 + 1 * (wh bs : Int) := by omega
          rw [e, ← fitsB_mod, Int.add_mul_emod_self_right, fitsB_mod] at lf
          exact lf
        have mem := cls_mem.mpr ⟨by omega, by omega, f⟩
        obtain ⟨i, hi⟩ := List.mem_iff_getElem?.mp mem
        have := ups (cls_up bs) c0 hi (Nat.zero_le _)
        omega
    have z2 := top (gapAt bs ((cls bs).length - 1)) (List.mem_map.mpr ⟨_, List.mem_range.mpr (by omega), rfl⟩)
    have e2 : (gapAt bs ((cls bs).length - 1)).2 = 0 := by
      unfold gapAt
      simp only
      rw [show st bs (((cls bs).length - 1 : Nat) : Int) + 1 = (wh bs : Int) by omega, Int.emod_self]
    have e1 : (gapAt bs ((cls bs).length - 1)).1 = 0 := by
      have := step ((cls bs).length - 1) (by omega)
      unfold gapAt
      simp only
      omega
    have nn : 0 ≤ m.2 := by
      rw [← ej]
      exact Int.emod_nonneg _ (by omega)
    obtain ⟨m1, m2⟩ := m
    simp only at m0 nn z2
    rw [m0, show m2 = 0 by omega]
/-- the first place at which it is not so -/
theorem firstNot (p : Nat → Prop) : ∀ k : Nat, (∀ i, i ≤ k → p i) ∨ ∃ m, m ≤ k ∧ ¬ p m ∧ ∀ i, i < m → p i
  | 0 => by
    by_cases h : p 0
    · exact .inl fun i hi => by rw [Nat.le_zero.mp hi]; exact h
    · exact .inr ⟨0, Nat.le_refl _, h, fun i hi => absurd hi (Nat.not_lt_zero _)⟩
  | k + 1 => by
    rcases firstNot p k with h | ⟨m, h1, h2⟩
    · by_cases g : p (k + 1)
      · exact .inl fun i hi => by
          rcases Nat.lt_or_eq_of_le hi with z | z
          · exact h i (by omega)
          · rw [z]; exact g
      · exact .inr ⟨k + 1, Nat.le_refl _, g, fun i hi => h i (by omega)⟩
    · exact .inr ⟨m, by omega, h2⟩
theorem run_ex {bs : List Bar} (hn : 0 < (cls bs).length) (ne : (cls bs).length ≠ wh bs) (j : Int) : ∃ m : Nat, 1 ≤ m ∧ m ≤ (cls bs).length ∧ RunTo bs j m ∧ st bs (j + (m : Int)) ≠ st bs j + (m : Int) := by
  rcases firstNot (fun i : Nat => st bs (j + (i : Int)) = st bs j + (i : Int)) (cls bs).length with h | ⟨m, h1, h2, h3⟩
  · have := h _ (Nat.le_refl _)
    rw [st_whole hn] at this
    omega
  · refine ⟨m, ?_, h1, h3, h2⟩
    rcases Nat.eq_zero_or_pos m with z | z
    · rw [z] at h2
      exact absurd (by simp) h2
    · exact z
theorem run_max {bs : List Bar} (hw : 0 < wh bs) (hn : 0 < (cls bs).length) {j : Int} {m : Nat} (m1 : 1 ≤ m) (r : RunTo bs j m) (off : st bs (j + (m : Int)) ≠ st bs j + (m : Int)) (pre : st bs (j - 1) < st bs j - 1) : MaxRun bs true (m : Int) (st bs j % (wh bs : Int)) := by
  refine ⟨Int.emod_nonneg _ (by omega), Int.emod_lt_of_pos _ (by omega), by omega, fun i i0 i1 => ?_, ?_, ?_⟩
  · rw [fits_shift]
    have := r i.toNat (by omega)
    rw [Int.toNat_of_nonneg i0] at this
    rw [← this]
    exact fits_st hw hn
  · rw [show ∀ x : Int, x - 1 = x + -1 from fun x => rfl, fits_shift, st_gap hw hn (j := j - 1) (by omega) (by rw [show j - 1 + 1 = j by omega]; omega)]
    simp
  · rw [fits_shift]
    have l := r (m - 1) (by omega)
    have lt := st_lt hw hn (show j + ((m - 1 : Nat) : Int) < j + (m : Int) by omega)
    rw [st_gap hw hn (j := j + ((m - 1 : Nat) : Int)) (by omega) (by rw [show j + ((m - 1 : Nat) : Int) + 1 = j + (m : Int) by omega]; omega)]
    simp
theorem run_size {bs : List Bar} {d : Bool} {s t b : Int} (M : MaxRun bs d s b) (N : MaxRun bs d t b) : s = t := by
  have := M.s1
  have := N.s1
  by_cases h : s < t
  · exact absurd (N.in_ s (by omega) h) M.end_
  · by_cases h2 : t < s
    · exact absurd (M.in_ t (by omega) h2) N.end_
    · omega
theorem run_place {bs : List Bar} (hw : 0 < wh bs) (hn : 0 < (cls bs).length) {s b : Int} (M : MaxRun bs true s b) : ∃ j : Nat, (cls bs)[j]? = some b ∧ st bs ((j : Int) - 1) < b - 1 := by
  have f : fitsB bs b = true := by
    have := M.in_ 0 (Int.le_refl _) (by have := M.s1; omega)
    rw [Int.add_zero] at this
    exact this
  obtain ⟨j, hj⟩ := List.mem_iff_getElem?.mp (cls_mem.mpr ⟨M.b0, M.b1, f⟩)
  refine ⟨j, hj, ?_⟩
  have e := st_at hw hj
  have lt := st_lt hw hn (show (j : Int) - 1 < (j : Int) by omega)
  rw [e] at lt
  have ne : st bs ((j : Int) - 1) ≠ b - 1 := fun z => by
    have := fits_st hw hn (q := (j : Int) - 1)
    rw [z] at this
    exact absurd this M.pre
  omega
theorem run_some {bs : List Bar} (hw : 0 < wh bs) (hn : 0 < (cls bs).length) (ne : (cls bs).length ≠ wh bs) : ∃ s b, MaxRun bs true s b := by
  obtain ⟨m, m1, _, r, off⟩ := run_ex hn ne 0
  rw [Int.zero_add] at off
  have l := r (m - 1) (by omega)
  rw [Int.zero_add] at l
  have lt := st_lt hw hn (show ((m - 1 : Nat) : Int) < (m : Int) by omega)
  obtain ⟨k, k1, _, r2, off2⟩ := run_ex hn ne (m : Int)
  exact ⟨_, _, run_max hw hn k1 r2 off2 (by rw [show (m : Int) - 1 = ((m - 1 : Nat) : Int) by omega]; omega)⟩

end R
namespace R
open PySem PySem.Spec PyProof.Rows L2
/-! ## the steps, counted -/
def sp_p_steps (K : PySem.W.Frag) (C B : Addr) : Sp := fun vs H Q E => ∃ (p : Addr) (v : V) (t : Addr) (bs : List Bar), vs = [.ref p] ∧ SvAt K C H p v t bs ∧
  ((cls bs ≠ [] ∧ ∀ (D : Addr) (H' : Hp) (xs : List V) (l : List (Int × Int)), Same H H' → H D = none → H' D = some (.lst xs) → PrAt H' xs l → IsTal (stepsTo bs (cls bs).length) l → Q (.ref D) H') ∨ (cls bs = [] ∧ ∀ H', Same H H' → E (.ref B) none H'))
theorem talSteps {bs : List Bar} {n j : Nat} (h : j < n) {x : Int} (hx : (stepsTo bs n)[j]? = some x) : (stepsTo bs n).take (j + 1) = (stepsTo bs n).take j ++ [x] := takeSucc hx
section
variable {P : Program} {w : World} {K : PySem.W.Frag} {mg : Str → Option Value} {base : Heap}
theorem ok_p_steps (T : Txt K mg) : FnOk P w K mg base (L2.CX P w) 6 T.f_p_steps T.fd_p_steps ["sieve"] (sp_p_steps K T.C T.C_Nothing) := by
  refine T.F_p_steps.okX sc_p_steps (fun vs H Q E h => ?_) (fun cdv A outer s H vs Q E hr h => ?_)
  · obtain ⟨p, v, t, bs, rfl, _⟩ := h
    rfl
  · obtain ⟨p, v, t, bs, rfl, S, h⟩ := h
    refine ⟨_, (pss_cons (ps_expr (pe_call (ok_p_check_some T) (hr.mono (by decide)) (by rfl) T.g_p_check_some T.F_p_check_some.kp T.b_p_check_some .nil (passes_call (takes_of rfl rfl rfl rfl) (fun _ _ _ _ h => h)) (pa_cons (pv 0) pa_nil)))
      (pss_cons (ps_set (i := 1) sc_p_steps.nd rfl (by first | exact .inl rfl | exact .inr rfl) pe_dnewK)
      (pss_cons (ps_for (passes_of rfl) rfl (pi_list (pe_call (ok_p_steps_in_order T) (hr.mono (by decide)) (by rfl) T.g_p_steps_in_order T.F_p_steps_in_order.kp T.b_p_steps_in_order .nil pass0 (pa_cons (pv 0) pa_nil))) (pg_name (i := 2) sc_p_steps.nd rfl (by first | exact .inl rfl | exact .inr rfl)) (pss_one (ps_asg (pe_op op_add (pe_dget2 (hu_of hr) (pv 1) (pv 2) pe_int ⟨by rfl, by rfl, by rfl, by rfl⟩) pe_int) (pg_sub (pv 1) (pv 2) (set_dict (hu_of hr))))))
      (pss_one (ps_ret (pe_callB (cr_sortedDI rfl) (by rfl) T.z_sorted (by decide +kernel) (pa_cons (pe_bm0 PySem.F.plainAttrs_dict PySem.F.slot_dict_items PySem.F.type_dict_items mt_itemsK (pv 1)) pa_nil))))))), ?_⟩
    refine ⟨_, rfl, p, v, t, bs, rfl, S, ?_⟩
    rcases h with ⟨h, q⟩ | ⟨h, q⟩
    · refine .inl ⟨h, fun H1 s1 => ?_⟩
      have hn : 0 < (cls bs).length := List.length_pos_iff.mpr h
      have few := choices_cls S.ok
      refine fun d nd => ?_
      have s2 := s1.trans (same_upd nd (o := .dK []))
      refine ⟨_, rfl, p, v, t, bs, rfl, S.stay s2, hn, fun F H3 s3 nF eF => ⟨F, rfl, ⟨_, lstOf eF⟩, ?_⟩⟩
      have nd0 : H d = none := s1.free nd
      have ed := s3 _ _ (upd_same (H := H1) (a := d) (o := .dK []))
      have nFd : F ≠ d := fun z => by
        rw [z, upd_same] at nF
        cases nF
      have s03 := s2.trans s3
      refine for_list (K := K) (a := F) (xs := (stepsTo bs (cls bs).length).map V.int) (fun i σ Hi => ∃ (x2 : Option V) (kvs : List (L2.Key × V)), σ = [some (.ref p), some (.ref d), x2] ∧ Hi d = some (.dK kvs) ∧ Tally kvs ((stepsTo bs (cls bs).length).take i) ∧ (∀ b o, b ≠ d → H3 b = some o → Hi b = some o))
        ⟨none, [], rfl, ed, Tally.nil, fun b o _ e => e⟩ (fun i σ Hi _ ⟨_, _, _, _, _, si⟩ => lstOf (si _ _ nFd eF)) ?_ ?_
      · rintro i y σ Hi hi ⟨x2, kvs, rfl, ei, ti, si⟩
        obtain ⟨x, hx, rfl⟩ := getMapInt' hi
        have il := (List.getElem?_eq_some_iff.mp hx).1
        have kl := ti.len
        rw [List.length_take, stepsTo_len] at kl
        refine ⟨_, rfl, d, rfl, .inl ⟨kvs, .inl ei⟩, _, rfl, _, DGet.k (k := Sum.inl x) ei, ?_⟩
        rw [ti.get x]
        refine ⟨_, _, rfl, rfl, _, rfl, _, rfl, d, _, rfl, DPut.k (k := Sum.inl x) ei (sizeLt (by omega)), ?_⟩
        exact ⟨_, _, rfl, upd_same, by rw [takeSucc hx]; exact ti.add x, fun b o n e => by rw [upd_ne n]; exact si b o n e⟩
      · rintro σ H4 ⟨x2, kvs, rfl, e4, t4, s4⟩
        rw [List.length_map, List.take_length] at t4
        obtain ⟨ks, nk, mk, ek⟩ := id t4.ex
        have ek' : kvs = (ks.map fun k => (k, (((stepsTo bs (cls bs).length).count k : Nat) : Int))).map entI := by
          rw [ek, List.map_map]
          rfl
        have s04 : Same H H4 := fun b o e => s4 b o (ne_of_none e nd0) (s03 b o e)
        refine ⟨_, rfl, .inr (.inr (.inl ⟨rfl, .inl ⟨_, e4⟩⟩)), d, kvs, rfl, rfl, e4, fun q5 n5 => ?_⟩
        have s5 := same_upd n5 (o := DX.itemsO q5 d)
        refine ⟨q5, d, _, rfl, upd_same, by rw [upd_ne (ne_of_none e4 n5), e4, ek'], fun H6 D ps s6 nD pm so eD pr => ?_⟩
        have s06 := s04.trans (s5.trans s6)
        refine q D H6 _ (ps.map (·.2)) s06 (s04.free (s5.free nD)) eD ⟨by rw [List.length_map, List.length_map], fun i x m a b => ?_⟩ (IsTal.of t4 ek' pm so)
        rw [List.getElem?_map] at a b
        cases z : ps[i]? with
        | none =>
          rw [z] at a
          cases a
        | some w =>
          rw [z] at a b
          cases a
          cases b
          exact ⟨_, rfl, pr w (List.mem_of_getElem? z)⟩
    · exact .inr ⟨h, fun H1 s1 => q H1 s1⟩
end

end R
namespace R
open PySem PySem.Spec PyProof.Rows L2
/-! ## zip of a tuple and a list -/
def ItzM (K : PySem.W.Frag) (a b : Addr) : It :=
  ⟨fun i H => ∃ (xs ys : List V) (x y : V), SqT K H a xs ∧ SqL K H b ys ∧ xs[i]? = some x ∧ ys[i]? = some y,
   fun i H v H' => ∃ T x y, v = .ref T ∧ H T = none ∧ H' = upd H T (.tup [x, y]) ∧ (∀ xs, SqT K H a xs → xs[i]? = some x) ∧ ∀ ys, SqL K H b ys → ys[i]? = some y,
   fun i H => ∃ xs ys : List V, SqT K H a xs ∧ SqL K H b ys ∧ i ≤ xs.length ∧ i ≤ ys.length ∧ (i = xs.length ∨ i = ys.length)⟩
def ZipM (a b z TI TO i1 i2 : Addr) (i : Nat) (h : Heap) : Prop :=
  IsZip h z TI TO .none ∧ IsTupOf2 h TI (.ref i1) (.ref i2) ∧ (∃ x y, IsTupOf2 h TO x y) ∧ h.IsTupleIter i1 a i ∧ h.IsListIter i2 b i
theorem five {c z TI TO i1 i2 : Addr} (h : c ∈ [z, TI, TO, i1, i2]) : c = z ∨ c = TI ∨ c = TO ∨ c = i1 ∨ c = i2 := by simpa using h
theorem turn_zipM {P : Program} {w : World} {K : PySem.W.Frag} {elts : List Expr} {kk : Nat} {tpos : Pos} {a b z TI TO i1 i2 : Addr} (S : ZipSep2 z TI TO i1 i2 [i1, a] [i2, b]) (d1 : a ≠ i1) (d2 : b ≠ i2) :
    Turn P w K (.Tuple elts kk tpos) (ItzM K a b) [z, TI, TO, i1, i2] z (ZipM a b z TI TO i1 i2) where
  mem := by simp
  obj := fun i h st c hc => by
    obtain ⟨hz, hI, ⟨_, _, hO⟩, ⟨o1, e1, _, f1⟩, ⟨o2, e2, _, f2⟩⟩ := st
    rcases five hc with rfl | rfl | rfl | rfl | rfl
    · exact ⟨_, hz, fun v q => nomatch q⟩
    · exact ⟨_, hI, fun v q => nomatch q⟩
    · exact ⟨_, hO, fun v q => nomatch q⟩
    · exact ⟨o1, e1, fun v q => by rw [f1] at q; cases q⟩
    · exact ⟨o2, e2, fun v q => by rw [f2] at q; cases q⟩
  keep := fun i h h' st k => by
    obtain ⟨hz, hI, ⟨x, y, hO⟩, t1, t2⟩ := st
    exact ⟨k z (by simp) _ hz, k TI (by simp) _ hI, ⟨x, y, k TO (by simp) _ hO⟩, t1.at fun o q => k i1 (by simp) o q, t2.at fun o q => k i2 (by simp) o q⟩
  item := by
    intro X eP ew eK calm i pn st σ H E I sep zs go
    subst eP ew eK
    obtain ⟨hz, hI, ⟨x0, y0, hO⟩, t1, t2⟩ := zs
    obtain ⟨xs, ys, x, y, qx, qy, hx, hy⟩ := go
    obtain ⟨its, rv, p, _⟩ := I.tuple qx
    obtain ⟨its2, rv2, p2, _⟩ := I.list qy
    obtain ⟨u, hu, ru⟩ := rv.get hx
    obtain ⟨u2, hu2, ru2⟩ := rv2.get hy
    have zl : z < st.heap.objs.size := Heap.lt_size hz
    have l1 : i < its.toArray.size := by rw [List.size_toArray]; exact (List.getElem?_eq_some_iff.mp hu).1
    have l2 : i < its2.toArray.size := by rw [List.size_toArray]; exact (List.getElem?_eq_some_iff.mp hu2).1
    refine wpAny_pyNext_zipD2_item S (Draws.tuple (A := X.A.in1) (I.ok.hd calm) i1 a d1 its.toArray) (Draws.list (A := X.A.in1) (I.ok.hd calm) i2 b d2 its2.toArray) hz hI hO ⟨t1, p⟩ ⟨t2, p2.isList⟩ l1 l2 fun y1 y2 h' tk e1 e2 z' O' s1 s2 hT hs hk => ?_
    obtain rfl : u = y1 := by
      rw [List.getElem?_toArray] at e1
      exact Option.some.inj (hu.symm.trans e1)
    obtain rfl : u2 = y2 := by
      rw [List.getElem?_toArray] at e2
      exact Option.some.inj (hu2.symm.trans e2)
    refine ⟨_, rfl, wpAny_letOwnedTupleGo_zip (s := { st with heap := h', toks := tk }) z' fun h2 z2 sb => ?_⟩
    have g : h2.get? st.heap.objs.size = some { cls := .type "tuple", data := .seq #[u, u2] } := (sb.2 _ (Nat.ne_of_gt zl)).trans hT
    have new : ObjOk X.prog X.w (upd H st.heap.objs.size (.tup [x, y])) h2 st.heap.objs.size (.tup [x, y]) :=
      ⟨sizeOk (by show (2 : Nat) ≤ 100000; decide), [u, u2], .cons ru (.cons ru2 .nil), ⟨_, g, rfl, _, rfl⟩⟩
    have out : ∀ c o, c ∉ [z, TI, TO, i1, i2] → st.heap.get? c = some o → h2.get? c = some o := fun c o nc q =>
      (sb.2 c fun e => nc (by simp [e])).trans (hk c o (fun e => nc (by simp [e])) (fun e => nc (by simp [e])) (fun e => nc (by simp [e])) (fun e => nc (by simp [e])) q)
    have I1 : Inv X pn σ (upd H st.heap.objs.size (.tup [x, y])) { st with heap := h2, toks := tk } := I.turnedNew (ch := [z, TI, TO, i1, i2]) (fun c o nc q => out c o nc q) sep (Nat.le_refl _) new
    refine ⟨.ref st.heap.objs.size, _, I1, rfl, ⟨_, x, y, rfl, I.hok.fresh (Nat.le_refl _), rfl, fun l hl => by rw [I.tuple_inj hl qx]; exact hx, fun l hl => by rw [I.list_inj hl qy]; exact hy⟩, ⟨z2, ?_, ⟨u, u2, ?_⟩, ?_, ?_⟩, fun c hc => ?_⟩
    · exact (sb.2 _ S.TIz).trans (hk _ _ S.TIz S.TITO S.TIi1 S.TIi2 hI)
    · exact (sb.2 _ S.TOz).trans O'
    · exact s1.1.at fun o q => (sb.2 _ (Ne.symm S.zi1)).trans q
    · exact s2.1.at fun o q => (sb.2 _ (Ne.symm S.zi2)).trans q
    · have lt : c < st.heap.objs.size := by
        rcases five hc with rfl | rfl | rfl | rfl | rfl
        · exact zl
        · exact Heap.lt_size hI
        · exact Heap.lt_size hO
        · obtain ⟨_, e1, _⟩ := t1; exact Heap.lt_size e1
        · obtain ⟨_, e2, _⟩ := t2; exact Heap.lt_size e2
      rw [upd_ne (Nat.ne_of_lt lt)]
      exact (sep c hc).1
  done := by
    intro X eP ew eK calm i pn st σ H E I sep zs stop
    subst eP ew eK
    obtain ⟨hz, hI, ⟨x0, y0, hO⟩, t1, t2⟩ := zs
    obtain ⟨xs, ys, qx, qy, lx, ly, en⟩ := stop
    obtain ⟨its, rv, p, _⟩ := I.tuple qx
    obtain ⟨its2, rv2, p2, _⟩ := I.list qy
    have e1 : its.toArray.size = xs.length := by rw [List.size_toArray]; exact rv.length.symm
    have e2 : its2.toArray.size = ys.length := by rw [List.size_toArray]; exact rv2.length.symm
    refine wpAny_pyNext_zipD2_end S (Draws.tuple (A := X.A.in1) (I.ok.hd calm) i1 a d1 its.toArray) (Draws.list (A := X.A.in1) (I.ok.hd calm) i2 b d2 its2.toArray) hz hI hO ⟨t1, p⟩ ⟨t2, p2.isList⟩ (by omega) (by omega) (by omega) fun h' tk hk => ?_
    exact ⟨rfl, I.turnedL (fun c o nc q => hk c o (fun z => nc (by simp [z])) (fun z => nc (by simp [z])) (fun z => nc (by simp [z])) (fun z => nc (by simp [z])) q) sep⟩
  self := fun A i s Q E zs h => wpAny_pyIter_zip zs.1 h
/-! ### how such a zip is made -/
def itO (cls : String) (l : Addr) : Obj := { cls := .type cls, data := .fields #[.ref l, .int 0 0] }
def zm1 (h : Heap) (x : Addr) : Heap :=
  h.push (itO "tuple_iterator" x)
def zm2 (h : Heap) (x y : Addr) : Heap :=
  (zm1 h x).push (itO "list_iterator" y)
def zm3 (h : Heap) (x y : Addr) : Heap :=
  (zm2 h x y).push { cls := .type "tuple", data := .seq #[.ref h.objs.size, .ref (zm1 h x).objs.size] }
def zm4 (h : Heap) (x y : Addr) : Heap :=
  (zm3 h x y).push { cls := .type "tuple", data := .seq #[.none, .none] }
def zm5 (h : Heap) (x y : Addr) : Heap :=
  (zm4 h x y).push { cls := .type "zip", data := .fields #[.none, .bool false, .bool false, .ref (zm2 h x y).objs.size, .ref (zm3 h x y).objs.size] }
theorem meets_zipM (x y : Addr) (xs ys : Array Value) :
    Meets (Builtin.«zip.__new__» ⟨[.type "zip", .ref x, .ref y], []⟩) fun _ R s => s.heap.IsTuple x xs ∧ s.heap.IsList y ys ∧
      R (.ok (.ret (.ref (zm4 s.heap x y).objs.size))) { s with heap := zm5 s.heap x y } :=
  .of_wp fun prog w A R s hyp => by
    obtain ⟨hp, g, d, tk, os⟩ := s
    obtain ⟨px, py, fin⟩ := hyp
    have hsub := sub_zip
    have pX : Heap.IsTuple (Shared.heap ⟨hp, g, d, tk, os⟩) x xs := px
    have pY : Heap.IsList (Shared.heap ⟨hp.push { cls := .type "tuple_iterator", data := .fields #[.ref x, .int 0 0] }, g, d, tk, os⟩) y ys := Heap.IsList.push py _
    wp_walk using wpAny_pyIter_tuple pX, wpAny_pyIter_list pY
    exact ⟨_, rfl, fin⟩
theorem call_zipM {P : Program} {w : World} {A : Around} {E : Value → Shared → Prop} {s : Shared} {x y : Addr} {xs ys : Array Value} {Q : Value → Shared → Prop} (px : s.heap.IsTuple x xs) (py : s.heap.IsList y ys)
    (go : ∀ h', ZipM x y (s.heap.objs.size + 4) (s.heap.objs.size + 2) (s.heap.objs.size + 3) s.heap.objs.size (s.heap.objs.size + 1) 0 h' → (∀ c o, s.heap.get? c = some o → h'.get? c = some o) → Q (.ref (s.heap.objs.size + 4)) { s with heap := h' }) :
    wpAny (model P w) A (call (.type "zip") [.ref x, .ref y]) Q E s := by
  refine callType_new F.called_zip (by decide) (F.typeCall_zip_2 _ _) (F.newCall_zip_2 _ _) (fun obj => F.args_object_init_3 obj _ _) F.entry_zip_new (meets_zipM x y xs ys) ⟨px, py, ?_⟩
  have n1 : (zm1 s.heap x).objs.size = s.heap.objs.size + 1 := Heap.size_push ..
  have n2 : (zm2 s.heap x y).objs.size = s.heap.objs.size + 2 := (Heap.size_push ..).trans (by rw [n1])
  have n3 : (zm3 s.heap x y).objs.size = s.heap.objs.size + 3 := (Heap.size_push ..).trans (by rw [n2])
  have n4 : (zm4 s.heap x y).objs.size = s.heap.objs.size + 4 := (Heap.size_push ..).trans (by rw [n3])
  have keep : ∀ c o, s.heap.get? c = some o → (zm5 s.heap x y).get? c = some o := fun c o e =>
    Heap.get?_push_of_some _ (Heap.get?_push_of_some _ (Heap.get?_push_of_some _ (Heap.get?_push_of_some _ (Heap.get?_push_of_some _ e))))
  have f5 : (zm5 s.heap x y).get? (zm4 s.heap x y).objs.size = some _ := Heap.get?_push_size _ rfl
  have f4 : (zm5 s.heap x y).get? (zm3 s.heap x y).objs.size = some _ := Heap.get?_push_of_some _ (Heap.get?_push_size (zm3 s.heap x y) rfl)
  have f3 : (zm5 s.heap x y).get? (zm2 s.heap x y).objs.size = some _ := Heap.get?_push_of_some _ (Heap.get?_push_of_some _ (Heap.get?_push_size (zm2 s.heap x y) rfl))
  have f2 : (zm5 s.heap x y).get? (zm1 s.heap x).objs.size = some _ := Heap.get?_push_of_some _ (Heap.get?_push_of_some _ (Heap.get?_push_of_some _ (Heap.get?_push_size (zm1 s.heap x) rfl)))
  have f1 : (zm5 s.heap x y).get? s.heap.objs.size = some _ := Heap.get?_push_of_some _ (Heap.get?_push_of_some _ (Heap.get?_push_of_some _ (Heap.get?_push_of_some _ (Heap.get?_push_size (s.heap) rfl))))
  show _ ∧ _
  rw [n2, n3, n4] at f5
  rw [n1, n2] at f3
  rw [n3] at f4
  rw [n1] at f2
  rw [n4]
  exact ⟨⟨_, f5, rfl⟩, go _ ⟨f5, f3, ⟨_, _, f4⟩, ⟨_, f1, rfl, rfl⟩, ⟨_, f2, rfl, rfl⟩⟩ keep⟩
theorem sepM (n a b : Nat) (ha : a < n) (hb : b < n) : ZipSep2 (n + 4) (n + 2) (n + 3) n (n + 1) [n, a] [n + 1, b] := by
  have no : ∀ {u v : Nat} {l : List Nat}, u ≠ v → u ∉ l → u ∉ v :: l := fun h k m => by
    rcases List.mem_cons.mp m with e | e
    · exact h e
    · exact k e
  have nil : ∀ {u : Nat}, u ∉ ([] : List Nat) := fun h => by cases h
  have l : ∀ {u v : Nat}, u < v ∨ v < u → u ≠ v := fun h e => by omega
  exact ⟨l (by omega), l (by omega), l (by omega), l (by omega), List.mem_cons_self, no (l (by omega)) (no (l (by omega)) nil), no (l (by omega)) (no (l (by omega)) nil), l (by omega), List.mem_cons_self,
    no (l (by omega)) (no (l (by omega)) nil), no (l (by omega)) (no (l (by omega)) nil), no (l (by omega)) (no (l (by omega)) nil), no (l (by omega)) (no (l (by omega)) nil)⟩
def iZipM (K : PySem.W.Frag) (ta : TA) : TI := fun σ H R => ta σ H fun vs H1 => ∃ a b xs ys, vs = [.ref a, .ref b] ∧ SqT K H1 a xs ∧ SqL K H1 b ys ∧ R (ItzM K a b) H1
theorem pi_zipM {X : Cx} {e e2 : Expr} {ta : TA} {p pos tpos : Pos} {elts : List Expr} {kk : Nat} (hg : Gl X "zip") (hm : X.mg "zip" = none) (ha : PA X [e, e2] ta)
    (st : starEach [e, e2] X.env = (false, eval e X.env) :: starEach [e2] X.env := by rfl) (pl : (backTo pos (starEach [e2] X.env)).any (·.1) = false := by rfl) : PI X (.Tuple elts kk tpos) (.Call (.Name "zip" p) [e, e2] [] pos) (iZipM X.K ta) := by
  constructor
  intro pn s σ H R I h
  refine Call_ (ld_blt I hg hm PyProof.Rows.boot_zip (PyProof.Rows.callWith_type1 (thn (ha.run pos pn s σ H _ I h) fun us s1 ⟨vs, H1, I1, rv, q⟩ => ?_) st pl))
  obtain ⟨a, b, xs, ys, rfl, qx, qy, q⟩ := q
  cases rv with
  | cons ra rv =>
    cases rv with
    | cons rb rv =>
      cases rv
      cases ra
      cases rb
      obtain ⟨its, _, p1, _⟩ := I1.tuple qx
      obtain ⟨its2, _, p2, _⟩ := I1.list qy
      obtain ⟨o1, e1, _⟩ := id p1
      obtain ⟨o2, e2, _⟩ := id p2.isList
      have la := Heap.lt_size e1
      have lb := Heap.lt_size e2
      refine call_zipM (xs := its.toArray) (ys := its2.toArray) p1 p2.isList fun h' zs hk => wpAny_pyIter_zip zs.1 ?_
      have I2 : Inv X pn σ H1 { s1 with heap := h' } := I1.kept (t' := s1.toks) hk
      refine ⟨s1.heap.objs.size + 4, _, _, _, H1, rfl, I2, turn_zipM (sepM s1.heap.objs.size a b la lb) (Nat.ne_of_lt la) (Nat.ne_of_lt (Nat.lt_succ_of_lt lb)), zs, fun c hc => ?_, q⟩
      have le : s1.heap.objs.size ≤ c := by
        rcases five hc with rfl | rfl | rfl | rfl | rfl <;> first | exact Nat.le_refl _ | exact Nat.le_add_right _ _
      exact I1.fpOk le (I1.hok.fresh le)
/-- a loop over zip of a tuple and a list of one length -/
theorem for_zipM {K : PySem.W.Frag} {a b : Addr} {xs ys : List V} {g : TG} {tb : TS} {D : Ends} {σ : L2.St} {H : Hp} (one : xs.length = ys.length) (Pv : Nat → L2.St → Hp → Prop) (h0 : Pv 0 σ H) (rd : ∀ i σ H, Pv i σ H → SqT K H a xs ∧ SqL K H b ys)
    (step : ∀ (i : Nat) (x y : V) (T : Addr) (σ : L2.St) (H : Hp), xs[i]? = some x → ys[i]? = some y → Pv i σ H → H T = none → g (.ref T) σ (upd H T (.tup [x, y])) fun σ2 H2 => tb { D with nx := Pv (i + 1), ct := Pv (i + 1), bk := D.nx } σ2 H2) (fin : ∀ σ H, Pv xs.length σ H → D.nx σ H) :
    ∃ W : Nat → Nat → L2.St → Hp → Prop, (∃ m, W 0 m σ H) ∧ ∀ i m σ H, W i m σ H →
      ((ItzM K a b).stop i H ∧ D.nx σ H) ∨ ((ItzM K a b).go i H ∧ ∃ N : L2.St → Hp → Prop, (∀ σ' H', N σ' H' → ∃ m', m' < m ∧ W (i + 1) m' σ' H') ∧ ∀ v H', (ItzM K a b).yld i H v H' → g v σ H' fun σ2 H2 => tb { D with nx := N, ct := N, bk := D.nx } σ2 H2) := by
  refine ⟨fun i m σ H => m + i = xs.length ∧ Pv i σ H, ⟨xs.length, rfl, h0⟩, ?_⟩
  rintro i m σ H ⟨em, p⟩
  obtain ⟨qx, qy⟩ := rd i σ H p
  cases m with
  | zero =>
    obtain rfl : i = xs.length := by omega
    exact .inl ⟨⟨xs, ys, qx, qy, Nat.le_refl _, by omega, .inl rfl⟩, fin σ H p⟩
  | succ m =>
    obtain ⟨x, hx⟩ : ∃ x, xs[i]? = some x := ⟨_, List.getElem?_eq_getElem (show i < xs.length by omega)⟩
    obtain ⟨y, hy⟩ : ∃ y, ys[i]? = some y := ⟨_, List.getElem?_eq_getElem (show i < ys.length by omega)⟩
    refine .inr ⟨⟨xs, ys, x, y, qx, qy, hx, hy⟩, Pv (i + 1), fun σ' H' p' => ⟨m, Nat.lt_succ_self m, by omega, p'⟩, fun v H' yl => ?_⟩
    obtain ⟨T, x', y', rfl, nT, rfl, fx, fy⟩ := yl
    exact step i x' y' T σ H (fx xs qx) (fy ys qy) p nT

end R
namespace R
open PySem PySem.Spec PyProof.Rows L2
/-! ## the longest gap -/
open LamX hiding takes0
open NdefX
theorem walk_zipM {K : PySem.W.Frag} {a b : Addr} {xs ys : List V} (one : xs.length = ys.length) : Walk (ItzM K a b) xs.length (fun H => SqT K H a xs ∧ SqL K H b ys) (YPair (fun i => xs[i]?) (fun i => ys[i]?)) := by
  refine ⟨fun i H hi ⟨qx, qy⟩ => ⟨xs, ys, xs[i], ys[i]'(by omega), qx, qy, List.getElem?_eq_getElem _, List.getElem?_eq_getElem _⟩, fun H ⟨qx, qy⟩ => ⟨xs, ys, qx, qy, Nat.le_refl _, by omega, .inl rfl⟩, fun i H x H' hi ⟨qx, qy⟩ y => ?_⟩
  obtain ⟨T, x', y', rfl, nT, rfl, fx, fy⟩ := y
  exact ⟨T, x', y', rfl, nT, rfl, fx xs qx, fy ys qy⟩
def gapsL (bs : List Bar) (k : Nat) : List (Int × Int) := (List.range k).map (gapAt bs)
theorem gapsL_succ (bs : List Bar) (k : Nat) : gapsL bs (k + 1) = gapsL bs k ++ [gapAt bs k] := by
  unfold gapsL
  rw [List.range_succ, List.map_append]
  rfl
theorem gapsL_len (bs : List Bar) (k : Nat) : (gapsL bs k).length = k := by
  unfold gapsL
  rw [List.length_map, List.length_range]
theorem stepsTo_at {bs : List Bar} {n k : Nat} (h : k < n) : (stepsTo bs n)[k]? = some (st bs ((k : Int) + 1) - st bs (k : Int)) := by
  unfold stepsTo
  rw [List.getElem?_map, List.getElem?_range h]
  rfl
def sp_p_longest_gap {K : PySem.W.Frag} {mg : Str → Option Value} (T : Txt K mg) (B : Addr) : Sp := fun vs H Q E => ∃ (p : Addr) (v : V) (t : Addr) (bs : List Bar), vs = [.ref p] ∧ SvAt K T.C H p v t bs ∧ Tabs (tabs T) H ∧
  ((cls bs ≠ [] ∧ ∀ (q : Addr) (m : Int × Int) (H' : Hp), StN H H' → Tabs (tabs T) H' → H' q = some (.tup [.int m.1, .int m.2]) → TopRun bs false m → Q (.ref q) H') ∨ (cls bs = [] ∧ ∀ H', Same H H' → E (.ref B) none H'))
section
variable {P : Program} {w : World} {K : PySem.W.Frag} {mg : Str → Option Value} {base : Heap}
theorem ok_p_longest_gap (T : Txt K mg) (TB : Tbs base T) : FnOk P w K mg base (L2.CX P w) 6 T.f_p_longest_gap T.fd_p_longest_gap ["sieve"] (sp_p_longest_gap T T.C_Nothing) := by
  refine T.F_p_longest_gap.okX sc_p_longest_gap (fun vs H Q E h => ?_) (fun cdv A outer s H vs Q E hr h => ?_)
  · obtain ⟨p, v, t, bs, rfl, _⟩ := h
    rfl
  · obtain ⟨p, v, t, bs, rfl, S, tb, h⟩ := h
    refine ⟨_, (pss_cons (ps_expr (pe_call (ok_p_check_some T) (hr.mono (by decide)) (by rfl) T.g_p_check_some T.F_p_check_some.kp T.b_p_check_some .nil (passes_call (takes_of rfl rfl rfl rfl) (fun _ _ _ _ h => h)) (pa_cons (pv 0) pa_nil)))
      (pss_cons (ps_setLc (i := 1) (own := [("number", 2), ("step", 3)]) (g := gTup K 2 (gCons (gName 2) (gCons (gName 3) (gNil)))) rfl sc_p_longest_gap.nd rfl rfl (sw_true rfl rfl rfl (by decide +kernel)) (pi_zipM (by rfl) T.z_zip (pa_cons (pe_prop (pv 0) T.cl T.pp_classes (ok_m_Sieve_classes T) (hr.mono (by decide)) T.b_m_Sieve_classes .nil pass0 (by rfl)) (pa_cons (pe_call (ok_p_steps_in_order T) (hr.mono (by decide)) (by rfl) T.g_p_steps_in_order T.F_p_steps_in_order.kp T.b_p_steps_in_order .nil pass0 (pa_cons (pv 0) pa_nil)) pa_nil))) (blkOk_by (N := ["sieve", "gaps", "number", "step"]) (sc := defScope s_p_longest_gap) (by decide +kernel)) (fun _ _ _ _ _ => (pg_tup (by rfl) (pgs_cons (pg_name (i := 2) sc_p_longest_gap.nd rfl (by first | exact .inl rfl | exact .inr rfl)) (pgs_cons (pg_name (i := 3) sc_p_longest_gap.nd rfl (by first | exact .inl rfl | exact .inr rfl)) pgs_nil)))) (fun _ _ _ _ _ => pts_nil) (fun _ _ _ _ _ => (pe_tup (pa_cons (pe_op op_sub (pv 3) pe_int) (pa_cons (pe_op op_mod (pe_op op_add (pv 2) pe_int) (pe_prop (pv 0) T.cl T.pp_whole (ok_m_Sieve_whole T) (hr.mono (by decide)) T.b_m_Sieve_whole .nil pass0 (by rfl))) pa_nil)))))
      (pss_one (ps_ret (pe_call (ok_p_longest T TB) (hr.mono (by decide)) (by rfl) T.g_p_longest T.F_p_longest.kp T.b_p_longest .nil pass0 (pa_cons (pv 1) pa_nil)))))), ?_⟩
    refine ⟨_, rfl, p, v, t, bs, rfl, S, ?_⟩
    rcases h with ⟨h, q⟩ | ⟨h, q⟩
    · refine .inl ⟨h, fun H1 s1 => ?_⟩
      have hn : 0 < (cls bs).length := List.length_pos_iff.mpr h
      have few := choices_cls S.ok
      have hw := S.ok.mods.pos
      have S1 := S.stay s1
      refine ⟨_, rfl, p, _, _, rfl, S1.ob.choose_spec, p, v, t, bs, rfl, S1, _, rfl, p, v, t, bs, rfl, S1, hn, fun F H2 s2 nF eF => ?_⟩
      have S2 := S1.stay s2
      have len : ((cls bs).map V.int).length = ((stepsTo bs (cls bs).length).map V.int).length := by
        rw [List.length_map, List.length_map, stepsTo_len]
      refine ⟨t, F, _, _, rfl, S2.cls, lstOf eF, fun G nG => ?_⟩
      refine lc_it (walk_zipM (K := K) (a := t) (b := F) len) (fun k Hk => MarksTo H2 G (gapsL bs k) Hk) (MarksTo.start nG) (fun k Hk _ ⟨_, _, _, kp⟩ => ?_) ?_ ?_
      · have sk : Same H2 Hk := fun b o z => kp b o (ne_of_none z nG) z
        exact ⟨(S2.stay sk).cls, lstOf (sk _ _ eF)⟩
      · rintro k y Hk H8 kl ⟨xs, e, pr, kp⟩ ⟨T0, x, z, rfl, nT, rfl, hx, hz⟩
        rw [List.length_map] at kl
        obtain ⟨c, hc, rfl⟩ := getMapInt' hx
        obtain ⟨g, hg, rfl⟩ := getMapInt' hz
        rw [stepsTo_at kl] at hg
        cases hg
        have ec := st_at hw hc
        have sT := same_upd nT (o := .tup [.int c, .int (st bs ((k : Int) + 1) - st bs (k : Int))])
        have sk : Same H2 Hk := fun b o z => kp b o (ne_of_none z nG) z
        have S3 := (S2.stay sk).stay sT
        refine ⟨T0, _, rfl, tupOf upd_same, rfl, _, _, rfl, _, _, rfl, rfl, ?_⟩
        refine ⟨rfl, _, rfl, _, _, rfl, rfl, ?_⟩
        refine ⟨_, rfl, _, _, rfl, rfl, _, rfl, p, _, _, rfl, S3.ob.choose_spec, p, v, t, bs, rfl, S3, _, _, rfl, rfl, by show (0 : Int) < (wh bs : Int); omega, ?_⟩
        refine ⟨sizeOk (by show (2 : Nat) ≤ 100000; decide), fun u nu => ?_⟩
        have pr' : PrAt (upd Hk T0 (.tup [.int c, .int (st bs ((k : Int) + 1) - st bs (k : Int))])) xs (gapsL bs k) := pr.stay fun a b z => sT _ _ z
        obtain ⟨e2, m2⟩ := MarksTo.add (m := gapAt bs k) (sT _ _ e) pr' (fun b o n z => sT _ _ (kp b o n z)) nu
        have ge : gapAt bs k = (st bs ((k : Int) + 1) - st bs (k : Int) - 1, (c + 1) % (wh bs : Int)) := by
          unfold gapAt
          rw [ec]
        rw [← gapsL_succ] at m2
        rw [ge] at e2 m2
        have lx := pr.len
        rw [gapsL_len] at lx
        exact ⟨xs, e2, sizeLt (by omega), m2⟩
      · rintro Hk ⟨xs, e, pr, kp⟩
        rw [List.length_map] at pr
        have sk : Same H2 Hk := fun b o z => kp b o (ne_of_none z nG) z
        have s03 := s1.trans (s2.trans sk)
        refine ⟨_, rfl, G, xs, _, rfl, lstOf e, pr, fun z => ?_, tb.ext s03, fun r m H4 st4 tb4 hm top er => ?_⟩
        · have := gapsL_len bs (cls bs).length
          rw [z] at this
          have e0 : ([] : List (Int × Int)).length = 0 := rfl
          omega
        · exact q r m H4 ((StN.of s03).trans st4) tb4 er (gaps_top hw hn hm top)
    · exact .inr ⟨h, fun H1 s1 => q H1 s1⟩
end

end R
namespace R
open PySem PySem.Spec PyProof.Rows L2
/-! ## rows of fitting numbers by a step -/
def RowTo (bs : List Bar) (s c : Int) (m : Nat) : Prop := ∀ i : Nat, i < m → fitsB bs (c + (i : Int) * s) = true
/-- from c on, m numbers by the step s fit, the next one does not -/
structure RowIs (bs : List Bar) (s c : Int) (m : Nat) : Prop where
  run : RowTo bs s c m
  off : fitsB bs (c + (m : Int) * s) = false
/-- no end -/
def Ring (bs : List Bar) (s c : Int) : Prop := ∀ i : Nat, fitsB bs (c + (i : Int) * s) = true
theorem RowIs.one {bs : List Bar} {s c : Int} {m n : Nat} (a : RowIs bs s c m) (b : RowIs bs s c n) : m = n := by
  rcases Nat.lt_trichotomy m n with h | h | h
  · have := b.run m h
    rw [a.off] at this
    cases this
  · exact h
  · have := a.run n h
    rw [b.off] at this
    cases this
theorem fits_cong {bs : List Bar} {x y : Int} (h : x % (wh bs : Int) = y % (wh bs : Int)) : fitsB bs x = fitsB bs y := by
  rw [← fitsB_mod bs x, ← fitsB_mod bs y, h]
theorem natMul_sub {i j : Nat} (h : i ≤ j) (s : Int) : ((j - i : Nat) : Int) * s = (j : Int) * s - (i : Int) * s := by
  rw [show ((j - i : Nat) : Int) = (j : Int) - (i : Int) by omega, Int.sub_mul]
theorem RowIs.cong {bs : List Bar} {s x y : Int} {m : Nat} (h : x % (wh bs : Int) = y % (wh bs : Int)) (r : RowIs bs s x m) : RowIs bs s y m := by
  have go : ∀ k : Int, fitsB bs (y + k) = fitsB bs (x + k) := fun k => fits_cong (by
    rw [Int.add_emod, ← h, ← Int.add_emod])
  exact ⟨fun i hi => by rw [go]; exact r.run i hi, by rw [go]; exact r.off⟩
theorem RowIs.drop {bs : List Bar} {s x : Int} {m j : Nat} (hj : j ≤ m) (r : RowIs bs s x m) : RowIs bs s (x + (j : Int) * s) (m - j) := by
  have e : ∀ i : Nat, x + (j : Int) * s + (i : Int) * s = x + ((j + i : Nat) : Int) * s := fun i => by
    rw [Int.natCast_add, Int.add_mul]
    omega
  exact ⟨fun i hi => by rw [e]; exact r.run _ (by omega), by rw [e, show j + (m - j) = m by omega]; exact r.off⟩
theorem row_clash {bs : List Bar} {s b b' : Int} {m' i j : Nat} (pre : fitsB bs (b - s) = false) (r : RowTo bs s b' m') (ij : i < j) (jm : j < m') (e : (b + (i : Int) * s) % (wh bs : Int) = (b' + (j : Int) * s) % (wh bs : Int)) : False := by
  have f := r (j - i - 1) (by omega)
  have c : fitsB bs (b - s) = fitsB bs (b' + ((j - i - 1 : Nat) : Int) * s) := by
    refine fits_cong (Int.emod_eq_emod_iff_emod_sub_eq_zero.mpr ?_)
    have e' := Int.emod_eq_emod_iff_emod_sub_eq_zero.mp e
    rw [natMul_sub (by omega), natMul_sub (by omega), show ((1 : Nat) : Int) * s = s by rw [Int.natCast_one, Int.one_mul]]
    rw [show b - s - (b' + ((j : Int) * s - (i : Int) * s - s)) = b + (i : Int) * s - (b' + (j : Int) * s) by omega]
    exact e'
  rw [c, f] at pre
  cases pre
def rowVals (bs : List Bar) (s b : Int) (m : Nat) : List Int := (List.range m).map fun i => (b + ((i : Nat) : Int) * s) % (wh bs : Int)
theorem rowVals_in {bs : List Bar} (hp : 0 < wh bs) {s b : Int} {m : Nat} (r : RowTo bs s b m) : ∀ x ∈ rowVals bs s b m, x ∈ cls bs := fun x hx => by
  obtain ⟨i, hi, rfl⟩ := List.mem_map.mp hx
  exact emod_cls hp (r i (List.mem_range.mp hi))
theorem rowVals_nodup {bs : List Bar} {s b : Int} {m : Nat} (pre : fitsB bs (b - s) = false) (r : RowTo bs s b m) : (rowVals bs s b m).Nodup := by
  unfold rowVals
  refine List.pairwise_map.mpr ?_
  have up : (List.range m).Pairwise (· < ·) := List.pairwise_lt_range
  exact up.imp_of_mem fun {x y} hx hy lt e => row_clash pre r lt (List.mem_range.mp hy) e
theorem firstOff (p : Nat → Bool) : ∀ k : Nat, (∀ i, i ≤ k → p i = true) ∨ ∃ m, m ≤ k ∧ p m = false ∧ ∀ i, i < m → p i = true
  | 0 => by
    cases h : p 0 with
    | true => exact .inl fun i hi => by rw [Nat.le_zero.mp hi]; exact h
    | false => exact .inr ⟨0, Nat.le_refl _, h, fun i hi => absurd hi (Nat.not_lt_zero _)⟩
  | k + 1 => by
    rcases firstOff p k with h | ⟨m, h1, h2⟩
    · cases g : p (k + 1) with
      | true =>
        refine .inl fun i hi => ?_
        rcases Nat.lt_or_eq_of_le hi with z | z
        · exact h i (by omega)
        · rw [z]
          exact g
      | false => exact .inr ⟨k + 1, Nat.le_refl _, g, fun i hi => h i (by omega)⟩
    · exact .inr ⟨m, by omega, h2⟩
theorem row_le {bs : List Bar} (hp : 0 < wh bs) {s b : Int} {m : Nat} (pre : fitsB bs (b - s) = false) (r : RowTo bs s b m) : m ≤ (cls bs).length := by
  have := nodup_len (rowVals_nodup pre r) (rowVals_in hp r)
  unfold rowVals at this
  rw [List.length_map, List.length_range] at this
  exact this
theorem row_ex {bs : List Bar} (hp : 0 < wh bs) {s b : Int} (hb : fitsB bs b = true) (pre : fitsB bs (b - s) = false) : ∃ m : Nat, 1 ≤ m ∧ m ≤ (cls bs).length ∧ RowIs bs s b m := by
  rcases firstOff (fun i => fitsB bs (b + (i : Int) * s)) (cls bs).length with h | ⟨m, h1, h2, h3⟩
  · have := row_le hp pre (m := (cls bs).length + 1) fun i hi => h i (by omega)
    omega
  · refine ⟨m, ?_, h1, h3, h2⟩
    rcases Nat.eq_zero_or_pos m with z | z
    · rw [z] at h2
      try simp only at h2
      rw [show b + ((0 : Nat) : Int) * s = b by rw [Int.natCast_zero, Int.zero_mul, Int.add_zero], hb] at h2
      cases h2
    · exact z
/-- how many fit, told -/
def rowGo (bs : List Bar) (s : Int) : Nat → Int → Nat
  | 0, _ => 0
  | k + 1, c => if fitsB bs c = true then rowGo bs s k (c + s) + 1 else 0
theorem rowGo_is {bs : List Bar} {s : Int} : ∀ (k m : Nat) (c : Int), RowIs bs s c m → m ≤ k → rowGo bs s k c = m
  | 0, m, c, r, h => (Nat.le_zero.mp h).symm
  | k + 1, m, c, r, h => by
    unfold rowGo
    cases m with
    | zero =>
      have := r.off
      rw [Int.natCast_zero, Int.zero_mul, Int.add_zero] at this
      rw [this]
      rfl
    | succ m =>
      have f := r.run 0 (by omega)
      rw [Int.natCast_zero, Int.zero_mul, Int.add_zero] at f
      have r1 := r.drop (j := 1) (by omega)
      rw [Int.natCast_one, Int.one_mul, Nat.add_sub_cancel] at r1
      rw [if_pos f, rowGo_is k m (c + s) r1 (by omega)]
def rowLen (bs : List Bar) (s c : Int) : Nat := rowGo bs s (cls bs).length c
/-- the first ones of the rows, among the first k classes -/
def firstsTo (bs : List Bar) (s : Int) (k : Nat) : List Int := ((cls bs).take k).filter fun c => !fitsB bs (c - s)
def firsts (bs : List Bar) (s : Int) : List Int := firstsTo bs s (cls bs).length
theorem firstsTo_succ {bs : List Bar} {s x : Int} {n : Nat} (h : (cls bs)[n]? = some x) : firstsTo bs s (n + 1) = firstsTo bs s n ++ (if fitsB bs (x - s) = false then [x] else []) := by
  unfold firstsTo
  rw [takeSucc h, List.filter_append]
  cases f : fitsB bs (x - s) with
  | false =>
    rw [if_pos rfl]
    refine congrArg _ (List.filter_cons_of_pos ?_)
    rw [f]
    rfl
  | true =>
    rw [if_neg (by simp)]
    refine congrArg _ (List.filter_cons_of_neg ?_)
    rw [f]
    simp
theorem firstsTo_len (bs : List Bar) (s : Int) (n : Nat) : (firstsTo bs s n).length ≤ (cls bs).length := by
  unfold firstsTo
  refine Nat.le_trans (List.length_filter_le _ _) ?_
  rw [List.length_take]
  omega
theorem firsts_mem {bs : List Bar} {s x : Int} : x ∈ firsts bs s ↔ x ∈ cls bs ∧ fitsB bs (x - s) = false := by
  unfold firsts firstsTo
  rw [List.take_length, List.mem_filter]
  simp
theorem firsts_nodup (bs : List Bar) (s : Int) : (firsts bs s).Nodup := by
  unfold firsts firstsTo
  rw [List.take_length]
  exact ((cls_up bs).imp fun {a b} (lt : a < b) => Int.ne_of_lt lt).filter _
theorem firsts_row {bs : List Bar} (hp : 0 < wh bs) {s x : Int} (h : x ∈ firsts bs s) : 1 ≤ rowLen bs s x ∧ rowLen bs s x ≤ (cls bs).length ∧ RowIs bs s x (rowLen bs s x) := by
  obtain ⟨h1, h2⟩ := firsts_mem.mp h
  obtain ⟨m, m1, m2, r⟩ := row_ex hp (cls_mem.mp h1).2.2 h2
  have e : rowLen bs s x = m := rowGo_is _ m x r m2
  rw [e]
  exact ⟨m1, m2, r⟩
def rowsOf (bs : List Bar) (s : Int) (bl : List Int) : List Int := bl.flatMap fun b => rowVals bs s b (rowLen bs s b)
theorem rowsOf_len (bs : List Bar) (s : Int) : ∀ bl : List Int, (rowsOf bs s bl).length = (bl.map (rowLen bs s)).sum
  | [] => rfl
  | b :: r => by
    show (rowVals bs s b (rowLen bs s b) ++ rowsOf bs s r).length = rowLen bs s b + (r.map (rowLen bs s)).sum
    rw [List.length_append, rowsOf_len bs s r]
    unfold rowVals
    rw [List.length_map, List.length_range]
theorem rowsOf_nodup {bs : List Bar} (hp : 0 < wh bs) {s : Int} : ∀ {bl : List Int}, bl.Nodup → (∀ b ∈ bl, b ∈ firsts bs s) → (rowsOf bs s bl).Nodup
  | [], _, _ => List.nodup_nil
  | b :: r, nd, h => by
    show (rowVals bs s b (rowLen bs s b) ++ rowsOf bs s r).Nodup
    obtain ⟨n1, n2⟩ := List.nodup_cons.mp nd
    have hb := h b List.mem_cons_self
    have rb := (firsts_row hp hb).2.2.run
    have pb := (firsts_mem.mp hb).2
    refine List.nodup_append.mpr ⟨rowVals_nodup pb rb, rowsOf_nodup hp n2 fun x hx => h x (List.mem_cons_of_mem _ hx), fun x hx y hy e => ?_⟩
    obtain ⟨i, hi, rfl⟩ := List.mem_map.mp hx
    obtain ⟨b', hb', hy⟩ := List.mem_flatMap.mp hy
    obtain ⟨j, hj, rfl⟩ := List.mem_map.mp hy
    have hi := List.mem_range.mp hi
    have hj := List.mem_range.mp hj
    have hm' := h b' (List.mem_cons_of_mem _ hb')
    have rb' := (firsts_row hp hm').2.2.run
    have pb' := (firsts_mem.mp hm').2
    rcases Nat.lt_trichotomy i j with l | l | l
    · exact row_clash pb rb' l hj e
    · subst l
      have z := Int.emod_eq_emod_iff_emod_sub_eq_zero.mp e
      rw [show b + (i : Int) * s - (b' + (i : Int) * s) = b - b' by omega] at z
      have a := cls_mem.mp (firsts_mem.mp hb).1
      have a' := cls_mem.mp (firsts_mem.mp hm').1
      have z := Int.emod_eq_emod_iff_emod_sub_eq_zero.mpr z
      rw [Int.emod_eq_of_lt a.1 a.2.1, Int.emod_eq_of_lt a'.1 a'.2.1] at z
      rw [z] at n1
      exact n1 hb'
    · exact row_clash pb' rb l hi e.symm
theorem rowsOf_in {bs : List Bar} (hp : 0 < wh bs) {s x : Int} (h : x ∈ rowsOf bs s (firsts bs s)) : ∃ (b : Int) (j : Nat), b ∈ firsts bs s ∧ j < rowLen bs s b ∧ x = (b + (j : Int) * s) % (wh bs : Int) := by
  obtain ⟨b, hb, hx⟩ := List.mem_flatMap.mp h
  obtain ⟨j, hj, rfl⟩ := List.mem_map.mp hx
  exact ⟨b, j, hb, List.mem_range.mp hj, rfl⟩
/-- a ring is in no row -/
theorem ring_lt {bs : List Bar} (hp : 0 < wh bs) {s c : Int} (hc : c ∈ cls bs) (g : Ring bs s c) : ((firsts bs s).map (rowLen bs s)).sum < (cls bs).length := by
  have nd : (c :: rowsOf bs s (firsts bs s)).Nodup := by
    refine List.nodup_cons.mpr ⟨fun h => ?_, rowsOf_nodup hp (firsts_nodup bs s) fun b hb => hb⟩
    obtain ⟨b, j, hb, hj, rfl⟩ := rowsOf_in hp h
    have r := (firsts_row hp hb).2.2
    have a := g (rowLen bs s b - j)
    rw [natMul_sub (by omega)] at a
    have e : fitsB bs ((b + (j : Int) * s) % (wh bs : Int) + ((rowLen bs s b : Int) * s - (j : Int) * s)) = fitsB bs (b + (rowLen bs s b : Int) * s) := by
      refine fits_cong ?_
      rw [Int.emod_add_emod, show b + (j : Int) * s + ((rowLen bs s b : Int) * s - (j : Int) * s) = b + (rowLen bs s b : Int) * s by omega]
    rw [e, r.off] at a
    cases a
  have := nodup_len (ys := cls bs) nd fun x hx => by
    rcases List.mem_cons.mp hx with rfl | hx
    · exact hc
    · obtain ⟨b, hb, hx⟩ := List.mem_flatMap.mp hx
      exact rowVals_in hp (firsts_row hp hb).2.2.run x hx
  rw [List.length_cons, rowsOf_len] at this
  omega
/-- what is in no ring is in a row -/
theorem in_row {bs : List Bar} (hp : 0 < wh bs) {s c : Int} (hc : c ∈ cls bs) : Ring bs s c ∨ c ∈ rowsOf bs s (firsts bs s) := by
  have hm := cls_mem.mp hc
  rcases firstOff (fun k => fitsB bs (c - (k : Int) * s)) (wh bs) with h | ⟨k, k1, k2, k3⟩
  · refine .inl fun i => ?_
    have il : i % wh bs < wh bs := Nat.mod_lt _ hp
    have a := h (wh bs - i % wh bs) (by omega)
    try simp only at a
    rw [← a]
    refine fits_cong (Int.emod_eq_emod_iff_emod_sub_eq_zero.mpr (Int.emod_eq_zero_of_dvd ?_))
    refine ⟨((i / wh bs : Nat) + 1 : Int) * s, ?_⟩
    rw [natMul_sub (by omega), ← Int.mul_assoc, Int.mul_add, Int.mul_one, Int.add_mul, ← Int.natCast_mul]
    have e : (i : Int) * s = ((wh bs * (i / wh bs) : Nat) : Int) * s + ((i % wh bs : Nat) : Int) * s := by
      rw [← Int.add_mul, ← Int.natCast_add, Nat.div_add_mod]
    omega
  · refine .inr ?_
    have kp : 1 ≤ k := by
      rcases Nat.eq_zero_or_pos k with z | z
      · rw [z] at k2
        try simp only at k2
        rw [show c - ((0 : Nat) : Int) * s = c by rw [Int.natCast_zero, Int.zero_mul]; omega, hm.2.2] at k2
        cases k2
      · exact z
    have e1 : ((k - 1 : Nat) : Int) * s = (k : Int) * s - s := by
      rw [natMul_sub kp, Int.natCast_one, Int.one_mul]
    have fb := k3 (k - 1) (by omega)
    try simp only at fb
    have hb : (c - ((k - 1 : Nat) : Int) * s) % (wh bs : Int) ∈ firsts bs s := by
      refine firsts_mem.mpr ⟨emod_cls hp fb, ?_⟩
      rw [← k2]
      refine fits_cong ?_
      rw [Int.emod_sub_emod, e1, show c - ((k : Int) * s - s) - s = c - (k : Int) * s by omega]
    obtain ⟨_, _, r⟩ := firsts_row hp hb
    have r := r.cong (y := c - ((k - 1 : Nat) : Int) * s) (by rw [Int.emod_emod_of_dvd _ (Int.dvd_refl _)])
    generalize hL : rowLen bs s ((c - ((k - 1 : Nat) : Int) * s) % (wh bs : Int)) = L at r
    have lt : k - 1 < L := by
      by_cases z : k - 1 < L
      · exact z
      · have o := r.off
        have t := k3 (k - 1 - L) (by omega)
        try simp only at t
        rw [natMul_sub (by omega)] at t
        rw [show c - (((k - 1 : Nat) : Int) * s - (L : Int) * s) = c - ((k - 1 : Nat) : Int) * s + (L : Int) * s by omega, o] at t
        cases t
    refine List.mem_flatMap.mpr ⟨_, hb, List.mem_map.mpr ⟨k - 1, List.mem_range.mpr (by rw [hL]; exact lt), ?_⟩⟩
    rw [Int.emod_add_emod, show c - ((k - 1 : Nat) : Int) * s + ((k - 1 : Nat) : Int) * s = c by omega, Int.emod_eq_of_lt hm.1 hm.2.1]
theorem noRing_le {bs : List Bar} (hp : 0 < wh bs) {s : Int} (h : ¬ ∃ c ∈ cls bs, Ring bs s c) : (cls bs).length ≤ ((firsts bs s).map (rowLen bs s)).sum := by
  rw [← rowsOf_len]
  refine nodup_len ((cls_up bs).imp fun {a b} (lt : a < b) => Int.ne_of_lt lt) fun c hc => ?_
  rcases in_row hp hc with g | g
  · exact absurd ⟨c, hc, g⟩ h
  · exact g
/-- the longest row, of several such the first -/
structure BestRow (bs : List Bar) (s : Int) (m : Int × Int) : Prop where
  mem : m.2 ∈ cls bs
  row : ∃ n : Nat, m.1 = (n : Int) ∧ RowIs bs s m.2 n
  top : ∀ c ∈ cls bs, ∀ n : Nat, RowIs bs s c n → (n : Int) < m.1 ∨ ((n : Int) = m.1 ∧ m.2 ≤ c)
def foundTo (bs : List Bar) (s : Int) (k : Nat) : List (Int × Int) := ((firsts bs s).take k).map fun b => ((rowLen bs s b : Int), b)
theorem foundTo_succ {bs : List Bar} {s b : Int} {k : Nat} (h : (firsts bs s)[k]? = some b) : foundTo bs s (k + 1) = foundTo bs s k ++ [((rowLen bs s b : Int), b)] := by
  unfold foundTo
  rw [takeSucc h, List.map_append]
  rfl
theorem foundTo_len {bs : List Bar} {s : Int} {k : Nat} (h : k ≤ (firsts bs s).length) : (foundTo bs s k).length = k := by
  unfold foundTo
  rw [List.length_map, List.length_take]
  omega
theorem found_best {bs : List Bar} (hp : 0 < wh bs) {s : Int} (no : ¬ ∃ c ∈ cls bs, Ring bs s c) {m : Int × Int} (hm : m ∈ foundTo bs s (firsts bs s).length) (top : ∀ q ∈ foundTo bs s (firsts bs s).length, q.1 < m.1 ∨ (q.1 = m.1 ∧ m.2 ≤ q.2)) : BestRow bs s m := by
  unfold foundTo at hm top
  rw [List.take_length] at hm top
  obtain ⟨b, hb, rfl⟩ := List.mem_map.mp hm
  refine ⟨(firsts_mem.mp hb).1, ⟨_, rfl, (firsts_row hp hb).2.2⟩, fun c hc n r => ?_⟩
  rcases in_row hp hc with g | g
  · exact absurd ⟨c, hc, g⟩ no
  · obtain ⟨b', j, hb', hj, e⟩ := rowsOf_in hp g
    have t := top _ (List.mem_map.mpr ⟨b', hb', rfl⟩)
    have rb' := ((firsts_row hp hb').2.2.drop (j := j) (by omega)).cong (y := c) (by rw [e, Int.emod_emod_of_dvd _ (Int.dvd_refl _)])
    have en := r.one rb'
    rcases Nat.eq_zero_or_pos j with z | z
    · subst z
      have a' := cls_mem.mp (firsts_mem.mp hb').1
      rw [Int.natCast_zero, Int.zero_mul, Int.add_zero, Int.emod_eq_of_lt a'.1 a'.2.1] at e
      rw [e, en]
      exact t
    · simp only at t ⊢
      omega

end R
namespace R
open PySem PySem.Spec PyProof.Rows L2
/-! ## row_from -/
def sp_p_row_from (K : PySem.W.Frag) : Sp := fun vs H Q _ => ∃ (d : Addr) (kvs : List (L2.Key × V)) (bs : List Bar) (b s : Int) (m : Nat), vs = [.ref d, .int (wh bs : Nat), .int b, .int s] ∧ H d = some (.dK kvs) ∧ KeysAre kvs (cls bs) ∧ 0 < wh bs ∧ 1 ≤ m ∧ m ≤ 3000 ∧ b.natAbs < 2 ^ 200 ∧ s.natAbs < 2 ^ 200 ∧ RowIs bs s b m ∧ Q (.int (m : Nat)) H
section
variable {P : Program} {w : World} {K : PySem.W.Frag} {mg : Str → Option Value} {base : Heap}
theorem ok_p_row_from (T : Txt K mg) : FnOk P w K mg base CX0 2 T.f_p_row_from T.fd_p_row_from ["known", "whole", "begin", "step"] (sp_p_row_from K) := by
  refine T.F_p_row_from.ok sc_p_row_from (fun vs H Q E h => ?_) (fun cdv A outer s H vs Q E hr h => ?_)
  · obtain ⟨d, kvs, bs, b, s, m, rfl, _⟩ := h
    rfl
  · obtain ⟨d, kvs, bs, b, s, m, rfl, e, ks, hp, m1, m2, hb, hs, r, q⟩ := h
    refine ⟨_, (pss_cons (ps_set (i := 4) sc_p_row_from.nd rfl (by first | exact .inl rfl | exact .inr rfl) pe_int)
      (pss_cons (ps_while PassesOwn.never (pt_cmp (pc_din (hu_of hr) (pe_op op_mod (pe_op op_add (pv 2) (pe_op op_mulW (pv 4) (pv 3))) (pv 1)) (pv 0))) (pss_one (ps_aug (i := 4) sc_p_row_from.nd rfl (.inl rfl) pe_int ip_add)))
      (pss_one (ps_ret (pv 4))))), ?_⟩
    refine while_by (fun σ H2 => ∃ k : Nat, σ = [some (.ref d), some (.int (wh bs : Nat)), some (.int b), some (.int s), some (.int (k : Nat))] ∧ 1 ≤ k ∧ k ≤ m ∧ H2 = H)
      (fun σ _ => match σ with | [_, _, _, _, some (.int k)] => m - k.toNat | _ => 0) ⟨1, rfl, Nat.le_refl _, m1, rfl⟩ ?_ ?_
    · rintro σ H2 ⟨k, rfl, k1, km, rfl⟩
      refine ⟨_, rfl, _, rfl, _, rfl, _, _, rfl, rfl, wide_mul (a := 20) (b := 200) (by rw [Int.natAbs_natCast]; omega) (by omega) (by decide) (by decide) (by decide), _, _, rfl, rfl, _, rfl, _, _, rfl, rfl, by show (0 : Int) < (wh bs : Int); omega, ?_⟩
      refine ⟨_, rfl, d, _, rfl, DGet.k (k := Sum.inl ((b + (k : Int) * s) % (wh bs : Int))) e, _, rfl, ?_⟩
      rw [ks, fits_cls hp]
      refine ite2 (fun f => ?_) (fun f => ?_)
      · have lt : k < m := by
          by_cases z : k < m
          · exact z
          · obtain rfl : k = m := by omega
            rw [r.off] at f
            cases f
        refine ⟨_, rfl, _, _, rfl, rfl, ⟨k + 1, rfl, by omega, by omega, rfl⟩, ?_⟩
        show m - ((k : Int) + 1).toNat < m - (k : Int).toNat
        omega
      · obtain rfl : k = m := by
          by_cases z : k < m
          · exact absurd (r.run k z) f
          · omega
        exact ⟨_, rfl, q⟩
    · intro σ H2 Q1 Q2 hQ h
      obtain ⟨v1, h1, v2, h2, v3, h3, i1, i2, h4, h5, h6, i3, i4, h7, h8, v4, h9, i5, i6, h10, h11, h12, v5, h13, a, v6, h14, h15, bb, hb2, hq⟩ := h
      exact ⟨v1, h1, v2, h2, v3, h3, i1, i2, h4, h5, h6, i3, i4, h7, h8, v4, h9, i5, i6, h10, h11, h12, v5, h13, a, v6, h14, h15, bb, hb2, hQ _ _ hq⟩
end

end R
namespace R
open PySem PySem.Spec PyProof.Rows L2
/-! ## longest_row -/
open LamX hiding takes0
open NdefX
theorem natSum (l : List Nat) : (l.map fun n => ((n : Nat) : Int)).sum = ((l.sum : Nat) : Int) := by
  induction l with
  | nil => rfl
  | cons a r ih =>
    show (a : Int) + (r.map fun n => ((n : Nat) : Int)).sum = ((a + r.sum : Nat) : Int)
    rw [ih]
    omega
def sp_p_longest_row {K : PySem.W.Frag} {mg : Str → Option Value} (T : Txt K mg) : Sp := fun vs H Q E => ∃ (p : Addr) (v : V) (t : Addr) (bs : List Bar) (x : V), vs = [.ref p, x] ∧ SvAt K T.C H p v t bs ∧ Tabs (tabs T) H ∧
  ((OffI K H 1 1000000000000000000000000000000 x ∧ E (.ref T.C_BadNumber) none H) ∨ ∃ i, x = .int i ∧ 1 ≤ i ∧ i ≤ 1000000000000000000000000000000 ∧
    ((cls bs = [] ∧ ∀ H', Same H H' → E (.ref T.C_Nothing) none H') ∨ (cls bs ≠ [] ∧ (∃ c ∈ cls bs, Ring bs i c) ∧ ∀ (H' : Hp), Same H H' → Q .non H') ∨
     (cls bs ≠ [] ∧ (¬ ∃ c ∈ cls bs, Ring bs i c) ∧ ∀ (q : Addr) (m : Int × Int) (H' : Hp), StN H H' → Tabs (tabs T) H' → H' q = some (.tup [.int m.1, .int m.2]) → BestRow bs i m → Q (.ref q) H')))
section
variable {P : Program} {w : World} {K : PySem.W.Frag} {mg : Str → Option Value} {base : Heap}
theorem ok_p_longest_row (T : Txt K mg) (TB : Tbs base T) : FnOk P w K mg base (L2.CX P w) 5 T.f_p_longest_row T.fd_p_longest_row ["sieve", "step"] (sp_p_longest_row T) := by
  refine T.F_p_longest_row.okX sc_p_longest_row (fun vs H Q E h => ?_) (fun cdv A outer s H vs Q E hr h => ?_)
  · obtain ⟨p, v, t, bs, x, rfl, _⟩ := h
    rfl
  · obtain ⟨p, v, t, bs, x, rfl, S, tb, h⟩ := h
    refine ⟨_, (pss_cons (ps_expr (pe_call (ok_p_check_step T) (hr.mono (by decide)) (by rfl) T.g_p_check_step T.F_p_check_step.kp T.b_p_check_step .nil (passes_call (takes_of rfl rfl rfl rfl) (fun _ _ _ _ h => h)) (pa_cons (pv 1) pa_nil)))
      (pss_cons (ps_expr (pe_call (ok_p_check_some T) (hr.mono (by decide)) (by rfl) T.g_p_check_some T.F_p_check_some.kp T.b_p_check_some .nil (passes_call (takes_of rfl rfl rfl rfl) (fun _ _ _ _ h => h)) (pa_cons (pv 0) pa_nil)))
      (pss_cons (ps_set (i := 2) sc_p_longest_row.nd rfl (by first | exact .inl rfl | exact .inr rfl) (pe_dc (own := [("number", 5)]) rfl sc_p_longest_row.nd (pi_tup (pe_prop (pv 0) T.cl T.pp_classes (ok_m_Sieve_classes T) (hr.mono (by decide)) T.b_m_Sieve_classes .nil pass0 (by rfl))) (blkOk_by (N := ["sieve", "step", "known", "begins", "found", "number", "begin", "many", "_"]) (sc := defScope s_p_longest_row) (by decide +kernel)) (fun _ _ _ _ _ => (pg_name (i := 5) sc_p_longest_row.nd rfl (by first | exact .inl rfl | exact .inr rfl))) (fun _ _ _ _ _ => pts_nil) (fun _ _ _ _ _ => (pv 5)) (fun _ _ _ _ _ => pe_bl)))
      (pss_cons (ps_setLc (i := 3) (own := [("number", 5)]) rfl sc_p_longest_row.nd rfl rfl (sw_true rfl rfl rfl (by decide +kernel)) (pi_tup (pe_prop (pv 0) T.cl T.pp_classes (ok_m_Sieve_classes T) (hr.mono (by decide)) T.b_m_Sieve_classes .nil pass0 (by rfl))) (blkOk_by (N := ["sieve", "step", "known", "begins", "found", "number", "begin", "many", "_"]) (sc := defScope s_p_longest_row) (by decide +kernel)) (fun _ _ _ _ _ => (pg_name (i := 5) sc_p_longest_row.nd rfl (by first | exact .inl rfl | exact .inr rfl))) (fun _ _ _ _ _ => (pts_one (pt_cmp (pc_dnotin (hu_of hr) (pe_op op_mod (pe_op op_sub (pv 5) (pv 1)) (pe_prop (pv 0) T.cl T.pp_whole (ok_m_Sieve_whole T) (hr.mono (by decide)) T.b_m_Sieve_whole .nil pass0 (by rfl))) (pv 2))))) (fun _ _ _ _ _ => (pv 5)))
      (pss_cons (ps_setLc (i := 4) (own := [("begin", 6)]) rfl sc_p_longest_row.nd rfl rfl (sw_true rfl rfl rfl (by decide +kernel)) (pi_list (pv 3)) (blkOk_by (N := ["sieve", "step", "known", "begins", "found", "number", "begin", "many", "_"]) (sc := defScope s_p_longest_row) (by decide +kernel)) (fun _ _ _ _ _ => (pg_name (i := 6) sc_p_longest_row.nd rfl (by first | exact .inl rfl | exact .inr rfl))) (fun _ _ _ _ _ => pts_nil) (fun _ _ _ _ _ => (pe_tup (pa_cons (pe_call (ok_p_row_from T) (hr.mono (by decide)) (by rfl) T.g_p_row_from T.F_p_row_from.kp T.b_p_row_from .nil pass0 (pa_cons (pv 2) (pa_cons (pe_prop (pv 0) T.cl T.pp_whole (ok_m_Sieve_whole T) (hr.mono (by decide)) T.b_m_Sieve_whole .nil pass0 (by rfl)) (pa_cons (pv 6) (pa_cons (pv 1) pa_nil))))) (pa_cons (pv 6) pa_nil)))))
      (pss_cons (ps_if (pt_cmpR op_lt (pe_callB (cr_sum rfl) (by rfl) T.z_sum (by decide +kernel) (pa_cons (pe_lc (own := [("many", 7), ("_", 8)]) (g := gTup K 2 (gCons (gName 7) (gCons (gName 8) (gNil)))) rfl sc_p_longest_row.nd (pi_list (pv 4)) (blkOk_by (N := ["sieve", "step", "known", "begins", "found", "number", "begin", "many", "_"]) (sc := defScope s_p_longest_row) (by decide +kernel)) (fun _ _ _ _ _ => (pg_tup (by rfl) (pgs_cons (pg_name (i := 7) sc_p_longest_row.nd rfl (by first | exact .inl rfl | exact .inr rfl)) (pgs_cons (pg_name (i := 8) sc_p_longest_row.nd rfl (by first | exact .inl rfl | exact .inr rfl)) pgs_nil)))) (fun _ _ _ _ _ => pts_nil) (fun _ _ _ _ _ => (pv 7))) pa_nil)) (pe_callB call_len_seq (by rfl) T.z_len (by decide +kernel) (pa_cons (pe_prop (pv 0) T.cl T.pp_classes (ok_m_Sieve_classes T) (hr.mono (by decide)) T.b_m_Sieve_classes .nil pass0 (by rfl)) pa_nil)) (nomark _)) (pss_one (ps_ret pe_non)) pss_nil)
      (pss_one (ps_ret (pe_call (ok_p_longest T TB) (hr.mono (by decide)) (by rfl) T.g_p_longest T.F_p_longest.kp T.b_p_longest .nil pass0 (pa_cons (pv 4) pa_nil)))))))))), ?_⟩
    rcases h with ⟨o, q⟩ | ⟨st, rfl, h1, h2, q⟩
    · exact ⟨_, rfl, x, rfl, .inr ⟨o, q⟩⟩
    refine ⟨_, rfl, _, rfl, .inl ⟨st, rfl, h1, h2, ?_⟩⟩
    have few := choices_cls S.ok
    have hp := S.ok.mods.pos
    by_cases h0 : cls bs = []
    · refine ⟨_, rfl, p, v, t, bs, rfl, S, .inr ⟨h0, fun H1 s1 => ?_⟩⟩
      rcases q with ⟨_, q⟩ | ⟨h, _⟩ | ⟨h, _⟩
      · exact q H1 s1
      · exact absurd h0 h
      · exact absurd h0 h
    refine ⟨_, rfl, p, v, t, bs, rfl, S, .inl ⟨h0, fun H0 s0 => ?_⟩⟩
    have hn : 0 < (cls bs).length := List.length_pos_iff.mpr h0
    have S0 := S.stay s0
    refine ⟨_, rfl, p, _, _, rfl, S0.ob.choose_spec, p, v, t, bs, rfl, S0, t, rfl, ⟨_, S0.cls⟩, fun D nD => ?_⟩
    refine dc_tup (K := K) (a := t) (xs := (cls bs).map V.int) (fun i Hi => ∃ kvs, Hi D = some (.dK kvs) ∧ KeysAre kvs ((cls bs).take i) ∧ kvs.length ≤ i ∧ Same H0 Hi)
      ⟨[], upd_same, KeysAre.nil, Nat.le_refl _, same_upd nD⟩ (fun i Hi _ ⟨_, _, _, _, si⟩ => Same.seqTT si S0.cls) ?_ ?_
    · rintro i y Hi hi ⟨kvs, ei, ki, li, si⟩
      obtain ⟨c, hc, rfl⟩ := getMapInt' hi
      have il := (List.getElem?_eq_some_iff.mp hc).1
      refine ⟨rfl, _, rfl, kvs, Sum.inl c, rfl, ei, sizeLt (by omega), _, upd_same, ?_, ?_, samePut si nD⟩
      · rw [takeSucc hc]
        exact ki.put c _
      · have := length_putK kvs (Sum.inl c) (V.bl true)
        omega
    rintro H1 ⟨kvs, e1, k1, _, s1⟩
    rw [List.length_map, List.take_length] at k1
    have S1 := S0.stay s1
    refine ⟨_, rfl, p, _, _, rfl, S1.ob.choose_spec, p, v, t, bs, rfl, S1, t, rfl, ⟨_, S1.cls⟩, fun F nF => ?_⟩
    refine lc_tup (K := K) (a := t) (xs := (cls bs).map V.int) (fun k Hk => Hk F = some (.lst ((firstsTo bs st k).map V.int)) ∧ Same H1 Hk) ⟨upd_same, same_upd nF⟩ (fun k Hk _ ⟨_, sk⟩ => (S1.stay sk).cls) ?_ ?_
    · rintro k y Hk hk ⟨ek, sk⟩
      obtain ⟨c, hc, rfl⟩ := getMapInt' hk
      have Sk := S1.stay sk
      refine ⟨rfl, _, rfl, _, rfl, _, _, rfl, rfl, _, rfl, p, _, _, rfl, Sk.ob.choose_spec, p, v, t, bs, rfl, Sk, _, _, rfl, rfl, by show (0 : Int) < (wh bs : Int); omega, ?_⟩
      refine ⟨_, rfl, D, _, rfl, DGet.k (k := Sum.inl ((c - st) % (wh bs : Int))) (sk _ _ e1), _, rfl, ?_⟩
      rw [k1, fits_cls hp]
      refine ite2 (fun e => ?_) (fun e => ?_)
      · have e' : fitsB bs (c - st) = false := by
          cases z : fitsB bs (c - st) with
          | false => rfl
          | true =>
            rw [z] at e
            cases e
        refine ⟨_, rfl, _, ek, ?_, ?_, samePut sk nF⟩
        · rw [List.length_map]
          have := firstsTo_len bs st k
          exact sizeLt (by omega)
        · rw [upd_same, firstsTo_succ hc, if_pos e', List.map_append]
          rfl
      · have e' : ¬ fitsB bs (c - st) = false := fun z => by
          rw [z] at e
          exact e rfl
        refine ⟨?_, sk⟩
        rw [ek, firstsTo_succ hc, if_neg e', List.append_nil]
    rintro H2 ⟨e2, s2⟩
    rw [List.length_map] at e2
    have e2 : H2 F = some (.lst ((firsts bs st).map V.int)) := e2
    have S2 := S1.stay s2
    have e12 := s2 _ _ e1
    have fl : (firsts bs st).length ≤ (cls bs).length := firstsTo_len bs st _
    refine ⟨_, rfl, F, rfl, ⟨_, lstOf e2⟩, fun G nG => ?_⟩
    refine lc_list (K := K) (a := F) (xs := (firsts bs st).map V.int) (fun k Hk => MarksTo H2 G (foundTo bs st k) Hk) (MarksTo.start nG) (fun k Hk _ ⟨_, _, _, kp⟩ => lstOf (kp _ _ (ne_of_none e2 nG) e2)) ?_ ?_
    · rintro k y Hk hk ⟨xs, ex, pr, kp⟩
      obtain ⟨b, hb, rfl⟩ := getMapInt' hk
      have kl := (List.getElem?_eq_some_iff.mp hb).1
      have sk : Same H2 Hk := fun b o z => kp b o (ne_of_none z nG) z
      have Sk := S2.stay sk
      have hbm := List.mem_of_getElem? hb
      have cm := cls_mem.mp (firsts_mem.mp hbm).1
      obtain ⟨m1, m2, rw_⟩ := firsts_row hp hbm
      have big : wh bs < 2 ^ 199 := Nat.lt_trans S.ok.mods.lt (by decide)
      refine ⟨rfl, _, rfl, _, rfl, p, _, _, rfl, Sk.ob.choose_spec, p, v, t, bs, rfl, Sk, _, rfl, _, rfl, D, kvs, bs, b, st, _, rfl, sk _ _ e12, k1, hp, m1, by omega, by omega, by omega, rw_, ?_⟩
      refine ⟨_, rfl, sizeOk (by show (2 : Nat) ≤ 100000; decide), fun u nu => ?_⟩
      obtain ⟨e5, m5⟩ := MarksTo.add (m := ((rowLen bs st b : Int), b)) ex pr kp nu
      have lx := pr.len
      rw [foundTo_len (Nat.le_of_lt kl)] at lx
      rw [← foundTo_succ hb] at m5
      exact ⟨xs, e5, sizeLt (by omega), m5⟩
    rintro H3 ⟨xs, ex, pr, kp⟩
    rw [List.length_map] at pr
    have s3 : Same H2 H3 := fun b o z => kp b o (ne_of_none z nG) z
    have lx := pr.len
    rw [foundTo_len (Nat.le_refl _)] at lx
    refine ⟨_, rfl, G, rfl, ⟨_, lstOf ex⟩, fun U nU => ?_⟩
    refine lc_list (K := K) (a := G) (xs := xs) (fun k Hk => Hk U = some (.lst (((((firsts bs st).map (rowLen bs st)).take k).map fun n => ((n : Nat) : Int)).map V.int)) ∧ Same H3 Hk) ⟨upd_same, same_upd nU⟩ (fun k Hk _ ⟨_, sk⟩ => lstOf (sk _ _ ex)) ?_ ?_
    · rintro k y Hk hk ⟨ek, sk⟩
      have kl := (List.getElem?_eq_some_iff.mp hk).1
      obtain ⟨b, hb⟩ : ∃ b, (firsts bs st)[k]? = some b := ⟨_, List.getElem?_eq_getElem (by omega)⟩
      have hf : (foundTo bs st (firsts bs st).length)[k]? = some ((rowLen bs st b : Int), b) := by
        unfold foundTo
        rw [List.take_length, List.getElem?_map, hb]
        rfl
      obtain ⟨z, rfl, ez⟩ := pr.at_ k y _ hk hf
      refine ⟨z, _, rfl, tupOf (sk _ _ ez), rfl, _, _, rfl, _, _, rfl, rfl, ?_⟩
      refine ⟨rfl, _, rfl, _, ek, ?_, ?_, samePut sk nU⟩
      · rw [List.length_map, List.length_map, List.length_take]
        exact sizeLt (by omega)
      · rw [upd_same, takeSucc (x := rowLen bs st b) (by rw [List.getElem?_map, hb]; rfl), List.map_append, List.map_append]
        rfl
    rintro H4 ⟨e4, s4⟩
    rw [lx, ← List.length_map (rowLen bs st), List.take_length] at e4
    have s04 := s0.trans (s1.trans (s2.trans (s3.trans s4)))
    have S4 := S.stay s04
    refine ⟨U, _, rfl, lstOf e4, ?_⟩
    refine ⟨_, rfl, p, _, _, rfl, S4.ob.choose_spec, p, v, t, bs, rfl, S4, t, _, rfl, .inr S4.cls, ?_⟩
    rw [List.length_map, natSum]
    have ers := s4 _ _ ex
    have pr4 : PrAt H4 xs (foundTo bs st (firsts bs st).length) := pr.stay fun a b z => s4 _ _ z
    refine ⟨_, _, rfl, rfl, _, rfl, ite2 (fun e => ?_) (fun e => ?_)⟩
    · have e' := of_decide_eq_true e
      rcases q with ⟨h, _⟩ | ⟨_, _, q⟩ | ⟨_, no, _⟩
      · exact absurd h h0
      · exact q H4 s04
      · have := noRing_le hp no
        omega
    · have e' : ¬ ((((firsts bs st).map (rowLen bs st)).sum : Nat) : Int) < ((cls bs).length : Int) := fun z => e (decide_eq_true z)
      have no : ¬ ∃ c ∈ cls bs, Ring bs st c := fun ⟨c, hc, g⟩ => by
        have := ring_lt hp hc g
        omega
      rcases q with ⟨h, _⟩ | ⟨_, g, _⟩ | ⟨_, _, q⟩
      · exact absurd h h0
      · exact absurd g no
      · refine ⟨_, rfl, G, xs, _, rfl, lstOf ers, pr4, fun z => ?_, tb.ext s04, fun r m H5 st5 tb5 hm top er => ?_⟩
        · have a := foundTo_len (bs := bs) (s := st) (Nat.le_refl (firsts bs st).length)
          rw [z] at a
          have a : 0 = (firsts bs st).length := a
          have b := noRing_le hp no
          rw [List.length_eq_zero_iff.mp a.symm] at b
          have b : (cls bs).length ≤ 0 := b
          omega
        · exact q r m H5 ((StN.of s04).trans st5) tb5 er (found_best hp no hm top)
end

end R
namespace R
open PySem PySem.Spec PyProof.Rows L2
/-! ## the law -/
open LamX hiding takes0
open NdefX
theorem own_step {bs : List Bar} (hw : 0 < wh bs) {c0 : Int} (h0 : (cls bs)[0]? = some c0) {k : Nat} (hk : k < (cls bs).length) : ∃ a b, (cls bs)[k]? = some a ∧ (cls bs ++ [c0 + (wh bs : Int)])[k + 1]? = some b ∧ (stepsTo bs (cls bs).length)[k]? = some (b - a) := by
  have ha : (cls bs)[k]? = some ((cls bs)[k]'hk) := List.getElem?_eq_getElem hk
  have ea := st_at hw ha
  have e0 := st_at hw h0
  rw [stepsTo_at hk, ea]
  by_cases l : k + 1 < (cls bs).length
  · have hb : (cls bs)[k + 1]? = some ((cls bs)[k + 1]'l) := List.getElem?_eq_getElem l
    have eb := st_at hw hb
    refine ⟨_, _, ha, by rw [List.getElem?_append_left l]; exact hb, ?_⟩
    rw [← eb]
    rfl
  · have e : k + 1 = (cls bs).length := by omega
    refine ⟨_, _, ha, by rw [List.getElem?_append_right (by omega), e, Nat.sub_self]; rfl, ?_⟩
    have := st_whole (bs := bs) (by omega) 0
    rw [Int.zero_add] at this
    rw [show (k : Int) + 1 = ((cls bs).length : Int) by omega, this, show st bs 0 = c0 from e0]
/-- the share, multiplied out -/
theorem share_mul (n w : Nat) : n / Nat.gcd n w * w = w / Nat.gcd n w * n := by
  obtain ⟨a, ha⟩ := Nat.gcd_dvd_left n w
  obtain ⟨b, hb⟩ := Nat.gcd_dvd_right n w
  generalize hg : Nat.gcd n w = g at ha hb
  rcases Nat.eq_zero_or_pos g with z | z
  · rw [z] at ha hb ⊢
    rw [Nat.zero_mul] at ha hb
    rw [ha, hb]
  · rw [ha, hb, Nat.mul_div_cancel_left _ z, Nat.mul_div_cancel_left _ z, Nat.mul_left_comm a g b, Nat.mul_left_comm b g a, Nat.mul_comm a b]
/-- the begins of the longest gaps, told by their steps -/
def begTo (bs : List Bar) (mo : Int) (k : Nat) : List Int := ((List.range k).filter fun j => decide (st bs (((j : Nat) : Int) + 1) - st bs ((j : Nat) : Int) = mo)).map fun j => (gapAt bs j).2
theorem begTo_succ {bs : List Bar} {mo : Int} {k : Nat} : begTo bs mo (k + 1) = begTo bs mo k ++ (if st bs ((k : Int) + 1) - st bs (k : Int) = mo then [(gapAt bs k).2] else []) := by
  unfold begTo
  rw [List.range_succ, List.filter_append, List.map_append]
  by_cases h : st bs ((k : Int) + 1) - st bs (k : Int) = mo
  · rw [if_pos h, show List.filter (fun j : Nat => decide (st bs ((j : Int) + 1) - st bs (j : Int) = mo)) [k] = [k] from List.filter_cons_of_pos (decide_eq_true h)]
    rfl
  · rw [if_neg h, show List.filter (fun j : Nat => decide (st bs ((j : Int) + 1) - st bs (j : Int) = mo)) [k] = [] from List.filter_cons_of_neg (fun z => h (of_decide_eq_true z))]
    rfl
theorem begTo_len (bs : List Bar) (mo : Int) (k : Nat) : (begTo bs mo k).length ≤ k := by
  unfold begTo
  rw [List.length_map]
  refine Nat.le_trans (List.length_filter_le _ _) ?_
  rw [List.length_range]
  exact Nat.le_refl _
theorem steps_mem {bs : List Bar} {n : Nat} {x : Int} : x ∈ stepsTo bs n ↔ ∃ j, j < n ∧ st bs ((j : Int) + 1) - st bs (j : Int) = x := by
  unfold stepsTo
  rw [List.mem_map]
  constructor
  · rintro ⟨j, hj, e⟩
    exact ⟨j, List.mem_range.mp hj, e⟩
  · rintro ⟨j, hj, e⟩
    exact ⟨j, List.mem_range.mpr hj, e⟩
theorem beg_mem {bs : List Bar} {mo : Int} {n : Nat} {x : Int} : x ∈ begTo bs mo n ↔ ∃ j, j < n ∧ st bs ((j : Int) + 1) - st bs (j : Int) = mo ∧ (gapAt bs j).2 = x := by
  unfold begTo
  rw [List.mem_map]
  constructor
  · rintro ⟨j, hj, e⟩
    obtain ⟨h1, h2⟩ := List.mem_filter.mp hj
    exact ⟨j, List.mem_range.mp h1, of_decide_eq_true h2, e⟩
  · rintro ⟨j, hj, e, f⟩
    exact ⟨j, List.mem_filter.mpr ⟨List.mem_range.mpr hj, decide_eq_true e⟩, f⟩
theorem gap_due {bs : List Bar} (hw : 0 < wh bs) (hn : 0 < (cls bs).length) {mo mi : Int} (mot : ∀ y, y ∈ stepsTo bs (cls bs).length → y ≤ mo)
    (mim : mi ∈ begTo bs mo (cls bs).length) (mit : ∀ y, y ∈ begTo bs mo (cls bs).length → mi ≤ y) : TopRun bs false (mo - 1, mi) := by
  obtain ⟨j, hj, e, f⟩ := beg_mem.mp mim
  refine gaps_top hw hn (List.mem_map.mpr ⟨j, List.mem_range.mpr hj, ?_⟩) fun q hq => ?_
  · show (st bs ((j : Int) + 1) - st bs (j : Int) - 1, (gapAt bs j).2) = _
    rw [e, f]
  · obtain ⟨i, hi, rfl⟩ := List.mem_map.mp hq
    have a := mot _ (steps_mem.mpr ⟨i, List.mem_range.mp hi, rfl⟩)
    show st bs ((i : Int) + 1) - st bs (i : Int) - 1 < mo - 1 ∨ (st bs ((i : Int) + 1) - st bs (i : Int) - 1 = mo - 1 ∧ mi ≤ (gapAt bs i).2)
    by_cases z : st bs ((i : Int) + 1) - st bs (i : Int) = mo
    · exact .inr ⟨by omega, mit _ (beg_mem.mpr ⟨i, List.mem_range.mp hi, z, rfl⟩)⟩
    · exact .inl (by omega)
theorem gap_none {bs : List Bar} (hw : 0 < wh bs) (hn : 0 < (cls bs).length) {mo : Int} (mot : ∀ y, y ∈ stepsTo bs (cls bs).length → y ≤ mo) (le : ¬ 1 < mo) : TopRun bs false (0, 0) := by
  refine .inl ⟨rfl, fun s b M => ?_⟩
  obtain ⟨j, hj, e⟩ := run_gap hw hn M
  have a := mot _ (steps_mem.mpr ⟨j, hj, rfl⟩)
  have b := congrArg Prod.fst e
  have b : st bs ((j : Int) + 1) - st bs (j : Int) - 1 = s := b
  have := M.s1
  omega
/-- a number in no ring begins a row -/
theorem row_of {bs : List Bar} (hp : 0 < wh bs) {s c : Int} (no : ¬ ∃ x ∈ cls bs, Ring bs s x) (hc : c ∈ cls bs) : ∃ n : Nat, n ≤ (cls bs).length ∧ RowIs bs s c n := by
  rcases in_row hp hc with g | g
  · exact absurd ⟨c, hc, g⟩ no
  · obtain ⟨b', j, hb', hj, e⟩ := rowsOf_in hp g
    obtain ⟨_, le, r⟩ := firsts_row hp hb'
    exact ⟨_, by omega, (r.drop (j := j) (by omega)).cong (y := c) (by rw [e, Int.emod_emod_of_dvd _ (Int.dvd_refl _)])⟩
theorem best_le {bs : List Bar} (hp : 0 < wh bs) {s : Int} (no : ¬ ∃ x ∈ cls bs, Ring bs s x) {m : Int × Int} (h : BestRow bs s m) : ∃ n : Nat, m.1 = (n : Int) ∧ n ≤ (cls bs).length ∧ RowIs bs s m.2 n := by
  obtain ⟨n, e, r⟩ := h.row
  obtain ⟨k, le, r2⟩ := row_of hp no h.mem
  rw [r2.one r] at le
  exact ⟨n, e, le, r⟩
theorem best_two {bs : List Bar} (hp : 0 < wh bs) {s : Int} (no : ¬ ∃ x ∈ cls bs, Ring bs s x) {m : Int × Int} (h : BestRow bs s m) {c : Int} (hc : c ∈ cls bs) (f : fitsB bs (c + s) = true) : 1 < m.1 := by
  obtain ⟨k, le, r⟩ := row_of hp no hc
  have := h.top c hc k r
  have k2 : 2 ≤ k := by
    rcases Nat.lt_or_ge k 2 with z | z
    · have o := r.off
      rcases Nat.eq_zero_or_pos k with y | y
      · rw [y, Int.natCast_zero, Int.zero_mul, Int.add_zero, (cls_mem.mp hc).2.2] at o
        cases o
      · rw [show k = 1 by omega, Int.natCast_one, Int.one_mul, f] at o
        cases o
    · exact z
  omega
section
variable {P : Program} {w : World} {K : PySem.W.Frag} {mg : Str → Option Value} {base : Heap}
theorem ok_law (T : Txt K mg) (TB : Tbs base T) : FnOk P w K mg base CX0 12 T.f_law T.fd_law ["_law_script"] (sp_lawT T) := by
  refine T.F_law.ok sc_law (fun vs H Q E h => ?_) (fun cdv A outer s H vs Q E hr h => ?_)
  · obtain ⟨a, ns, rfl, _⟩ := h
    rfl
  · obtain ⟨a, ns, rfl, hS, hl, tb0, q⟩ := h
    refine ⟨_, (pss_cons (ps_set (i := 1) sc_law.nd rfl (by first | exact .inl rfl | exact .inr rfl) (pe_call (ok_l_draws T) (hr.mono (by decide)) (by rfl) T.g_l_draws T.F_l_draws.kp T.b_l_draws .nil pass0 (pa_cons (pv 0) pa_nil)))
      (pss_cons (ps_set (i := 2) sc_law.nd rfl (by first | exact .inl rfl | exact .inr rfl) (pe_make T.mkC (ok_m_Sieve_init T) (hr.mono (by decide)) (by rfl) T.g_Sieve T.b_m_Sieve_init .nil pass0 (pa_cons (pe_call (ok_l_great T) (hr.mono (by decide)) (by rfl) T.g_l_great T.F_l_great.kp T.b_l_great .nil pass0 (pa_cons (pv 1) (pa_cons pe_int pa_nil))) pa_nil)))
      (pss_cons (ps_asg (pe_tup (pa_cons (pe_prop (pv 2) T.cl T.pp_classes (ok_m_Sieve_classes T) (hr.mono (by decide)) T.b_m_Sieve_classes .nil pass0 (by rfl)) (pa_cons (pe_prop (pv 2) T.cl T.pp_whole (ok_m_Sieve_whole T) (hr.mono (by decide)) T.b_m_Sieve_whole .nil pass0 (by rfl)) pa_nil))) (pg_tup (by rfl) (pgs_cons (pg_name (i := 3) sc_law.nd rfl (by first | exact .inl rfl | exact .inr rfl)) (pgs_cons (pg_name (i := 4) sc_law.nd rfl (by first | exact .inl rfl | exact .inr rfl)) pgs_nil))))
      (pss_cons (ps_asg (pe_call (ok_p_share T) (hr.mono (by decide)) (by rfl) T.g_p_share T.F_p_share.kp T.b_p_share .nil pass0 (pa_cons (pv 2) pa_nil)) (pg_tup (by rfl) (pgs_cons (pg_name (i := 5) sc_law.nd rfl (by first | exact .inl rfl | exact .inr rfl)) (pgs_cons (pg_name (i := 6) sc_law.nd rfl (by first | exact .inl rfl | exact .inr rfl)) pgs_nil))))
      (pss_cons (ps_if (pt_cmpR op_ne (pe_op op_mulW (pv 5) (pv 4)) (pe_op op_mulW (pv 6) (pe_callB call_len_seq (by rfl) T.z_len (by decide +kernel) (pa_cons (pv 3) pa_nil))) (nomark _)) (pss_one (ps_ret pe_bl)) pss_nil)
      (pss_cons (ps_if (pt_cmpR (op_eqD hr.units) (pv 3) (pe_tup pa_nil) (nomark _)) (pss_one (ps_ret (pe_cmpR op_eq (pe_call (ok_p_at_distance T) (hr.mono (by decide)) (by rfl) T.g_p_at_distance T.F_p_at_distance.kp T.b_p_at_distance .nil passL (pa_cons (pv 2) (pa_cons (pe_op op_add pe_int (pe_call (ok_l_pick T) (hr.mono (by decide)) (by rfl) T.g_l_pick T.F_l_pick.kp T.b_l_pick .nil pass0 (pa_cons (pv 1) (pa_cons (pe_op op_pow pe_int pe_int) pa_nil)))) pa_nil))) pe_int (nomark _)))) pss_nil)
      (pss_cons (ps_asg (pe_tup (pa_cons (pe_lst pa_nil) (pa_cons pe_dnewK pa_nil))) (pg_tup (by rfl) (pgs_cons (pg_name (i := 7) sc_law.nd rfl (by first | exact .inl rfl | exact .inr rfl)) (pgs_cons (pg_name (i := 8) sc_law.nd rfl (by first | exact .inl rfl | exact .inr rfl)) pgs_nil))))
      (pss_cons (ps_for PassesOwn.never rfl (pi_range1 (by rfl) T.z_range (pa_cons (pe_callB call_len_seq (by rfl) T.z_len (by decide +kernel) (pa_cons (pv 3) pa_nil)) pa_nil)) (pg_name (i := 9) sc_law.nd rfl (by first | exact .inl rfl | exact .inr rfl)) (pss_cons (ps_expr (pe_bm PySem.F.plainAttrs_list PySem.F.slot_list_append PySem.F.type_list_append mt_append (pv 7) (pa_cons (pe_op op_sub (pe_ix ix_tup (pe_op op_catA (pv 3) (pe_tup (pa_cons (pe_op op_add (pe_ix ix_tup (pv 3) pe_int (fun _ _ => rfl)) (pv 4)) pa_nil))) (pe_op op_add (pv 9) pe_int) (fun _ _ => rfl)) (pe_ix ix_tup (pv 3) (pv 9) (fun _ _ => rfl))) pa_nil)))
      (pss_one (ps_asg (pe_op op_add (pe_dget2 (hu_of hr) (pv 8) (pe_ix ix_list (pv 7) (pv 9) (fun _ _ => rfl)) pe_int ⟨by rfl, by rfl, by rfl, by rfl⟩) pe_int) (pg_sub (pv 8) (pe_ix ix_list (pv 7) (pv 9) (fun _ _ => rfl)) (set_dict (hu_of hr)))))))
      (pss_cons (ps_if (pt_cmpR (op_neD hr.units) (pe_call (ok_p_steps T) (hr.mono (by decide)) (by rfl) T.g_p_steps T.F_p_steps.kp T.b_p_steps .nil passL (pa_cons (pv 2) pa_nil)) (pe_lc (own := [("_law_step", 14)]) rfl sc_law.nd (pi_list (pe_callB (cr_sortedDN rfl) (by rfl) T.z_sorted (by decide +kernel) (pa_cons (pv 8) pa_nil))) (blkOk_by (N := ["_law_script", "_law_row", "_law_sieve", "_law_own", "_law_whole", "_law_one", "_law_other", "_law_rows", "_law_many", "_law_k", "_law_most", "_law_begins", "_law_a", "_law_b", "_law_step", "_law_both_there", "_law_found"]) (sc := defScope s_law) (by decide +kernel)) (fun _ _ _ _ _ => (pg_name (i := 14) sc_law.nd rfl (by first | exact .inl rfl | exact .inr rfl))) (fun _ _ _ _ _ => pts_nil) (fun _ _ _ _ _ => (pe_tup (pa_cons (pv 14) (pa_cons (pe_dget (hu_of hr) (pv 8) (pv 14) (fun _ _ => rfl)) pa_nil))))) (nomark _)) (pss_one (ps_ret pe_bl)) pss_nil)
      (pss_cons (ps_set (i := 10) sc_law.nd rfl (by first | exact .inl rfl | exact .inr rfl) (pe_callB (cr_max rfl) (by rfl) T.z_max (by decide +kernel) (pa_cons (pv 7) pa_nil)))
      (pss_cons (ps_setLc (i := 11) (own := [("_law_k", 9)]) rfl sc_law.nd rfl rfl (sw_true rfl rfl rfl (by decide +kernel)) (pi_range1 (by rfl) T.z_range (pa_cons (pe_callB (r := rLenK K) call_len_seq (by rfl) T.z_len (by decide +kernel) (pa_cons (pv 3) pa_nil)) pa_nil)) (blkOk_by (N := ["_law_script", "_law_row", "_law_sieve", "_law_own", "_law_whole", "_law_one", "_law_other", "_law_rows", "_law_many", "_law_k", "_law_most", "_law_begins", "_law_a", "_law_b", "_law_step", "_law_both_there", "_law_found"]) (sc := defScope s_law) (by decide +kernel)) (fun _ _ _ _ _ => (pg_name (i := 9) sc_law.nd rfl (by first | exact .inl rfl | exact .inr rfl))) (fun _ _ _ _ _ => (pts_one (pt_cmpR op_eq (pe_ix (r := rIxL K) ix_list (pv 7) (pv 9) (fun _ _ => rfl)) (pv 10) (nomark _)))) (fun _ _ _ _ _ => (pe_op op_mod (pe_op op_add (pe_ix (r := rIxT K) ix_tup (pv 3) (pv 9) (fun _ _ => rfl)) pe_int) (pv 4))))
      (C8.pss_cut (ps_if (pt_cmpR (op_neD hr.units) (pe_call (ok_p_longest_gap T TB) (hr.mono (by decide)) (by rfl) T.g_p_longest_gap T.F_p_longest_gap.kp T.b_p_longest_gap .nil passL (pa_cons (pv 2) pa_nil)) (pe_ifExp (pt_cmpR op_gt (pv 10) pe_int (nomark _)) (pe_tup (pa_cons (pe_op op_sub (pv 10) pe_int) (pa_cons (pe_callB (cr_min rfl) (by rfl) T.z_min (by decide +kernel) (pa_cons (pv 11) pa_nil)) pa_nil))) (pe_tup (pa_cons pe_int (pa_cons pe_int pa_nil)))) (nomark _)) (pss_one (ps_ret pe_bl)) pss_nil)
      (pss_cons (ps_par (i := 12) (j := 13) (by rfl) sc_law.nd rfl rfl (by decide) rfl rfl (pa_cons (pe_ix ix_tup (pv 3) (pe_call (ok_l_pick T) (hr.mono (by decide)) (by rfl) T.g_l_pick T.F_l_pick.kp T.b_l_pick .nil pass0 (pa_cons (pv 1) (pa_cons (pe_callB call_len_seq (by rfl) T.z_len (by decide +kernel) (pa_cons (pv 3) pa_nil)) pa_nil))) (fun _ _ => rfl)) (pa_cons (pe_ix ix_tup (pv 3) (pe_call (ok_l_pick T) (hr.mono (by decide)) (by rfl) T.g_l_pick T.F_l_pick.kp T.b_l_pick .nil pass0 (pa_cons (pv 1) (pa_cons (pe_callB call_len_seq (by rfl) T.z_len (by decide +kernel) (pa_cons (pv 3) pa_nil)) pa_nil))) (fun _ _ => rfl)) pa_nil)) (by rfl))
      (pss_cons (ps_set (i := 14) sc_law.nd rfl (by first | exact .inl rfl | exact .inr rfl) (pe_cutI (pe_op op_add (pe_op op_mod (pe_op op_sub (pv 13) (pv 12)) (pv 4)) (pe_op op_mulW (pv 4) (pe_op op_add pe_int (pe_call (ok_l_pick T) (hr.mono (by decide)) (by rfl) T.g_l_pick T.F_l_pick.kp T.b_l_pick .nil pass0 (pa_cons (pv 1) (pa_cons pe_int pa_nil))))))))
      (pss_cons (ps_setLc (i := 15) (own := [("_law_k", 9)]) rfl sc_law.nd rfl rfl (sw_true rfl rfl rfl (by decide +kernel)) (pi_tup (pv 3)) (blkOk_by (N := ["_law_script", "_law_row", "_law_sieve", "_law_own", "_law_whole", "_law_one", "_law_other", "_law_rows", "_law_many", "_law_k", "_law_most", "_law_begins", "_law_a", "_law_b", "_law_step", "_law_both_there", "_law_found"]) (sc := defScope s_law) (by decide +kernel)) (fun _ _ _ _ _ => (pg_name (i := 9) sc_law.nd rfl (by first | exact .inl rfl | exact .inr rfl))) (fun _ _ _ _ _ => (pts_one (pt_cmpR (r := rIn K false) op_in_seq (pe_op op_mod (pe_op op_add (pv 9) (pv 14)) (pv 4)) (pv 3) (by rfl)))) (fun _ _ _ _ _ => (pv 9)))
      (pss_cons (ps_if (PW.pt (pw_or (pt_cmpR op_ne (pe_call (ok_p_at_distance T) (hr.mono (by decide)) (by rfl) T.g_p_at_distance T.F_p_at_distance.kp T.b_p_at_distance .nil passL (pa_cons (pv 2) (pa_cons (pv 14) pa_nil))) (pe_callB call_len_seq (by rfl) T.z_len (by decide +kernel) (pa_cons (pv 15) pa_nil)) (nomark _)) (pw_or1 (pt_cmpR (op_eqD hr.units) (pv 15) (pe_lst pa_nil) (nomark _))))) (pss_one (ps_ret pe_bl)) pss_nil)
      (pss_cons (ps_set (i := 16) sc_law.nd rfl (by first | exact .inl rfl | exact .inr rfl) (pe_call (ok_p_longest_row T TB) (hr.mono (by decide)) (by rfl) T.g_p_longest_row T.F_p_longest_row.kp T.b_p_longest_row .nil passL (pa_cons (pv 2) (pa_cons (pv 14) pa_nil))))
      (pss_cons (ps_if (pt_cmpR op_eq (pe_op op_mod (pv 14) (pv 4)) pe_int (nomark _)) (pss_one (ps_ret (pe_cmpR op_isN (pv 16) pe_non (nomark _)))) pss_nil)
      (pss_cons (ps_if (pt_cmpR op_isN (pv 16) pe_non (nomark _)) (pss_one (ps_ret (pe_cmpR op_gt (pe_callB call_len_seq (by rfl) T.z_len (by decide +kernel) (pa_cons (pv 3) pa_nil)) pe_int (nomark _)))) pss_nil)
      (pss_one (ps_ret (pe_and (pe_callB (cr_all rfl) (by rfl) T.z_all (by decide +kernel) (pa_cons (pe_lc (own := [("_law_k", 9)]) rfl sc_law.nd (pi_range1 (by rfl) T.z_range (pa_cons (pe_ix (r := rIxT K) ix_tup (pv 16) pe_int (fun _ _ => rfl)) pa_nil)) (blkOk_by (N := ["_law_script", "_law_row", "_law_sieve", "_law_own", "_law_whole", "_law_one", "_law_other", "_law_rows", "_law_many", "_law_k", "_law_most", "_law_begins", "_law_a", "_law_b", "_law_step", "_law_both_there", "_law_found"]) (sc := defScope s_law) (by decide +kernel)) (fun _ _ _ _ _ => (pg_name (i := 9) sc_law.nd rfl (by first | exact .inl rfl | exact .inr rfl))) (fun _ _ _ _ _ => pts_nil) (fun _ _ _ _ _ => (pe_cmpR (r := rIn K false) op_in_seq (pe_op op_mod (pe_op op_add (pe_ix (r := rIxT K) ix_tup (pv 16) pe_int (fun _ _ => rfl)) (pe_op op_mulW (pv 9) (pv 14))) (pv 4)) (pv 3) (by rfl)))) pa_nil)) (pe_one (pe_cmpR op_gt (pe_ix ix_tup (pv 16) pe_int (fun _ _ => rfl)) pe_int (nomark _))))))))))))))))))))))))), ?_⟩
    refine ⟨_, rfl, a, ns, rfl, hS, fun r L H1 s1 R1 => ?_⟩
    have tb1 : Tabs (tabs T) H1 := tb0.ext s1
    refine ⟨_, rfl, r, L, 4, rfl, R1, by decide, by decide, fun v bs i H2 i4 i1 G B k2 R2 => ?_⟩
    have tb2 := tabsKp tb1 R1 k2
    have hw := G.wh i4
    have S := G.sv i4
    have hp := S.mods.pos
    have few := choices_cls S
    refine fun p dx np ndx _ => make_sieve B S np ndx fun t H3 s3 A3 => ⟨rfl, ?_⟩
    have R3 := R2.stay s3
    have tb3 := tb2.ext s3
    refine ⟨_, rfl, p, _, _, rfl, A3.ob.choose_spec, p, v, t, bs, rfl, A3, _, rfl, p, _, _, rfl, A3.ob.choose_spec, p, v, t, bs, rfl, A3, sizeOk (by show (2 : Nat) ≤ 100000; decide), fun pt npt => ?_⟩
    have s4 := same_upd npt (o := .tup [.ref t, .int (wh bs : Nat)])
    refine ⟨pt, _, rfl, tupOf upd_same, rfl, _, _, rfl, _, _, rfl, rfl, ?_⟩
    have A4 := A3.stay s4
    have R4 := R3.stay s4
    have tb4 := tb3.ext s4
    generalize upd H3 pt (.tup [.ref t, .int (wh bs : Nat)]) = H4 at s4 A4 R4 tb4
    refine ⟨_, rfl, p, v, t, bs, rfl, A4, fun u H5 s5 e5 => ?_⟩
    refine ⟨u, _, rfl, tupOf e5, rfl, _, _, rfl, _, _, rfl, rfl, ?_⟩
    have A5 := A4.stay s5
    have R5 := R4.stay s5
    have tb5 := tb4.ext s5
    have hg : Nat.gcd (cls bs).length (wh bs) ≤ wh bs := Nat.gcd_le_right _ hp
    have hd1 : (cls bs).length / Nat.gcd (cls bs).length (wh bs) ≤ (cls bs).length := Nat.div_le_self _ _
    have hd2 : wh bs / Nat.gcd (cls bs).length (wh bs) ≤ wh bs := Nat.div_le_self _ _
    refine ⟨_, rfl, _, rfl, _, _, rfl, rfl, wide_mul (a := 20) (b := 100) (by rw [Int.natAbs_natCast]; omega) (by rw [Int.natAbs_natCast]; omega) (by decide) (by decide) (by decide), ?_⟩
    refine ⟨_, rfl, _, rfl, t, _, rfl, .inr A5.cls, ?_⟩
    rw [List.length_map]
    refine ⟨_, _, rfl, rfl, wide_mul (a := 100) (b := 20) (by rw [Int.natAbs_natCast]; omega) (by rw [Int.natAbs_natCast]; omega) (by decide) (by decide) (by decide), rfl, _, rfl, ?_⟩
    have es : V.int (((cls bs).length / Nat.gcd (cls bs).length (wh bs) : Nat) * (wh bs : Int)) = V.int ((wh bs / Nat.gcd (cls bs).length (wh bs) : Nat) * ((cls bs).length : Int)) := by
      rw [← Int.natCast_mul, ← Int.natCast_mul, share_mul]
    rw [decide_eq_true es]
    refine iteF ?_
    refine ⟨_, rfl, Nat.zero_le _, fun e0 ne0 => ?_⟩
    have s6 := same_upd ne0 (o := .tup [])
    have A6 := A5.stay s6
    have R6 := R5.stay s6
    have tb6 := tb5.ext s6
    refine ⟨_, _, dpTup (l := cls bs) A6.cls, .tup (tupOf upd_same) .nil, (okD.tup (okInts _)).shaped (by decide), by decide, _, rfl, ?_⟩
    rw [eqvNilT]
    generalize upd H5 e0 (.tup []) = H6 at s6 A6 R6 tb6
    refine ite2 (fun hc => ?_) (fun hc => ?_)
    · have hc' : cls bs = [] := of_decide_eq_true hc
      refine ⟨_, rfl, _, rfl, _, _, rfl, rfl, ⟨by decide, by decide, by decide⟩, r, L, _, rfl, R6, by decide, by decide, fun k0 H7 k00 k01 k7 R7 => ?_⟩
      have p20 : (10 : Int) ^ (20 : Int).toNat = 100000000000000000000 := by decide
      have A7 := A6.keep R6 k7
      refine ⟨_, _, rfl, rfl, p, v, t, bs, _, rfl, A7, .inr ⟨1 + k0, rfl, by omega, by omega, fun H8 s8 => ⟨rfl, ?_⟩⟩⟩
      rw [show (atDTo bs (1 + k0) (cls bs).length) = [] by rw [hc']; unfold atDTo; rw [hc']; rfl]
      exact q _
    have hc' : cls bs ≠ [] := fun z => hc (decide_eq_true z)
    have hn : 0 < (cls bs).length := List.length_pos_iff.mpr hc'
    have c0 : (cls bs)[0]? = some ((cls bs)[0]'hn) := List.getElem?_eq_getElem hn
    generalize (cls bs)[0]'hn = c at c0
    refine ⟨Nat.zero_le _, fun g ng d nd => ⟨sizeOk (by show (2 : Nat) ≤ 100000; decide), fun pq npq => ?_⟩⟩
    have ne_gd : g ≠ d := ne_of_none upd_same nd
    have s7 : Same H6 (upd (upd (upd H6 g (.lst [])) d (.dK [])) pq (.tup [.ref g, .ref d])) := ((same_upd ng).trans (same_upd nd)).trans (same_upd npq)
    have eg7 := same_upd npq (o := .tup [.ref g, .ref d]) _ _ (same_upd nd (o := .dK []) _ _ (upd_same (H := H6) (a := g) (o := .lst [])))
    have ed7 := same_upd npq (o := .tup [.ref g, .ref d]) _ _ (upd_same (H := upd H6 g (.lst [])) (a := d) (o := .dK []))
    have eq7 := upd_same (H := upd (upd H6 g (.lst [])) d (.dK [])) (a := pq) (o := .tup [.ref g, .ref d])
    have nd6 : H6 d = none := (same_upd ng).free nd
    have A7 := A6.stay s7
    have R7 := R6.stay s7
    have tb7 := tb6.ext s7
    generalize upd (upd (upd H6 g (.lst [])) d (.dK [])) pq (.tup [.ref g, .ref d]) = H7 at s7 eg7 ed7 eq7 A7 R7 tb7
    refine ⟨pq, _, rfl, tupOf eq7, rfl, _, _, rfl, _, _, rfl, rfl, ?_⟩
    refine ⟨_, rfl, t, _, rfl, .inr A7.cls, ?_⟩
    rw [List.length_map]
    refine ⟨_, rfl, by omega, by omega, ?_⟩
    rw [Int.toNat_natCast]
    refine for_range (lo := 0) (n := (cls bs).length) (fun k σ Hk => ∃ (x9 x10 x11 x12 x13 x14 x15 x16 : Option V) (kvs : List (L2.Key × V)), σ = [some (.ref a), some (.ref r), some (.ref p), some (.ref t), some (.int (wh bs : Nat)), some (.int ((cls bs).length / Nat.gcd (cls bs).length (wh bs) : Nat)), some (.int (wh bs / Nat.gcd (cls bs).length (wh bs) : Nat)), some (.ref g), some (.ref d), x9, x10, x11, x12, x13, x14, x15, x16] ∧ Hk g = some (.lst (((stepsTo bs (cls bs).length).take k).map V.int)) ∧ Hk d = some (.dK kvs) ∧ Tally kvs ((stepsTo bs (cls bs).length).take k) ∧ (∀ b o, b ≠ g → b ≠ d → H6 b = some o → Hk b = some o))
      ⟨_, _, _, _, _, _, _, _, [], rfl, eg7, ed7, Tally.nil, fun b o _ _ e => s7 _ _ e⟩ ?_ ?_
    · rintro k σ Hk hk ⟨x9, x10, x11, x12, x13, x14, x15, x16, kvs, rfl, ek, dk, tk, sk⟩
      rw [Int.zero_add]
      have nn : ∀ {b o}, H6 b = some o → b ≠ g ∧ b ≠ d := fun z => ⟨ne_of_none z ng, ne_of_none z nd6⟩
      have sk6 : Same H6 Hk := fun b o z => sk b o (nn z).1 (nn z).2 z
      have Ak := A6.stay sk6
      obtain ⟨y, z, hy, hz, hs⟩ := own_step hp c0 hk
      have few2 := tk.len
      rw [List.length_take] at few2
      refine ⟨_, rfl, .inl ⟨rfl, _, lstOf ek⟩, _, rfl, _, rfl, t, _, _, _, rfl, rfl, Ak.cls, atI_nat (j := 0) (by rw [List.getElem?_map, c0]; rfl), _, rfl, _, _, rfl, rfl, sizeOk (by show (1 : Nat) ≤ 100000; decide), fun l nl => ?_⟩
      have s1' := same_upd nl (o := .tup [.int (c + (wh bs : Nat))])
      have A1 := Ak.stay s1'
      refine ⟨t, l, _, _, rfl, rfl, A1.cls, tupOf upd_same, ?_, fun e => ?_, fun _ e => absurd e (List.cons_ne_nil _ _), fun _ _ l2 nl2 => ?_⟩
      · rw [List.length_map]
        exact sizeOk (by show (cls bs).length + 1 ≤ 100000; omega)
      · exact absurd (List.map_eq_nil_iff.mp e) hc'
      have s2' := s1'.trans (same_upd nl2 (o := .tup ((cls bs).map V.int ++ [.int (c + (wh bs : Nat))])))
      have el2 := upd_same (H := upd Hk l (.tup [.int (c + (wh bs : Nat))])) (a := l2) (o := .tup ((cls bs).map V.int ++ [.int (c + (wh bs : Nat))]))
      generalize upd (upd Hk l (.tup [.int (c + (wh bs : Nat))])) l2 (.tup ((cls bs).map V.int ++ [.int (c + (wh bs : Nat))])) = Hm at s2' el2
      refine ⟨_, rfl, _, _, rfl, rfl, l2, _, _, .int z, rfl, rfl, tupOf el2, atI_nat (j := k + 1) ?_, ?_⟩
      · have := congrArg (Option.map V.int) hz
        rw [← List.getElem?_map, List.map_append] at this
        exact this
      have Am := Ak.stay s2'
      have em := s2' _ _ ek
      have dm := s2' _ _ dk
      refine ⟨_, rfl, _, rfl, t, _, _, .int y, rfl, rfl, Am.cls, atI_nat (j := k) (by rw [List.getElem?_map, hy]; rfl), _, _, rfl, rfl, g, _, _, rfl, rfl, em, sizeLt (by rw [List.length_map, List.length_take]; omega), ?_⟩
      have eG := upd_same (H := Hm) (a := g) (o := .lst (((stepsTo bs (cls bs).length).take k).map V.int ++ [.int (z - y)]))
      have at_ : (((stepsTo bs (cls bs).length).take k).map V.int ++ [V.int (z - y)]) = ((stepsTo bs (cls bs).length).take (k + 1)).map V.int := by
        rw [takeSucc hs, List.map_append]
        rfl
      have lk : ((stepsTo bs (cls bs).length).take (k + 1))[k]? = some (z - y) := by
        rw [List.getElem?_take, if_pos (Nat.lt_succ_self k)]
        exact hs
      have dG : (upd Hm g (.lst (((stepsTo bs (cls bs).length).take k).map V.int ++ [.int (z - y)]))) d = some (.dK kvs) := by
        rw [upd_ne (Ne.symm ne_gd)]
        exact dm
      rw [at_] at eG dG ⊢
      refine ⟨_, rfl, d, rfl, .inl ⟨kvs, .inl dG⟩, _, rfl, _, rfl, g, _, _, _, rfl, rfl, lstOf eG, atI_nat (j := k) (by rw [List.getElem?_map, lk]; rfl), _, DGet.k (k := Sum.inl (z - y)) dG, ?_⟩
      rw [tk.get (z - y)]
      refine ⟨_, _, rfl, rfl, _, rfl, _, rfl, _, rfl, g, _, _, _, rfl, rfl, lstOf eG, atI_nat (j := k) (by rw [List.getElem?_map, lk]; rfl), d, _, rfl, DPut.k (k := Sum.inl (z - y)) dG (sizeLt (by omega)), ?_⟩
      exact ⟨_, _, _, _, _, _, _, _, _, rfl, by rw [upd_ne ne_gd]; exact eG, upd_same, by rw [takeSucc hs]; exact tk.add (z - y), fun b o n1 n2 e => by rw [upd_ne n2, upd_ne n1]; exact s2' _ _ (sk b o n1 n2 e)⟩
    · rintro σ H9 ⟨x9, x10, x11, x12, x13, x14, x15, x16, kvs, rfl, e9, d9, t9, s9⟩
      rw [List.take_of_length_le (by rw [stepsTo_len]; exact Nat.le_refl _)] at t9 e9
      have s69 : Same H6 H9 := fun b o z => s9 b o (ne_of_none z ng) (ne_of_none z nd6) z
      have A9 := A6.stay s69
      have R9 := R6.stay s69
      have tb9 := tb6.ext s69
      obtain ⟨ks, nk, mk, ekv⟩ := id t9.ex
      refine ⟨_, rfl, p, v, t, bs, rfl, A9, .inl ⟨hc', fun Da Ha xs l sa na ea pra ta => ?_⟩⟩
      refine ⟨_, rfl, d, kvs, ks, rfl, sa _ _ d9, by rw [ekv, List.map_map]; rfl, fun ys p1 pm up np1 => ⟨p1, rfl, ⟨_, lstOf upd_same⟩, fun F nF => ?_⟩⟩
      have tal := IsTal.sorted t9 (by rw [ekv, List.map_map]; rfl) pm up
      have sb := same_upd np1 (o := .lst (ys.map V.int))
      have e1 := upd_same (H := Ha) (a := p1) (o := .lst (ys.map V.int))
      generalize upd Ha p1 (.lst (ys.map V.int)) = Hb at sb e1 nF
      have ly : ys.length ≤ 2000 := by
        rw [pm.length_eq]
        have := nodup_len nk fun x hx => (mk x).mp hx
        rw [stepsTo_len] at this
        omega
      refine lc_list (K := K) (a := p1) (xs := ys.map V.int) (fun k Hk => MarksTo Hb F ((ys.take k).map fun y => (y, (((stepsTo bs (cls bs).length).count y : Nat) : Int))) Hk) (MarksTo.start nF) (fun k Hk _ ⟨_, _, _, kp⟩ => lstOf (kp _ _ (ne_of_none e1 nF) e1)) ?_ ?_
      · rintro k y Hk hk ⟨zs, e, pr, kp⟩
        obtain ⟨y, hy, rfl⟩ := getMapInt' hk
        have ed := kp _ _ (ne_of_none (sb _ _ (sa _ _ d9)) nF) (sb _ _ (sa _ _ d9))
        have my := (tal.2 y).mp (List.mem_of_getElem? hy)
        refine ⟨rfl, _, rfl, _, rfl, _, rfl, d, _, rfl, (by rw [← t9.val my]; exact DGet.k (k := Sum.inl y) ed), ?_⟩
        refine ⟨sizeOk (by show (2 : Nat) ≤ 100000; decide), fun u nu => ?_⟩
        obtain ⟨e2, m2⟩ := MarksTo.add (m := (y, (((stepsTo bs (cls bs).length).count y : Nat) : Int))) e pr kp nu
        have lz := pr.len
        rw [List.length_map, List.length_take] at lz
        refine ⟨_, e2, sizeLt (by omega), ?_⟩
        rw [takeSucc hy, List.map_append]
        exact m2
      rintro Hc ⟨zs, e, pr, kp⟩
      rw [List.length_map, List.take_length] at pr
      have sc : Same Hb Hc := fun b o z => kp b o (ne_of_none z nF) z
      have sbc := sb.trans sc
      obtain rfl : l = ys.map fun y => (y, (((stepsTo bs (cls bs).length).count y : Nat) : Int)) := ta.one ⟨ys, tal.1, tal.2, rfl⟩
      refine ⟨_, _, dpPrL (sbc _ _ ea) (pra.stay fun a b z => sbc _ _ z), dpPrL e pr, (okPrL _).shaped (by decide), (okPrL _).shaped (by decide), _, rfl, ?_⟩
      rw [(okPrL _).eqv]
      have s9c := sa.trans sbc
      have Ac := A9.stay s9c
      have Rc := R9.stay s9c
      have tbc := tb9.ext s9c
      have ec := s9c _ _ e9
      refine iteF ⟨_, rfl, g, _, rfl, lstOf ec, by rw [stepsTo_len]; exact hn, fun mo mom mot => ?_⟩
      refine ⟨_, rfl, t, _, rfl, .inr Ac.cls, ?_⟩
      rw [List.length_map]
      refine ⟨_, rfl, by omega, by omega, fun X nX => ?_⟩
      rw [Int.toNat_natCast]
      refine lc_range (lo := 0) (n := (cls bs).length) (fun k Hk => Hk X = some (.lst ((begTo bs mo k).map V.int)) ∧ Same Hc Hk) ⟨upd_same, same_upd nX⟩ ?_ ?_
      · rintro k Hk hk ⟨ek, sk⟩
        rw [Int.zero_add]
        have Sk := Ac.stay sk
        have hcl : (cls bs)[k]? = some ((cls bs)[k]'hk) := List.getElem?_eq_getElem hk
        have ecl := st_at hp hcl
        have hst : (stepsTo bs (cls bs).length)[k]? = some (st bs ((k : Int) + 1) - st bs (k : Int)) := stepsTo_at hk
        refine ⟨rfl, _, rfl, _, rfl, g, _, _, _, rfl, rfl, lstOf (sk _ _ ec), atI_nat (j := k) (by rw [List.getElem?_map, hst]; rfl), _, rfl, rfl, _, rfl, ?_⟩
        have bl := begTo_len bs mo k
        refine ite2 (fun e => ?_) (fun e => ?_)
        · have e' := V.int.inj (of_decide_eq_true e)
          refine ⟨_, rfl, _, rfl, t, _, _, _, rfl, rfl, Sk.cls, atI_nat (j := k) (by rw [List.getElem?_map, hcl]; rfl), _, _, rfl, rfl, _, rfl, _, _, rfl, rfl, by show (0 : Int) < (wh bs : Int); omega, ?_⟩
          refine ⟨_, ek, ?_, ?_, samePut sk nX⟩
          · rw [List.length_map]
            exact sizeLt (by omega)
          · rw [upd_same, begTo_succ, if_pos e', List.map_append]
            unfold gapAt
            rw [ecl]
            rfl
        · have e' : ¬ st bs ((k : Int) + 1) - st bs (k : Int) = mo := fun z => e (decide_eq_true (congrArg V.int z))
          refine ⟨?_, sk⟩
          rw [ek, begTo_succ, if_neg e', List.append_nil]
      rintro Hd ⟨eX, sd⟩
      have Ad := Ac.stay sd
      have Rd := Rc.stay sd
      have tbd := tbc.ext sd
      refine ⟨fun σ H' => ∃ x9 x10 x11 x12 x13 x14 x15 x16 : Option V, σ = [some (.ref a), some (.ref r), some (.ref p), some (.ref t), some (.int (wh bs : Nat)), some (.int ((cls bs).length / Nat.gcd (cls bs).length (wh bs) : Nat)), some (.int (wh bs / Nat.gcd (cls bs).length (wh bs) : Nat)), some (.ref g), some (.ref d), x9, x10, x11, x12, x13, x14, x15, x16] ∧ RowAt H' r L ∧ Tabs (tabs T) H' ∧ SvAt K T.C H' p v t bs, ?_, ?_⟩
      · refine ⟨_, rfl, p, v, t, bs, rfl, Ad, tbd, .inl ⟨hc', fun q1 m1 He st1 tbe f1 top1 => ?_⟩⟩
        have Ae := Ad.stn st1
        have Re := Rd.stn st1
        refine ⟨_, rfl, _, _, rfl, rfl, _, rfl, ite2 (fun e => ?_) (fun e => ?_)⟩
        · have bne : 0 < (begTo bs mo (cls bs).length).length := by
            obtain ⟨j, hj, ej⟩ := steps_mem.mp mom
            exact List.length_pos_of_mem (beg_mem.mpr ⟨j, hj, ej, rfl⟩)
          refine ⟨_, rfl, _, _, rfl, rfl, _, rfl, X, _, rfl, lstOf (st1.lst eX), bne, fun mi mim mit => ⟨sizeOk (by show (2 : Nat) ≤ 100000; decide), fun u nu => ?_⟩⟩
          obtain rfl := top1.one (gap_due hp hn mot mim mit)
          have su := same_upd nu (o := .tup [.int (mo - 1), .int mi])
          refine ⟨_, _, dpPr1 (su _ _ f1), dpPr1 (m := (mo - 1, mi)) upd_same, (okPr1 _).shaped (by decide), (okPr1 _).shaped (by decide), _, rfl, ?_⟩
          rw [(okPr1 _).eqv]
          exact iteF ⟨_, _, _, _, _, _, _, _, rfl, Re.stay su, tbe.ext su, Ae.stay su⟩
        · refine ⟨sizeOk (by show (2 : Nat) ≤ 100000; decide), fun u nu => ?_⟩
          obtain rfl := top1.one (gap_none hp hn mot fun z => e (decide_eq_true z))
          have su := same_upd nu (o := .tup [.int 0, .int 0])
          refine ⟨_, _, dpPr1 (su _ _ f1), dpPr1 (m := (0, 0)) upd_same, (okPr1 _).shaped (by decide), (okPr1 _).shaped (by decide), _, rfl, ?_⟩
          rw [(okPr1 _).eqv]
          exact iteF ⟨_, _, _, _, _, _, _, _, rfl, Re.stay su, tbe.ext su, Ae.stay su⟩
      rintro σ H10 ⟨x9, x10, x11, x12, x13, x14, x15, x16, rfl, R10, tb10, A10⟩
      have nl : 0 < ((cls bs).length : Int) := by omega
      refine ⟨_, rfl, _, rfl, _, rfl, t, _, rfl, .inr A10.cls, ?_⟩
      rw [List.length_map]
      refine ⟨r, L, _, rfl, R10, nl, by omega, fun z1 H11 z10 z11 k11 R11 => ?_⟩
      have A11 := A10.keep R10 k11
      have tb11 := tabsKp tb10 R10 k11
      obtain ⟨ca, ha⟩ : ∃ ca, (cls bs)[z1.toNat]? = some ca := ⟨_, List.getElem?_eq_getElem (by omega)⟩
      have h1 : z1 = ((z1.toNat : Nat) : Int) := by omega
      refine ⟨t, _, z1, _, rfl, rfl, A11.cls, (by rw [h1]; exact atI_nat (by rw [List.getElem?_map, ha]; rfl)), ?_⟩
      refine ⟨_, rfl, _, rfl, _, rfl, t, _, rfl, .inr A11.cls, ?_⟩
      rw [List.length_map]
      refine ⟨r, L, _, rfl, R11, nl, by omega, fun z2 H12 z20 z21 k12 R12 => ?_⟩
      have A12 := A11.keep R11 k12
      have tb12 := tabsKp tb11 R11 k12
      obtain ⟨cb, hb⟩ : ∃ cb, (cls bs)[z2.toNat]? = some cb := ⟨_, List.getElem?_eq_getElem (by omega)⟩
      have h2 : z2 = ((z2.toNat : Nat) : Int) := by omega
      refine ⟨t, _, z2, _, rfl, rfl, A12.cls, (by rw [h2]; exact atI_nat (by rw [List.getElem?_map, hb]; rfl)), _, _, rfl, ?_⟩
      have am := List.mem_of_getElem? ha
      have bm := List.mem_of_getElem? hb
      have aw := cls_mem.mp am
      have bw := cls_mem.mp bm
      refine ⟨_, rfl, _, rfl, _, _, rfl, rfl, _, rfl, _, _, rfl, rfl, by show (0 : Int) < (wh bs : Int); omega, ?_⟩
      refine ⟨_, rfl, _, rfl, r, L, 3, rfl, R12, by decide, by decide, fun k0 H13 k00 k01 k13 R13 => ⟨_, _, rfl, rfl, _, _, rfl, rfl, wide_mul (a := 100) (b := 10) (by rw [Int.natAbs_natCast]; omega) (by omega) (by decide) (by decide) (by decide), ?_⟩⟩
      have A13 := A12.keep R12 k13
      have tb13 := tabsKp tb12 R12 k13
      obtain ⟨st, est⟩ : ∃ st : Int, st = (cb - ca) % (wh bs : Int) + (wh bs : Int) * (1 + k0) := ⟨_, rfl⟩
      have d0 := Int.emod_nonneg (cb - ca) (show (wh bs : Int) ≠ 0 by omega)
      have d1 := Int.emod_lt_of_pos (cb - ca) (show (0 : Int) < (wh bs : Int) by omega)
      have wk1 : (wh bs : Int) * 1 ≤ (wh bs : Int) * (1 + k0) := Int.mul_le_mul_of_nonneg_left (by omega) (by omega)
      have wk2 : (wh bs : Int) * (1 + k0) ≤ (wh bs : Int) * 3 := Int.mul_le_mul_of_nonneg_left (by omega) (by omega)
      have st1 : 1 ≤ st := by omega
      have st2 : st ≤ 1000000000000000000000000000000 := by omega
      have ab : (ca + st) % (wh bs : Int) = cb % (wh bs : Int) := by
        refine Int.emod_eq_emod_iff_emod_sub_eq_zero.mpr (Int.emod_eq_zero_of_dvd ⟨1 + k0 - (cb - ca) / (wh bs : Int), ?_⟩)
        have e := Int.mul_ediv_add_emod (cb - ca) (wh bs : Int)
        rw [Int.mul_sub, est]
        omega
      have stw : st % (wh bs : Int) = (cb - ca) % (wh bs : Int) := by
        rw [est, Int.add_mul_emod_self_left, Int.emod_emod_of_dvd _ (Int.dvd_refl _)]
      have fab : fitsB bs (ca + st) = true := by
        rw [fits_cong ab]
        exact bw.2.2
      refine ⟨_, _, rfl, rfl, st, congrArg V.int est.symm, ?_⟩
      clear est
      refine ⟨_, rfl, t, rfl, ⟨_, A13.cls⟩, fun Y nY => ?_⟩
      refine lc_tup (K := K) (a := t) (xs := (cls bs).map V.int) (fun k Hk => Hk Y = some (.lst ((atDTo bs st k).map V.int)) ∧ Same H13 Hk) ⟨upd_same, same_upd nY⟩ (fun k Hk _ ⟨_, sk⟩ => (A13.stay sk).cls) ?_ ?_
      · rintro k y Hk hk ⟨ek, sk⟩
        obtain ⟨c', hc2, rfl⟩ := getMapInt' hk
        have Sk := A13.stay sk
        refine ⟨rfl, _, rfl, _, rfl, _, _, rfl, rfl, _, rfl, _, _, rfl, rfl, by show (0 : Int) < (wh bs : Int); omega, ?_⟩
        refine ⟨_, rfl, t, _, rfl, .inr Sk.cls, rfl, flatInts _, _, rfl, ?_⟩
        have ein : inV (.int ((c' + st) % (wh bs : Int))) ((cls bs).map V.int) = fitsB bs (c' + st) := by rw [inVInt, fits_cls hp]
        refine ite2 (fun e => ?_) (fun e => ?_)
        · have e' : fitsB bs (c' + st) = true := ein.symm.trans e
          refine ⟨_, rfl, _, ek, ?_, ?_, samePut sk nY⟩
          · rw [List.length_map]
            have := atDTo_len bs st k
            exact sizeLt (by omega)
          · rw [upd_same, atDTo_succ hc2, if_pos e', List.map_append]
            rfl
        · have e' : ¬ fitsB bs (c' + st) = true := fun z => e (ein.trans z)
          refine ⟨?_, sk⟩
          rw [ek, atDTo_succ hc2, if_neg e', List.append_nil]
      rintro H14 ⟨eY, s14⟩
      rw [List.length_map] at eY
      have A14 := A13.stay s14
      have tb14 := tb13.ext s14
      refine ⟨_, rfl, _, rfl, p, v, t, bs, _, rfl, A14, .inr ⟨st, rfl, st1, st2, fun H15 s15 => ?_⟩⟩
      have eY15 := s15 _ _ eY
      refine ⟨_, rfl, Y, _, rfl, .inl (lstOf eY15), ?_⟩
      rw [List.length_map]
      refine ⟨rfl, _, rfl, ?_⟩
      rw [decide_eq_true rfl]
      refine iteF ⟨_, rfl, Nat.zero_le _, fun e0 ne0 => ?_⟩
      have s16 := same_upd ne0 (o := .lst [])
      have A16 := (A14.stay s15).stay s16
      have tb16 := (tb14.ext s15).ext s16
      refine ⟨_, _, dpLst (l := atDTo bs st (cls bs).length) (lstOf (s16 _ _ eY15)), .lst (lstOf upd_same) .nil, (okD.lst (okInts _)).shaped (by decide), by decide, _, rfl, ?_⟩
      rw [eqvNil]
      have nonil : ¬ atDTo bs st (cls bs).length = [] := fun z => by
        have m : ca ∈ atDTo bs st (cls bs).length := by
          unfold atDTo
          rw [List.take_length]
          exact List.mem_filter.mpr ⟨am, fab⟩
        rw [z] at m
        cases m
      rw [decide_eq_false nonil]
      generalize upd H15 e0 (.lst []) = H16 at s16 A16 tb16
      refine iteF ⟨_, rfl, _, rfl, p, v, t, bs, _, rfl, A16, tb16, .inr ⟨st, rfl, st1, st2, ?_⟩⟩
      by_cases ring : ∃ c ∈ cls bs, Ring bs st c
      · refine .inr (.inl ⟨hc', ring, fun H17 s17 => ?_⟩)
        have A17 := A16.stay s17
        refine ⟨_, rfl, _, rfl, _, _, rfl, rfl, by show (0 : Int) < (wh bs : Int); omega, rfl, _, rfl, ite2 (fun e => ?_) (fun e => ?_)⟩
        · refine ⟨_, rfl, rfl, ?_⟩
          show Q (.bl (decide (V.non = V.non))) _
          rw [decide_eq_true rfl]
          exact q _
        · refine ⟨_, rfl, rfl, _, rfl, iteT ⟨_, rfl, t, _, rfl, .inr A17.cls, ?_⟩⟩
          rw [List.length_map]
          have two : 2 ≤ (cls bs).length := by
            have ne : ca ≠ cb := fun z => e (decide_eq_true (congrArg V.int (by
              show st % (wh bs : Int) = 0
              rw [stw, z, Int.sub_self, Int.zero_emod])))
            have := nodup_len (xs := [ca, cb]) (ys := cls bs) (by simp [ne]) (fun x hx => by
              rcases List.mem_cons.mp hx with rfl | hx
              · exact am
              · rw [List.mem_singleton.mp hx]
                exact bm)
            exact this
          refine ⟨_, _, rfl, rfl, ?_⟩
          show Q (.bl (decide ((1 : Int) < ((cls bs).length : Int)))) _
          rw [decide_eq_true (by omega)]
          exact q _
      · refine .inr (.inr ⟨hc', ring, fun u m H17 st17 tb17 e17 best => ?_⟩)
        have zn : ¬ st % (wh bs : Int) = 0 := fun z => ring ⟨ca, am, fun i => by
          rw [fits_cong (y := ca)]
          · exact aw.2.2
          · obtain ⟨q, hq⟩ := Int.dvd_of_emod_eq_zero z
            refine Int.emod_eq_emod_iff_emod_sub_eq_zero.mpr (Int.emod_eq_zero_of_dvd ⟨(i : Int) * q, ?_⟩)
            rw [hq, Int.mul_left_comm]
            omega⟩
        have A17 := A16.stn st17
        obtain ⟨n, en, nle, rn⟩ := best_le hp ring best
        have two := best_two hp ring best am fab
        have bst := cls_mem.mp best.mem
        obtain ⟨m1, m2⟩ := m
        simp only at en two rn bst e17
        subst en
        refine ⟨_, rfl, _, rfl, _, _, rfl, rfl, by show (0 : Int) < (wh bs : Int); omega, rfl, _, rfl, ?_⟩
        rw [decide_eq_false (show ¬ V.int (st % (wh bs : Int)) = V.int 0 from fun z => zn (V.int.inj z))]
        refine iteF ⟨_, rfl, rfl, _, rfl, ?_⟩
        refine iteF ⟨_, rfl, u, _, _, _, rfl, rfl, tupOf e17, atI_nat (j := 0) rfl, _, rfl, by omega, by omega, fun Z nZ => ?_⟩
        rw [Int.toNat_natCast]
        refine lc_range (lo := 0) (n := n) (fun k Hk => Hk Z = some (.lst ((List.replicate k true).map V.bl)) ∧ Same H17 Hk) ⟨upd_same, same_upd nZ⟩ ?_ ?_
        · rintro k Hk hk ⟨ek, sk⟩
          rw [Int.zero_add]
          have Sk := A17.stay sk
          refine ⟨rfl, _, rfl, u, _, _, _, rfl, rfl, tupOf (sk _ _ e17), atI_nat (j := 1) rfl, _, rfl, _, rfl, _, _, rfl, rfl, wide_mul (a := 20) (b := 150) (by rw [Int.natAbs_natCast]; omega) (by omega) (by decide) (by decide) (by decide), _, _, rfl, rfl, _, rfl, _, _, rfl, rfl, by show (0 : Int) < (wh bs : Int); omega, ?_⟩
          refine ⟨_, rfl, t, _, rfl, .inr Sk.cls, rfl, flatInts _, ?_⟩
          have ein : inV (.int ((m2 + (k : Int) * st) % (wh bs : Int))) ((cls bs).map V.int) = true := by
            rw [inVInt, fits_cls hp]
            exact rn.run k hk
          refine ⟨_, ek, ?_, ?_, samePut sk nZ⟩
          · rw [List.length_map, List.length_replicate]
            exact sizeLt (by omega)
          · rw [upd_same, List.replicate_succ', List.map_append]
            show some (HO.lst (_ ++ [V.bl (inV (.int ((m2 + (k : Int) * st) % (wh bs : Int))) ((cls bs).map V.int))])) = _
            rw [ein]
            rfl
        · rintro H18 ⟨eZ, s18⟩
          refine ⟨Z, _, rfl, lstOf eZ, ?_⟩
          have all_ : (List.replicate n true).all id = true := List.all_eq_true.mpr fun x hx => (List.mem_replicate.mp hx).2
          rw [all_]
          refine ⟨true, rfl, iteT ?_⟩
          refine ⟨_, rfl, u, _, _, _, rfl, rfl, tupOf (s18 _ _ e17), atI_nat (j := 0) rfl, _, _, rfl, rfl, ?_⟩
          show Q (.bl (decide ((1 : Int) < (n : Int)))) _
          rw [decide_eq_true two]
          exact q _
end

end R
namespace R
open PySem PySem.Spec PyProof.Rows L2
theorem kit_ref {K : PySem.W.Frag} {C : Addr} {t : Value} (h1 : PySem.W.hasDictIn K C = true) (h2 : PySem.W.typeIn K (.ref C) = some (.type "type")) (h3 : PySem.W.subIn K t (.ref C) = some true) : PySem.W.kitOne K t (.ref C) = some true := by
  obtain ⟨cd, hc, _⟩ := PySem.W.any_some h1
  unfold PySem.W.kitOne
  split
  · rfl
  · show (if ((PySem.W.clsIn K C).isSome && PySem.W.typeIn K (.ref C) == some (.type "type")) = true then PySem.W.subIn K t (.ref C) else none) = some true
    rw [hc, h2]
    exact h3
theorem all_mk {l : PySem.W.OpenLaw} {w : World} {K : PySem.W.Frag} {h : Heap} {mg : Str → Option Value} {fa : Addr} (X : K.In h) (G : h.Ns mainGlobals mg) (hfa : mg "law" = some (.ref fa)) (own : ∀ y ∈ (["longest"] : List Str), ∀ f, mg y = some (.ref f) → LamX.OwnTab K f h)
    {f0 : Addr} {oc0 kV0 dc0 pm0 cd0 ct0 : Value} {od0 an0 : Option Addr} {sl0 : Array (Option Value)}
    (a0 : PySem.W.nsIn K mainGlobals "is_integer" = some (some (.ref f0)))
    {f1 : Addr} {oc1 kV1 dc1 pm1 cd1 ct1 : Value} {od1 an1 : Option Addr} {sl1 : Array (Option Value)}
    (a1 : PySem.W.nsIn K mainGlobals "integer_within" = some (some (.ref f1)))
    {f2 : Addr} {oc2 kV2 dc2 pm2 cd2 ct2 : Value} {od2 an2 : Option Addr} {sl2 : Array (Option Value)}
    (a2 : PySem.W.nsIn K mainGlobals "is_ascending" = some (some (.ref f2)))
    {f3 : Addr} {oc3 kV3 dc3 pm3 cd3 ct3 : Value} {od3 an3 : Option Addr} {sl3 : Array (Option Value)}
    (a3 : PySem.W.nsIn K mainGlobals "is_lot" = some (some (.ref f3)))
    {f4 : Addr} {oc4 kV4 dc4 pm4 cd4 ct4 : Value} {od4 an4 : Option Addr} {sl4 : Array (Option Value)}
    (a4 : PySem.W.nsIn K mainGlobals "is_pair" = some (some (.ref f4)))
    {f5 : Addr} {oc5 kV5 dc5 pm5 cd5 ct5 : Value} {od5 an5 : Option Addr} {sl5 : Array (Option Value)}
    (a5 : PySem.W.nsIn K mainGlobals "is_bar" = some (some (.ref f5)))
    {f6 : Addr} {oc6 kV6 dc6 pm6 cd6 ct6 : Value} {od6 an6 : Option Addr} {sl6 : Array (Option Value)}
    (a6 : PySem.W.nsIn K mainGlobals "check_some" = some (some (.ref f6)))
    {f7 : Addr} {oc7 kV7 dc7 pm7 cd7 ct7 : Value} {od7 an7 : Option Addr} {sl7 : Array (Option Value)}
    (a7 : PySem.W.nsIn K mainGlobals "standing_at" = some (some (.ref f7)))
    {f8 : Addr} {oc8 kV8 dc8 pm8 cd8 ct8 : Value} {od8 an8 : Option Addr} {sl8 : Array (Option Value)}
    (a8 : PySem.W.nsIn K mainGlobals "steps_in_order" = some (some (.ref f8)))
    {f9 : Addr} {oc9 kV9 dc9 pm9 cd9 ct9 : Value} {od9 an9 : Option Addr} {sl9 : Array (Option Value)}
    (a9 : PySem.W.nsIn K mainGlobals "steps" = some (some (.ref f9)))
    {f10 : Addr} {oc10 kV10 dc10 pm10 cd10 ct10 : Value} {od10 an10 : Option Addr} {sl10 : Array (Option Value)}
    (a10 : PySem.W.nsIn K mainGlobals "longest" = some (some (.ref f10)))
    {f11 : Addr} {oc11 kV11 dc11 pm11 cd11 ct11 : Value} {od11 an11 : Option Addr} {sl11 : Array (Option Value)}
    (a11 : PySem.W.nsIn K mainGlobals "longest_gap" = some (some (.ref f11)))
    {f12 : Addr} {oc12 kV12 dc12 pm12 cd12 ct12 : Value} {od12 an12 : Option Addr} {sl12 : Array (Option Value)}
    (a12 : PySem.W.nsIn K mainGlobals "check_step" = some (some (.ref f12)))
    {f13 : Addr} {oc13 kV13 dc13 pm13 cd13 ct13 : Value} {od13 an13 : Option Addr} {sl13 : Array (Option Value)}
    (a13 : PySem.W.nsIn K mainGlobals "at_distance" = some (some (.ref f13)))
    {f14 : Addr} {oc14 kV14 dc14 pm14 cd14 ct14 : Value} {od14 an14 : Option Addr} {sl14 : Array (Option Value)}
    (a14 : PySem.W.nsIn K mainGlobals "row_from" = some (some (.ref f14)))
    {f15 : Addr} {oc15 kV15 dc15 pm15 cd15 ct15 : Value} {od15 an15 : Option Addr} {sl15 : Array (Option Value)}
    (a15 : PySem.W.nsIn K mainGlobals "longest_row" = some (some (.ref f15)))
    {f16 : Addr} {oc16 kV16 dc16 pm16 cd16 ct16 : Value} {od16 an16 : Option Addr} {sl16 : Array (Option Value)}
    (a16 : PySem.W.nsIn K mainGlobals "inverse" = some (some (.ref f16)))
    {f17 : Addr} {oc17 kV17 dc17 pm17 cd17 ct17 : Value} {od17 an17 : Option Addr} {sl17 : Array (Option Value)}
    (a17 : PySem.W.nsIn K mainGlobals "joined" = some (some (.ref f17)))
    {f18 : Addr} {oc18 kV18 dc18 pm18 cd18 ct18 : Value} {od18 an18 : Option Addr} {sl18 : Array (Option Value)}
    (a18 : PySem.W.nsIn K mainGlobals "classes_of" = some (some (.ref f18)))
    {f19 : Addr} {oc19 kV19 dc19 pm19 cd19 ct19 : Value} {od19 an19 : Option Addr} {sl19 : Array (Option Value)}
    (a19 : PySem.W.nsIn K mainGlobals "check_bars" = some (some (.ref f19)))
    {f20 : Addr} {oc20 kV20 dc20 pm20 cd20 ct20 : Value} {od20 an20 : Option Addr} {sl20 : Array (Option Value)}
    (a20 : PySem.W.nsIn K mainGlobals "whole_of" = some (some (.ref f20)))
    {f21 : Addr} {oc21 kV21 dc21 pm21 cd21 ct21 : Value} {od21 an21 : Option Addr} {sl21 : Array (Option Value)}
    (a21 : PySem.W.nsIn K mainGlobals "check_choices" = some (some (.ref f21)))
    {f22 : Addr} {oc22 kV22 dc22 pm22 cd22 ct22 : Value} {od22 an22 : Option Addr} {sl22 : Array (Option Value)}
    (a22 : PySem.W.nsIn K mainGlobals "share" = some (some (.ref f22)))
    {f23 : Addr} {oc23 kV23 dc23 pm23 cd23 ct23 : Value} {od23 an23 : Option Addr} {sl23 : Array (Option Value)}
    (a23 : PySem.W.nsIn K mainGlobals "_law_draws" = some (some (.ref f23)))
    {f24 : Addr} {oc24 kV24 dc24 pm24 cd24 ct24 : Value} {od24 an24 : Option Addr} {sl24 : Array (Option Value)}
    (a24 : PySem.W.nsIn K mainGlobals "_law_pick" = some (some (.ref f24)))
    {f25 : Addr} {oc25 kV25 dc25 pm25 cd25 ct25 : Value} {od25 an25 : Option Addr} {sl25 : Array (Option Value)}
    (a25 : PySem.W.nsIn K mainGlobals "_law_great" = some (some (.ref f25)))
    {f26 : Addr} {oc26 kV26 dc26 pm26 cd26 ct26 : Value} {od26 an26 : Option Addr} {sl26 : Array (Option Value)}
    (a26 : PySem.W.nsIn K mainGlobals "law" = some (some (.ref f26)))
    {f27 : Addr} {oc27 kV27 dc27 pm27 cd27 ct27 : Value} {od27 an27 : Option Addr} {sl27 : Array (Option Value)}
    {f28 : Addr} {oc28 kV28 dc28 pm28 cd28 ct28 : Value} {od28 an28 : Option Addr} {sl28 : Array (Option Value)}
    {f29 : Addr} {oc29 kV29 dc29 pm29 cd29 ct29 : Value} {od29 an29 : Option Addr} {sl29 : Array (Option Value)}
    {f30 : Addr} {oc30 kV30 dc30 pm30 cd30 ct30 : Value} {od30 an30 : Option Addr} {sl30 : Array (Option Value)}
    {f31 : Addr} {oc31 kV31 dc31 pm31 cd31 ct31 : Value} {od31 an31 : Option Addr} {sl31 : Array (Option Value)}
    {C : Addr} {pB pW pC : Addr} {rB rW rC : List Value}
    (aC : PySem.W.nsIn K mainGlobals "Sieve" = some (some (.ref C)))
    (mI : PySem.W.findIn K (.ref C) "__init__" = some (some (.ref f27)))
    (iI : PySem.W.isFn K (.ref f27) = true)
    (mE : PySem.W.findIn K (.ref C) "__eq__" = some (some (.ref f28)))
    (pg : PySem.W.plainGet K C Str.empty = true)
    (hd : PySem.W.hasDictIn K C = true)
    (po : PySem.W.plainOver K C = true)
    (sa : PySem.W.findIn K (.ref C) "__setattr__" = some (some (.builtin "object.__setattr__")))
    (mk : PySem.W.makesIn K C = true)
    (kc : PySem.W.keepIn K (.ref C) = true)
    (n_bars : PySem.W.findIn K (.ref C) "_bars" = some none)
    (n_whole : PySem.W.findIn K (.ref C) "_whole" = some none)
    (n_classes : PySem.W.findIn K (.ref C) "_classes" = some none)
    (q1B : PySem.W.findIn K (.ref C) "bars" = some (some (.ref pB)))
    (q2B : PySem.W.specialIn K (.ref pB) "__get__" = some (some (.builtin "property.__get__")))
    (q3B : PySem.W.takesIn K (.ref pB) = some true)
    (q4B : PySem.W.recIn K pB "property" = some (.ref f29 :: rB))
    (q1W : PySem.W.findIn K (.ref C) "whole" = some (some (.ref pW)))
    (q2W : PySem.W.specialIn K (.ref pW) "__get__" = some (some (.builtin "property.__get__")))
    (q3W : PySem.W.takesIn K (.ref pW) = some true)
    (q4W : PySem.W.recIn K pW "property" = some (.ref f30 :: rW))
    (q1C : PySem.W.findIn K (.ref C) "classes" = some (some (.ref pC)))
    (q2C : PySem.W.specialIn K (.ref pC) "__get__" = some (some (.builtin "property.__get__")))
    (q3C : PySem.W.takesIn K (.ref pC) = some true)
    (q4C : PySem.W.recIn K pC "property" = some (.ref f31 :: rC))
    (l0 : K.lookup f0 = some ⟨oc0, od0, .func (PySem.W.fnOf "is_integer" "is_integer" (defArgs s_p_is_integer) (defBody s_p_is_integer) (defScope s_p_is_integer) .none kV0 dc0 pm0 an0 cd0 ct0), sl0⟩)
    (d0 : PySem.W.codeIn K cd0 "is_integer" = true)
    (k0 : PySem.W.keepIn K (.ref f0) = true)
    (l1 : K.lookup f1 = some ⟨oc1, od1, .func (PySem.W.fnOf "integer_within" "integer_within" (defArgs s_p_integer_within) (defBody s_p_integer_within) (defScope s_p_integer_within) .none kV1 dc1 pm1 an1 cd1 ct1), sl1⟩)
    (d1 : PySem.W.codeIn K cd1 "integer_within" = true)
    (k1 : PySem.W.keepIn K (.ref f1) = true)
    (l2 : K.lookup f2 = some ⟨oc2, od2, .func (PySem.W.fnOf "is_ascending" "is_ascending" (defArgs s_p_is_ascending) (defBody s_p_is_ascending) (defScope s_p_is_ascending) .none kV2 dc2 pm2 an2 cd2 ct2), sl2⟩)
    (d2 : PySem.W.codeIn K cd2 "is_ascending" = true)
    (k2 : PySem.W.keepIn K (.ref f2) = true)
    (l3 : K.lookup f3 = some ⟨oc3, od3, .func (PySem.W.fnOf "is_lot" "is_lot" (defArgs s_p_is_lot) (defBody s_p_is_lot) (defScope s_p_is_lot) .none kV3 dc3 pm3 an3 cd3 ct3), sl3⟩)
    (d3 : PySem.W.codeIn K cd3 "is_lot" = true)
    (k3 : PySem.W.keepIn K (.ref f3) = true)
    (l4 : K.lookup f4 = some ⟨oc4, od4, .func (PySem.W.fnOf "is_pair" "is_pair" (defArgs s_p_is_pair) (defBody s_p_is_pair) (defScope s_p_is_pair) .none kV4 dc4 pm4 an4 cd4 ct4), sl4⟩)
    (d4 : PySem.W.codeIn K cd4 "is_pair" = true)
    (k4 : PySem.W.keepIn K (.ref f4) = true)
    (l5 : K.lookup f5 = some ⟨oc5, od5, .func (PySem.W.fnOf "is_bar" "is_bar" (defArgs s_p_is_bar) (defBody s_p_is_bar) (defScope s_p_is_bar) .none kV5 dc5 pm5 an5 cd5 ct5), sl5⟩)
    (d5 : PySem.W.codeIn K cd5 "is_bar" = true)
    (k5 : PySem.W.keepIn K (.ref f5) = true)
    (l6 : K.lookup f6 = some ⟨oc6, od6, .func (PySem.W.fnOf "check_some" "check_some" (defArgs s_p_check_some) (defBody s_p_check_some) (defScope s_p_check_some) .none kV6 dc6 pm6 an6 cd6 ct6), sl6⟩)
    (d6 : PySem.W.codeIn K cd6 "check_some" = true)
    (k6 : PySem.W.keepIn K (.ref f6) = true)
    (l7 : K.lookup f7 = some ⟨oc7, od7, .func (PySem.W.fnOf "standing_at" "standing_at" (defArgs s_p_standing_at) (defBody s_p_standing_at) (defScope s_p_standing_at) .none kV7 dc7 pm7 an7 cd7 ct7), sl7⟩)
    (d7 : PySem.W.codeIn K cd7 "standing_at" = true)
    (k7 : PySem.W.keepIn K (.ref f7) = true)
    (l8 : K.lookup f8 = some ⟨oc8, od8, .func (PySem.W.fnOf "steps_in_order" "steps_in_order" (defArgs s_p_steps_in_order) (defBody s_p_steps_in_order) (defScope s_p_steps_in_order) .none kV8 dc8 pm8 an8 cd8 ct8), sl8⟩)
    (d8 : PySem.W.codeIn K cd8 "steps_in_order" = true)
    (k8 : PySem.W.keepIn K (.ref f8) = true)
    (l9 : K.lookup f9 = some ⟨oc9, od9, .func (PySem.W.fnOf "steps" "steps" (defArgs s_p_steps) (defBody s_p_steps) (defScope s_p_steps) .none kV9 dc9 pm9 an9 cd9 ct9), sl9⟩)
    (d9 : PySem.W.codeIn K cd9 "steps" = true)
    (k9 : PySem.W.keepIn K (.ref f9) = true)
    (l10 : K.lookup f10 = some ⟨oc10, od10, .func (PySem.W.fnOf "longest" "longest" (defArgs s_p_longest) (defBody s_p_longest) (defScope s_p_longest) .none kV10 dc10 pm10 an10 cd10 ct10), sl10⟩)
    (d10 : PySem.W.codeIn K cd10 "longest" = true)
    (k10 : PySem.W.keepIn K (.ref f10) = true)
    (l11 : K.lookup f11 = some ⟨oc11, od11, .func (PySem.W.fnOf "longest_gap" "longest_gap" (defArgs s_p_longest_gap) (defBody s_p_longest_gap) (defScope s_p_longest_gap) .none kV11 dc11 pm11 an11 cd11 ct11), sl11⟩)
    (d11 : PySem.W.codeIn K cd11 "longest_gap" = true)
    (k11 : PySem.W.keepIn K (.ref f11) = true)
    (l12 : K.lookup f12 = some ⟨oc12, od12, .func (PySem.W.fnOf "check_step" "check_step" (defArgs s_p_check_step) (defBody s_p_check_step) (defScope s_p_check_step) .none kV12 dc12 pm12 an12 cd12 ct12), sl12⟩)
    (d12 : PySem.W.codeIn K cd12 "check_step" = true)
    (k12 : PySem.W.keepIn K (.ref f12) = true)
    (l13 : K.lookup f13 = some ⟨oc13, od13, .func (PySem.W.fnOf "at_distance" "at_distance" (defArgs s_p_at_distance) (defBody s_p_at_distance) (defScope s_p_at_distance) .none kV13 dc13 pm13 an13 cd13 ct13), sl13⟩)
    (d13 : PySem.W.codeIn K cd13 "at_distance" = true)
    (k13 : PySem.W.keepIn K (.ref f13) = true)
    (l14 : K.lookup f14 = some ⟨oc14, od14, .func (PySem.W.fnOf "row_from" "row_from" (defArgs s_p_row_from) (defBody s_p_row_from) (defScope s_p_row_from) .none kV14 dc14 pm14 an14 cd14 ct14), sl14⟩)
    (d14 : PySem.W.codeIn K cd14 "row_from" = true)
    (k14 : PySem.W.keepIn K (.ref f14) = true)
    (l15 : K.lookup f15 = some ⟨oc15, od15, .func (PySem.W.fnOf "longest_row" "longest_row" (defArgs s_p_longest_row) (defBody s_p_longest_row) (defScope s_p_longest_row) .none kV15 dc15 pm15 an15 cd15 ct15), sl15⟩)
    (d15 : PySem.W.codeIn K cd15 "longest_row" = true)
    (k15 : PySem.W.keepIn K (.ref f15) = true)
    (l16 : K.lookup f16 = some ⟨oc16, od16, .func (PySem.W.fnOf "inverse" "inverse" (defArgs s_p_inverse) (defBody s_p_inverse) (defScope s_p_inverse) .none kV16 dc16 pm16 an16 cd16 ct16), sl16⟩)
    (d16 : PySem.W.codeIn K cd16 "inverse" = true)
    (k16 : PySem.W.keepIn K (.ref f16) = true)
    (l17 : K.lookup f17 = some ⟨oc17, od17, .func (PySem.W.fnOf "joined" "joined" (defArgs s_p_joined) (defBody s_p_joined) (defScope s_p_joined) .none kV17 dc17 pm17 an17 cd17 ct17), sl17⟩)
    (d17 : PySem.W.codeIn K cd17 "joined" = true)
    (k17 : PySem.W.keepIn K (.ref f17) = true)
    (l18 : K.lookup f18 = some ⟨oc18, od18, .func (PySem.W.fnOf "classes_of" "classes_of" (defArgs s_p_classes_of) (defBody s_p_classes_of) (defScope s_p_classes_of) .none kV18 dc18 pm18 an18 cd18 ct18), sl18⟩)
    (d18 : PySem.W.codeIn K cd18 "classes_of" = true)
    (k18 : PySem.W.keepIn K (.ref f18) = true)
    (l19 : K.lookup f19 = some ⟨oc19, od19, .func (PySem.W.fnOf "check_bars" "check_bars" (defArgs s_p_check_bars) (defBody s_p_check_bars) (defScope s_p_check_bars) .none kV19 dc19 pm19 an19 cd19 ct19), sl19⟩)
    (d19 : PySem.W.codeIn K cd19 "check_bars" = true)
    (k19 : PySem.W.keepIn K (.ref f19) = true)
    (l20 : K.lookup f20 = some ⟨oc20, od20, .func (PySem.W.fnOf "whole_of" "whole_of" (defArgs s_p_whole_of) (defBody s_p_whole_of) (defScope s_p_whole_of) .none kV20 dc20 pm20 an20 cd20 ct20), sl20⟩)
    (d20 : PySem.W.codeIn K cd20 "whole_of" = true)
    (k20 : PySem.W.keepIn K (.ref f20) = true)
    (l21 : K.lookup f21 = some ⟨oc21, od21, .func (PySem.W.fnOf "check_choices" "check_choices" (defArgs s_p_check_choices) (defBody s_p_check_choices) (defScope s_p_check_choices) .none kV21 dc21 pm21 an21 cd21 ct21), sl21⟩)
    (d21 : PySem.W.codeIn K cd21 "check_choices" = true)
    (k21 : PySem.W.keepIn K (.ref f21) = true)
    (l22 : K.lookup f22 = some ⟨oc22, od22, .func (PySem.W.fnOf "share" "share" (defArgs s_p_share) (defBody s_p_share) (defScope s_p_share) .none kV22 dc22 pm22 an22 cd22 ct22), sl22⟩)
    (d22 : PySem.W.codeIn K cd22 "share" = true)
    (k22 : PySem.W.keepIn K (.ref f22) = true)
    (l23 : K.lookup f23 = some ⟨oc23, od23, .func (PySem.W.fnOf "_law_draws" "_law_draws" (defArgs s_l_draws) (defBody s_l_draws) (defScope s_l_draws) .none kV23 dc23 pm23 an23 cd23 ct23), sl23⟩)
    (d23 : PySem.W.codeIn K cd23 "_law_draws" = true)
    (k23 : PySem.W.keepIn K (.ref f23) = true)
    (l24 : K.lookup f24 = some ⟨oc24, od24, .func (PySem.W.fnOf "_law_pick" "_law_pick" (defArgs s_l_pick) (defBody s_l_pick) (defScope s_l_pick) .none kV24 dc24 pm24 an24 cd24 ct24), sl24⟩)
    (d24 : PySem.W.codeIn K cd24 "_law_pick" = true)
    (k24 : PySem.W.keepIn K (.ref f24) = true)
    (l25 : K.lookup f25 = some ⟨oc25, od25, .func (PySem.W.fnOf "_law_great" "_law_great" (defArgs s_l_great) (defBody s_l_great) (defScope s_l_great) .none kV25 dc25 pm25 an25 cd25 ct25), sl25⟩)
    (d25 : PySem.W.codeIn K cd25 "_law_great" = true)
    (k25 : PySem.W.keepIn K (.ref f25) = true)
    (l26 : K.lookup f26 = some ⟨oc26, od26, .func (PySem.W.fnOf "law" "law" (defArgs s_law) (defBody s_law) (defScope s_law) .none kV26 dc26 pm26 an26 cd26 ct26), sl26⟩)
    (d26 : PySem.W.codeIn K cd26 "law" = true)
    (k26 : PySem.W.keepIn K (.ref f26) = true)
    (l27 : K.lookup f27 = some ⟨oc27, od27, .func (PySem.W.fnOf "__init__" "Sieve.__init__" (defArgs s_m_Sieve_init) (defBody s_m_Sieve_init) (defScope s_m_Sieve_init) .none kV27 dc27 pm27 an27 cd27 ct27), sl27⟩)
    (d27 : PySem.W.codeIn K cd27 "Sieve.__init__" = true)
    (k27 : PySem.W.keepIn K (.ref f27) = true)
    (l28 : K.lookup f28 = some ⟨oc28, od28, .func (PySem.W.fnOf "__eq__" "Sieve.__eq__" (defArgs s_m_Sieve_eq) (defBody s_m_Sieve_eq) (defScope s_m_Sieve_eq) .none kV28 dc28 pm28 an28 cd28 ct28), sl28⟩)
    (d28 : PySem.W.codeIn K cd28 "Sieve.__eq__" = true)
    (k28 : PySem.W.keepIn K (.ref f28) = true)
    (l29 : K.lookup f29 = some ⟨oc29, od29, .func (PySem.W.fnOf "bars" "Sieve.bars" (defArgs s_m_Sieve_bars) (defBody s_m_Sieve_bars) (defScope s_m_Sieve_bars) .none kV29 dc29 pm29 an29 cd29 ct29), sl29⟩)
    (d29 : PySem.W.codeIn K cd29 "Sieve.bars" = true)
    (k29 : PySem.W.keepIn K (.ref f29) = true)
    (l30 : K.lookup f30 = some ⟨oc30, od30, .func (PySem.W.fnOf "whole" "Sieve.whole" (defArgs s_m_Sieve_whole) (defBody s_m_Sieve_whole) (defScope s_m_Sieve_whole) .none kV30 dc30 pm30 an30 cd30 ct30), sl30⟩)
    (d30 : PySem.W.codeIn K cd30 "Sieve.whole" = true)
    (k30 : PySem.W.keepIn K (.ref f30) = true)
    (l31 : K.lookup f31 = some ⟨oc31, od31, .func (PySem.W.fnOf "classes" "Sieve.classes" (defArgs s_m_Sieve_classes) (defBody s_m_Sieve_classes) (defScope s_m_Sieve_classes) .none kV31 dc31 pm31 an31 cd31 ct31), sl31⟩)
    (d31 : PySem.W.codeIn K cd31 "Sieve.classes" = true)
    (k31 : PySem.W.keepIn K (.ref f31) = true)
    (z_len : PySem.W.nsIn K mainGlobals "len" = some none)
    (z_max : PySem.W.nsIn K mainGlobals "max" = some none)
    (z_min : PySem.W.nsIn K mainGlobals "min" = some none)
    (z_sum : PySem.W.nsIn K mainGlobals "sum" = some none)
    (z_range : PySem.W.nsIn K mainGlobals "range" = some none)
    (z_int : PySem.W.nsIn K mainGlobals "int" = some none)
    (z_list : PySem.W.nsIn K mainGlobals "list" = some none)
    (z_tuple : PySem.W.nsIn K mainGlobals "tuple" = some none)
    (z_set : PySem.W.nsIn K mainGlobals "set" = some none)
    (z_sorted : PySem.W.nsIn K mainGlobals "sorted" = some none)
    (z_isinstance : PySem.W.nsIn K mainGlobals "isinstance" = some none)
    (z_enumerate : PySem.W.nsIn K mainGlobals "enumerate" = some none)
    (z_zip : PySem.W.nsIn K mainGlobals "zip" = some none)
    (z_bool : PySem.W.nsIn K mainGlobals "bool" = some none)
    (z_divmod : PySem.W.nsIn K mainGlobals "divmod" = some none)
    (z_all : PySem.W.nsIn K mainGlobals "all" = some none)
    (g_gcd : PySem.W.nsIn K mainGlobals "gcd" = some (some (.builtin "math.gcd")))
    (g_lcm : PySem.W.nsIn K mainGlobals "lcm" = some (some (.builtin "math.lcm")))
    {t_GREATEST_MODULUS : Tok}
    (c_GREATEST_MODULUS : PySem.W.nsIn K mainGlobals "GREATEST_MODULUS" = some (some (.int 1000000 t_GREATEST_MODULUS)))
    {t_MOST_RESTS : Tok}
    (c_MOST_RESTS : PySem.W.nsIn K mainGlobals "MOST_RESTS" = some (some (.int 60 t_MOST_RESTS)))
    {t_GREATEST_STEP : Tok}
    (c_GREATEST_STEP : PySem.W.nsIn K mainGlobals "GREATEST_STEP" = some (some (.int 1000000000000000000000000000000 t_GREATEST_STEP)))
    {t_MOST_BARS : Tok}
    (c_MOST_BARS : PySem.W.nsIn K mainGlobals "MOST_BARS" = some (some (.int 6 t_MOST_BARS)))
    {t_GREATEST_WHOLE : Tok}
    (c_GREATEST_WHOLE : PySem.W.nsIn K mainGlobals "GREATEST_WHOLE" = some (some (.int 1000000000000000000000000000000 t_GREATEST_WHOLE)))
    {t_MOST_CHOICES : Tok}
    (c_MOST_CHOICES : PySem.W.nsIn K mainGlobals "MOST_CHOICES" = some (some (.int 2000 t_MOST_CHOICES)))
    {C_RestError : Addr}
    (g_RestError : PySem.W.nsIn K mainGlobals "RestError" = some (some (.ref C_RestError)))
    (hR : PySem.W.hasDictIn K C_RestError = true)
    (tR : PySem.W.typeIn K (.ref C_RestError) = some (.type "type"))
    {C_BadNumber : Addr}
    (g_BadNumber : PySem.W.nsIn K mainGlobals "BadNumber" = some (some (.ref C_BadNumber)))
    (x_BadNumber : PySem.W.excIn K C_BadNumber [.type "ValueError", .type "Exception", .type "BaseException", .type "object"] "ValueError.__new__" = true)
    (k_BadNumber : PySem.W.keepIn K (.ref C_BadNumber) = true)
    (b_BadNumber : PySem.W.subIn K (.ref C_BadNumber) (.type "BaseException") = some true)
    (t_BadNumber : PySem.W.typeIn K (.ref C_BadNumber) = some (.type "type"))
    (e_BadNumber : PySem.W.subIn K (.ref C_BadNumber) (.ref C_BadNumber) = some true)
    (E1_BadNumber : PySem.W.findIn K (.ref C_BadNumber) "__getattribute__" = some (some (.builtin "BaseException.__getattribute__")))
    (E2_BadNumber : PySem.W.findIn K (.ref C_BadNumber) "__getattr__" = some none)
    (E3_BadNumber : PySem.W.hasDictIn K C_BadNumber = true)
    (E4_BadNumber : PySem.W.findIn K (.ref C_BadNumber) "__class__" = some (some (.builtin "object.__class__")))
    (E5_BadNumber : PySem.W.specialIn K (.builtin "object.__class__") "__get__" = some (some (.builtin "getset_descriptor.__get__")))
    (E6_BadNumber : PySem.W.takesIn K (.builtin "object.__class__") = some true)
    (E7_BadNumber : PySem.W.mroIn K C_BadNumber (.type "object") = some true)
    (r_BadNumber : PySem.W.subIn K (.ref C_BadNumber) (.ref C_RestError) = some true)
    {C_TooGreat : Addr}
    (g_TooGreat : PySem.W.nsIn K mainGlobals "TooGreat" = some (some (.ref C_TooGreat)))
    (x_TooGreat : PySem.W.excIn K C_TooGreat [.type "ValueError", .type "Exception", .type "BaseException", .type "object"] "ValueError.__new__" = true)
    (k_TooGreat : PySem.W.keepIn K (.ref C_TooGreat) = true)
    (b_TooGreat : PySem.W.subIn K (.ref C_TooGreat) (.type "BaseException") = some true)
    (t_TooGreat : PySem.W.typeIn K (.ref C_TooGreat) = some (.type "type"))
    (e_TooGreat : PySem.W.subIn K (.ref C_TooGreat) (.ref C_TooGreat) = some true)
    (E1_TooGreat : PySem.W.findIn K (.ref C_TooGreat) "__getattribute__" = some (some (.builtin "BaseException.__getattribute__")))
    (E2_TooGreat : PySem.W.findIn K (.ref C_TooGreat) "__getattr__" = some none)
    (E3_TooGreat : PySem.W.hasDictIn K C_TooGreat = true)
    (E4_TooGreat : PySem.W.findIn K (.ref C_TooGreat) "__class__" = some (some (.builtin "object.__class__")))
    (E5_TooGreat : PySem.W.specialIn K (.builtin "object.__class__") "__get__" = some (some (.builtin "getset_descriptor.__get__")))
    (E6_TooGreat : PySem.W.takesIn K (.builtin "object.__class__") = some true)
    (E7_TooGreat : PySem.W.mroIn K C_TooGreat (.type "object") = some true)
    (r_TooGreat : PySem.W.subIn K (.ref C_TooGreat) (.ref C_RestError) = some true)
    {C_TooMany : Addr}
    (g_TooMany : PySem.W.nsIn K mainGlobals "TooMany" = some (some (.ref C_TooMany)))
    (x_TooMany : PySem.W.excIn K C_TooMany [.type "ValueError", .type "Exception", .type "BaseException", .type "object"] "ValueError.__new__" = true)
    (k_TooMany : PySem.W.keepIn K (.ref C_TooMany) = true)
    (b_TooMany : PySem.W.subIn K (.ref C_TooMany) (.type "BaseException") = some true)
    (t_TooMany : PySem.W.typeIn K (.ref C_TooMany) = some (.type "type"))
    (e_TooMany : PySem.W.subIn K (.ref C_TooMany) (.ref C_TooMany) = some true)
    (E1_TooMany : PySem.W.findIn K (.ref C_TooMany) "__getattribute__" = some (some (.builtin "BaseException.__getattribute__")))
    (E2_TooMany : PySem.W.findIn K (.ref C_TooMany) "__getattr__" = some none)
    (E3_TooMany : PySem.W.hasDictIn K C_TooMany = true)
    (E4_TooMany : PySem.W.findIn K (.ref C_TooMany) "__class__" = some (some (.builtin "object.__class__")))
    (E5_TooMany : PySem.W.specialIn K (.builtin "object.__class__") "__get__" = some (some (.builtin "getset_descriptor.__get__")))
    (E6_TooMany : PySem.W.takesIn K (.builtin "object.__class__") = some true)
    (E7_TooMany : PySem.W.mroIn K C_TooMany (.type "object") = some true)
    (r_TooMany : PySem.W.subIn K (.ref C_TooMany) (.ref C_RestError) = some true)
    {C_Nothing : Addr}
    (g_Nothing : PySem.W.nsIn K mainGlobals "Nothing" = some (some (.ref C_Nothing)))
    (x_Nothing : PySem.W.excIn K C_Nothing [.type "ValueError", .type "Exception", .type "BaseException", .type "object"] "ValueError.__new__" = true)
    (k_Nothing : PySem.W.keepIn K (.ref C_Nothing) = true)
    (b_Nothing : PySem.W.subIn K (.ref C_Nothing) (.type "BaseException") = some true)
    (t_Nothing : PySem.W.typeIn K (.ref C_Nothing) = some (.type "type"))
    (e_Nothing : PySem.W.subIn K (.ref C_Nothing) (.ref C_Nothing) = some true)
    (E1_Nothing : PySem.W.findIn K (.ref C_Nothing) "__getattribute__" = some (some (.builtin "BaseException.__getattribute__")))
    (E2_Nothing : PySem.W.findIn K (.ref C_Nothing) "__getattr__" = some none)
    (E3_Nothing : PySem.W.hasDictIn K C_Nothing = true)
    (E4_Nothing : PySem.W.findIn K (.ref C_Nothing) "__class__" = some (some (.builtin "object.__class__")))
    (E5_Nothing : PySem.W.specialIn K (.builtin "object.__class__") "__get__" = some (some (.builtin "getset_descriptor.__get__")))
    (E6_Nothing : PySem.W.takesIn K (.builtin "object.__class__") = some true)
    (E7_Nothing : PySem.W.mroIn K C_Nothing (.type "object") = some true)
    (r_Nothing : PySem.W.subIn K (.ref C_Nothing) (.ref C_RestError) = some true)
    (e_BadNumber_TooGreat : PySem.W.subIn K (.ref C_BadNumber) (.ref C_TooGreat) = some false)
    (e_BadNumber_TooMany : PySem.W.subIn K (.ref C_BadNumber) (.ref C_TooMany) = some false)
    (e_BadNumber_Nothing : PySem.W.subIn K (.ref C_BadNumber) (.ref C_Nothing) = some false)
    (e_TooGreat_BadNumber : PySem.W.subIn K (.ref C_TooGreat) (.ref C_BadNumber) = some false)
    (e_TooGreat_TooMany : PySem.W.subIn K (.ref C_TooGreat) (.ref C_TooMany) = some false)
    (e_TooGreat_Nothing : PySem.W.subIn K (.ref C_TooGreat) (.ref C_Nothing) = some false)
    (e_TooMany_BadNumber : PySem.W.subIn K (.ref C_TooMany) (.ref C_BadNumber) = some false)
    (e_TooMany_TooGreat : PySem.W.subIn K (.ref C_TooMany) (.ref C_TooGreat) = some false)
    (e_TooMany_Nothing : PySem.W.subIn K (.ref C_TooMany) (.ref C_Nothing) = some false)
    (e_Nothing_BadNumber : PySem.W.subIn K (.ref C_Nothing) (.ref C_BadNumber) = some false)
    (e_Nothing_TooGreat : PySem.W.subIn K (.ref C_Nothing) (.ref C_TooGreat) = some false)
    (e_Nothing_TooMany : PySem.W.subIn K (.ref C_Nothing) (.ref C_TooMany) = some false)
    {cc10 tt10 : Addr} {xe10 : Value} {xd10 : Option Addr} {xv10 : Array Value} {xs10 : Array (Option Value)}
    (kq10 : cd10 = Value.ref cc10)
    (kl10 : K.lookup cc10 = some ⟨xe10, xd10, .fields xv10, xs10⟩)
    (kt10 : xv10[11]? = some (.ref tt10))
    (kh10 : PySem.W.codeHdIn K cc10 tt10 = true)
    (kn10 : K.lookup tt10 = none)
    : LamX.LawAtS l w K CX0 12 63 "_law_script" mg fa h := by
  have e := hfa.symm.trans (PySem.W.mg_of X G a26)
  cases e
  have F0 := fun_mk (st := s_p_is_integer) l0 d0 k0
  have b0 := F0.binds (ps := ["value"]) fun _ _ _ _ _ _ us hl => match us, hl with | [_], _ => rfl
  have F1 := fun_mk (st := s_p_integer_within) l1 d1 k1
  have b1 := F1.binds (ps := ["value", "least", "greatest"]) fun _ _ _ _ _ _ us hl => match us, hl with | [_, _, _], _ => rfl
  have F2 := fun_mk (st := s_p_is_ascending) l2 d2 k2
  have b2 := F2.binds (ps := ["value", "limit"]) fun _ _ _ _ _ _ us hl => match us, hl with | [_, _], _ => rfl
  have F3 := fun_mk (st := s_p_is_lot) l3 d3 k3
  have b3 := F3.binds (ps := ["value", "modulus"]) fun _ _ _ _ _ _ us hl => match us, hl with | [_, _], _ => rfl
  have F4 := fun_mk (st := s_p_is_pair) l4 d4 k4
  have b4 := F4.binds (ps := ["value"]) fun _ _ _ _ _ _ us hl => match us, hl with | [_], _ => rfl
  have F5 := fun_mk (st := s_p_is_bar) l5 d5 k5
  have b5 := F5.binds (ps := ["value"]) fun _ _ _ _ _ _ us hl => match us, hl with | [_], _ => rfl
  have F6 := fun_mk (st := s_p_check_some) l6 d6 k6
  have b6 := F6.binds (ps := ["sieve"]) fun _ _ _ _ _ _ us hl => match us, hl with | [_], _ => rfl
  have F7 := fun_mk (st := s_p_standing_at) l7 d7 k7
  have b7 := F7.binds (ps := ["sieve", "place"]) fun _ _ _ _ _ _ us hl => match us, hl with | [_, _], _ => rfl
  have F8 := fun_mk (st := s_p_steps_in_order) l8 d8 k8
  have b8 := F8.binds (ps := ["sieve"]) fun _ _ _ _ _ _ us hl => match us, hl with | [_], _ => rfl
  have F9 := fun_mk (st := s_p_steps) l9 d9 k9
  have b9 := F9.binds (ps := ["sieve"]) fun _ _ _ _ _ _ us hl => match us, hl with | [_], _ => rfl
  have F10 := fun_mk (st := s_p_longest) l10 d10 k10
  have b10 := F10.binds (ps := ["found"]) fun _ _ _ _ _ _ us hl => match us, hl with | [_], _ => rfl
  have F11 := fun_mk (st := s_p_longest_gap) l11 d11 k11
  have b11 := F11.binds (ps := ["sieve"]) fun _ _ _ _ _ _ us hl => match us, hl with | [_], _ => rfl
  have F12 := fun_mk (st := s_p_check_step) l12 d12 k12
  have b12 := F12.binds (ps := ["value"]) fun _ _ _ _ _ _ us hl => match us, hl with | [_], _ => rfl
  have F13 := fun_mk (st := s_p_at_distance) l13 d13 k13
  have b13 := F13.binds (ps := ["sieve", "step"]) fun _ _ _ _ _ _ us hl => match us, hl with | [_, _], _ => rfl
  have F14 := fun_mk (st := s_p_row_from) l14 d14 k14
  have b14 := F14.binds (ps := ["known", "whole", "begin", "step"]) fun _ _ _ _ _ _ us hl => match us, hl with | [_, _, _, _], _ => rfl
  have F15 := fun_mk (st := s_p_longest_row) l15 d15 k15
  have b15 := F15.binds (ps := ["sieve", "step"]) fun _ _ _ _ _ _ us hl => match us, hl with | [_, _], _ => rfl
  have F16 := fun_mk (st := s_p_inverse) l16 d16 k16
  have b16 := F16.binds (ps := ["number", "modulus"]) fun _ _ _ _ _ _ us hl => match us, hl with | [_, _], _ => rfl
  have F17 := fun_mk (st := s_p_joined) l17 d17 k17
  have b17 := F17.binds (ps := ["classes", "whole", "modulus", "lot"]) fun _ _ _ _ _ _ us hl => match us, hl with | [_, _, _, _], _ => rfl
  have F18 := fun_mk (st := s_p_classes_of) l18 d18 k18
  have b18 := F18.binds (ps := ["bars"]) fun _ _ _ _ _ _ us hl => match us, hl with | [_], _ => rfl
  have F19 := fun_mk (st := s_p_check_bars) l19 d19 k19
  have b19 := F19.binds (ps := ["bars"]) fun _ _ _ _ _ _ us hl => match us, hl with | [_], _ => rfl
  have F20 := fun_mk (st := s_p_whole_of) l20 d20 k20
  have b20 := F20.binds (ps := ["bars"]) fun _ _ _ _ _ _ us hl => match us, hl with | [_], _ => rfl
  have F21 := fun_mk (st := s_p_check_choices) l21 d21 k21
  have b21 := F21.binds (ps := ["bars"]) fun _ _ _ _ _ _ us hl => match us, hl with | [_], _ => rfl
  have F22 := fun_mk (st := s_p_share) l22 d22 k22
  have b22 := F22.binds (ps := ["sieve"]) fun _ _ _ _ _ _ us hl => match us, hl with | [_], _ => rfl
  have F23 := fun_mk (st := s_l_draws) l23 d23 k23
  have b23 := F23.binds (ps := ["_law_script"]) fun _ _ _ _ _ _ us hl => match us, hl with | [_], _ => rfl
  have F24 := fun_mk (st := s_l_pick) l24 d24 k24
  have b24 := F24.binds (ps := ["_law_row", "_law_many"]) fun _ _ _ _ _ _ us hl => match us, hl with | [_, _], _ => rfl
  have F25 := fun_mk (st := s_l_great) l25 d25 k25
  have b25 := F25.binds (ps := ["_law_row", "_law_most"]) fun _ _ _ _ _ _ us hl => match us, hl with | [_, _], _ => rfl
  have F26 := fun_mk (st := s_law) l26 d26 k26
  have b26 := F26.binds (ps := ["_law_script"]) fun _ _ _ _ _ _ us hl => match us, hl with | [_], _ => rfl
  have F27 := fun_mk (st := s_m_Sieve_init) l27 d27 k27
  have b27 := F27.binds (ps := ["self", "bars"]) fun _ _ _ _ _ _ us hl => match us, hl with | [_, _], _ => rfl
  have F28 := fun_mk (st := s_m_Sieve_eq) l28 d28 k28
  have b28 := F28.binds (ps := ["self", "other"]) fun _ _ _ _ _ _ us hl => match us, hl with | [_, _], _ => rfl
  have F29 := fun_mk (st := s_m_Sieve_bars) l29 d29 k29
  have b29 := F29.binds (ps := ["self"]) fun _ _ _ _ _ _ us hl => match us, hl with | [_], _ => rfl
  have F30 := fun_mk (st := s_m_Sieve_whole) l30 d30 k30
  have b30 := F30.binds (ps := ["self"]) fun _ _ _ _ _ _ us hl => match us, hl with | [_], _ => rfl
  have F31 := fun_mk (st := s_m_Sieve_classes) l31 d31 k31
  have b31 := F31.binds (ps := ["self"]) fun _ _ _ _ _ _ us hl => match us, hl with | [_], _ => rfl
  let T : Txt K mg := {
    f_p_is_integer := _, fd_p_is_integer := _, F_p_is_integer := F0, b_p_is_integer := b0, g_p_is_integer := PySem.W.mg_of X G a0,
    f_p_integer_within := _, fd_p_integer_within := _, F_p_integer_within := F1, b_p_integer_within := b1, g_p_integer_within := PySem.W.mg_of X G a1,
    f_p_is_ascending := _, fd_p_is_ascending := _, F_p_is_ascending := F2, b_p_is_ascending := b2, g_p_is_ascending := PySem.W.mg_of X G a2,
    f_p_is_lot := _, fd_p_is_lot := _, F_p_is_lot := F3, b_p_is_lot := b3, g_p_is_lot := PySem.W.mg_of X G a3,
    f_p_is_pair := _, fd_p_is_pair := _, F_p_is_pair := F4, b_p_is_pair := b4, g_p_is_pair := PySem.W.mg_of X G a4,
    f_p_is_bar := _, fd_p_is_bar := _, F_p_is_bar := F5, b_p_is_bar := b5, g_p_is_bar := PySem.W.mg_of X G a5,
    f_p_check_some := _, fd_p_check_some := _, F_p_check_some := F6, b_p_check_some := b6, g_p_check_some := PySem.W.mg_of X G a6,
    f_p_standing_at := _, fd_p_standing_at := _, F_p_standing_at := F7, b_p_standing_at := b7, g_p_standing_at := PySem.W.mg_of X G a7,
    f_p_steps_in_order := _, fd_p_steps_in_order := _, F_p_steps_in_order := F8, b_p_steps_in_order := b8, g_p_steps_in_order := PySem.W.mg_of X G a8,
    f_p_steps := _, fd_p_steps := _, F_p_steps := F9, b_p_steps := b9, g_p_steps := PySem.W.mg_of X G a9,
    f_p_longest := _, fd_p_longest := _, F_p_longest := F10, b_p_longest := b10, g_p_longest := PySem.W.mg_of X G a10, cO_p_longest := cc10, tO_p_longest := tt10, cc_p_longest := kq10, ch_p_longest := kh10,
    f_p_longest_gap := _, fd_p_longest_gap := _, F_p_longest_gap := F11, b_p_longest_gap := b11, g_p_longest_gap := PySem.W.mg_of X G a11,
    f_p_check_step := _, fd_p_check_step := _, F_p_check_step := F12, b_p_check_step := b12, g_p_check_step := PySem.W.mg_of X G a12,
    f_p_at_distance := _, fd_p_at_distance := _, F_p_at_distance := F13, b_p_at_distance := b13, g_p_at_distance := PySem.W.mg_of X G a13,
    f_p_row_from := _, fd_p_row_from := _, F_p_row_from := F14, b_p_row_from := b14, g_p_row_from := PySem.W.mg_of X G a14,
    f_p_longest_row := _, fd_p_longest_row := _, F_p_longest_row := F15, b_p_longest_row := b15, g_p_longest_row := PySem.W.mg_of X G a15,
    f_p_inverse := _, fd_p_inverse := _, F_p_inverse := F16, b_p_inverse := b16, g_p_inverse := PySem.W.mg_of X G a16,
    f_p_joined := _, fd_p_joined := _, F_p_joined := F17, b_p_joined := b17, g_p_joined := PySem.W.mg_of X G a17,
    f_p_classes_of := _, fd_p_classes_of := _, F_p_classes_of := F18, b_p_classes_of := b18, g_p_classes_of := PySem.W.mg_of X G a18,
    f_p_check_bars := _, fd_p_check_bars := _, F_p_check_bars := F19, b_p_check_bars := b19, g_p_check_bars := PySem.W.mg_of X G a19,
    f_p_whole_of := _, fd_p_whole_of := _, F_p_whole_of := F20, b_p_whole_of := b20, g_p_whole_of := PySem.W.mg_of X G a20,
    f_p_check_choices := _, fd_p_check_choices := _, F_p_check_choices := F21, b_p_check_choices := b21, g_p_check_choices := PySem.W.mg_of X G a21,
    f_p_share := _, fd_p_share := _, F_p_share := F22, b_p_share := b22, g_p_share := PySem.W.mg_of X G a22,
    f_l_draws := _, fd_l_draws := _, F_l_draws := F23, b_l_draws := b23, g_l_draws := PySem.W.mg_of X G a23,
    f_l_pick := _, fd_l_pick := _, F_l_pick := F24, b_l_pick := b24, g_l_pick := PySem.W.mg_of X G a24,
    f_l_great := _, fd_l_great := _, F_l_great := F25, b_l_great := b25, g_l_great := PySem.W.mg_of X G a25,
    f_law := _, fd_law := _, F_law := F26, b_law := b26, g_law := PySem.W.mg_of X G a26,
    f_m_Sieve_init := _, fd_m_Sieve_init := _, F_m_Sieve_init := F27, b_m_Sieve_init := b27,
    f_m_Sieve_eq := _, fd_m_Sieve_eq := _, F_m_Sieve_eq := F28, b_m_Sieve_eq := b28,
    f_m_Sieve_bars := _, fd_m_Sieve_bars := _, F_m_Sieve_bars := F29, b_m_Sieve_bars := b29,
    f_m_Sieve_whole := _, fd_m_Sieve_whole := _, F_m_Sieve_whole := F30, b_m_Sieve_whole := b30,
    f_m_Sieve_classes := _, fd_m_Sieve_classes := _, F_m_Sieve_classes := F31, b_m_Sieve_classes := b31,
    z_len := PySem.W.mg_none_of X G z_len,
    z_max := PySem.W.mg_none_of X G z_max,
    z_min := PySem.W.mg_none_of X G z_min,
    z_sum := PySem.W.mg_none_of X G z_sum,
    z_range := PySem.W.mg_none_of X G z_range,
    z_int := PySem.W.mg_none_of X G z_int,
    z_list := PySem.W.mg_none_of X G z_list,
    z_tuple := PySem.W.mg_none_of X G z_tuple,
    z_set := PySem.W.mg_none_of X G z_set,
    z_sorted := PySem.W.mg_none_of X G z_sorted,
    z_isinstance := PySem.W.mg_none_of X G z_isinstance,
    z_enumerate := PySem.W.mg_none_of X G z_enumerate,
    z_zip := PySem.W.mg_none_of X G z_zip,
    z_bool := PySem.W.mg_none_of X G z_bool,
    z_divmod := PySem.W.mg_none_of X G z_divmod,
    z_all := PySem.W.mg_none_of X G z_all,
    g_gcd := PySem.W.mg_of X G g_gcd,
    g_lcm := PySem.W.mg_of X G g_lcm,
    c_GREATEST_MODULUS := ⟨t_GREATEST_MODULUS, PySem.W.mg_of X G c_GREATEST_MODULUS⟩,
    c_MOST_RESTS := ⟨t_MOST_RESTS, PySem.W.mg_of X G c_MOST_RESTS⟩,
    c_GREATEST_STEP := ⟨t_GREATEST_STEP, PySem.W.mg_of X G c_GREATEST_STEP⟩,
    c_MOST_BARS := ⟨t_MOST_BARS, PySem.W.mg_of X G c_MOST_BARS⟩,
    c_GREATEST_WHOLE := ⟨t_GREATEST_WHOLE, PySem.W.mg_of X G c_GREATEST_WHOLE⟩,
    c_MOST_CHOICES := ⟨t_MOST_CHOICES, PySem.W.mg_of X G c_MOST_CHOICES⟩,
    C := C, g_Sieve := PySem.W.mg_of X G aC, cl := ⟨pg, hd, po, sa⟩, mkC := ⟨mk, mI, iI, kc⟩, n_bars := n_bars, n_whole := n_whole, n_classes := n_classes,
    p_bars := pB, pp_bars := ⟨q1B, q2B, q3B, ⟨rB, q4B⟩⟩,
    p_whole := pW, pp_whole := ⟨q1W, q2W, q3W, ⟨rW, q4W⟩⟩,
    p_classes := pC, pp_classes := ⟨q1C, q2C, q3C, ⟨rC, q4C⟩⟩,
    C_RestError := _, g_RestError := PySem.W.mg_of X G g_RestError,
    C_BadNumber := _, g_BadNumber := PySem.W.mg_of X G g_BadNumber, x_BadNumber := x_BadNumber, k_BadNumber := k_BadNumber, b_BadNumber := b_BadNumber, t_BadNumber := t_BadNumber, e_BadNumber := PySem.W.exm_ref b_BadNumber E3_BadNumber t_BadNumber e_BadNumber, E_BadNumber := ⟨E1_BadNumber, E2_BadNumber, b_BadNumber, E3_BadNumber, E4_BadNumber, E5_BadNumber, E6_BadNumber, E7_BadNumber⟩, r_BadNumber := kit_ref hR tR r_BadNumber,
    C_TooGreat := _, g_TooGreat := PySem.W.mg_of X G g_TooGreat, x_TooGreat := x_TooGreat, k_TooGreat := k_TooGreat, b_TooGreat := b_TooGreat, t_TooGreat := t_TooGreat, e_TooGreat := PySem.W.exm_ref b_TooGreat E3_TooGreat t_TooGreat e_TooGreat, E_TooGreat := ⟨E1_TooGreat, E2_TooGreat, b_TooGreat, E3_TooGreat, E4_TooGreat, E5_TooGreat, E6_TooGreat, E7_TooGreat⟩, r_TooGreat := kit_ref hR tR r_TooGreat,
    C_TooMany := _, g_TooMany := PySem.W.mg_of X G g_TooMany, x_TooMany := x_TooMany, k_TooMany := k_TooMany, b_TooMany := b_TooMany, t_TooMany := t_TooMany, e_TooMany := PySem.W.exm_ref b_TooMany E3_TooMany t_TooMany e_TooMany, E_TooMany := ⟨E1_TooMany, E2_TooMany, b_TooMany, E3_TooMany, E4_TooMany, E5_TooMany, E6_TooMany, E7_TooMany⟩, r_TooMany := kit_ref hR tR r_TooMany,
    C_Nothing := _, g_Nothing := PySem.W.mg_of X G g_Nothing, x_Nothing := x_Nothing, k_Nothing := k_Nothing, b_Nothing := b_Nothing, t_Nothing := t_Nothing, e_Nothing := PySem.W.exm_ref b_Nothing E3_Nothing t_Nothing e_Nothing, E_Nothing := ⟨E1_Nothing, E2_Nothing, b_Nothing, E3_Nothing, E4_Nothing, E5_Nothing, E6_Nothing, E7_Nothing⟩, r_Nothing := kit_ref hR tR r_Nothing,
    e_BadNumber_TooGreat := PySem.W.exm_ref b_TooGreat E3_TooGreat t_TooGreat e_BadNumber_TooGreat,
    e_BadNumber_TooMany := PySem.W.exm_ref b_TooMany E3_TooMany t_TooMany e_BadNumber_TooMany,
    e_BadNumber_Nothing := PySem.W.exm_ref b_Nothing E3_Nothing t_Nothing e_BadNumber_Nothing,
    e_TooGreat_BadNumber := PySem.W.exm_ref b_BadNumber E3_BadNumber t_BadNumber e_TooGreat_BadNumber,
    e_TooGreat_TooMany := PySem.W.exm_ref b_TooMany E3_TooMany t_TooMany e_TooGreat_TooMany,
    e_TooGreat_Nothing := PySem.W.exm_ref b_Nothing E3_Nothing t_Nothing e_TooGreat_Nothing,
    e_TooMany_BadNumber := PySem.W.exm_ref b_BadNumber E3_BadNumber t_BadNumber e_TooMany_BadNumber,
    e_TooMany_TooGreat := PySem.W.exm_ref b_TooGreat E3_TooGreat t_TooGreat e_TooMany_TooGreat,
    e_TooMany_Nothing := PySem.W.exm_ref b_Nothing E3_Nothing t_Nothing e_TooMany_Nothing,
    e_Nothing_BadNumber := PySem.W.exm_ref b_BadNumber E3_BadNumber t_BadNumber e_Nothing_BadNumber,
    e_Nothing_TooGreat := PySem.W.exm_ref b_TooGreat E3_TooGreat t_TooGreat e_Nothing_TooGreat,
    e_Nothing_TooMany := PySem.W.exm_ref b_TooMany E3_TooMany t_TooMany e_Nothing_TooMany
  }
  exact ⟨PySem.W.fnOf "law" "law" (defArgs s_law) (defBody s_law) (defScope s_law) .none kV26 dc26 pm26 an26 cd26 ct26, [(cc10, tt10)], sp_lawT T,
    (List.forall_mem_cons.mpr ⟨own _ (List.Mem.head _) _ (PySem.W.mg_of X G a10) _ _ _ _ _ _ _ _ l10 rfl kq10 kl10 kt10, (fun p h => nomatch h)⟩),
    (List.forall_mem_cons.mpr ⟨kn10, (fun p h => nomatch h)⟩),
    (List.forall_mem_cons.mpr ⟨PySem.W.codeHd_of_K X kh10, (fun p h => nomatch h)⟩),
    fun s v => .of_eq rfl,
    fun H a ns hl hbits hcs hS => ⟨a, ns, rfl, hS, hl, (List.forall_mem_cons.mpr ⟨LamX.TabS.nil (hcs (cc10, tt10) (List.Mem.head _)), (fun p h => nomatch h)⟩), fun _ => rfl⟩,
    fun base _ _ hTB => ok_law T ⟨hTB (cc10, tt10) (List.Mem.head _)⟩⟩
end R
open PySem PySem.W PyProof.Rows
set_option maxHeartbeats 0 in
theorem PySem.Challenge.cw_restlots_k38_great_steps_holds : PySem.Challenge.rw_restlots_k38_great_steps.Holds := by
  w_on; o_law; k_head; (case hw => w_witness2)
  k_fill
  refine R.walk_tabs (l := PySem.Challenge.rw_restlots_k38_great_steps) (n := 63) (k := 12) (x := "_law_script") (CX := fun _ => L2.CX0) (["longest"] : List Str) rfl (by decide) rfl ⟨rfl, by decide, by decide⟩ (by decide +kernel) (fun w h Y => by first | exact PySem.W.kIn_of Y | exact PySem.W.km_in_of Y) ?F (fun _ _ _ _ _ h => h)
  case F =>
    intro w mg fa h _ KX G hmg own
    refine' R.all_mk KX G hmg own ?a0 ?a1 ?a2 ?a3 ?a4 ?a5 ?a6 ?a7 ?a8 ?a9 ?a10 ?a11 ?a12 ?a13 ?a14 ?a15 ?a16 ?a17 ?a18 ?a19 ?a20 ?a21 ?a22 ?a23 ?a24 ?a25 ?a26 ?aC ?mI ?iI ?mE ?pg ?hd ?po ?sa ?mk ?kc ?n_bars ?n_whole ?n_classes ?q1B ?q2B ?q3B ?q4B ?q1W ?q2W ?q3W ?q4W ?q1C ?q2C ?q3C ?q4C ?l0 ?d0 ?k0 ?l1 ?d1 ?k1 ?l2 ?d2 ?k2 ?l3 ?d3 ?k3 ?l4 ?d4 ?k4 ?l5 ?d5 ?k5 ?l6 ?d6 ?k6 ?l7 ?d7 ?k7 ?l8 ?d8 ?k8 ?l9 ?d9 ?k9 ?l10 ?d10 ?k10 ?l11 ?d11 ?k11 ?l12 ?d12 ?k12 ?l13 ?d13 ?k13 ?l14 ?d14 ?k14 ?l15 ?d15 ?k15 ?l16 ?d16 ?k16 ?l17 ?d17 ?k17 ?l18 ?d18 ?k18 ?l19 ?d19 ?k19 ?l20 ?d20 ?k20 ?l21 ?d21 ?k21 ?l22 ?d22 ?k22 ?l23 ?d23 ?k23 ?l24 ?d24 ?k24 ?l25 ?d25 ?k25 ?l26 ?d26 ?k26 ?l27 ?d27 ?k27 ?l28 ?d28 ?k28 ?l29 ?d29 ?k29 ?l30 ?d30 ?k30 ?l31 ?d31 ?k31 ?z_len ?z_max ?z_min ?z_sum ?z_range ?z_int ?z_list ?z_tuple ?z_set ?z_sorted ?z_isinstance ?z_enumerate ?z_zip ?z_bool ?z_divmod ?z_all ?g_gcd ?g_lcm ?c_GREATEST_MODULUS ?c_MOST_RESTS ?c_GREATEST_STEP ?c_MOST_BARS ?c_GREATEST_WHOLE ?c_MOST_CHOICES ?g_RestError ?hR ?tR ?g_BadNumber ?x_BadNumber ?k_BadNumber ?b_BadNumber ?t_BadNumber ?e_BadNumber ?E1_BadNumber ?E2_BadNumber ?E3_BadNumber ?E4_BadNumber ?E5_BadNumber ?E6_BadNumber ?E7_BadNumber ?r_BadNumber ?g_TooGreat ?x_TooGreat ?k_TooGreat ?b_TooGreat ?t_TooGreat ?e_TooGreat ?E1_TooGreat ?E2_TooGreat ?E3_TooGreat ?E4_TooGreat ?E5_TooGreat ?E6_TooGreat ?E7_TooGreat ?r_TooGreat ?g_TooMany ?x_TooMany ?k_TooMany ?b_TooMany ?t_TooMany ?e_TooMany ?E1_TooMany ?E2_TooMany ?E3_TooMany ?E4_TooMany ?E5_TooMany ?E6_TooMany ?E7_TooMany ?r_TooMany ?g_Nothing ?x_Nothing ?k_Nothing ?b_Nothing ?t_Nothing ?e_Nothing ?E1_Nothing ?E2_Nothing ?E3_Nothing ?E4_Nothing ?E5_Nothing ?E6_Nothing ?E7_Nothing ?r_Nothing ?e_BadNumber_TooGreat ?e_BadNumber_TooMany ?e_BadNumber_Nothing ?e_TooGreat_BadNumber ?e_TooGreat_TooMany ?e_TooGreat_Nothing ?e_TooMany_BadNumber ?e_TooMany_TooGreat ?e_TooMany_Nothing ?e_Nothing_BadNumber ?e_Nothing_TooGreat ?e_Nothing_TooMany ?kq10 ?kl10 ?kt10 ?kh10 ?kn10
    (case a0 => k_is)
    (case a1 => k_is)
    (case a2 => k_is)
    (case a3 => k_is)
    (case a4 => k_is)
    (case a5 => k_is)
    (case a6 => k_is)
    (case a7 => k_is)
    (case a8 => k_is)
    (case a9 => k_is)
    (case a10 => k_is)
    (case a11 => k_is)
    (case a12 => k_is)
    (case a13 => k_is)
    (case a14 => k_is)
    (case a15 => k_is)
    (case a16 => k_is)
    (case a17 => k_is)
    (case a18 => k_is)
    (case a19 => k_is)
    (case a20 => k_is)
    (case a21 => k_is)
    (case a22 => k_is)
    (case a23 => k_is)
    (case a24 => k_is)
    (case a25 => k_is)
    (case a26 => k_is)
    (case aC => k_is)
    (case mI => k_is)
    (case iI => k_is)
    (case mE => k_is)
    (case pg => k_is)
    (case hd => k_is)
    (case po => k_is)
    (case sa => k_is)
    (case mk => k_is)
    (case kc => k_is)
    (case n_bars => k_is)
    (case n_whole => k_is)
    (case n_classes => k_is)
    (case q1B => k_is)
    (case q2B => k_is)
    (case q3B => k_is)
    (case q4B => k_is)
    (case q1W => k_is)
    (case q2W => k_is)
    (case q3W => k_is)
    (case q4W => k_is)
    (case q1C => k_is)
    (case q2C => k_is)
    (case q3C => k_is)
    (case q4C => k_is)
    (case l0 => k_is)
    (case d0 => k_is)
    (case k0 => k_is)
    (case l1 => k_is)
    (case d1 => k_is)
    (case k1 => k_is)
    (case l2 => k_is)
    (case d2 => k_is)
    (case k2 => k_is)
    (case l3 => k_is)
    (case d3 => k_is)
    (case k3 => k_is)
    (case l4 => k_is)
    (case d4 => k_is)
    (case k4 => k_is)
    (case l5 => k_is)
    (case d5 => k_is)
    (case k5 => k_is)
    (case l6 => k_is)
    (case d6 => k_is)
    (case k6 => k_is)
    (case l7 => k_is)
    (case d7 => k_is)
    (case k7 => k_is)
    (case l8 => k_is)
    (case d8 => k_is)
    (case k8 => k_is)
    (case l9 => k_is)
    (case d9 => k_is)
    (case k9 => k_is)
    (case l10 => k_is)
    (case d10 => k_is)
    (case k10 => k_is)
    (case l11 => k_is)
    (case d11 => k_is)
    (case k11 => k_is)
    (case l12 => k_is)
    (case d12 => k_is)
    (case k12 => k_is)
    (case l13 => k_is)
    (case d13 => k_is)
    (case k13 => k_is)
    (case l14 => k_is)
    (case d14 => k_is)
    (case k14 => k_is)
    (case l15 => k_is)
    (case d15 => k_is)
    (case k15 => k_is)
    (case l16 => k_is)
    (case d16 => k_is)
    (case k16 => k_is)
    (case l17 => k_is)
    (case d17 => k_is)
    (case k17 => k_is)
    (case l18 => k_is)
    (case d18 => k_is)
    (case k18 => k_is)
    (case l19 => k_is)
    (case d19 => k_is)
    (case k19 => k_is)
    (case l20 => k_is)
    (case d20 => k_is)
    (case k20 => k_is)
    (case l21 => k_is)
    (case d21 => k_is)
    (case k21 => k_is)
    (case l22 => k_is)
    (case d22 => k_is)
    (case k22 => k_is)
    (case l23 => k_is)
    (case d23 => k_is)
    (case k23 => k_is)
    (case l24 => k_is)
    (case d24 => k_is)
    (case k24 => k_is)
    (case l25 => k_is)
    (case d25 => k_is)
    (case k25 => k_is)
    (case l26 => k_is)
    (case d26 => k_is)
    (case k26 => k_is)
    (case l27 => k_is)
    (case d27 => k_is)
    (case k27 => k_is)
    (case l28 => k_is)
    (case d28 => k_is)
    (case k28 => k_is)
    (case l29 => k_is)
    (case d29 => k_is)
    (case k29 => k_is)
    (case l30 => k_is)
    (case d30 => k_is)
    (case k30 => k_is)
    (case l31 => k_is)
    (case d31 => k_is)
    (case k31 => k_is)
    (case z_len => k_is)
    (case z_max => k_is)
    (case z_min => k_is)
    (case z_sum => k_is)
    (case z_range => k_is)
    (case z_int => k_is)
    (case z_list => k_is)
    (case z_tuple => k_is)
    (case z_set => k_is)
    (case z_sorted => k_is)
    (case z_isinstance => k_is)
    (case z_enumerate => k_is)
    (case z_zip => k_is)
    (case z_bool => k_is)
    (case z_divmod => k_is)
    (case z_all => k_is)
    (case g_gcd => k_is)
    (case g_lcm => k_is)
    (case c_GREATEST_MODULUS => k_is)
    (case c_MOST_RESTS => k_is)
    (case c_GREATEST_STEP => k_is)
    (case c_MOST_BARS => k_is)
    (case c_GREATEST_WHOLE => k_is)
    (case c_MOST_CHOICES => k_is)
    (case g_RestError => k_is)
    (case hR => k_is)
    (case tR => k_is)
    (case g_BadNumber => k_is)
    (case x_BadNumber => k_exc)
    (case k_BadNumber => k_is)
    (case b_BadNumber => k_is)
    (case t_BadNumber => k_is)
    (case e_BadNumber => k_is)
    (case E1_BadNumber => k_is)
    (case E2_BadNumber => k_is)
    (case E3_BadNumber => k_is)
    (case E4_BadNumber => k_is)
    (case E5_BadNumber => k_is)
    (case E6_BadNumber => k_is)
    (case E7_BadNumber => k_is)
    (case r_BadNumber => k_is)
    (case g_TooGreat => k_is)
    (case x_TooGreat => k_exc)
    (case k_TooGreat => k_is)
    (case b_TooGreat => k_is)
    (case t_TooGreat => k_is)
    (case e_TooGreat => k_is)
    (case E1_TooGreat => k_is)
    (case E2_TooGreat => k_is)
    (case E3_TooGreat => k_is)
    (case E4_TooGreat => k_is)
    (case E5_TooGreat => k_is)
    (case E6_TooGreat => k_is)
    (case E7_TooGreat => k_is)
    (case r_TooGreat => k_is)
    (case g_TooMany => k_is)
    (case x_TooMany => k_exc)
    (case k_TooMany => k_is)
    (case b_TooMany => k_is)
    (case t_TooMany => k_is)
    (case e_TooMany => k_is)
    (case E1_TooMany => k_is)
    (case E2_TooMany => k_is)
    (case E3_TooMany => k_is)
    (case E4_TooMany => k_is)
    (case E5_TooMany => k_is)
    (case E6_TooMany => k_is)
    (case E7_TooMany => k_is)
    (case r_TooMany => k_is)
    (case g_Nothing => k_is)
    (case x_Nothing => k_exc)
    (case k_Nothing => k_is)
    (case b_Nothing => k_is)
    (case t_Nothing => k_is)
    (case e_Nothing => k_is)
    (case E1_Nothing => k_is)
    (case E2_Nothing => k_is)
    (case E3_Nothing => k_is)
    (case E4_Nothing => k_is)
    (case E5_Nothing => k_is)
    (case E6_Nothing => k_is)
    (case E7_Nothing => k_is)
    (case r_Nothing => k_is)
    (case e_BadNumber_TooGreat => k_is)
    (case e_BadNumber_TooMany => k_is)
    (case e_BadNumber_Nothing => k_is)
    (case e_TooGreat_BadNumber => k_is)
    (case e_TooGreat_TooMany => k_is)
    (case e_TooGreat_Nothing => k_is)
    (case e_TooMany_BadNumber => k_is)
    (case e_TooMany_TooGreat => k_is)
    (case e_TooMany_Nothing => k_is)
    (case e_Nothing_BadNumber => k_is)
    (case e_Nothing_TooGreat => k_is)
    (case e_Nothing_TooMany => k_is)
    (case kq10 => rfl)
    (case kl10 => k_is)
    (case kt10 => rfl)
    (case kh10 => kernel_rfl)
    (case kn10 => kernel_rfl)
