import PyProof.Rows.All
import Wide.All
import OpenK.AllK
import Wide.FinOn
import HandS.ForMost
import HandS.SortInts
import HandS.TupAny
import HandS.IsInst
import HandS.Wide
import HandS.Conv
import HandS.Gcd
import HandS.Property
import HandS.Codes
import HandS.Walk
import KE.GoesMore
import KE.KMathGC
import HandS.Exc
import HandS.ExcOwn
import HandS.TryOnly
import HandS.ExcIs
import HandS.WordsExc
import HandS.WideBits
import HandS.SetFor
import HandS.Strs
import HandS.SetBool
import PyProof.LongRange
import HandS.DictComp
import HandS.Deep
import HandS.Style
import HandS.TupSets
import HandS.DictTup
import HandS.Style
import HandS.Small
import HandS.TupMul
import HandS.Deep
import HandS.Lambda
import HandS.Nested
import HandS.EndTab
import HandS.EndOwn
import HandS.SortKw
import HandS.NamedTupSort
import KE.KMinKey
import KE.KNestM
import HandS.More
import HandS.Comp
import HandS.NamedTupSort
import KE.GoesZip
import HandS.Zip
import HandS.SortRule
import PySem.Challenge.RW_restlots_k43_known_sieves
set_option Elab.async false
set_option linter.all false
set_option maxRecDepth 100000
set_option maxHeartbeats 4000000
set_option exponentiation.threshold 6000
namespace R
open PySem PySem.Spec PyProof.Rows L2
/-! the text by places -/
def top (i : Nat) : Stmt := (PySem.Challenge.pw_restlots_k43_known_sieves.main.body).getD i (.Pass ⟨0, 0, 0, 0⟩)
abbrev s_p_is_integer : Stmt := top 17
abbrev s_p_integer_within : Stmt := top 18
abbrev s_p_is_number : Stmt := top 19
abbrev s_p_check_number : Stmt := top 20
abbrev s_p_check_modulus : Stmt := top 21
abbrev s_p_is_ascending : Stmt := top 22
abbrev s_p_is_lot : Stmt := top 23
abbrev s_p_is_pair : Stmt := top 24
abbrev s_p_is_bar : Stmt := top 25
abbrev s_p_check_some : Stmt := top 26
abbrev s_p_inverse : Stmt := top 28
abbrev s_p_joined : Stmt := top 29
abbrev s_p_classes_of : Stmt := top 30
abbrev s_p_check_bars : Stmt := top 35
abbrev s_p_whole_of : Stmt := top 36
abbrev s_p_check_choices : Stmt := top 37
abbrev s_p_share : Stmt := top 39
abbrev s_p_only : Stmt := top 42
abbrev s_p_others : Stmt := top 43
abbrev s_p_smallest_sets : Stmt := top 44
abbrev s_p_is_enough : Stmt := top 45
abbrev s_p_needless : Stmt := top 46
abbrev s_p_smallest_kept : Stmt := top 47
abbrev s_p_rests : Stmt := top 48
abbrev s_p_greatest_sure : Stmt := top 49
abbrev s_p_smallest_barring : Stmt := top 51
abbrev s_p_both : Stmt := top 53
abbrev s_p_keeps_to : Stmt := top 54
abbrev s_p_within : Stmt := top 55
abbrev s_p_alike : Stmt := top 56
abbrev s_p_distance : Stmt := top 57
abbrev s_p_as_one : Stmt := top 58
abbrev s_p_pairs_of_rests : Stmt := top 61
abbrev s_p_sums : Stmt := top 62
abbrev s_p_products : Stmt := top 63
abbrev s_p_classes_below : Stmt := top 66
abbrev s_p_place_from : Stmt := top 67
abbrev s_p_standing_at : Stmt := top 68
abbrev s_p_check_stretch : Stmt := top 69
abbrev s_p_count : Stmt := top 70
abbrev s_p_numbered : Stmt := top 71
abbrev s_p_steps_in_order : Stmt := top 72
abbrev s_p_steps : Stmt := top 73
abbrev s_p_longest : Stmt := top 74
abbrev s_p_longest_gap : Stmt := top 75
abbrev s_p_run_from : Stmt := top 76
abbrev s_p_longest_run : Stmt := top 77
abbrev s_p_check_moduli : Stmt := top 83
abbrev s_p_is_sight : Stmt := top 84
abbrev s_p_check_seen : Stmt := top 85
abbrev s_p_marks_of : Stmt := top 86
abbrev s_p_held_marks : Stmt := top 87
abbrev s_p_unheld_marks : Stmt := top 88
abbrev s_p_rows_with : Stmt := top 89
abbrev s_p_many_lots : Stmt := top 90
abbrev s_l_draws : Stmt := top 92
abbrev s_l_pick : Stmt := top 93
abbrev s_l_pair : Stmt := top 94
abbrev s_l_odd : Stmt := top 95
abbrev s_l_all : Stmt := top 96
abbrev s_law : Stmt := top 97
abbrev s_m_Sieve_init : Stmt := inClass (top 38) 0
abbrev s_m_Sieve_eq : Stmt := inClass (top 38) 1
abbrev s_m_Sieve_bars : Stmt := inClass (top 38) 2
abbrev s_m_Sieve_whole : Stmt := inClass (top 38) 3
abbrev s_m_Sieve_classes : Stmt := inClass (top 38) 4
theorem sc_p_is_integer : FnScope ["value"] ["value"] (defScope s_p_is_integer) := ⟨rfl, rfl, rfl, by decide +kernel, rfl, by decide +kernel, by decide +kernel⟩
theorem sc_p_integer_within : FnScope ["value", "least", "greatest"] ["value", "least", "greatest"] (defScope s_p_integer_within) := ⟨rfl, rfl, rfl, by decide +kernel, rfl, by decide +kernel, by decide +kernel⟩
theorem sc_p_is_number : FnScope ["value"] ["value"] (defScope s_p_is_number) := ⟨rfl, rfl, rfl, by decide +kernel, rfl, by decide +kernel, by decide +kernel⟩
theorem sc_p_check_number : FnScope ["value"] ["value"] (defScope s_p_check_number) := ⟨rfl, rfl, rfl, by decide +kernel, rfl, by decide +kernel, by decide +kernel⟩
theorem sc_p_check_modulus : FnScope ["value", "greatest"] ["value", "greatest"] (defScope s_p_check_modulus) := ⟨rfl, rfl, rfl, by decide +kernel, rfl, by decide +kernel, by decide +kernel⟩
theorem sc_p_is_ascending : FnScope ["value", "limit", "least", "one"] ["value", "limit"] (defScope s_p_is_ascending) := ⟨rfl, rfl, rfl, by decide +kernel, rfl, by decide +kernel, by decide +kernel⟩
theorem sc_p_is_lot : FnScope ["value", "modulus"] ["value", "modulus"] (defScope s_p_is_lot) := ⟨rfl, rfl, rfl, by decide +kernel, rfl, by decide +kernel, by decide +kernel⟩
theorem sc_p_is_pair : FnScope ["value"] ["value"] (defScope s_p_is_pair) := ⟨rfl, rfl, rfl, by decide +kernel, rfl, by decide +kernel, by decide +kernel⟩
theorem sc_p_is_bar : FnScope ["value", "modulus", "lot"] ["value"] (defScope s_p_is_bar) := ⟨rfl, rfl, rfl, by decide +kernel, rfl, by decide +kernel, by decide +kernel⟩
theorem sc_p_check_some : FnScope ["sieve"] ["sieve"] (defScope s_p_check_some) := ⟨rfl, rfl, rfl, by decide +kernel, rfl, by decide +kernel, by decide +kernel⟩
theorem sc_p_inverse : FnScope ["number", "modulus", "rest", "after", "factor", "factor_after", "many"] ["number", "modulus"] (defScope s_p_inverse) := ⟨rfl, rfl, rfl, by decide +kernel, rfl, by decide +kernel, by decide +kernel⟩
theorem sc_p_joined : FnScope ["classes", "whole", "modulus", "lot", "common", "turns", "back", "found", "known", "rest", "apart"] ["classes", "whole", "modulus", "lot"] (defScope s_p_joined) := ⟨rfl, rfl, rfl, by decide +kernel, rfl, by decide +kernel, by decide +kernel⟩
theorem sc_p_classes_of : FnScope ["bars", "whole", "classes", "modulus", "lot"] ["bars"] (defScope s_p_classes_of) := ⟨rfl, rfl, rfl, by decide +kernel, rfl, by decide +kernel, by decide +kernel⟩
theorem sc_p_check_bars : FnScope ["bars", "index", "bar"] ["bars"] (defScope s_p_check_bars) := ⟨rfl, rfl, rfl, by decide +kernel, rfl, by decide +kernel, by decide +kernel⟩
theorem sc_p_whole_of : FnScope ["bars", "whole", "modulus", "_"] ["bars"] (defScope s_p_whole_of) := ⟨rfl, rfl, rfl, by decide +kernel, rfl, by decide +kernel, by decide +kernel⟩
theorem sc_p_check_choices : FnScope ["bars", "choices", "_", "lot"] ["bars"] (defScope s_p_check_choices) := ⟨rfl, rfl, rfl, by decide +kernel, rfl, by decide +kernel, by decide +kernel⟩
theorem sc_p_share : FnScope ["sieve", "many", "common"] ["sieve"] (defScope s_p_share) := ⟨rfl, rfl, rfl, by decide +kernel, rfl, by decide +kernel, by decide +kernel⟩
theorem sc_p_only : FnScope ["sieve", "indexes", "index"] ["sieve", "indexes"] (defScope s_p_only) := ⟨rfl, rfl, rfl, by decide +kernel, rfl, by decide +kernel, by decide +kernel⟩
theorem sc_p_others : FnScope ["sieve", "indexes", "index"] ["sieve", "indexes"] (defScope s_p_others) := ⟨rfl, rfl, rfl, by decide +kernel, rfl, by decide +kernel, by decide +kernel⟩
theorem sc_p_smallest_sets : FnScope ["sieve", "suits", "many", "found", "indexes"] ["sieve", "suits"] (defScope s_p_smallest_sets) := ⟨rfl, rfl, rfl, by decide +kernel, rfl, by decide +kernel, by decide +kernel⟩
theorem sc_p_is_enough : FnScope ["sieve", "indexes"] ["sieve", "indexes"] (defScope s_p_is_enough) := ⟨rfl, rfl, rfl, by decide +kernel, rfl, by decide +kernel, by decide +kernel⟩
theorem sc_p_needless : FnScope ["sieve", "index"] ["sieve"] (defScope s_p_needless) := ⟨rfl, rfl, rfl, by decide +kernel, rfl, by decide +kernel, by decide +kernel⟩
theorem sc_p_smallest_kept : FnScope ["sieve"] ["sieve"] (defScope s_p_smallest_kept) := ⟨rfl, rfl, rfl, by decide +kernel, rfl, by decide +kernel, by decide +kernel⟩
theorem sc_p_rests : FnScope ["sieve", "modulus", "common", "left", "number", "rest"] ["sieve", "modulus"] (defScope s_p_rests) := ⟨rfl, rfl, rfl, by decide +kernel, rfl, by decide +kernel, by decide +kernel⟩
theorem sc_p_greatest_sure : FnScope ["sieve", "first", "modulus", "number"] ["sieve"] (defScope s_p_greatest_sure) := ⟨rfl, rfl, rfl, by decide +kernel, rfl, by decide +kernel, by decide +kernel⟩
theorem sc_p_smallest_barring : FnScope ["sieve"] ["sieve"] (defScope s_p_smallest_barring) := ⟨rfl, rfl, rfl, by decide +kernel, rfl, by decide +kernel, by decide +kernel⟩
theorem sc_p_both : FnScope ["one", "other", "bars"] ["one", "other"] (defScope s_p_both) := ⟨rfl, rfl, rfl, by decide +kernel, rfl, by decide +kernel, by decide +kernel⟩
theorem sc_p_keeps_to : FnScope ["sieve", "bar", "modulus", "lot", "common", "agreeing", "rest", "needed", "number"] ["sieve", "bar"] (defScope s_p_keeps_to) := ⟨rfl, rfl, rfl, by decide +kernel, rfl, by decide +kernel, by decide +kernel⟩
theorem sc_p_within : FnScope ["one", "other", "bar"] ["one", "other"] (defScope s_p_within) := ⟨rfl, rfl, rfl, by decide +kernel, rfl, by decide +kernel, by decide +kernel⟩
theorem sc_p_alike : FnScope ["one", "other"] ["one", "other"] (defScope s_p_alike) := ⟨rfl, rfl, rfl, by decide +kernel, rfl, by decide +kernel, by decide +kernel⟩
theorem sc_p_distance : FnScope ["one", "other", "common", "marks_of_one", "marks", "number", "place", "side", "after", "next_side"] ["one", "other"] (defScope s_p_distance) := ⟨rfl, rfl, rfl, by decide +kernel, rfl, by decide +kernel, by decide +kernel⟩
theorem sc_p_as_one : FnScope ["sieve"] ["sieve"] (defScope s_p_as_one) := ⟨rfl, rfl, rfl, by decide +kernel, rfl, by decide +kernel, by decide +kernel⟩
theorem sc_p_pairs_of_rests : FnScope ["one", "other", "modulus", "of_other", "first", "second"] ["one", "other", "modulus"] (defScope s_p_pairs_of_rests) := ⟨rfl, rfl, rfl, by decide +kernel, rfl, by decide +kernel, by decide +kernel⟩
theorem sc_p_sums : FnScope ["one", "other", "modulus", "first", "second"] ["one", "other", "modulus"] (defScope s_p_sums) := ⟨rfl, rfl, rfl, by decide +kernel, rfl, by decide +kernel, by decide +kernel⟩
theorem sc_p_products : FnScope ["one", "other", "modulus", "first", "second"] ["one", "other", "modulus"] (defScope s_p_products) := ⟨rfl, rfl, rfl, by decide +kernel, rfl, by decide +kernel, by decide +kernel⟩
theorem sc_p_classes_below : FnScope ["classes", "number", "low", "high", "middle"] ["classes", "number"] (defScope s_p_classes_below) := ⟨rfl, rfl, rfl, by decide +kernel, rfl, by decide +kernel, by decide +kernel⟩
theorem sc_p_place_from : FnScope ["sieve", "number", "wholes", "rest"] ["sieve", "number"] (defScope s_p_place_from) := ⟨rfl, rfl, rfl, by decide +kernel, rfl, by decide +kernel, by decide +kernel⟩
theorem sc_p_standing_at : FnScope ["sieve", "place", "wholes", "index"] ["sieve", "place"] (defScope s_p_standing_at) := ⟨rfl, rfl, rfl, by decide +kernel, rfl, by decide +kernel, by decide +kernel⟩
theorem sc_p_check_stretch : FnScope ["begin", "end"] ["begin", "end"] (defScope s_p_check_stretch) := ⟨rfl, rfl, rfl, by decide +kernel, rfl, by decide +kernel, by decide +kernel⟩
theorem sc_p_count : FnScope ["sieve", "begin", "end"] ["sieve", "begin", "end"] (defScope s_p_count) := ⟨rfl, rfl, rfl, by decide +kernel, rfl, by decide +kernel, by decide +kernel⟩
theorem sc_p_numbered : FnScope ["sieve", "begin", "index"] ["sieve", "begin", "index"] (defScope s_p_numbered) := ⟨rfl, rfl, rfl, by decide +kernel, rfl, by decide +kernel, by decide +kernel⟩
theorem sc_p_steps_in_order : FnScope ["sieve", "place"] ["sieve"] (defScope s_p_steps_in_order) := ⟨rfl, rfl, rfl, by decide +kernel, rfl, by decide +kernel, by decide +kernel⟩
theorem sc_p_steps : FnScope ["sieve", "often", "step"] ["sieve"] (defScope s_p_steps) := ⟨rfl, rfl, rfl, by decide +kernel, rfl, by decide +kernel, by decide +kernel⟩
theorem sc_p_longest : FnScope ["found"] ["found"] (defScope s_p_longest) := ⟨rfl, rfl, rfl, by decide +kernel, rfl, by decide +kernel, by decide +kernel⟩
theorem sc_p_longest_gap : FnScope ["sieve", "gaps", "number", "step"] ["sieve"] (defScope s_p_longest_gap) := ⟨rfl, rfl, rfl, by decide +kernel, rfl, by decide +kernel, by decide +kernel⟩
theorem sc_p_run_from : FnScope ["sieve", "place", "begin", "many"] ["sieve", "place"] (defScope s_p_run_from) := ⟨rfl, rfl, rfl, by decide +kernel, rfl, by decide +kernel, by decide +kernel⟩
theorem sc_p_longest_run : FnScope ["sieve", "runs", "place", "begin"] ["sieve"] (defScope s_p_longest_run) := ⟨rfl, rfl, rfl, by decide +kernel, rfl, by decide +kernel, by decide +kernel⟩
theorem sc_p_check_moduli : FnScope ["moduli", "index", "modulus"] ["moduli"] (defScope s_p_check_moduli) := ⟨rfl, rfl, rfl, by decide +kernel, rfl, by decide +kernel, by decide +kernel⟩
theorem sc_p_is_sight : FnScope ["value"] ["value"] (defScope s_p_is_sight) := ⟨rfl, rfl, rfl, by decide +kernel, rfl, by decide +kernel, by decide +kernel⟩
theorem sc_p_check_seen : FnScope ["seen", "unfit", "index", "sight"] ["seen"] (defScope s_p_check_seen) := ⟨rfl, rfl, rfl, by decide +kernel, rfl, by decide +kernel, by decide +kernel⟩
theorem sc_p_marks_of : FnScope ["moduli", "number", "index", "modulus"] ["moduli", "number"] (defScope s_p_marks_of) := ⟨rfl, rfl, rfl, by decide +kernel, rfl, by decide +kernel, by decide +kernel⟩
theorem sc_p_held_marks : FnScope ["moduli", "seen", "number", "does", "mark"] ["moduli", "seen"] (defScope s_p_held_marks) := ⟨rfl, rfl, rfl, by decide +kernel, rfl, by decide +kernel, by decide +kernel⟩
theorem sc_p_unheld_marks : FnScope ["moduli", "seen", "held", "number", "does", "mark"] ["moduli", "seen"] (defScope s_p_unheld_marks) := ⟨rfl, rfl, rfl, by decide +kernel, rfl, by decide +kernel, by decide +kernel⟩
theorem sc_p_rows_with : FnScope ["total", "held", "unheld", "more", "mark"] ["total", "held", "unheld"] (defScope s_p_rows_with) := ⟨rfl, rfl, rfl, by decide +kernel, rfl, by decide +kernel, by decide +kernel⟩
theorem sc_p_many_lots : FnScope ["moduli", "seen"] ["moduli", "seen"] (defScope s_p_many_lots) := ⟨rfl, rfl, rfl, by decide +kernel, rfl, by decide +kernel, by decide +kernel⟩
theorem sc_l_draws : FnScope ["_law_script"] ["_law_script"] (defScope s_l_draws) := ⟨rfl, rfl, rfl, by decide +kernel, rfl, by decide +kernel, by decide +kernel⟩
theorem sc_l_pick : FnScope ["_law_row", "_law_many", "_law_cell", "_law_found"] ["_law_row", "_law_many"] (defScope s_l_pick) := ⟨rfl, rfl, rfl, by decide +kernel, rfl, by decide +kernel, by decide +kernel⟩
theorem sc_l_pair : FnScope ["_law_a", "_law_b", "_law_c", "_law_d", "_law_sieve", "_law_found", "_law_number"] ["_law_a", "_law_b", "_law_c", "_law_d"] (defScope s_l_pair) := ⟨rfl, rfl, rfl, by decide +kernel, rfl, by decide +kernel, by decide +kernel⟩
theorem sc_l_odd : FnScope ["_law_by", "_law_odd_here", "_law_even"] ["_law_by"] (defScope s_l_odd) := ⟨rfl, rfl, rfl, by decide +kernel, rfl, by decide +kernel, by decide +kernel⟩
theorem sc_l_all : FnScope ["_law_by", "_law_every"] ["_law_by"] (defScope s_l_all) := ⟨rfl, rfl, rfl, by decide +kernel, rfl, by decide +kernel, by decide +kernel⟩
theorem sc_law : FnScope ["_law_script", "_law_row", "_law_a", "_law_b"] ["_law_script"] (defScope s_law) := ⟨rfl, rfl, rfl, by decide +kernel, rfl, by decide +kernel, by decide +kernel⟩
theorem sc_m_Sieve_init : FnScope ["self", "bars"] ["self", "bars"] (defScope s_m_Sieve_init) := ⟨rfl, rfl, rfl, by decide +kernel, rfl, by decide +kernel, by decide +kernel⟩
theorem sc_m_Sieve_eq : FnScope ["self", "other"] ["self", "other"] (defScope s_m_Sieve_eq) := ⟨rfl, rfl, rfl, by decide +kernel, rfl, by decide +kernel, by decide +kernel⟩
theorem sc_m_Sieve_bars : FnScope ["self"] ["self"] (defScope s_m_Sieve_bars) := ⟨rfl, rfl, rfl, by decide +kernel, rfl, by decide +kernel, by decide +kernel⟩
theorem sc_m_Sieve_whole : FnScope ["self"] ["self"] (defScope s_m_Sieve_whole) := ⟨rfl, rfl, rfl, by decide +kernel, rfl, by decide +kernel, by decide +kernel⟩
theorem sc_m_Sieve_classes : FnScope ["self"] ["self"] (defScope s_m_Sieve_classes) := ⟨rfl, rfl, rfl, by decide +kernel, rfl, by decide +kernel, by decide +kernel⟩
/-! what stands behind the top -/
structure Txt (K : PySem.W.Frag) (mg : Str → Option Value) where
  f_p_is_integer : Addr
  fd_p_is_integer : FuncData
  F_p_is_integer : Fun K "is_integer" "is_integer" s_p_is_integer f_p_is_integer fd_p_is_integer
  b_p_is_integer : Binds K fd_p_is_integer ["value"] []
  g_p_is_integer : mg "is_integer" = some (.ref f_p_is_integer)
  f_p_integer_within : Addr
  fd_p_integer_within : FuncData
  F_p_integer_within : Fun K "integer_within" "integer_within" s_p_integer_within f_p_integer_within fd_p_integer_within
  b_p_integer_within : Binds K fd_p_integer_within ["value", "least", "greatest"] []
  g_p_integer_within : mg "integer_within" = some (.ref f_p_integer_within)
  f_p_is_number : Addr
  fd_p_is_number : FuncData
  F_p_is_number : Fun K "is_number" "is_number" s_p_is_number f_p_is_number fd_p_is_number
  b_p_is_number : Binds K fd_p_is_number ["value"] []
  g_p_is_number : mg "is_number" = some (.ref f_p_is_number)
  f_p_check_number : Addr
  fd_p_check_number : FuncData
  F_p_check_number : Fun K "check_number" "check_number" s_p_check_number f_p_check_number fd_p_check_number
  b_p_check_number : Binds K fd_p_check_number ["value"] []
  g_p_check_number : mg "check_number" = some (.ref f_p_check_number)
  f_p_check_modulus : Addr
  fd_p_check_modulus : FuncData
  F_p_check_modulus : Fun K "check_modulus" "check_modulus" s_p_check_modulus f_p_check_modulus fd_p_check_modulus
  b_p_check_modulus : Binds K fd_p_check_modulus ["value", "greatest"] []
  g_p_check_modulus : mg "check_modulus" = some (.ref f_p_check_modulus)
  f_p_is_ascending : Addr
  fd_p_is_ascending : FuncData
  F_p_is_ascending : Fun K "is_ascending" "is_ascending" s_p_is_ascending f_p_is_ascending fd_p_is_ascending
  b_p_is_ascending : Binds K fd_p_is_ascending ["value", "limit"] []
  g_p_is_ascending : mg "is_ascending" = some (.ref f_p_is_ascending)
  f_p_is_lot : Addr
  fd_p_is_lot : FuncData
  F_p_is_lot : Fun K "is_lot" "is_lot" s_p_is_lot f_p_is_lot fd_p_is_lot
  b_p_is_lot : Binds K fd_p_is_lot ["value", "modulus"] []
  g_p_is_lot : mg "is_lot" = some (.ref f_p_is_lot)
  f_p_is_pair : Addr
  fd_p_is_pair : FuncData
  F_p_is_pair : Fun K "is_pair" "is_pair" s_p_is_pair f_p_is_pair fd_p_is_pair
  b_p_is_pair : Binds K fd_p_is_pair ["value"] []
  g_p_is_pair : mg "is_pair" = some (.ref f_p_is_pair)
  f_p_is_bar : Addr
  fd_p_is_bar : FuncData
  F_p_is_bar : Fun K "is_bar" "is_bar" s_p_is_bar f_p_is_bar fd_p_is_bar
  b_p_is_bar : Binds K fd_p_is_bar ["value"] []
  g_p_is_bar : mg "is_bar" = some (.ref f_p_is_bar)
  f_p_check_some : Addr
  fd_p_check_some : FuncData
  F_p_check_some : Fun K "check_some" "check_some" s_p_check_some f_p_check_some fd_p_check_some
  b_p_check_some : Binds K fd_p_check_some ["sieve"] []
  g_p_check_some : mg "check_some" = some (.ref f_p_check_some)
  f_p_inverse : Addr
  fd_p_inverse : FuncData
  F_p_inverse : Fun K "inverse" "inverse" s_p_inverse f_p_inverse fd_p_inverse
  b_p_inverse : Binds K fd_p_inverse ["number", "modulus"] []
  g_p_inverse : mg "inverse" = some (.ref f_p_inverse)
  f_p_joined : Addr
  fd_p_joined : FuncData
  F_p_joined : Fun K "joined" "joined" s_p_joined f_p_joined fd_p_joined
  b_p_joined : Binds K fd_p_joined ["classes", "whole", "modulus", "lot"] []
  g_p_joined : mg "joined" = some (.ref f_p_joined)
  f_p_classes_of : Addr
  fd_p_classes_of : FuncData
  F_p_classes_of : Fun K "classes_of" "classes_of" s_p_classes_of f_p_classes_of fd_p_classes_of
  b_p_classes_of : Binds K fd_p_classes_of ["bars"] []
  g_p_classes_of : mg "classes_of" = some (.ref f_p_classes_of)
  f_p_check_bars : Addr
  fd_p_check_bars : FuncData
  F_p_check_bars : Fun K "check_bars" "check_bars" s_p_check_bars f_p_check_bars fd_p_check_bars
  b_p_check_bars : Binds K fd_p_check_bars ["bars"] []
  g_p_check_bars : mg "check_bars" = some (.ref f_p_check_bars)
  f_p_whole_of : Addr
  fd_p_whole_of : FuncData
  F_p_whole_of : Fun K "whole_of" "whole_of" s_p_whole_of f_p_whole_of fd_p_whole_of
  b_p_whole_of : Binds K fd_p_whole_of ["bars"] []
  g_p_whole_of : mg "whole_of" = some (.ref f_p_whole_of)
  f_p_check_choices : Addr
  fd_p_check_choices : FuncData
  F_p_check_choices : Fun K "check_choices" "check_choices" s_p_check_choices f_p_check_choices fd_p_check_choices
  b_p_check_choices : Binds K fd_p_check_choices ["bars"] []
  g_p_check_choices : mg "check_choices" = some (.ref f_p_check_choices)
  f_p_share : Addr
  fd_p_share : FuncData
  F_p_share : Fun K "share" "share" s_p_share f_p_share fd_p_share
  b_p_share : Binds K fd_p_share ["sieve"] []
  g_p_share : mg "share" = some (.ref f_p_share)
  f_p_only : Addr
  fd_p_only : FuncData
  F_p_only : Fun K "only" "only" s_p_only f_p_only fd_p_only
  b_p_only : Binds K fd_p_only ["sieve", "indexes"] []
  g_p_only : mg "only" = some (.ref f_p_only)
  f_p_others : Addr
  fd_p_others : FuncData
  F_p_others : Fun K "others" "others" s_p_others f_p_others fd_p_others
  b_p_others : Binds K fd_p_others ["sieve", "indexes"] []
  g_p_others : mg "others" = some (.ref f_p_others)
  f_p_smallest_sets : Addr
  fd_p_smallest_sets : FuncData
  F_p_smallest_sets : Fun K "smallest_sets" "smallest_sets" s_p_smallest_sets f_p_smallest_sets fd_p_smallest_sets
  b_p_smallest_sets : Binds K fd_p_smallest_sets ["sieve", "suits"] []
  g_p_smallest_sets : mg "smallest_sets" = some (.ref f_p_smallest_sets)
  f_p_is_enough : Addr
  fd_p_is_enough : FuncData
  F_p_is_enough : Fun K "is_enough" "is_enough" s_p_is_enough f_p_is_enough fd_p_is_enough
  b_p_is_enough : Binds K fd_p_is_enough ["sieve", "indexes"] []
  g_p_is_enough : mg "is_enough" = some (.ref f_p_is_enough)
  f_p_needless : Addr
  fd_p_needless : FuncData
  F_p_needless : Fun K "needless" "needless" s_p_needless f_p_needless fd_p_needless
  b_p_needless : Binds K fd_p_needless ["sieve"] []
  g_p_needless : mg "needless" = some (.ref f_p_needless)
  f_p_smallest_kept : Addr
  fd_p_smallest_kept : FuncData
  F_p_smallest_kept : Fun K "smallest_kept" "smallest_kept" s_p_smallest_kept f_p_smallest_kept fd_p_smallest_kept
  b_p_smallest_kept : Binds K fd_p_smallest_kept ["sieve"] []
  g_p_smallest_kept : mg "smallest_kept" = some (.ref f_p_smallest_kept)
  cO_p_smallest_kept : Addr
  tO_p_smallest_kept : Addr
  cc_p_smallest_kept : fd_p_smallest_kept.code = .ref cO_p_smallest_kept
  ch_p_smallest_kept : PySem.W.codeHdIn K cO_p_smallest_kept tO_p_smallest_kept = true
  f_p_rests : Addr
  fd_p_rests : FuncData
  F_p_rests : Fun K "rests" "rests" s_p_rests f_p_rests fd_p_rests
  b_p_rests : Binds K fd_p_rests ["sieve", "modulus"] []
  g_p_rests : mg "rests" = some (.ref f_p_rests)
  f_p_greatest_sure : Addr
  fd_p_greatest_sure : FuncData
  F_p_greatest_sure : Fun K "greatest_sure" "greatest_sure" s_p_greatest_sure f_p_greatest_sure fd_p_greatest_sure
  b_p_greatest_sure : Binds K fd_p_greatest_sure ["sieve"] []
  g_p_greatest_sure : mg "greatest_sure" = some (.ref f_p_greatest_sure)
  f_p_smallest_barring : Addr
  fd_p_smallest_barring : FuncData
  F_p_smallest_barring : Fun K "smallest_barring" "smallest_barring" s_p_smallest_barring f_p_smallest_barring fd_p_smallest_barring
  b_p_smallest_barring : Binds K fd_p_smallest_barring ["sieve"] []
  g_p_smallest_barring : mg "smallest_barring" = some (.ref f_p_smallest_barring)
  cO_p_smallest_barring : Addr
  tO_p_smallest_barring : Addr
  cc_p_smallest_barring : fd_p_smallest_barring.code = .ref cO_p_smallest_barring
  ch_p_smallest_barring : PySem.W.codeHdIn K cO_p_smallest_barring tO_p_smallest_barring = true
  f_p_both : Addr
  fd_p_both : FuncData
  F_p_both : Fun K "both" "both" s_p_both f_p_both fd_p_both
  b_p_both : Binds K fd_p_both ["one", "other"] []
  g_p_both : mg "both" = some (.ref f_p_both)
  f_p_keeps_to : Addr
  fd_p_keeps_to : FuncData
  F_p_keeps_to : Fun K "keeps_to" "keeps_to" s_p_keeps_to f_p_keeps_to fd_p_keeps_to
  b_p_keeps_to : Binds K fd_p_keeps_to ["sieve", "bar"] []
  g_p_keeps_to : mg "keeps_to" = some (.ref f_p_keeps_to)
  f_p_within : Addr
  fd_p_within : FuncData
  F_p_within : Fun K "within" "within" s_p_within f_p_within fd_p_within
  b_p_within : Binds K fd_p_within ["one", "other"] []
  g_p_within : mg "within" = some (.ref f_p_within)
  f_p_alike : Addr
  fd_p_alike : FuncData
  F_p_alike : Fun K "alike" "alike" s_p_alike f_p_alike fd_p_alike
  b_p_alike : Binds K fd_p_alike ["one", "other"] []
  g_p_alike : mg "alike" = some (.ref f_p_alike)
  f_p_distance : Addr
  fd_p_distance : FuncData
  F_p_distance : Fun K "distance" "distance" s_p_distance f_p_distance fd_p_distance
  b_p_distance : Binds K fd_p_distance ["one", "other"] []
  g_p_distance : mg "distance" = some (.ref f_p_distance)
  f_p_as_one : Addr
  fd_p_as_one : FuncData
  F_p_as_one : Fun K "as_one" "as_one" s_p_as_one f_p_as_one fd_p_as_one
  b_p_as_one : Binds K fd_p_as_one ["sieve"] []
  g_p_as_one : mg "as_one" = some (.ref f_p_as_one)
  f_p_pairs_of_rests : Addr
  fd_p_pairs_of_rests : FuncData
  F_p_pairs_of_rests : Fun K "pairs_of_rests" "pairs_of_rests" s_p_pairs_of_rests f_p_pairs_of_rests fd_p_pairs_of_rests
  b_p_pairs_of_rests : Binds K fd_p_pairs_of_rests ["one", "other", "modulus"] []
  g_p_pairs_of_rests : mg "pairs_of_rests" = some (.ref f_p_pairs_of_rests)
  f_p_sums : Addr
  fd_p_sums : FuncData
  F_p_sums : Fun K "sums" "sums" s_p_sums f_p_sums fd_p_sums
  b_p_sums : Binds K fd_p_sums ["one", "other", "modulus"] []
  g_p_sums : mg "sums" = some (.ref f_p_sums)
  f_p_products : Addr
  fd_p_products : FuncData
  F_p_products : Fun K "products" "products" s_p_products f_p_products fd_p_products
  b_p_products : Binds K fd_p_products ["one", "other", "modulus"] []
  g_p_products : mg "products" = some (.ref f_p_products)
  f_p_classes_below : Addr
  fd_p_classes_below : FuncData
  F_p_classes_below : Fun K "classes_below" "classes_below" s_p_classes_below f_p_classes_below fd_p_classes_below
  b_p_classes_below : Binds K fd_p_classes_below ["classes", "number"] []
  g_p_classes_below : mg "classes_below" = some (.ref f_p_classes_below)
  f_p_place_from : Addr
  fd_p_place_from : FuncData
  F_p_place_from : Fun K "place_from" "place_from" s_p_place_from f_p_place_from fd_p_place_from
  b_p_place_from : Binds K fd_p_place_from ["sieve", "number"] []
  g_p_place_from : mg "place_from" = some (.ref f_p_place_from)
  f_p_standing_at : Addr
  fd_p_standing_at : FuncData
  F_p_standing_at : Fun K "standing_at" "standing_at" s_p_standing_at f_p_standing_at fd_p_standing_at
  b_p_standing_at : Binds K fd_p_standing_at ["sieve", "place"] []
  g_p_standing_at : mg "standing_at" = some (.ref f_p_standing_at)
  f_p_check_stretch : Addr
  fd_p_check_stretch : FuncData
  F_p_check_stretch : Fun K "check_stretch" "check_stretch" s_p_check_stretch f_p_check_stretch fd_p_check_stretch
  b_p_check_stretch : Binds K fd_p_check_stretch ["begin", "end"] []
  g_p_check_stretch : mg "check_stretch" = some (.ref f_p_check_stretch)
  f_p_count : Addr
  fd_p_count : FuncData
  F_p_count : Fun K "count" "count" s_p_count f_p_count fd_p_count
  b_p_count : Binds K fd_p_count ["sieve", "begin", "end"] []
  g_p_count : mg "count" = some (.ref f_p_count)
  f_p_numbered : Addr
  fd_p_numbered : FuncData
  F_p_numbered : Fun K "numbered" "numbered" s_p_numbered f_p_numbered fd_p_numbered
  b_p_numbered : Binds K fd_p_numbered ["sieve", "begin", "index"] []
  g_p_numbered : mg "numbered" = some (.ref f_p_numbered)
  f_p_steps_in_order : Addr
  fd_p_steps_in_order : FuncData
  F_p_steps_in_order : Fun K "steps_in_order" "steps_in_order" s_p_steps_in_order f_p_steps_in_order fd_p_steps_in_order
  b_p_steps_in_order : Binds K fd_p_steps_in_order ["sieve"] []
  g_p_steps_in_order : mg "steps_in_order" = some (.ref f_p_steps_in_order)
  f_p_steps : Addr
  fd_p_steps : FuncData
  F_p_steps : Fun K "steps" "steps" s_p_steps f_p_steps fd_p_steps
  b_p_steps : Binds K fd_p_steps ["sieve"] []
  g_p_steps : mg "steps" = some (.ref f_p_steps)
  f_p_longest : Addr
  fd_p_longest : FuncData
  F_p_longest : Fun K "longest" "longest" s_p_longest f_p_longest fd_p_longest
  b_p_longest : Binds K fd_p_longest ["found"] []
  g_p_longest : mg "longest" = some (.ref f_p_longest)
  cO_p_longest : Addr
  tO_p_longest : Addr
  cc_p_longest : fd_p_longest.code = .ref cO_p_longest
  ch_p_longest : PySem.W.codeHdIn K cO_p_longest tO_p_longest = true
  f_p_longest_gap : Addr
  fd_p_longest_gap : FuncData
  F_p_longest_gap : Fun K "longest_gap" "longest_gap" s_p_longest_gap f_p_longest_gap fd_p_longest_gap
  b_p_longest_gap : Binds K fd_p_longest_gap ["sieve"] []
  g_p_longest_gap : mg "longest_gap" = some (.ref f_p_longest_gap)
  f_p_run_from : Addr
  fd_p_run_from : FuncData
  F_p_run_from : Fun K "run_from" "run_from" s_p_run_from f_p_run_from fd_p_run_from
  b_p_run_from : Binds K fd_p_run_from ["sieve", "place"] []
  g_p_run_from : mg "run_from" = some (.ref f_p_run_from)
  f_p_longest_run : Addr
  fd_p_longest_run : FuncData
  F_p_longest_run : Fun K "longest_run" "longest_run" s_p_longest_run f_p_longest_run fd_p_longest_run
  b_p_longest_run : Binds K fd_p_longest_run ["sieve"] []
  g_p_longest_run : mg "longest_run" = some (.ref f_p_longest_run)
  f_p_check_moduli : Addr
  fd_p_check_moduli : FuncData
  F_p_check_moduli : Fun K "check_moduli" "check_moduli" s_p_check_moduli f_p_check_moduli fd_p_check_moduli
  b_p_check_moduli : Binds K fd_p_check_moduli ["moduli"] []
  g_p_check_moduli : mg "check_moduli" = some (.ref f_p_check_moduli)
  f_p_is_sight : Addr
  fd_p_is_sight : FuncData
  F_p_is_sight : Fun K "is_sight" "is_sight" s_p_is_sight f_p_is_sight fd_p_is_sight
  b_p_is_sight : Binds K fd_p_is_sight ["value"] []
  g_p_is_sight : mg "is_sight" = some (.ref f_p_is_sight)
  f_p_check_seen : Addr
  fd_p_check_seen : FuncData
  F_p_check_seen : Fun K "check_seen" "check_seen" s_p_check_seen f_p_check_seen fd_p_check_seen
  b_p_check_seen : Binds K fd_p_check_seen ["seen"] []
  g_p_check_seen : mg "check_seen" = some (.ref f_p_check_seen)
  f_p_marks_of : Addr
  fd_p_marks_of : FuncData
  F_p_marks_of : Fun K "marks_of" "marks_of" s_p_marks_of f_p_marks_of fd_p_marks_of
  b_p_marks_of : Binds K fd_p_marks_of ["moduli", "number"] []
  g_p_marks_of : mg "marks_of" = some (.ref f_p_marks_of)
  f_p_held_marks : Addr
  fd_p_held_marks : FuncData
  F_p_held_marks : Fun K "held_marks" "held_marks" s_p_held_marks f_p_held_marks fd_p_held_marks
  b_p_held_marks : Binds K fd_p_held_marks ["moduli", "seen"] []
  g_p_held_marks : mg "held_marks" = some (.ref f_p_held_marks)
  f_p_unheld_marks : Addr
  fd_p_unheld_marks : FuncData
  F_p_unheld_marks : Fun K "unheld_marks" "unheld_marks" s_p_unheld_marks f_p_unheld_marks fd_p_unheld_marks
  b_p_unheld_marks : Binds K fd_p_unheld_marks ["moduli", "seen"] []
  g_p_unheld_marks : mg "unheld_marks" = some (.ref f_p_unheld_marks)
  f_p_rows_with : Addr
  fd_p_rows_with : FuncData
  F_p_rows_with : Fun K "rows_with" "rows_with" s_p_rows_with f_p_rows_with fd_p_rows_with
  b_p_rows_with : Binds K fd_p_rows_with ["total", "held", "unheld"] []
  g_p_rows_with : mg "rows_with" = some (.ref f_p_rows_with)
  f_p_many_lots : Addr
  fd_p_many_lots : FuncData
  F_p_many_lots : Fun K "many_lots" "many_lots" s_p_many_lots f_p_many_lots fd_p_many_lots
  b_p_many_lots : Binds K fd_p_many_lots ["moduli", "seen"] []
  g_p_many_lots : mg "many_lots" = some (.ref f_p_many_lots)
  f_l_draws : Addr
  fd_l_draws : FuncData
  F_l_draws : Fun K "_law_draws" "_law_draws" s_l_draws f_l_draws fd_l_draws
  b_l_draws : Binds K fd_l_draws ["_law_script"] []
  g_l_draws : mg "_law_draws" = some (.ref f_l_draws)
  f_l_pick : Addr
  fd_l_pick : FuncData
  F_l_pick : Fun K "_law_pick" "_law_pick" s_l_pick f_l_pick fd_l_pick
  b_l_pick : Binds K fd_l_pick ["_law_row", "_law_many"] []
  g_l_pick : mg "_law_pick" = some (.ref f_l_pick)
  f_l_pair : Addr
  fd_l_pair : FuncData
  F_l_pair : Fun K "_law_pair" "_law_pair" s_l_pair f_l_pair fd_l_pair
  b_l_pair : Binds K fd_l_pair ["_law_a", "_law_b", "_law_c", "_law_d"] []
  g_l_pair : mg "_law_pair" = some (.ref f_l_pair)
  f_l_odd : Addr
  fd_l_odd : FuncData
  F_l_odd : Fun K "_law_odd" "_law_odd" s_l_odd f_l_odd fd_l_odd
  b_l_odd : Binds K fd_l_odd ["_law_by"] []
  g_l_odd : mg "_law_odd" = some (.ref f_l_odd)
  f_l_all : Addr
  fd_l_all : FuncData
  F_l_all : Fun K "_law_all" "_law_all" s_l_all f_l_all fd_l_all
  b_l_all : Binds K fd_l_all ["_law_by"] []
  g_l_all : mg "_law_all" = some (.ref f_l_all)
  f_law : Addr
  fd_law : FuncData
  F_law : Fun K "law" "law" s_law f_law fd_law
  b_law : Binds K fd_law ["_law_script"] []
  g_law : mg "law" = some (.ref f_law)
  f_m_Sieve_init : Addr
  fd_m_Sieve_init : FuncData
  F_m_Sieve_init : Fun K "__init__" "Sieve.__init__" s_m_Sieve_init f_m_Sieve_init fd_m_Sieve_init
  b_m_Sieve_init : Binds K fd_m_Sieve_init ["self", "bars"] []
  f_m_Sieve_eq : Addr
  fd_m_Sieve_eq : FuncData
  F_m_Sieve_eq : Fun K "__eq__" "Sieve.__eq__" s_m_Sieve_eq f_m_Sieve_eq fd_m_Sieve_eq
  b_m_Sieve_eq : Binds K fd_m_Sieve_eq ["self", "other"] []
  f_m_Sieve_bars : Addr
  fd_m_Sieve_bars : FuncData
  F_m_Sieve_bars : Fun K "bars" "Sieve.bars" s_m_Sieve_bars f_m_Sieve_bars fd_m_Sieve_bars
  b_m_Sieve_bars : Binds K fd_m_Sieve_bars ["self"] []
  f_m_Sieve_whole : Addr
  fd_m_Sieve_whole : FuncData
  F_m_Sieve_whole : Fun K "whole" "Sieve.whole" s_m_Sieve_whole f_m_Sieve_whole fd_m_Sieve_whole
  b_m_Sieve_whole : Binds K fd_m_Sieve_whole ["self"] []
  f_m_Sieve_classes : Addr
  fd_m_Sieve_classes : FuncData
  F_m_Sieve_classes : Fun K "classes" "Sieve.classes" s_m_Sieve_classes f_m_Sieve_classes fd_m_Sieve_classes
  b_m_Sieve_classes : Binds K fd_m_Sieve_classes ["self"] []
  dt_p_smallest_kept_p_smallest_barring : tO_p_smallest_kept ≠ tO_p_smallest_barring
  dt_p_smallest_kept_p_longest : tO_p_smallest_kept ≠ tO_p_longest
  dt_p_smallest_barring_p_longest : tO_p_smallest_barring ≠ tO_p_longest
  z_len : mg "len" = none
  z_max : mg "max" = none
  z_min : mg "min" = none
  z_sum : mg "sum" = none
  z_range : mg "range" = none
  z_int : mg "int" = none
  z_list : mg "list" = none
  z_tuple : mg "tuple" = none
  z_sorted : mg "sorted" = none
  z_isinstance : mg "isinstance" = none
  z_enumerate : mg "enumerate" = none
  z_zip : mg "zip" = none
  z_bool : mg "bool" = none
  z_divmod : mg "divmod" = none
  z_all : mg "all" = none
  g_combinations : mg "combinations" = some (.type "itertools.combinations")
  g_gcd : mg "gcd" = some (.builtin "math.gcd")
  g_lcm : mg "lcm" = some (.builtin "math.lcm")
  c_GREATEST_NUMBER : ∃ t, mg "GREATEST_NUMBER" = some (.int 1000000000000000000000000000000 t)
  c_GREATEST_MODULUS : ∃ t, mg "GREATEST_MODULUS" = some (.int 1000000 t)
  c_MOST_RESTS : ∃ t, mg "MOST_RESTS" = some (.int 60 t)
  c_MOST_BARS : ∃ t, mg "MOST_BARS" = some (.int 6 t)
  c_GREATEST_WHOLE : ∃ t, mg "GREATEST_WHOLE" = some (.int 1000000000000000000000000000000 t)
  c_MOST_CHOICES : ∃ t, mg "MOST_CHOICES" = some (.int 2000 t)
  c_GREATEST_LISTED_BY : ∃ t, mg "GREATEST_LISTED_BY" = some (.int 1000 t)
  c_GREATEST_RECKONED_BY : ∃ t, mg "GREATEST_RECKONED_BY" = some (.int 200 t)
  c_GREATEST_INDEX : ∃ t, mg "GREATEST_INDEX" = some (.int 1000000000000000000000000000000 t)
  c_MOST_MODULI : ∃ t, mg "MOST_MODULI" = some (.int 4 t)
  c_GREATEST_TOLD_BY : ∃ t, mg "GREATEST_TOLD_BY" = some (.int 30 t)
  c_MOST_SEEN : ∃ t, mg "MOST_SEEN" = some (.int 20 t)
  c_MOST_UNFIT : ∃ t, mg "MOST_UNFIT" = some (.int 8 t)
  C : Addr
  g_Sieve : mg "Sieve" = some (.ref C)
  cl : Cls K C
  mkC : Mk K C f_m_Sieve_init
  n_bars : NoAttr K C "_bars"
  n_whole : NoAttr K C "_whole"
  n_classes : NoAttr K C "_classes"
  p_bars : Addr
  pp_bars : PropOf K C "bars" p_bars f_m_Sieve_bars
  p_whole : Addr
  pp_whole : PropOf K C "whole" p_whole f_m_Sieve_whole
  p_classes : Addr
  pp_classes : PropOf K C "classes" p_classes f_m_Sieve_classes
  C_RestError : Addr
  g_RestError : mg "RestError" = some (.ref C_RestError)
  C_BadNumber : Addr
  g_BadNumber : mg "BadNumber" = some (.ref C_BadNumber)
  x_BadNumber : PySem.W.excIn K C_BadNumber [.type "ValueError", .type "Exception", .type "BaseException", .type "object"] "ValueError.__new__" = true
  k_BadNumber : PySem.W.keepIn K (.ref C_BadNumber) = true
  b_BadNumber : PySem.W.subIn K (.ref C_BadNumber) (.type "BaseException") = some true
  t_BadNumber : PySem.W.typeIn K (.ref C_BadNumber) = some (.type "type")
  e_BadNumber : PySem.W.exmOne K (.ref C_BadNumber) (.ref C_BadNumber) = some true
  E_BadNumber : ExcC K C_BadNumber
  r_BadNumber : PySem.W.kitOne K (.ref C_BadNumber) (.ref C_RestError) = some true
  C_BadStretch : Addr
  g_BadStretch : mg "BadStretch" = some (.ref C_BadStretch)
  x_BadStretch : PySem.W.excIn K C_BadStretch [.type "ValueError", .type "Exception", .type "BaseException", .type "object"] "ValueError.__new__" = true
  k_BadStretch : PySem.W.keepIn K (.ref C_BadStretch) = true
  b_BadStretch : PySem.W.subIn K (.ref C_BadStretch) (.type "BaseException") = some true
  t_BadStretch : PySem.W.typeIn K (.ref C_BadStretch) = some (.type "type")
  e_BadStretch : PySem.W.exmOne K (.ref C_BadStretch) (.ref C_BadStretch) = some true
  E_BadStretch : ExcC K C_BadStretch
  r_BadStretch : PySem.W.kitOne K (.ref C_BadStretch) (.ref C_RestError) = some true
  C_BadModulus : Addr
  g_BadModulus : mg "BadModulus" = some (.ref C_BadModulus)
  x_BadModulus : PySem.W.excIn K C_BadModulus [.type "ValueError", .type "Exception", .type "BaseException", .type "object"] "ValueError.__new__" = true
  k_BadModulus : PySem.W.keepIn K (.ref C_BadModulus) = true
  b_BadModulus : PySem.W.subIn K (.ref C_BadModulus) (.type "BaseException") = some true
  t_BadModulus : PySem.W.typeIn K (.ref C_BadModulus) = some (.type "type")
  e_BadModulus : PySem.W.exmOne K (.ref C_BadModulus) (.ref C_BadModulus) = some true
  E_BadModulus : ExcC K C_BadModulus
  r_BadModulus : PySem.W.kitOne K (.ref C_BadModulus) (.ref C_RestError) = some true
  C_TooGreat : Addr
  g_TooGreat : mg "TooGreat" = some (.ref C_TooGreat)
  x_TooGreat : PySem.W.excIn K C_TooGreat [.type "ValueError", .type "Exception", .type "BaseException", .type "object"] "ValueError.__new__" = true
  k_TooGreat : PySem.W.keepIn K (.ref C_TooGreat) = true
  b_TooGreat : PySem.W.subIn K (.ref C_TooGreat) (.type "BaseException") = some true
  t_TooGreat : PySem.W.typeIn K (.ref C_TooGreat) = some (.type "type")
  e_TooGreat : PySem.W.exmOne K (.ref C_TooGreat) (.ref C_TooGreat) = some true
  E_TooGreat : ExcC K C_TooGreat
  r_TooGreat : PySem.W.kitOne K (.ref C_TooGreat) (.ref C_RestError) = some true
  C_TooMany : Addr
  g_TooMany : mg "TooMany" = some (.ref C_TooMany)
  x_TooMany : PySem.W.excIn K C_TooMany [.type "ValueError", .type "Exception", .type "BaseException", .type "object"] "ValueError.__new__" = true
  k_TooMany : PySem.W.keepIn K (.ref C_TooMany) = true
  b_TooMany : PySem.W.subIn K (.ref C_TooMany) (.type "BaseException") = some true
  t_TooMany : PySem.W.typeIn K (.ref C_TooMany) = some (.type "type")
  e_TooMany : PySem.W.exmOne K (.ref C_TooMany) (.ref C_TooMany) = some true
  E_TooMany : ExcC K C_TooMany
  r_TooMany : PySem.W.kitOne K (.ref C_TooMany) (.ref C_RestError) = some true
  C_Nothing : Addr
  g_Nothing : mg "Nothing" = some (.ref C_Nothing)
  x_Nothing : PySem.W.excIn K C_Nothing [.type "ValueError", .type "Exception", .type "BaseException", .type "object"] "ValueError.__new__" = true
  k_Nothing : PySem.W.keepIn K (.ref C_Nothing) = true
  b_Nothing : PySem.W.subIn K (.ref C_Nothing) (.type "BaseException") = some true
  t_Nothing : PySem.W.typeIn K (.ref C_Nothing) = some (.type "type")
  e_Nothing : PySem.W.exmOne K (.ref C_Nothing) (.ref C_Nothing) = some true
  E_Nothing : ExcC K C_Nothing
  r_Nothing : PySem.W.kitOne K (.ref C_Nothing) (.ref C_RestError) = some true
  e_BadNumber_BadStretch : PySem.W.exmOne K (.ref C_BadNumber) (.ref C_BadStretch) = some false
  e_BadNumber_BadModulus : PySem.W.exmOne K (.ref C_BadNumber) (.ref C_BadModulus) = some false
  e_BadNumber_TooGreat : PySem.W.exmOne K (.ref C_BadNumber) (.ref C_TooGreat) = some false
  e_BadNumber_TooMany : PySem.W.exmOne K (.ref C_BadNumber) (.ref C_TooMany) = some false
  e_BadNumber_Nothing : PySem.W.exmOne K (.ref C_BadNumber) (.ref C_Nothing) = some false
  e_BadStretch_BadNumber : PySem.W.exmOne K (.ref C_BadStretch) (.ref C_BadNumber) = some false
  e_BadStretch_BadModulus : PySem.W.exmOne K (.ref C_BadStretch) (.ref C_BadModulus) = some false
  e_BadStretch_TooGreat : PySem.W.exmOne K (.ref C_BadStretch) (.ref C_TooGreat) = some false
  e_BadStretch_TooMany : PySem.W.exmOne K (.ref C_BadStretch) (.ref C_TooMany) = some false
  e_BadStretch_Nothing : PySem.W.exmOne K (.ref C_BadStretch) (.ref C_Nothing) = some false
  e_BadModulus_BadNumber : PySem.W.exmOne K (.ref C_BadModulus) (.ref C_BadNumber) = some false
  e_BadModulus_BadStretch : PySem.W.exmOne K (.ref C_BadModulus) (.ref C_BadStretch) = some false
  e_BadModulus_TooGreat : PySem.W.exmOne K (.ref C_BadModulus) (.ref C_TooGreat) = some false
  e_BadModulus_TooMany : PySem.W.exmOne K (.ref C_BadModulus) (.ref C_TooMany) = some false
  e_BadModulus_Nothing : PySem.W.exmOne K (.ref C_BadModulus) (.ref C_Nothing) = some false
  e_TooGreat_BadNumber : PySem.W.exmOne K (.ref C_TooGreat) (.ref C_BadNumber) = some false
  e_TooGreat_BadStretch : PySem.W.exmOne K (.ref C_TooGreat) (.ref C_BadStretch) = some false
  e_TooGreat_BadModulus : PySem.W.exmOne K (.ref C_TooGreat) (.ref C_BadModulus) = some false
  e_TooGreat_TooMany : PySem.W.exmOne K (.ref C_TooGreat) (.ref C_TooMany) = some false
  e_TooGreat_Nothing : PySem.W.exmOne K (.ref C_TooGreat) (.ref C_Nothing) = some false
  e_TooMany_BadNumber : PySem.W.exmOne K (.ref C_TooMany) (.ref C_BadNumber) = some false
  e_TooMany_BadStretch : PySem.W.exmOne K (.ref C_TooMany) (.ref C_BadStretch) = some false
  e_TooMany_BadModulus : PySem.W.exmOne K (.ref C_TooMany) (.ref C_BadModulus) = some false
  e_TooMany_TooGreat : PySem.W.exmOne K (.ref C_TooMany) (.ref C_TooGreat) = some false
  e_TooMany_Nothing : PySem.W.exmOne K (.ref C_TooMany) (.ref C_Nothing) = some false
  e_Nothing_BadNumber : PySem.W.exmOne K (.ref C_Nothing) (.ref C_BadNumber) = some false
  e_Nothing_BadStretch : PySem.W.exmOne K (.ref C_Nothing) (.ref C_BadStretch) = some false
  e_Nothing_BadModulus : PySem.W.exmOne K (.ref C_Nothing) (.ref C_BadModulus) = some false
  e_Nothing_TooGreat : PySem.W.exmOne K (.ref C_Nothing) (.ref C_TooGreat) = some false
  e_Nothing_TooMany : PySem.W.exmOne K (.ref C_Nothing) (.ref C_TooMany) = some false

/-- the tables of the defs that make lambdas -/
structure Tbs {K : PySem.W.Frag} {mg : Str → Option Value} (base : Heap) (T : Txt K mg) : Prop where
  b_p_smallest_kept : LamX.TabB base mg T.cO_p_smallest_kept T.tO_p_smallest_kept
  b_p_smallest_barring : LamX.TabB base mg T.cO_p_smallest_barring T.tO_p_smallest_barring
  b_p_longest : LamX.TabB base mg T.cO_p_longest T.tO_p_longest
abbrev lamName (q : Str) : Str := q ++ ".<locals>." ++ "<lambda>"
def tabs {K : PySem.W.Frag} {mg : Str → Option Value} (T : Txt K mg) : List (Addr × Str) := [(T.tO_p_smallest_kept, lamName "smallest_kept"), (T.tO_p_smallest_barring, lamName "smallest_barring"), (T.tO_p_longest, lamName "longest")]
theorem in_p_smallest_kept {K : PySem.W.Frag} {mg : Str → Option Value} (T : Txt K mg) : (T.tO_p_smallest_kept, lamName "smallest_kept") ∈ tabs T := (.head _)
theorem one_p_smallest_kept {K : PySem.W.Frag} {mg : Str → Option Value} (T : Txt K mg) : ∀ p ∈ tabs T, p.1 = T.tO_p_smallest_kept → p.2 = lamName "smallest_kept" := (List.forall_mem_cons.mpr ⟨fun e => rfl, (List.forall_mem_cons.mpr ⟨fun e => absurd e (Ne.symm T.dt_p_smallest_kept_p_smallest_barring), (List.forall_mem_cons.mpr ⟨fun e => absurd e (Ne.symm T.dt_p_smallest_kept_p_longest), (fun p h => nomatch h)⟩)⟩)⟩)
theorem in_p_smallest_barring {K : PySem.W.Frag} {mg : Str → Option Value} (T : Txt K mg) : (T.tO_p_smallest_barring, lamName "smallest_barring") ∈ tabs T := (.tail _ (.head _))
theorem one_p_smallest_barring {K : PySem.W.Frag} {mg : Str → Option Value} (T : Txt K mg) : ∀ p ∈ tabs T, p.1 = T.tO_p_smallest_barring → p.2 = lamName "smallest_barring" := (List.forall_mem_cons.mpr ⟨fun e => absurd e T.dt_p_smallest_kept_p_smallest_barring, (List.forall_mem_cons.mpr ⟨fun e => rfl, (List.forall_mem_cons.mpr ⟨fun e => absurd e (Ne.symm T.dt_p_smallest_barring_p_longest), (fun p h => nomatch h)⟩)⟩)⟩)
theorem in_p_longest {K : PySem.W.Frag} {mg : Str → Option Value} (T : Txt K mg) : (T.tO_p_longest, lamName "longest") ∈ tabs T := (.tail _ (.tail _ (.head _)))
theorem one_p_longest {K : PySem.W.Frag} {mg : Str → Option Value} (T : Txt K mg) : ∀ p ∈ tabs T, p.1 = T.tO_p_longest → p.2 = lamName "longest" := (List.forall_mem_cons.mpr ⟨fun e => absurd e T.dt_p_smallest_kept_p_longest, (List.forall_mem_cons.mpr ⟨fun e => absurd e T.dt_p_smallest_barring_p_longest, (List.forall_mem_cons.mpr ⟨fun e => rfl, (fun p h => nomatch h)⟩)⟩)⟩)
end R
namespace R
open PySem PySem.Spec PyProof.Rows L2
/-! ## heaps: what stays -/
/-- every object but the one at r is as it was -/
def Kp (r : Addr) (H H' : Hp) : Prop := ∀ b o, b ≠ r → H b = some o → H' b = some o
theorem Kp.refl (r : Addr) (H : Hp) : Kp r H H := fun _ _ _ h => h
theorem Kp.trans {r : Addr} {H H1 H2 : Hp} (a : Kp r H H1) (b : Kp r H1 H2) : Kp r H H2 := fun c o n h => b c o n (a c o n h)
theorem Kp.of {r : Addr} {H H' : Hp} (s : Same H H') : Kp r H H' := fun b o _ h => s b o h
theorem Kp.at_ {r : Addr} {H : Hp} {o : HO} : Kp r H (upd H r o) := fun b u n h => by rw [upd_ne n]; exact h
theorem Kp.new {r p : Addr} {H : Hp} {o : HO} (h : H p = none) : Kp r H (upd H p o) := fun b u _ e => by rw [upd_ne (ne_of_none e h)]; exact e
theorem Kp.add {r p : Addr} {H H' : Hp} {o : HO} (s : Kp r H H') (h : H p = none) : Kp r H (upd H' p o) := fun b u n e => by rw [upd_ne (ne_of_none e h)]; exact s b u n e
/-- an address that is free stays no matter of the frame: what the frame keeps is not there -/
theorem Kp.none {r p : Addr} {H H' : Hp} (s : Kp r H H') (hp : p ≠ r) (h : H' p = Option.none) : H p = Option.none := by
  cases q : H p with
  | none => rfl
  | some o => rw [s p o hp q] at h; cases h
theorem Kp.rd {r a : Addr} {H H' : Hp} {u : HO} (s : Kp r H H') (n : a ≠ r) (h : Rd H a u) : Rd H' a u := by
  rcases h with h | ⟨o, h⟩
  · exact .inl (s _ _ n h)
  · exact .inr ⟨o, s _ _ n h⟩
theorem Kp.seqT {K : PySem.W.Frag} {r a : Addr} {H H' : Hp} {xs zs : List V} (s : Kp r H H') (hr : H r = some (.lst zs)) (h : SqT K H a xs) : SqT K H' a xs := by
  rcases h with h | h
  · refine .inl (s.rd ?_ h)
    rintro rfl
    rcases h with h | ⟨o, h⟩
    · rw [hr] at h; cases h
    · rw [hr] at h; cases h
  · exact .inr h
theorem Kp.seqL {K : PySem.W.Frag} {r a : Addr} {H H' : Hp} {xs : List V} (s : Kp r H H') (n : a ≠ r) (h : SqL K H a xs) : SqL K H' a xs := by
  rcases h with h | h
  · exact .inl (s.rd n h)
  · exact .inr h
theorem same_upd {H : Hp} {p : Addr} {o : HO} (h : H p = none) : Same H (upd H p o) := fun b x e => by
  rw [upd_ne (ne_of_none e h)]; exact e
theorem Same.seqTT {K : PySem.W.Frag} {H H' : Hp} {a : Addr} {xs : List V} (e : Same H H') (h : SqT K H a xs) : SqT K H' a xs := by
  rcases h with (h | ⟨o, h⟩) | h
  · exact .inl (.inl (e _ _ h))
  · exact .inl (.inr ⟨o, e _ _ h⟩)
  · exact .inr h
theorem tupOf {K : PySem.W.Frag} {H : Hp} {a : Addr} {xs : List V} (h : H a = some (.tup xs)) : SqT K H a xs := .inl (.inl h)
theorem lstOf {K : PySem.W.Frag} {H : Hp} {a : Addr} {xs : List V} (h : H a = some (.lst xs)) : SqL K H a xs := .inl (.inl h)
theorem getMapInt {ns : List Int} {i : Nat} (h : i < ns.length) : (ns.map V.int)[i]? = some (.int ns[i]) := by
  rw [List.getElem?_map, List.getElem?_eq_getElem h]; rfl
theorem getMapInt' {ns : List Int} {i : Nat} {x : V} (h : (ns.map V.int)[i]? = some x) : ∃ n, ns[i]? = some n ∧ x = .int n := by
  rw [List.getElem?_map] at h
  cases e : ns[i]? with
  | none => rw [e] at h; cases h
  | some n => rw [e] at h; exact ⟨n, rfl, (Option.some.inj h).symm⟩
theorem flatInts (ns : List Int) : (ns.map V.int).all flatV = true := by
  rw [List.all_eq_true]
  intro x hx
  obtain ⟨n, _, rfl⟩ := List.mem_map.mp hx
  rfl
theorem sizeOk {n : Nat} (h : n ≤ 100000) : n ≤ sizeLine := Nat.le_trans h (by decide)
theorem sizeLt {n : Nat} (h : n ≤ 100000) : n < sizeLine := Nat.lt_of_le_of_lt h (by decide)

/-- len by its wish, told over the written part alone -/
def rLenK (K : PySem.W.Frag) : List V → Hp → VK → Prop := fun xs H Q => ∃ p ys, xs = [.ref p] ∧ (SqL K H p ys ∨ SqT K H p ys) ∧ Q (.int ys.length) H
/-! ## bars -/
abbrev Bar := Int × List Int
/-- a lot: ascending rests by m -/
structure LotOk (m : Int) (l : List Int) : Prop where
  up : l.Pairwise (· < ·)
  ge : ∀ r ∈ l, 0 ≤ r
  lt : ∀ r ∈ l, r < m
  few : l.length ≤ 60
structure BarOk (b : Bar) : Prop where
  pos : 1 ≤ b.1
  most : b.1 ≤ 1000000
  lot : LotOk b.1 b.2
/-- the least common multiple of the moduli -/
def wh (bs : List Bar) : Nat := bs.foldl (fun w b => Nat.lcm w b.1.natAbs) 1
def choices (bs : List Bar) : Nat := bs.foldl (fun c b => c * max 1 b.2.length) 1
structure SvOk (bs : List Bar) : Prop where
  six : bs.length ≤ 6
  bar : ∀ b ∈ bs, BarOk b
  great : wh bs ≤ 10 ^ 30
  many : choices bs ≤ 2000
def fitsB (bs : List Bar) (x : Int) : Bool := bs.all fun b => decide (x % b.1 ∈ b.2)
/-- the numbers from 0 to whole - 1 that fit -/
def cls (bs : List Bar) : List Int := ((List.range (wh bs)).map fun i : Nat => (i : Int)).filter (fitsB bs)

/-! ## bars on the heap -/
structure LotAt (K : PySem.W.Frag) (H : Hp) (v : V) (l : List Int) : Prop where
  ex : ∃ a, v = .ref a ∧ SqT K H a (l.map V.int)
structure BarAt (K : PySem.W.Frag) (H : Hp) (v : V) (b : Bar) : Prop where
  ex : ∃ a x, v = .ref a ∧ SqT K H a [.int b.1, x] ∧ LotAt K H x b.2
structure BarsAt (K : PySem.W.Frag) (H : Hp) (v : V) (bs : List Bar) : Prop where
  ex : ∃ a xs, v = .ref a ∧ SqT K H a xs ∧ xs.length = bs.length ∧ ∀ (i : Nat) x b, xs[i]? = some x → bs[i]? = some b → BarAt K H x b
section
variable {K : PySem.W.Frag} {H H' : Hp} {v : V} {l : List Int} {b : Bar} {bs : List Bar}
/-- all tuples that may be read are as they were -/
def TupsStay (K : PySem.W.Frag) (H H' : Hp) : Prop := ∀ a xs, SqT K H a xs → SqT K H' a xs
theorem TupsStay.same (s : Same H H') : TupsStay K H H' := fun _ _ h => Same.seqTT s h
theorem TupsStay.sx {r : Addr} {zs : List V} (s : Kp r H H') (hr : H r = some (.lst zs)) : TupsStay K H H' := fun _ _ h => s.seqT hr h
theorem LotAt.stay (t : TupsStay K H H') (h : LotAt K H v l) : LotAt K H' v l := let ⟨a, e, q⟩ := h.ex; ⟨a, e, t _ _ q⟩
theorem BarAt.stay (t : TupsStay K H H') (h : BarAt K H v b) : BarAt K H' v b := let ⟨a, x, e, q, z⟩ := h.ex; ⟨a, x, e, t _ _ q, z.stay t⟩
theorem BarsAt.stay (t : TupsStay K H H') (h : BarsAt K H v bs) : BarsAt K H' v bs := let ⟨a, xs, e, q, n, z⟩ := h.ex; ⟨a, xs, e, t _ _ q, n, fun i x b h1 h2 => (z i x b h1 h2).stay t⟩
end

end R
namespace R
open PySem PySem.Spec PyProof.Rows L2
/-! ## rules of my own: enumerate over a tuple, lcm of great numbers -/
abbrev itTup (t : Addr) : Obj := { cls := .type "tuple_iterator", data := .fields #[.ref t, .int 0 0] }
abbrev enObj (i : Addr) : Obj := { cls := .type "enumerate", data := .fields #[.none, .bool false, .ref i, rawInt 0, .none, .none] }
abbrev enHeap (h : Heap) (t : Addr) : Heap := (h.push (itTup t)).push (enObj h.objs.size)
theorem meets_enT (t : Addr) (items : Array Value) : Meets (Builtin.«enumerate.__new__» ⟨[.type "enumerate", .ref t], []⟩)
    (fun _ R s => s.heap.IsTuple t items ∧ R (.ok (.ret (.ref (s.heap.push (itTup t)).objs.size))) { s with heap := enHeap s.heap t }) := by
  refine .of_wp fun prog w A R s ⟨ht, h⟩ => ?_
  obtain ⟨hp, g, d, tk, os⟩ := s
  have sub_ := PySem.sub_enumerate
  have it_ : ∀ {A' : Around} {E : Value → Shared → Prop} {Q : Value → Shared → Prop}, Q (.ref hp.objs.size) ⟨hp.push (itTup t), g, d, tk, os⟩ → wpAny (model prog w) A' (pyIter (.ref t)) Q E ⟨hp, g, d, tk, os⟩ :=
    fun q => wpAny_pyIter_tuple ht q
  wp_walk using it_
  refine wpAny_stack_any fun st => wpAny_pure ?_
  split
  · rename_i c _ _ _ _ _
    cases (c == Value.type "enumerate") <;> (wp_walk using it_; exact ⟨_, rfl, h⟩)
  · (wp_walk using it_; exact ⟨_, rfl, h⟩)
theorem call_enT {prog : Program} {w : World} {A : Around} {E : Value → Shared → Prop} {s : Shared} {t : Addr} {items : Array Value} {Q : Value → Shared → Prop} (ht : s.heap.IsTuple t items)
    (h : ∀ h', IsEnum h' (s.heap.objs.size + 1) s.heap.objs.size 0 .none → h'.IsTupleIter s.heap.objs.size t 0 → (∀ b o, s.heap.get? b = some o → h'.get? b = some o) → Q (.ref (s.heap.objs.size + 1)) { s with heap := h' }) :
    wpAny (model prog w) A (call (.type "enumerate") [.ref t]) Q E s := by
  have sz : (s.heap.push (itTup t)).objs.size = s.heap.objs.size + 1 := Heap.size_push ..
  have he : IsEnum (enHeap s.heap t) (s.heap.objs.size + 1) s.heap.objs.size 0 .none := by
    have q := Heap.get?_push_size (s.heap.push (itTup t)) (o := enObj s.heap.objs.size) rfl
    rw [sz] at q
    exact q
  have kp : ∀ b o, s.heap.get? b = some o → (enHeap s.heap t).get? b = some o := fun b o x => Heap.get?_push_of_some _ (Heap.get?_push_of_some _ x)
  refine callType_new F.called_enumerate (by decide) (F.typeCall_enumerate_1 _) (F.newCall_enumerate_1 _) (fun obj => F.args_object_init_2 obj _) F.entry_enumerate_new (meets_enT t items) ⟨ht, ?_⟩
  show _ ∧ _
  rw [sz]
  exact ⟨⟨_, he, rfl⟩, h _ he ⟨_, Heap.get?_push_of_some _ (Heap.get?_push_size _ rfl), rfl, rfl⟩ kp⟩
/-- the tuple at a, each item in a new pair with its place -/
def IteT (K : PySem.W.Frag) (a : Addr) : It :=
  ⟨fun i H => ∃ (xs : List V) (x : V), SqT K H a xs ∧ xs[i]? = some x,
   fun i H v H' => ∃ T x, v = .ref T ∧ H T = none ∧ H' = upd H T (.tup [.int (i : Nat), x]) ∧ ∀ xs, SqT K H a xs → xs[i]? = some x,
   fun i H => ∃ xs : List V, SqT K H a xs ∧ xs.length ≤ i⟩
theorem turn_enT {P : Program} {w : World} {K : PySem.W.Frag} {elts : List Expr} {kk : Nat} {tpos : Pos} (a e it : Addr) :
    Turn P w K (.Tuple elts kk tpos) (IteT K a) [e, it] e (fun i h => (∃ old, IsEnum h e it ((i : Nat) : Int) old) ∧ h.IsTupleIter it a i ∧ e ≠ it) where
  mem := List.mem_cons_self ..
  obj := fun i h ⟨⟨old, he⟩, ⟨o, ho, _, hd⟩, _⟩ b hb => by
    rcases List.mem_cons.mp hb with rfl | hb
    · exact ⟨_, he, fun v q => nomatch q⟩
    · rw [List.mem_singleton.mp hb]
      exact ⟨o, ho, fun v q => by rw [hd] at q; cases q⟩
  keep := fun i h h' ⟨⟨old, he⟩, hi, hne⟩ k => ⟨⟨old, k e (by simp) _ he⟩, hi.at fun o q => k it (by simp) o q, hne⟩
  item := by
    intro X hP hw hK hc i pins s σ H E I hf ⟨⟨old, he⟩, hit, hne⟩ ⟨xs, x, hq, hx⟩
    subst hP hw hK
    obtain ⟨its, rv, p, hz⟩ := I.tuple hq
    have hT : s.heap.IsTuple a its.toArray := p
    have nta : a ≠ it := fun z => by
      subst z
      obtain ⟨o, e1, c1, _⟩ := hT
      obtain ⟨o2, e2, c2, _⟩ := hit
      rw [e1] at e2
      cases e2
      rw [c1] at c2
      exact absurd c2 (by decide)
    have nea : e ≠ a := fun z => by
      subst z
      obtain ⟨o, e1, c1, _⟩ := hT
      rw [he] at e1
      cases e1
      exact absurd (show Value.type "enumerate" = Value.type "tuple" from c1) (by decide)
    have el : e < s.heap.objs.size := Heap.lt_size he
    have il : it < s.heap.objs.size := by obtain ⟨_, q, _⟩ := hit; exact Heap.lt_size q
    have hlt : i < its.toArray.size := by
      have := (List.getElem?_eq_some_iff.mp hx).1
      rw [rv.length] at this
      rw [List.size_toArray]
      exact this
    refine wpAny_pyNext_enum_itemD (Draws.tuple (A := X.A.in1) (I.ok.hd hc) it a nta its.toArray) he ⟨hit, hT⟩ hlt hne (by simp [hne, nea]) fun u h' tk hP ho st' ht' hsz hk => ?_
    obtain ⟨u', hu', ru⟩ := rv.get hx
    have eu : u = u' := by
      rw [List.getElem?_toArray] at hP
      exact Option.some.inj (hP.symm.trans hu')
    subst eu
    refine ⟨_, rfl, wpAny_letOwnedTupleGo_enum (s := { s with heap := h', toks := tk + 1 }) ho fun h2 he2 sb => ?_⟩
    have t2 := (sb.2 _ (Nat.ne_of_gt el)).trans ht'
    have new : ObjOk X.prog X.w (upd H s.heap.objs.size (.tup [.int (i : Nat), x])) h2 s.heap.objs.size (.tup [.int (i : Nat), x]) :=
      ⟨sizeOk (by show (2 : Nat) ≤ 100000; decide), [.int i tk, u], .cons ⟨_, rfl⟩ (.cons ru .nil), _, t2, rfl, _, rfl⟩
    have I1 : Inv X pins σ (upd H s.heap.objs.size (.tup [.int (i : Nat), x])) { s with heap := h2, toks := tk + 1 } := by
      refine I.turnedNew (ch := [e, it]) (fun b ob hb q => ?_) hf (Nat.le_refl _) new
      have hbe : b ≠ e := fun z => hb (by simp [z])
      exact (sb.2 b hbe).trans (hk b ob hbe (fun z => hb (by simp [z])) q)
    refine ⟨.ref s.heap.objs.size, _, I1, rfl, ⟨_, x, rfl, I.hok.fresh (Nat.le_refl _), rfl, fun ys hy => by rw [I.tuple_inj hy hq]; exact hx⟩, ⟨⟨u, ?_⟩, st'.1.at fun o q => (sb.2 it (Ne.symm hne)).trans q, hne⟩, fun b hb => ?_⟩
    · rw [show ((i + 1 : Nat) : Int) = (i : Int) + 1 from rfl]
      exact he2
    · have lt : b < s.heap.objs.size := by
        rcases List.mem_cons.mp hb with rfl | hb
        · exact el
        · rw [List.mem_singleton.mp hb]; exact il
      rw [upd_ne (Nat.ne_of_lt lt)]
      exact (hf b hb).1
  done := by
    intro X hP hw hK hc i pins s σ H E I hf ⟨⟨old, he⟩, hit, hne⟩ ⟨xs, hq, hx⟩
    subst hP hw hK
    obtain ⟨its, rv, p, hz⟩ := I.tuple hq
    have hT : s.heap.IsTuple a its.toArray := p
    obtain ⟨f0, f1, f2, f3, f4, f5⟩ := hf it (by simp)
    have hT' : s.TypeIs (.ref e) "enumerate" := ⟨_, he, rfl⟩
    unfold pyNext
    refine wpAny_bind (wpAny_attempt (wpAny_callSpecial?_slot (name := Str.ofString "__next__") hT' F.slot_enumerate_next (wpAny_call_entry F.slot_enumerate_next hT' F.entry_enumerate_next ?_ (F.args_enumerate_next_1 _))))
    show wpAny _ _ (field (.ref e) 2 >>= _) _ _ _
    refine wpAny_bind (wpAny_field he rfl (x := .ref it) rfl ?_)
    refine wpAny_bind (PySem.wpAny_nextOf_tuple_end (I.ok.hd hc) hit hT (Array.getElem?_eq_none (by rw [List.size_toArray, ← rv.length]; exact hx)) fun h' y eb hy => ?_)
    obtain ⟨o, ho, hcl⟩ := hy
    refine wpAny_bind (wpAny_isInstance (T := "StopIteration") (b := true) ⟨o, ho, hcl⟩ isSubtype_stop ?_)
    exact wpAny_pure ⟨rfl, I.turned (t' := s.toks) (fun b o hb q => eb b o hb q) f0 f1 f3 f4 f5⟩
  self := fun A i s Q E ⟨⟨_, he⟩, _⟩ h => wpAny_pyIter_enum he h
def iEnT (K : PySem.W.Frag) (ta : TA) : TI := fun σ H R => ta σ H fun vs H1 => ∃ a xs, vs = [.ref a] ∧ SqT K H1 a xs ∧ R (IteT K a) H1
theorem pi_enT {X : Cx} {e : Expr} {ta : TA} {p pos tpos : Pos} {elts : List Expr} {kk : Nat} (hg : Gl X "enumerate") (hm : X.mg "enumerate" = none) (ha : PA X [e] ta)
    (hs : starEach [e] X.env = [(false, eval e X.env)] := by rfl) : PI X (.Tuple elts kk tpos) (.Call (.Name "enumerate" p) [e] [] pos) (iEnT X.K ta) := by
  refine ⟨fun pins s σ H R I h => Call_ (ld_blt I hg hm boot_enumerate (PyProof.Rows.callWith_type1 (thn (ha.run pos pins s σ H _ I h) fun us s1 ⟨vs, H1, I1, r1, a, xs, ex, hq, q⟩ => ?_) hs rfl))⟩
  subst ex
  obtain ⟨u, us', rfl⟩ : ∃ u us', us = u :: us' := by
    cases r1 with
    | cons r rr => exact ⟨_, _, rfl⟩
  cases r1 with
  | cons r rr =>
    cases rr
    cases r
    obtain ⟨its, rv, p', hz⟩ := I1.tuple hq
    refine call_enT (show s1.heap.IsTuple a its.toArray from p') fun h' he hit hk => wpAny_pyIter_enum he ?_
    have I2 : Inv X pins σ H1 { s1 with heap := h' } := I1.kept (t' := s1.toks) hk
    refine ⟨s1.heap.objs.size + 1, [s1.heap.objs.size + 1, s1.heap.objs.size], _, _, H1, rfl, I2, turn_enT a _ _, ⟨⟨.none, he⟩, hit, Nat.succ_ne_self _⟩, fun b hb => ?_, q⟩
    have hle : s1.heap.objs.size ≤ b := by
      rcases List.mem_cons.mp hb with rfl | hb
      · exact Nat.le_succ _
      · rw [List.mem_singleton.mp hb]; exact Nat.le_refl _
    exact I1.fpOk hle (I1.hok.fresh hle)
theorem walk_enT {K : PySem.W.Frag} {a : Addr} {xs : List V} : Walk (IteT K a) xs.length (fun H => SqT K H a xs) (YPair (fun i => some (.int (i : Nat))) (fun i => xs[i]?)) := by
  refine ⟨fun i H hi hG => ⟨xs, xs[i], hG, by simp [hi]⟩, fun H hG => ⟨xs, hG, Nat.le_refl _⟩, fun i H x H' hi hG ⟨T, y, h1, h2, h3, h4⟩ => ?_⟩
  exact ⟨T, .int (i : Nat), y, h1, h2, h3, rfl, h4 xs hG⟩
/-- lcm of two numbers below 2 ^ 5000 -/
def rLcmW : List V → Hp → VK → Prop := fun vs H Q => ∃ a b : Nat, vs = [.int a, .int b] ∧ a < 2 ^ 5000 ∧ b < 2 ^ 5000 ∧ Q (.int (Nat.lcm a b : Nat)) H
theorem logLe {n k : Nat} (h : n < 2 ^ (k + 1)) : n.log2 ≤ k := PySem.W.mg_log h
theorem cr_lcmW {X : Cx} : CallR X (.builtin "math.lcm") rLcmW := by
  intro pins s σ H vs us Q I r ⟨a, b, e, ha, hb, q⟩
  subst e
  obtain ⟨t, u, rfl⟩ := Vals.int2 r
  have h1 : (max 1 (a : Int).natAbs).log2 ≤ 4999 := logLe (by rw [Int.natAbs_natCast]; show max 1 a < 2 ^ 5000; have : 1 < 2 ^ 5000 := by decide
                                                              omega)
  have h2 : (max (a : Int).natAbs (b : Int).natAbs).log2 ≤ 4999 := logLe (by rw [Int.natAbs_natCast, Int.natAbs_natCast]; show max a b < 2 ^ 5000; omega)
  have ee : (((Nat.lcm 1 (a : Int).natAbs).lcm (b : Int).natAbs : Nat) : Int) = ((Nat.lcm a b : Nat) : Int) := by
    rw [Int.natAbs_natCast, Int.natAbs_natCast, PySem.W.mc_lcm_one]
  have hm : Nat.lcm a b < 2 ^ 10000 := by
    have h3 : Nat.lcm a b ≤ a * b := Nat.div_le_self _ _
    have h4 : a * b < 2 ^ 5000 * 2 ^ 5000 := Nat.mul_lt_mul'' ha hb
    rw [← Nat.pow_add] at h4
    exact Nat.lt_of_le_of_lt h3 h4
  have hz : ((((Nat.lcm 1 (a : Int).natAbs).lcm (b : Int).natAbs : Nat) : Int)).natAbs.log2 < bitsLine := by
    rw [ee, Int.natAbs_natCast]
    have h5 : (Nat.lcm a b).log2 ≤ 9999 := logLe hm
    rw [PySem.bitsLine_eq]
    omega
  have g := PySem.W.mg_run_lcm a t b u (by omega) (by omega) hz
  rw [ee] at g
  exact PySem.call_function_meets PySem.W.MGF.kind_lcm PySem.W.MGF.plain_lcm PySem.W.MGF.entry_lcm (PySem.W.MGF.args_lcm _ _) g.meets ⟨.int _, H, I.tok _, ⟨_, rfl⟩, q⟩
theorem tyTup {K : PySem.W.Frag} {H : Hp} {a : Addr} {xs : List V} (h : SqT K H a xs) : TyX K H (.ref a) (.type "tuple") := by
  rcases h with (h | ⟨o, h⟩) | ⟨o, its, n, e, c, _⟩
  · exact .base (.tup h)
  · exact .fTuple h
  · exact .kTuple e c

end R
namespace R
open PySem PySem.Spec PyProof.Rows L2
/-! ## an exception that a suite holds -/
def rIsE' (K : PySem.W.Frag) (D a : Addr) (cls : Value) (d : Option Addr) : List V → Hp → VK → Prop := fun xs H Q => cls = .ref D ∧ d = none ∧ rIsE K D a xs H Q
theorem call_isE' {X : Cx} {a D : Addr} {oe : Obj} {pn : List (Addr × Obj)} {cls : Value} {d : Option Addr} (C : ExcC X.K D) (hz : Zc cls d oe) (hf : ∃ vs, oe.data = .fields vs) :
    CallR (X.suite a ((a, oe) :: pn)) (.builtin "isinstance") (rIsE' X.K D a cls d) := by
  intro pins s σ H xs us Q I r h
  obtain ⟨h1, h2, h3⟩ := h
  subst h1 h2
  exact call_isE C hz hf pins s σ H xs us Q I r h3
/-! ## try with several clauses that name the exception -/
abbrev Suites := List (Value × (Addr → Value → Option Addr → TS))
/-- what the clauses wish, one behind the other; the name's slot is i -/
def wAsM (K : PySem.W.Frag) (i : Nat) (Wout : WX) (D : Ends) : Suites → WX
  | [] => Wout
  | p :: r => fun cls d σ H => ∃ b, PySem.W.exmOne K cls p.1 = some b ∧
      (b = true → ∀ a, H a = none → p.2 a cls d ⟨fun τ G => D.nx (τ.set i none) G, D.rt, fun τ G => D.bk (τ.set i none) G, fun τ G => D.ct (τ.set i none) G⟩ (σ.set i (some (.ref a))) H) ∧ (b = false → wAsM K i Wout D r cls d σ H)
/-- the clauses, each «except x as n», with their suites' readings -/
inductive HdsAs (X : Cx) (n : Str) : List ExceptHandler → Suites → Prop
  | nil : HdsAs X n [] []
  | cons {x : Str} {c : Value} {ts : Addr → Value → Option Addr → TS} {b0 : Stmt} {su : List Stmt} {p1 p2 : Pos} {hds : List ExceptHandler} {l : Suites} (hc : Names X x c)
      (hsu : ∀ (a : Addr) (oe : Obj) (cls : Value) (d : Option Addr) (pn : List (Addr × Obj)), Zc cls d oe → (∃ vs, oe.data = .fields vs) → PSs (X.suite a ((a, oe) :: pn)) (b0 :: su) (ts a cls d)) (r : HdsAs X n hds l) :
      HdsAs X n (.ExceptHandler (some (.Name x p1)) (some n) (b0 :: su) p2 :: hds) ((c, ts) :: l)
/-- what is done where the body let an exception out -/
theorem hds_run {X : Cx} {n : Str} {i : Nat} {pins : List (Addr × Obj)} {τ : L2.St} {G : Hp} {D : Ends} {Wout : WX} {e0 : Addr} {B h3 : Heap} {sJ s2 : Shared} {cls : Value} {d : Option Addr} (ok : X.Ok)
    (hst : X.stack = X.env :: X.outer) (hfr : X.env.frame = some X.env.locals) (nod : X.N.Nodup) (hi : X.N[i]? = some n) (hloc : X.env.kindOf n = some .local) (tk : Takes X Wout) (J : Inv X pins τ G sJ)
    (nb : ∀ b o, sJ.heap.get? b = some o → b ∉ frs X.stack → B.get? b = some o) (up : sJ.heap.UpToSlots s2.heap) (up3 : s2.heap.UpToSlots h3) (na : G e0 = none) (os : s2.os = sJ.os) (ag : AllBare s2.gens)
    (fl : HandSPX.FlyingZ B (X.env :: X.outer) e0 (Zc cls d) h3) : ∀ {hds : List ExceptHandler} {l : Suites}, HdsAs X n hds l → wAsM X.K i Wout D l cls d τ G →
      wpAny (model X.prog X.w) X.A (handleBy (.ref e0) X.env hds) (SP X pins D) X.xe { s2 with heap := h3 } := by
  have J3 : Inv X pins τ G { s2 with heap := h3 } := J.landed nb fl.1 (up.trans up3) os ag
  obtain ⟨ob, vb, he3, hz3, hd3⟩ := fl.there
  have out : e0 ∉ frs (X.env :: X.outer) := fun hm => by
    obtain ⟨_, o2, q1, q2⟩ := fl.2.2.1.mem hm
    rw [he3] at q1
    cases q1
    exact q2 _ hd3
  have nL : e0 ≠ X.env.locals := fun z => out (List.mem_filterMap.mpr ⟨_, List.mem_cons_self, z ▸ hfr⟩)
  have nF : e0 ∉ X.fs := fun hm => let ⟨q1, q2, q3⟩ := List.mem_filterMap.mp hm; out (List.mem_filterMap.mpr ⟨q1, List.mem_cons_of_mem _ q2, q3⟩)
  have S3 := J3.suite he3 hd3 na nL nF
  intro hds l hk
  induction hk with
  | nil =>
    intro w
    refine wpAny_handleBy_nil ?_
    obtain ⟨_, _, _, o1, v1, tb, _, _, g1, _, g3, g4, _⟩ := id fl
    unfold PySem.passOn
    refine wpAny_bind (wpAny_field g1 g3 g4 ?_)
    rw [if_neg (by simp : ¬ ((Value.ref tb == Value.none) = true))]
    have last : wpAny (model X.prog X.w) X.A (setFlight (.ref e0) X.env.frame) (fun _ s4 => wpAny (model X.prog X.w) X.A (throw (.ref e0) : Sem Flow) (SP X pins D) X.xe s4) X.xe { s2 with heap := h3 } := by
      rw [hfr]
      refine HandSPX.setFlight_upZ fl fun h4 hh4 up4 => wpAny_throw (tk _ _ ⟨e0, B, sJ, pins, τ, G, cls, d, rfl, J, nb, (up.trans up3).trans up4, .inr (.inr ?_), na, os, ag, w⟩)
      rw [hst]
      exact hh4
    first | exact wpAny_bind (wpAny_pure (wpAny_bind last)) | exact wpAny_bind last
  | @cons x c ts b0 su p1 p2 hds2 l2 hc hsu r ih =>
    rintro ⟨b, hb1, yes, no⟩
    refine wpAny_handleBy_cons (codeAny_handlers_test ?_) (by intro q; cases q)
    have LM := PySem.W.exm_one (M := model X.prog X.w) J3.kIn (fun A Q E s k q => wpAny_typeOf_ref (k _ _ he3) (by rw [hz3.1]; exact q)) hb1
    have named : ∀ {Q E : Value → Shared → Prop}, Q c { s2 with heap := h3 } → wpAny (model X.prog X.w) (X.A.mark (some (.ref e0))) (eval (.Name x p1) X.env) Q E { s2 with heap := h3 } := by
      intro Q E q
      obtain ⟨k1, k2, k3 | ⟨k3, k4, k5⟩⟩ := hc
      · exact ld_glob (X := X.suite e0 ((e0, ob) :: (X.pn ++ pins))) S3 k1 k3 q k2
      · exact ld_blt (X := X.suite e0 ((e0, ob) :: (X.pn ++ pins))) S3 k1 k3 k4 q k5 k2
    refine named (LM.here ?_)
    cases b with
    | false => exact ih (no rfl)
    | true =>
      refine codeAny_handlers_suite_as (HandSPX.lands_againZ fl fun h4 fl4 up4 => ?_)
      have J4 : Inv X pins τ G { s2 with heap := h4 } := J.landed nb fl4.1 ((up.trans up3).trans up4) os ag
      obtain ⟨o4, v4, he4, hz4, hd4⟩ := fl4.there
      refine store_ok (X := X.suite e0 ((e0, o4) :: (X.pn ++ pins))) (v := .ref e0) (J4.suite he4 hd4 na nL nF) nod hi (.inl hloc) rfl (fun s5 S5 => ?_) (.inr hloc)
      refine wpAny_mono ((hsu e0 o4 cls d (X.pn ++ pins) hz4 ⟨_, hd4⟩).run [] s5 _ G _ S5 (yes rfl e0 na)) (fun f s6 sp => ?_) (fun _ _ z => z.elim)
      have close : ∀ {τ6 : L2.St} {G6 : Hp} {Q : Shared → Prop}, Inv (X.suite e0 ((e0, o4) :: (X.pn ++ pins))) [] τ6 G6 s6 → (∀ s7, Inv X pins (τ6.set i none) G6 s7 → Q s7) →
          wpAny (model X.prog X.w) X.A (do bindName X.env n .none; unbindBehindTheSuite X.env n p2) (fun _ s7 => Q s7) X.xe s6 := fun S6 k => gone_ok (S6.unsuite ok) nod hi hloc k
      cases f with
      | ret u => obtain ⟨_, _, _, S6, r6, q6⟩ := sp; exact close S6 fun s7 J7 => ⟨_, _, _, J7, r6, q6⟩
      | next => obtain ⟨_, _, S6, q6⟩ := sp; exact close S6 fun s7 J7 => ⟨_, _, J7, q6⟩
      | brk => obtain ⟨_, _, S6, q6⟩ := sp; exact close S6 fun s7 J7 => ⟨_, _, J7, q6⟩
      | cont => obtain ⟨_, _, S6, q6⟩ := sp; exact close S6 fun s7 J7 => ⟨_, _, J7, q6⟩
theorem ps_try_asM {X : Cx} {n : Str} {i : Nat} {body : List Stmt} {hd : ExceptHandler} {hds : List ExceptHandler} {l : Suites} {pos : Pos} {tb : WX → TS} {Wout : WX} (hst : X.stack = X.env :: X.outer)
    (hfr : X.env.frame = some X.env.locals) (nod : X.N.Nodup) (hi : X.N[i]? = some n) (hloc : X.env.kindOf n = some .local) (tk : Takes X Wout)
    (hb : ∀ (W : WX) (pn : List (Addr × Obj)) (xe : Value → Shared → Prop), Takes (X.tr pn xe) W → PassesOwn (model X.prog X.w) X.A X.env xe → PSs (X.tr pn xe) body (tb W))
    (hh : HdsAs X n (hd :: hds) l) : PS X (.Try body (hd :: hds) [] [] pos) (fun D σ H => tb (wAsM X.K i Wout D l) D σ H) := by
  refine ⟨fun pins s σ H D I h => wpAny_Try_except ?_⟩
  have ok := I.ok
  have fr : X.A.frames = some (X.env :: X.outer) := ok.frames.trans (congrArg some hst)
  let caught : Value → Shared → Prop := fun e s1 => wpAny (model X.prog X.w) X.A (noteFrame e X.env) (fun _ s2 => wpAny (model X.prog X.w) X.A (setFlight e none)
    (fun _ s3 => wpAny (model X.prog X.w) X.A (handleBy e X.env (hd :: hds)) (SP X pins D) X.xe s3) X.xe s2) X.xe s1
  have takes : Takes (X.tr (X.pn ++ pins) caught) (wAsM X.K i Wout D l) := by
    rintro _ s' ⟨a, B, sI, pins', σ', H', cls, d, rfl, J', nb, up, sky, na, os, ag, w⟩
    have sky' : Sky B (X.env :: X.outer) a (Zc cls d) X.env.locals s'.heap := hst ▸ sky
    show wpAny (model X.prog X.w) X.A (noteFrame (.ref a) X.env) _ _ _
    exact Sky.land Zc.steady fr hfr sky' fun h3 fl3 up3 => hds_run ok hst hfr nod hi hloc tk (J'.ofTry ok) nb up up3 na os ag fl3 hh w
  refine wpAny_mono ((hb _ (X.pn ++ pins) caught takes PassesOwn.looking).run [] s σ H D (I.toTry _) h) (fun f s1 sp => ?_) (fun e s1 he => he)
  cases f with
  | ret u => obtain ⟨v, τ, G, J', r, q⟩ := sp; exact ⟨v, τ, G, J'.ofTry ok, r, q⟩
  | next => obtain ⟨τ, G, J', q⟩ := sp; exact wpAny_execs_nil ⟨τ, G, J'.ofTry ok, q⟩
  | brk => obtain ⟨τ, G, J', q⟩ := sp; exact ⟨τ, G, J'.ofTry ok, q⟩
  | cont => obtain ⟨τ, G, J', q⟩ := sp; exact ⟨τ, G, J'.ofTry ok, q⟩

end R
namespace R
open PySem PySem.Spec PyProof.Rows L2
/-! ## the law's draws -/
/-- the row of a law's draws: the script's copy (at L), how far it is read, two numbers -/
structure RowAt (H : Hp) (r L : Addr) : Prop where
  ex : ∃ (ns : List Int) (i : Nat) (b s : Int), H r = some (.lst [.ref L, .int i, .int b, .int s]) ∧ H L = some (.lst (ns.map V.int)) ∧ 0 ≤ b
  ne : L ≠ r
section
variable {H H' : Hp} {r L p : Addr} {o : HO}
theorem RowAt.lst (h : RowAt H r L) : ∃ zs, H r = some (.lst zs) := let ⟨_, _, _, _, e, _⟩ := h.ex; ⟨_, e⟩
theorem RowAt.stay (h : RowAt H r L) (s : Same H H') : RowAt H' r L := by
  obtain ⟨ns, i, b, z, e, q, n⟩ := h.ex
  exact ⟨⟨ns, i, b, z, s _ _ e, s _ _ q, n⟩, h.ne⟩
theorem RowAt.tups {K : PySem.W.Frag} (h : RowAt H r L) (s : Kp r H H') : TupsStay K H H' := let ⟨_, e⟩ := h.lst; .sx s e
theorem RowAt.new (h : RowAt H r L) (hp : H p = none) : p ≠ r ∧ p ≠ L := by
  obtain ⟨ns, i, b, z, e, q, n⟩ := h.ex
  exact ⟨(ne_of_none e hp).symm, (ne_of_none q hp).symm⟩
theorem RowAt.upd (h : RowAt H r L) (n : p ≠ r ∧ p ≠ L) : RowAt (upd H p o) r L := by
  obtain ⟨ns, i, b, z, e, q, h0⟩ := h.ex
  exact ⟨⟨ns, i, b, z, by rw [upd_ne n.1.symm]; exact e, by rw [upd_ne n.2.symm]; exact q, h0⟩, h.ne⟩
end
def sp_l_draws (K : PySem.W.Frag) : Sp := fun vs H Q _ => ∃ (a : Addr) (ns : List Int), vs = [.ref a] ∧ SqL K H a (ns.map V.int) ∧ ∀ r L H', Same H H' → RowAt H' r L → Q (.ref r) H'
def sp_l_pick : Sp := fun vs H Q _ => ∃ (r L : Addr) (m : Int), vs = [.ref r, .int m] ∧ RowAt H r L ∧ 0 < m ∧ m.natAbs < 2 ^ 200 ∧
  ∀ v H', 0 ≤ v → v < m → Kp r H H' → RowAt H' r L → Q (.int v) H'
section
variable {P : Program} {w : World} {K : PySem.W.Frag} {mg : Str → Option Value} {base : Heap}
theorem ok_l_draws (T : Txt K mg) : FnOk P w K mg base CX0 2 T.f_l_draws T.fd_l_draws ["_law_script"] (sp_l_draws K) := by
  refine T.F_l_draws.ok sc_l_draws (fun vs H Q E h => ?_) (fun cdv A outer s H vs Q E hr h => ?_)
  · obtain ⟨a, ns, rfl, _⟩ := h
    rfl
  · obtain ⟨a, ns, rfl, hS, q⟩ := h
    refine ⟨_, (pss_one (ps_ret (pe_lst (pa_cons (pe_callTy call_list_of (by rfl) T.z_list (by decide +kernel) (pa_cons (pv 0) pa_nil)) (pa_cons pe_int (pa_cons pe_int (pa_cons pe_int pa_nil))))))), ?_⟩
    refine ⟨_, rfl, a, _, rfl, .inl hS, fun L nL => ⟨sizeOk (by show (4 : Nat) ≤ 100000; decide), fun r nr => ?_⟩⟩
    have n1 : L ≠ r := fun e => by
      subst e
      rw [upd_same] at nr
      cases nr
    refine q r L _ (Same.trans (same_upd nL) (same_upd nr)) ⟨⟨ns, 0, 0, 7, upd_same, ?_, Int.le_refl 0⟩, n1⟩
    rw [upd_ne n1, upd_same]
theorem ok_l_pick (T : Txt K mg) : FnOk P w K mg base CX0 2 T.f_l_pick T.fd_l_pick ["_law_row", "_law_many"] sp_l_pick := by
  refine T.F_l_pick.ok sc_l_pick (fun vs H Q E h => ?_) (fun cdv A outer s H vs Q E hr h => ?_)
  · obtain ⟨r, L, m, rfl, _⟩ := h
    rfl
  · obtain ⟨r, L, m, rfl, ⟨⟨ns, i, b, z, hr0, hL0, hb⟩, hLr⟩, hm, hm2, q⟩ := h
    have hL : SqL K H L (ns.map V.int) := lstOf hL0
    have S : SqL K H r [.ref L, .int i, .int b, .int z] := lstOf hr0
    refine ⟨_, (C8.pss_cut (ps_if (pt_cmpR op_eq (pe_ix ix_list (pv 0) pe_int (fun _ _ => rfl)) pe_int (nomark _)) (pss_one (ps_if (pt_cmpR op_lt (pe_ix ix_list (pv 0) pe_int (fun _ _ => rfl)) (pe_callB call_len_seq (by rfl) T.z_len (by decide +kernel) (pa_cons (pe_ix ix_list (pv 0) pe_int (fun _ _ => rfl)) pa_nil)) (nomark _)) (pss_cons (ps_set (i := 2) sc_l_pick.nd rfl (by first | exact .inl rfl | exact .inr rfl) (pe_ix ix_list (pe_ix ix_list (pv 0) pe_int (fun _ _ => rfl)) (pe_ix ix_list (pv 0) pe_int (fun _ _ => rfl)) (fun _ _ => rfl)))
      (pss_cons (ps_asg (pe_op op_add (pe_ix ix_list (pv 0) pe_int (fun _ _ => rfl)) pe_int) (pg_sub (pv 0) pe_int set_list))
      (pss_one (ps_if (pt_cmpR op_ge (pv 2) (pe_op op_pow pe_int pe_int) (nomark _)) (pss_one (ps_asg (pv 2) (pg_sub (pv 0) pe_int set_list))) (pss_one (ps_asg (pe_op op_mod (pe_callTy call_int1 (by rfl) T.z_int (by decide +kernel) (pa_cons (pe_op op_add (pe_op op_add (pe_op op_mul (pe_ix ix_list (pv 0) pe_int (fun _ _ => rfl)) pe_int) (pe_op op_mul (pv 2) pe_int)) pe_int) pa_nil)) pe_int) (pg_sub (pv 0) pe_int set_list))))))) (pss_one (ps_asg (pe_op op_mod (pe_callTy call_int1 (by rfl) T.z_int (by decide +kernel) (pa_cons (pe_op op_add (pe_op op_mul (pe_ix ix_list (pv 0) pe_int (fun _ _ => rfl)) pe_int) pe_int) pa_nil)) pe_int) (pg_sub (pv 0) pe_int set_list))))) pss_nil)
      (pss_cons (ps_if (pt_cmpR op_gt (pe_ix ix_list (pv 0) pe_int (fun _ _ => rfl)) pe_int (nomark _)) (pss_cons (ps_set (i := 3) sc_l_pick.nd rfl (by first | exact .inl rfl | exact .inr rfl) (pe_op op_mod (pe_callTy call_int1 (by rfl) T.z_int (by decide +kernel) (pa_cons (pe_ix ix_list (pv 0) pe_int (fun _ _ => rfl)) pa_nil)) (pv 1)))
      (pss_cons (ps_asg (pe_op op_fdivW (pe_ix ix_list (pv 0) pe_int (fun _ _ => rfl)) (pv 1)) (pg_sub (pv 0) pe_int set_list))
      (pss_one (ps_ret (pv 3))))) pss_nil)
      (pss_one (ps_ret (pe_op op_mod (pe_op op_mod (pe_callTy call_int1 (by rfl) T.z_int (by decide +kernel) (pa_cons (pe_op op_mul (pe_ix ix_list (pv 0) pe_int (fun _ _ => rfl)) pe_int) pa_nil)) pe_int) (pv 1)))))), ?_⟩
    refine ⟨fun σ H' => ∃ (c : Option V) (i' : Nat) (b' z' : Int), σ = [some (.ref r), some (.int m), c, none] ∧ Kp r H H' ∧ H' r = some (.lst [.ref L, .int i', .int b', .int z']) ∧ 0 ≤ b', ?_, ?_⟩
    · refine ⟨_, rfl, r, _, 2, _, rfl, rfl, S, atI_nat (j := 2) rfl, rfl, _, rfl, ite2 (fun _ => ?_) (fun _ => ?_)⟩
      · refine ⟨_, rfl, r, _, 1, _, rfl, rfl, S, atI_nat (j := 1) rfl, _, rfl, r, _, 0, _, rfl, rfl, S, atI_nat (j := 0) rfl, L, _, rfl, .inl hL, _, _, rfl, rfl, _, rfl, ite2 (fun e => ?_) (fun e => ?_)⟩
        · have hi : i < ns.length := by
            have e' := of_decide_eq_true e
            rw [List.length_map] at e'
            omega
          refine ⟨_, rfl, r, _, 0, _, rfl, rfl, S, atI_nat (j := 0) rfl, _, rfl, r, _, 1, _, rfl, rfl, S, atI_nat (j := 1) rfl, L, _, i, .int ns[i], rfl, rfl, hL, atI_nat (j := i) (getMapInt hi), ?_⟩
          refine ⟨_, rfl, r, _, 1, _, rfl, rfl, S, atI_nat (j := 1) rfl, _, _, rfl, rfl, _, rfl, r, _, 1, 1, rfl, rfl, hr0, rfl, ?_⟩
          have hr1 : (upd H r (.lst [.ref L, .int ((i : Int) + 1), .int b, .int z])) r = some (.lst [.ref L, .int ((i + 1 : Nat) : Int), .int b, .int z]) := upd_same
          have S1 : SqL K (upd H r (.lst [.ref L, .int ((i : Int) + 1), .int b, .int z])) r _ := lstOf hr1
          have x1 : Kp r H (upd H r (.lst [.ref L, .int ((i : Int) + 1), .int b, .int z])) := Kp.at_
          refine ⟨_, rfl, _, _, rfl, rfl, ⟨by decide, by decide, by decide⟩, _, _, rfl, rfl, _, rfl, ite2 (fun e2 => ?_) (fun e2 => ?_)⟩
          · refine ⟨_, rfl, _, rfl, r, _, 2, 2, rfl, rfl, hr1, rfl, ?_⟩
            refine ⟨_, i + 1, ns[i], z, rfl, fun b o n h => ?_, upd_same, ?_⟩
            · rw [upd_ne n]; exact x1 b o n h
            · have := of_decide_eq_true e2
              have : (0 : Int) ≤ 10 ^ (18 : Int).toNat := by decide
              omega
          · refine ⟨_, rfl, r, _, 3, _, rfl, rfl, S1, atI_nat (j := 3) rfl, _, _, rfl, rfl, .inr (by decide), _, rfl, _, _, rfl, rfl, .inr (by decide), _, _, rfl, rfl, _, _, rfl, rfl, .inl ⟨_, rfl, _, _, rfl, rfl, (show (0 : Int) < 2147483647 by decide), ?_⟩⟩
            refine ⟨_, rfl, r, _, 3, 3, rfl, rfl, hr1, rfl, ?_⟩
            refine ⟨_, i + 1, b, _, rfl, fun b o n h => ?_, upd_same, hb⟩
            rw [upd_ne n]; exact x1 b o n h
        · refine ⟨_, rfl, r, _, 3, _, rfl, rfl, S, atI_nat (j := 3) rfl, _, _, rfl, rfl, .inr (by decide), _, _, rfl, rfl, .inl ⟨_, rfl, _, _, rfl, rfl, (show (0 : Int) < 2147483647 by decide), ?_⟩⟩
          refine ⟨_, rfl, r, _, 3, 3, rfl, rfl, hr0, rfl, ?_⟩
          exact ⟨_, i, b, _, rfl, Kp.at_, upd_same, hb⟩
      · exact ⟨_, i, b, z, rfl, Kp.refl r H, hr0, hb⟩
    · rintro σ H' ⟨c, i', b', z', rfl, sx, hr', hb'⟩
      have S' : SqL K H' r [.ref L, .int i', .int b', .int z'] := lstOf hr'
      have hL' : H' L = some (.lst (ns.map V.int)) := sx _ _ hLr hL0
      refine ⟨_, rfl, r, _, 2, _, rfl, rfl, S', atI_nat (j := 2) rfl, _, _, rfl, rfl, _, rfl, ite2 (fun e => ?_) (fun e => ?_)⟩
      · have e' := of_decide_eq_true e
        refine ⟨_, rfl, r, _, 2, _, rfl, rfl, S', atI_nat (j := 2) rfl, .inl ⟨_, rfl, _, rfl, _, _, rfl, rfl, hm, ?_⟩⟩
        refine ⟨_, rfl, r, _, 2, _, rfl, rfl, S', atI_nat (j := 2) rfl, _, rfl, _, _, rfl, rfl, wide_div hm hm2 (by decide) (by decide), _, rfl, r, _, 2, 2, rfl, rfl, hr', rfl, ?_⟩
        refine ⟨_, rfl, q _ _ (Int.emod_nonneg _ (by omega)) (Int.emod_lt_of_pos _ hm) (fun c o n h => ?_) ⟨⟨ns, i', b' / m, z', upd_same, ?_, Int.ediv_nonneg hb' (by omega)⟩, hLr⟩⟩
        · rw [upd_ne n]; exact sx c o n h
        · rw [upd_ne hLr]; exact hL'
      · refine ⟨_, rfl, r, _, 3, _, rfl, rfl, S', atI_nat (j := 3) rfl, _, _, rfl, rfl, .inr (by decide), .inl ⟨_, rfl, _, _, rfl, rfl, (show (0 : Int) < 2147483629 by decide), _, rfl, _, _, rfl, rfl, hm, ?_⟩⟩
        exact q _ _ (Int.emod_nonneg _ (by omega)) (Int.emod_lt_of_pos _ hm) sx ⟨⟨ns, i', b', z', hr', hL', hb'⟩, hLr⟩
end

end R
namespace R
open PySem PySem.Spec PyProof.Rows L2
/-! ## the law's bars -/
theorem choices_add (bs : List Bar) (b : Bar) : choices (bs ++ [b]) = choices bs * max 1 b.2.length := by
  unfold choices
  rw [List.foldl_append]
  rfl
theorem wh_add (bs : List Bar) (b : Bar) : wh (bs ++ [b]) = Nat.lcm (wh bs) b.1.natAbs := by
  unfold wh
  rw [List.foldl_append]
  rfl
theorem LotAt.mk' {K : PySem.W.Frag} {H : Hp} {a : Addr} {l : List Int} (h : SqT K H a (l.map V.int)) : LotAt K H (.ref a) l := ⟨a, rfl, h⟩
theorem BarsAt.add {K : PySem.W.Frag} {H : Hp} {p : Addr} {xs : List V} {x : V} {bs : List Bar} {b : Bar} (hp : SqT K H p (xs ++ [x])) (n : xs.length = bs.length)
    (h : ∀ (i : Nat) x b, xs[i]? = some x → bs[i]? = some b → BarAt K H x b) (hx : BarAt K H x b) : BarsAt K H (.ref p) (bs ++ [b]) := by
  refine ⟨p, xs ++ [x], rfl, hp, by rw [List.length_append, List.length_append, n]; rfl, fun i y c h1 h2 => ?_⟩
  by_cases hi : i < xs.length
  · rw [List.getElem?_append_left hi] at h1
    rw [List.getElem?_append_left (by omega)] at h2
    exact h i y c h1 h2
  · have hl := (List.getElem?_eq_some_iff.mp h1).1
    rw [List.length_append] at hl
    have e : i = xs.length := by
      have : [x].length = 1 := rfl
      omega
    subst e
    rw [List.getElem?_append_right (Nat.le_refl _), Nat.sub_self] at h1
    rw [n, List.getElem?_append_right (Nat.le_refl _), Nat.sub_self] at h2
    cases Option.some.inj h1
    cases Option.some.inj h2
    exact hx
structure Drawn (most top : Nat) (bs : List Bar) : Prop where
  len : bs.length ≤ most
  bar : ∀ b ∈ bs, 1 ≤ b.1 ∧ b.1 ≤ top ∧ LotOk b.1 b.2
  many : choices bs ≤ 2000
def sp_l_bars (K : PySem.W.Frag) : Sp := fun vs H Q _ => ∃ (r L : Addr) (most top : Nat), vs = [.ref r, .int most, .int top] ∧ RowAt H r L ∧ most ≤ 6 ∧ 1 ≤ top ∧ top ≤ 60 ∧
  ∀ v bs H', Drawn most top bs → BarsAt K H' v bs → Kp r H H' → RowAt H' r L → Q v H'
/-- a lot that grows -/
structure Grown (i : Nat) (l : List Int) : Prop where
  up : l.Pairwise (· < ·)
  ge : ∀ x ∈ l, 0 ≤ x
  lt : ∀ x ∈ l, x < (i : Int)
  len : l.length ≤ i
theorem Grown.skip {i : Nat} {l : List Int} (g : Grown i l) : Grown (i + 1) l := ⟨g.up, g.ge, fun x h => by have := g.lt x h; omega, Nat.le_succ_of_le g.len⟩
theorem Grown.add {i : Nat} {l : List Int} (g : Grown i l) : Grown (i + 1) (l ++ [(i : Int)]) := by
  refine ⟨List.pairwise_append.mpr ⟨g.up, List.pairwise_singleton _ _, fun x h y hy => ?_⟩, fun x h => ?_, fun x h => ?_, ?_⟩
  · rw [List.mem_singleton.mp hy]
    exact g.lt x h
  · rcases List.mem_append.mp h with h | h
    · exact g.ge x h
    · rw [List.mem_singleton.mp h]; omega
  · rcases List.mem_append.mp h with h | h
    · have := g.lt x h; omega
    · rw [List.mem_singleton.mp h]; omega
  · rw [List.length_append]
    have := g.len
    show l.length + 1 ≤ i + 1
    omega
theorem cutOne (l : List Int) : cutV (l.map V.int) none (some 1) = (l.take 1).map V.int := by
  unfold cutV
  rw [HT.sIx_none, show HT.sIx (l.map V.int).length (l.map V.int).length (some 1) = min 1 (l.map V.int).length from HT.sIx_nat _ _ 1]
  cases l with
  | nil => rfl
  | cons x r =>
    rw [show min 1 ((x :: r).map V.int).length = 1 by rw [List.length_map, List.length_cons]; omega]
    rfl
theorem maxIte (n : Nat) : (if (n : Int) > 1 then (n : Int) else 1) = ((max 1 n : Nat) : Int) := by
  split <;> omega

end R
namespace R
open PySem PySem.Spec PyProof.Rows L2
/-! ## the law's own reckoning -/
theorem fade_step {a b i M : Nat} (hb : 0 < b) (hab : b < a) (h : a * b * 2 ^ i < M) : b * (a % b) * 2 ^ (i + 1) < M := by
  have h1 : a % b < b := Nat.mod_lt _ hb
  have h2 := Nat.mod_add_div a b
  have h3 : 1 ≤ a / b := Nat.div_pos (Nat.le_of_lt hab) hb
  have h4 : b * 1 ≤ b * (a / b) := Nat.mul_le_mul_left b h3
  have h5 : (a % b) * 2 ≤ a := by omega
  have h6 : b * ((a % b) * 2) ≤ b * a := Nat.mul_le_mul_left b h5
  have h7 : b * ((a % b) * 2) * 2 ^ i ≤ b * a * 2 ^ i := Nat.mul_le_mul_right _ h6
  have e : b * (a % b) * 2 ^ (i + 1) = b * ((a % b) * 2) * 2 ^ i := by
    rw [Nat.pow_succ, Nat.mul_comm (2 ^ i) 2, ← Nat.mul_assoc, ← Nat.mul_assoc]
  rw [e]
  rw [Nat.mul_comm b a] at h7
  omega
/-- how the two numbers of Euclid's walk fade -/
def Fade (M i a b : Nat) : Prop := (i = 0 ∧ a * b < M ∧ ∀ c, c < b → b * c < M) ∨ (∃ j, i = j + 1 ∧ b < a ∧ a * b * 2 ^ j < M)
theorem Fade.step {M i a b : Nat} (hb : b ≠ 0) (h : Fade M i a b) : Fade M (i + 1) b (a % b) := by
  have hb' : 0 < b := Nat.pos_of_ne_zero hb
  refine .inr ⟨i, rfl, Nat.mod_lt _ hb', ?_⟩
  rcases h with ⟨rfl, h1, h2⟩ | ⟨j, rfl, h1, h2⟩
  · rw [Nat.pow_zero, Nat.mul_one]
    exact h2 _ (Nat.mod_lt _ hb')
  · exact fade_step hb' h1 h2
theorem Fade.end_ {a b : Nat} (h : Fade (2 ^ 280) 300 a b) : b = 0 := by
  rcases h with ⟨h, _⟩ | ⟨j, hj, h1, h2⟩
  · omega
  · obtain rfl : j = 299 := by omega
    by_cases hb : b = 0
    · exact hb
    · have h3 : 1 * 1 ≤ a * b := Nat.mul_le_mul (by omega) (by omega)
      have h4 : 1 * 2 ^ 299 ≤ a * b * 2 ^ 299 := Nat.mul_le_mul_right _ h3
      exact absurd (Nat.lt_of_le_of_lt h4 h2) (by decide)
theorem Fade.start {a b : Nat} (ha : a < 2 ^ 140) (hb : b < 2 ^ 140) : Fade (2 ^ 280) 0 a b := by
  have e : (2 : Nat) ^ 140 * 2 ^ 140 = 2 ^ 280 := by rw [← Nat.pow_add]
  refine .inl ⟨rfl, ?_, fun c hc => ?_⟩
  · rw [← e]
    exact Nat.mul_lt_mul'' ha hb
  · rw [← e]
    exact Nat.mul_lt_mul'' hb (Nat.lt_trans hc hb)
def sp_l_gcd : Sp := fun vs H Q _ => ∃ a b : Nat, vs = [.int a, .int b] ∧ a < 2 ^ 140 ∧ b < 2 ^ 140 ∧ Q (.int (Nat.gcd a b : Nat)) H
theorem modNat (a b : Nat) : (a : Int) % (b : Int) = ((a % b : Nat) : Int) := (Int.natCast_emod a b).symm
theorem divNat (a b : Nat) : (a : Int) / (b : Int) = ((a / b : Nat) : Int) := (Int.natCast_ediv a b).symm
/-! the whole -/
theorem lcm_le_mul (m n : Nat) : Nat.lcm m n ≤ m * n := Nat.div_le_self _ _
theorem lcm_div (w m : Nat) : w / Nat.gcd w m * m = Nat.lcm w m := by
  unfold Nat.lcm
  exact Nat.div_mul_right_comm (Nat.gcd_dvd_left w m) m
theorem snocInd {α : Type} {p : List α → Prop} (h0 : p []) (hs : ∀ l x, p l → p (l ++ [x])) : ∀ l, p l := by
  intro l
  rw [← List.reverse_reverse l]
  induction l.reverse with
  | nil => exact h0
  | cons x r ih =>
    rw [List.reverse_cons]
    exact hs _ _ ih
theorem wh_pos : ∀ (bs : List Bar), (∀ b ∈ bs, 1 ≤ b.1) → 0 < wh bs := by
  refine snocInd (fun _ => by decide) fun bs b ih h => ?_
  · skip
    rw [wh_add]
    have h1 := ih fun c hc => h c (List.mem_append_left _ hc)
    have h2 := h b (List.mem_append_right _ (List.mem_singleton.mpr rfl))
    exact Nat.lcm_pos h1 (by omega)
theorem wh_le : ∀ (bs : List Bar), (∀ b ∈ bs, b.1.natAbs ≤ 1000000) → wh bs ≤ 1000000 ^ bs.length := by
  refine snocInd (fun _ => by decide) fun bs b ih h => ?_
  · skip
    rw [wh_add, List.length_append]
    have h1 := ih fun c hc => h c (List.mem_append_left _ hc)
    have h2 := h b (List.mem_append_right _ (List.mem_singleton.mpr rfl))
    exact Nat.le_trans (lcm_le_mul _ _) (Nat.mul_le_mul h1 h2)
structure ModsOk (bs : List Bar) : Prop where
  six : bs.length ≤ 6
  mod : ∀ b ∈ bs, 1 ≤ b.1 ∧ b.1 ≤ 1000000
theorem ModsOk.lt {bs : List Bar} (h : ModsOk bs) : wh bs < 2 ^ 130 := by
  have h1 := wh_le bs fun b hb => by have := h.mod b hb; omega
  have h2 : (1000000 : Nat) ^ bs.length ≤ 1000000 ^ 6 := Nat.pow_le_pow_right (by decide) h.six
  exact Nat.lt_of_le_of_lt (Nat.le_trans h1 h2) (by decide)
theorem ModsOk.take {bs : List Bar} (h : ModsOk bs) (n : Nat) : ModsOk (bs.take n) := ⟨by rw [List.length_take]; have := h.six; omega, fun b hb => h.mod b (List.mem_of_mem_take hb)⟩
theorem ModsOk.pos {bs : List Bar} (h : ModsOk bs) : 0 < wh bs := wh_pos bs fun b hb => (h.mod b hb).1
def sp_l_whole (K : PySem.W.Frag) : Sp := fun vs H Q _ => ∃ (v : V) (bs : List Bar), vs = [v] ∧ BarsAt K H v bs ∧ ModsOk bs ∧ Q (.int (wh bs : Nat)) H
theorem takeSucc {α : Type} {l : List α} {i : Nat} {x : α} (h : l[i]? = some x) : l.take (i + 1) = l.take i ++ [x] := by
  rw [List.take_add_one, h]
  rfl

/-! what fits -/
theorem inVInt (x : Int) (l : List Int) : inV (.int x) (l.map V.int) = decide (x ∈ l) := by
  unfold inV
  rw [List.any_map]
  by_cases h : x ∈ l
  · rw [decide_eq_true h]
    exact List.any_eq_true.mpr ⟨x, h, by show (x == x) = true; exact beq_self_eq_true x⟩
  · rw [decide_eq_false h]
    refine List.any_eq_false.mpr fun y hy e => h ?_
    have e' : (y == x) = true := e
    rw [← beq_iff_eq.mp e']
    exact hy
theorem fitsB_add (bs : List Bar) (b : Bar) (x : Int) : fitsB (bs ++ [b]) x = (fitsB bs x && decide (x % b.1 ∈ b.2)) := by
  unfold fitsB
  rw [List.all_append]
  simp
theorem fitsB_take {bs : List Bar} {x : Int} {i : Nat} {b : Bar} (hb : bs[i]? = some b) (h : x % b.1 ∉ b.2) : fitsB bs x = false := by
  unfold fitsB
  refine List.all_eq_false.mpr ⟨b, List.mem_of_getElem? hb, ?_⟩
  rw [decide_eq_false h]
  exact Bool.false_ne_true
def sp_l_fits (K : PySem.W.Frag) : Sp := fun vs H Q _ => ∃ (v : V) (bs : List Bar) (x : Int), vs = [v, .int x] ∧ BarsAt K H v bs ∧ (∀ b ∈ bs, 1 ≤ b.1) ∧ Q (.bl (fitsB bs x)) H
def sp_l_own (K : PySem.W.Frag) : Sp := fun vs H Q _ => ∃ (v : V) (bs : List Bar), vs = [v] ∧ BarsAt K H v bs ∧ ModsOk bs ∧ wh bs ≤ 100000 ∧
  ∀ D H', Same H H' → H D = none → H' D = some (.lst ((cls bs).map V.int)) → Q (.ref D) H'
def clsTo (bs : List Bar) (n : Nat) : List Int := ((List.range n).map fun i : Nat => (i : Int)).filter (fitsB bs)
theorem clsTo_succ (bs : List Bar) (n : Nat) : clsTo bs (n + 1) = clsTo bs n ++ (if fitsB bs n = true then [(n : Int)] else []) := by
  unfold clsTo
  rw [List.range_succ, List.map_append, List.filter_append]
  by_cases h : fitsB bs n = true
  · rw [if_pos h, List.map_singleton, List.filter_cons_of_pos h]
    rfl
  · rw [if_neg h, List.map_singleton, List.filter_cons_of_neg h]
    rfl
theorem clsTo_len (bs : List Bar) (n : Nat) : (clsTo bs n).length ≤ n := by
  have h := List.length_filter_le (fitsB bs) ((List.range n).map fun i : Nat => (i : Int))
  rw [List.length_map, List.length_range] at h
  exact h

end R
namespace R
open PySem PySem.Spec PyProof.Rows L2
/-! ## joining rests: the mathematics -/
theorem emod_of_dvd_sub {a b m : Int} (h0 : 0 ≤ b) (h1 : b < m) (h : m ∣ a - b) : a % m = b := by
  obtain ⟨k, hk⟩ := h
  have e : a = b + m * k := by omega
  rw [e, Int.add_mul_emod_self_left]
  exact Int.emod_eq_of_lt h0 h1
def rowL (g turns back whole known : Int) (lot : List Int) : List Int := (lot.filter fun r => decide ((r - known) % g = 0)).map fun r => known + whole * ((r - known) / g * back % turns)
def joinL (g turns back whole : Int) (classes lot : List Int) : List Int := classes.flatMap fun k => rowL g turns back whole k lot
theorem rowL_add (g turns back whole known r : Int) (lot : List Int) : rowL g turns back whole known (lot ++ [r]) = rowL g turns back whole known lot ++ (if (r - known) % g = 0 then [known + whole * ((r - known) / g * back % turns)] else []) := by
  unfold rowL
  rw [List.filter_append, List.map_append]
  by_cases h : (r - known) % g = 0
  · rw [if_pos h, List.filter_cons_of_pos (by rw [decide_eq_true h])]
    rfl
  · rw [if_neg h, List.filter_cons_of_neg (by rw [decide_eq_false h]; exact Bool.false_ne_true)]
    rfl
theorem joinL_add (g turns back whole k : Int) (classes lot : List Int) : joinL g turns back whole (classes ++ [k]) lot = joinL g turns back whole classes lot ++ rowL g turns back whole k lot := by
  unfold joinL
  rw [List.flatMap_append]
  congr 1
  exact List.append_nil _
theorem mem_rowL {g turns back whole known y : Int} {lot : List Int} : y ∈ rowL g turns back whole known lot ↔ ∃ r ∈ lot, (r - known) % g = 0 ∧ y = known + whole * ((r - known) / g * back % turns) := by
  unfold rowL
  rw [List.mem_map]
  constructor
  · rintro ⟨r, hr, e⟩
    obtain ⟨h1, h2⟩ := List.mem_filter.mp hr
    exact ⟨r, h1, of_decide_eq_true h2, e.symm⟩
  · rintro ⟨r, h1, h2, e⟩
    exact ⟨r, List.mem_filter.mpr ⟨h1, decide_eq_true h2⟩, e.symm⟩
theorem mem_joinL {g turns back whole y : Int} {classes lot : List Int} : y ∈ joinL g turns back whole classes lot ↔ ∃ k ∈ classes, ∃ r ∈ lot, (r - k) % g = 0 ∧ y = k + whole * ((r - k) / g * back % turns) := by
  unfold joinL
  rw [List.mem_flatMap]
  constructor
  · rintro ⟨k, hk, h⟩
    exact ⟨k, hk, mem_rowL.mp h⟩
  · rintro ⟨k, hk, h⟩
    exact ⟨k, hk, mem_rowL.mpr h⟩
/-- what the joining leans on: g the common measure, w = g * w', m = g * turns, back the inverse of w' by turns -/
structure Meet (g turns back w w' m : Int) : Prop where
  g0 : 0 < g
  t0 : 0 < turns
  w0 : 0 < w
  ew : w = g * w'
  em : m = g * turns
  inv : turns ∣ w' * back - 1
section
variable {g turns back w w' m : Int}
theorem Meet.m0 (M : Meet g turns back w w' m) : 0 < m := by rw [M.em]; exact Int.mul_pos M.g0 M.t0
theorem Meet.out (M : Meet g turns back w w' m) {k r : Int} (hd : (r - k) % g = 0) : m ∣ (k + w * ((r - k) / g * back % turns)) - r := by
  obtain ⟨e, he⟩ := M.inv
  have hq : g * ((r - k) / g) = r - k := Int.mul_ediv_cancel' (Int.dvd_of_emod_eq_zero hd)
  generalize (r - k) / g = q at hq ⊢
  have ht := Int.mul_ediv_add_emod (q * back) turns
  generalize (q * back) % turns = t at ht ⊢
  generalize (q * back) / turns = j at ht
  refine ⟨q * e - w' * j, ?_⟩
  have h1 : w' * t - q = turns * (q * e - w' * j) := by
    have : t = q * back - turns * j := by omega
    rw [this, Int.mul_sub, Int.mul_sub]
    have a1 : w' * (q * back) = q * (w' * back) := by rw [← Int.mul_assoc, Int.mul_comm w' q, Int.mul_assoc]
    have a2 : w' * back = turns * e + 1 := by omega
    have a3 : w' * (turns * j) = turns * (w' * j) := by rw [← Int.mul_assoc, Int.mul_comm w' turns, Int.mul_assoc]
    have a4 : q * (turns * e + 1) = turns * (q * e) + q := by rw [Int.mul_add, Int.mul_one, ← Int.mul_assoc, Int.mul_comm q turns, Int.mul_assoc]
    rw [a1, a2, a3, a4]
    omega
  have h2 : k + w * t - r = g * (w' * t - q) := by
    rw [Int.mul_sub, hq, M.ew, ← Int.mul_assoc]
    omega
  rw [h2, h1, M.em, Int.mul_assoc]
theorem Meet.into (M : Meet g turns back w w' m) {y : Int} (h0 : 0 ≤ y) (h1 : y < w * turns) : (y % m - y % w) % g = 0 ∧ y = y % w + w * ((y % m - y % w) / g * back % turns) := by
  obtain ⟨e, he⟩ := M.inv
  have hw := Int.mul_ediv_add_emod y w
  have hm := Int.mul_ediv_add_emod y m
  have k0 := Int.emod_nonneg y (Int.ne_of_gt M.w0)
  have t0 : 0 ≤ y / w := Int.ediv_nonneg h0 (Int.le_of_lt M.w0)
  have t1 : y / w < turns := Int.ediv_lt_of_lt_mul M.w0 (by rw [Int.mul_comm]; exact h1)
  generalize y / w = t at hw t0 t1
  generalize y / m = s at hm
  generalize y % w = k at hw k0 ⊢
  generalize y % m = r at hm ⊢
  have hd : r - k = g * (w' * t - turns * s) := by
    have a1 : w * t = g * (w' * t) := by rw [M.ew, Int.mul_assoc]
    have a2 : m * s = g * (turns * s) := by rw [M.em, Int.mul_assoc]
    rw [Int.mul_sub, ← a1, ← a2]
    omega
  rw [hd]
  refine ⟨Int.mul_emod_right _ _, ?_⟩
  rw [Int.mul_ediv_cancel_left _ (Int.ne_of_gt M.g0)]
  have hq : (w' * t - turns * s) * back = t + turns * (e * t - s * back) := by
    have a2 : w' * back = turns * e + 1 := by omega
    rw [Int.sub_mul, Int.mul_sub]
    have a3 : w' * t * back = (w' * back) * t := by rw [Int.mul_assoc, Int.mul_comm t back, ← Int.mul_assoc]
    have a4 : (turns * e + 1) * t = turns * (e * t) + t := by rw [Int.add_mul, Int.one_mul, Int.mul_assoc]
    have a5 : turns * s * back = turns * (s * back) := Int.mul_assoc _ _ _
    rw [a3, a2, a4, a5]
    omega
  rw [hq, Int.add_mul_emod_self_left, Int.emod_eq_of_lt t0 t1]
  omega
/-- a number made of known and rest tells both -/
theorem Meet.tells (M : Meet g turns back w w' m) {k r : Int} (hk : 0 ≤ k ∧ k < w) (hr : 0 ≤ r ∧ r < m) (hd : (r - k) % g = 0) :
    (k + w * ((r - k) / g * back % turns)) % w = k ∧ (k + w * ((r - k) / g * back % turns)) % m = r := by
  refine ⟨?_, emod_of_dvd_sub hr.1 hr.2 (M.out hd)⟩
  rw [Int.add_mul_emod_self_left]
  exact Int.emod_eq_of_lt hk.1 hk.2
theorem Meet.rowNodup (M : Meet g turns back w w' m) {k : Int} {lot : List Int} (hk : 0 ≤ k ∧ k < w) (hl : ∀ r ∈ lot, 0 ≤ r ∧ r < m) (nd : lot.Nodup) : (rowL g turns back w k lot).Nodup := by
  unfold rowL
  have nf : (lot.filter fun r => decide ((r - k) % g = 0)).Nodup := nd.filter _
  refine List.pairwise_map.mpr (List.Pairwise.imp_of_mem (fun {a b} ha hb hne e => hne ?_) nf)
  obtain ⟨a1, a2⟩ := List.mem_filter.mp ha
  obtain ⟨b1, b2⟩ := List.mem_filter.mp hb
  have q1 := (M.tells hk (hl _ a1) (of_decide_eq_true a2)).2
  have q2 := (M.tells hk (hl _ b1) (of_decide_eq_true b2)).2
  rw [← q1, ← q2, e]
theorem Meet.joinNodup (M : Meet g turns back w w' m) {cs lot : List Int} (hc : ∀ k ∈ cs, 0 ≤ k ∧ k < w) (nc : cs.Nodup) (hl : ∀ r ∈ lot, 0 ≤ r ∧ r < m) (nd : lot.Nodup) : (joinL g turns back w cs lot).Nodup := by
  induction cs with
  | nil => exact List.nodup_nil
  | cons k r ih =>
    obtain ⟨n1, n2⟩ := List.nodup_cons.mp nc
    show (rowL g turns back w k lot ++ joinL g turns back w r lot).Nodup
    refine List.nodup_append.mpr ⟨M.rowNodup (hc k List.mem_cons_self) hl nd, ih (fun x hx => hc x (List.mem_cons_of_mem _ hx)) n2, fun a ha b hb e => ?_⟩
    obtain ⟨r1, hr1, d1, e1⟩ := mem_rowL.mp ha
    obtain ⟨k2, hk2, r2, hr2, d2, e2⟩ := mem_joinL.mp hb
    have q1 := (M.tells (hc k List.mem_cons_self) (hl _ hr1) d1).1
    have q2 := (M.tells (hc k2 (List.mem_cons_of_mem _ hk2)) (hl _ hr2) d2).1
    rw [← e1] at q1
    rw [← e2] at q2
    rw [e] at q1
    rw [← q1, q2] at n1
    exact n1 hk2
end
/-! what fits by a row of bars hangs on the rest by the whole alone -/
theorem dvd_wh : ∀ (bs : List Bar) (b : Bar), b ∈ bs → b.1.natAbs ∣ wh bs := by
  refine snocInd (fun b h => by simp at h) fun bs c ih b h => ?_
  rw [wh_add]
  rcases List.mem_append.mp h with h | h
  · exact Nat.dvd_trans (ih b h) (Nat.dvd_lcm_left _ _)
  · rw [List.mem_singleton.mp h]
    exact Nat.dvd_lcm_right _ _
theorem emod_emod_wh {bs : List Bar} {b : Bar} (h : b ∈ bs) (x : Int) : x % (wh bs : Int) % b.1 = x % b.1 := by
  refine Int.emod_emod_of_dvd x ?_
  have := dvd_wh bs b h
  exact Int.natAbs_dvd.mp (Int.natCast_dvd_natCast.mpr this)
theorem fitsB_iff {bs : List Bar} {x : Int} : fitsB bs x = true ↔ ∀ b ∈ bs, x % b.1 ∈ b.2 := by
  unfold fitsB
  rw [List.all_eq_true]
  exact ⟨fun h b hb => of_decide_eq_true (h b hb), fun h b hb => decide_eq_true (h b hb)⟩
theorem fitsB_mod (bs : List Bar) (x : Int) : fitsB bs (x % (wh bs : Int)) = fitsB bs x := by
  rw [Bool.eq_iff_iff, fitsB_iff, fitsB_iff]
  exact ⟨fun h b hb => by rw [← emod_emod_wh hb]; exact h b hb, fun h b hb => by rw [emod_emod_wh hb]; exact h b hb⟩
/-- xs: each number from 0 to w - 1 that fits, once -/
structure ClsIs (bs : List Bar) (xs : List Int) : Prop where
  nd : xs.Nodup
  mem : ∀ x, x ∈ xs ↔ 0 ≤ x ∧ x < (wh bs : Int) ∧ fitsB bs x = true
theorem ClsIs.nil : ClsIs [] [0] := by
  refine ⟨by simp, fun x => ?_⟩
  rw [List.mem_singleton]
  have e : (wh [] : Int) = 1 := rfl
  rw [e]
  constructor
  · rintro rfl
    exact ⟨by decide, by decide, rfl⟩
  · rintro ⟨a, b, _⟩
    omega
theorem ClsIs.add {g turns back w' : Int} {bs : List Bar} {b : Bar} {xs : List Int} (M : Meet g turns back (wh bs : Int) w' b.1) (h : ClsIs bs xs) (L : LotOk b.1 b.2) (hw : (wh (bs ++ [b]) : Int) = (wh bs : Int) * turns) :
    ClsIs (bs ++ [b]) (joinL g turns back (wh bs : Int) xs b.2) := by
  have hc : ∀ k ∈ xs, 0 ≤ k ∧ k < (wh bs : Int) := fun k hk => let ⟨a, c, _⟩ := (h.mem k).mp hk; ⟨a, c⟩
  have hl : ∀ r ∈ b.2, 0 ≤ r ∧ r < b.1 := fun r hr => ⟨L.ge r hr, L.lt r hr⟩
  refine ⟨M.joinNodup hc h.nd hl (L.up.imp fun h => Int.ne_of_lt h), fun y => ?_⟩
  rw [mem_joinL, hw, fitsB_add]
  constructor
  · rintro ⟨k, hk, r, hr, hd, e⟩
    obtain ⟨q1, q2⟩ := M.tells (hc k hk) (hl r hr) hd
    obtain ⟨k0, k1, kf⟩ := (h.mem k).mp hk
    have t0 := Int.emod_nonneg ((r - k) / g * back) (Int.ne_of_gt M.t0)
    have t1 := Int.emod_lt_of_pos ((r - k) / g * back) M.t0
    rw [← e] at q1 q2
    generalize (r - k) / g * back % turns = t at e t0 t1
    have p0 : 0 ≤ (wh bs : Int) * t := Int.mul_nonneg (Int.le_of_lt M.w0) t0
    have p1 : (wh bs : Int) * (t + 1) ≤ (wh bs : Int) * turns := Int.mul_le_mul_of_nonneg_left (by omega) (Int.le_of_lt M.w0)
    rw [Int.mul_add, Int.mul_one] at p1
    refine ⟨by omega, by omega, ?_⟩
    rw [q2, decide_eq_true hr, Bool.and_true, ← fitsB_mod, q1]
    exact kf
  · rintro ⟨y0, y1, yf⟩
    obtain ⟨f1, f2⟩ := Bool.and_eq_true_iff.mp yf
    obtain ⟨d1, d2⟩ := M.into y0 y1
    refine ⟨y % (wh bs : Int), (h.mem _).mpr ⟨Int.emod_nonneg _ (Int.ne_of_gt M.w0), Int.emod_lt_of_pos _ M.w0, by rw [fitsB_mod]; exact f1⟩, y % b.1, of_decide_eq_true f2, d1, d2⟩
/-- sorted, it is the list of them in order -/
theorem cls_is (bs : List Bar) : ClsIs bs (cls bs) := by
  refine ⟨?_, fun x => ?_⟩
  · refine List.Pairwise.filter _ (List.pairwise_map.mpr (List.nodup_range.imp fun h e => h (by omega)))
  · unfold cls
    rw [List.mem_filter, List.mem_map]
    constructor
    · rintro ⟨⟨n, hn, rfl⟩, f⟩
      have := List.mem_range.mp hn
      exact ⟨by omega, by omega, f⟩
    · rintro ⟨x0, x1, f⟩
      exact ⟨⟨x.toNat, List.mem_range.mpr (by omega), by omega⟩, f⟩
theorem cls_up (bs : List Bar) : (cls bs).Pairwise (· < ·) := by
  unfold cls
  refine List.Pairwise.filter _ (List.pairwise_map.mpr (List.pairwise_lt_range.imp fun h => by omega))
theorem sorted_unique : ∀ {xs ys : List Int}, xs.Pairwise (· < ·) → ys.Pairwise (· < ·) → (∀ x, x ∈ xs ↔ x ∈ ys) → xs = ys
  | [], [], _, _, _ => rfl
  | [], y :: r, _, _, h => absurd ((h y).mpr List.mem_cons_self) (by simp)
  | x :: r, [], _, _, h => absurd ((h x).mp List.mem_cons_self) (by simp)
  | x :: r, y :: s, p, q, h => by
    obtain ⟨p1, p2⟩ := List.pairwise_cons.mp p
    obtain ⟨q1, q2⟩ := List.pairwise_cons.mp q
    have e : x = y := by
      rcases List.mem_cons.mp ((h x).mp List.mem_cons_self) with e | e
      · exact e
      · rcases List.mem_cons.mp ((h y).mpr List.mem_cons_self) with f | f
        · exact f.symm
        · have := q1 x e
          have := p1 y f
          omega
    subst e
    congr 1
    refine sorted_unique p2 q2 fun z => ⟨fun hz => ?_, fun hz => ?_⟩
    · rcases List.mem_cons.mp ((h z).mp (List.mem_cons_of_mem _ hz)) with e | e
      · have := p1 z hz
        omega
      · exact e
    · rcases List.mem_cons.mp ((h z).mpr (List.mem_cons_of_mem _ hz)) with e | e
      · have := q1 z hz
        omega
      · exact e
theorem le_nodup_lt {xs : List Int} (h : xs.Pairwise (· ≤ ·)) (n : xs.Nodup) : xs.Pairwise (· < ·) := by
  refine (h.and n).imp fun ⟨a, b⟩ => ?_
  omega
theorem ClsIs.sorted {bs : List Bar} {xs ys : List Int} (h : ClsIs bs xs) (p : ys.Perm xs) (s : ys.Pairwise (· ≤ ·)) : ys = cls bs := by
  refine sorted_unique (le_nodup_lt s (p.nodup_iff.mpr h.nd)) (cls_up bs) fun x => ?_
  rw [p.mem_iff, h.mem, (cls_is bs).mem]
theorem joinL_len (g turns back whole : Int) (classes lot : List Int) : (joinL g turns back whole classes lot).length ≤ classes.length * lot.length := by
  induction classes with
  | nil => exact Nat.zero_le _
  | cons k r ih =>
    show (rowL g turns back whole k lot ++ joinL g turns back whole r lot).length ≤ (r.length + 1) * lot.length
    have h1 : (rowL g turns back whole k lot).length ≤ lot.length := by
      unfold rowL
      rw [List.length_map]
      exact List.length_filter_le _ _
    rw [List.length_append, Nat.add_mul, Nat.one_mul]
    omega

end R
namespace R
open PySem PySem.Spec PyProof.Rows L2
/-! ## the program's own: the checks, the joining, the sieve -/
/-- Euclid's walk with its factors: r, a the two numbers, F, G the factors' sizes -/
structure Euc (n m r a F G : Nat) (f g : Int) : Prop where
  r1 : 1 ≤ r
  co : Nat.gcd r a = 1
  sum : r * G + a * F = m
  sg : (f = F ∧ g = -(G : Int)) ∨ (f = -(F : Int) ∧ g = G)
  df : (m : Int) ∣ f * n - r
  dg : (m : Int) ∣ g * n - a
theorem Euc.start {n m : Nat} (h1 : 1 ≤ n) (co : Nat.gcd n m = 1) : Euc n m n m 1 0 1 0 := by
  refine ⟨h1, co, by omega, .inl ⟨rfl, rfl⟩, ⟨0, by omega⟩, ⟨-1, by omega⟩⟩
theorem Euc.step {n m r a F G : Nat} {f g : Int} (E : Euc n m r a F G f g) (ha : a ≠ 0) : Euc n m a (r % a) G (F + r / a * G) g (f - ((r / a : Nat) : Int) * g) := by
  have hd := Nat.div_add_mod r a
  refine ⟨Nat.pos_of_ne_zero ha, ?_, ?_, ?_, E.dg, ?_⟩
  · rw [Nat.gcd_comm a (r % a), ← Nat.gcd_rec, Nat.gcd_comm]
    exact E.co
  · have e := E.sum
    rw [← hd] at e
    rw [← e, Nat.mul_add, Nat.add_mul, Nat.mul_assoc]
    omega
  · rcases E.sg with ⟨h1, h2⟩ | ⟨h1, h2⟩
    · refine .inr ⟨h2, ?_⟩
      rw [h1, h2, Int.mul_neg, Int.natCast_add, Int.natCast_mul]
      omega
    · refine .inl ⟨h2, ?_⟩
      rw [h1, h2, Int.natCast_add, Int.natCast_mul]
      omega
  · obtain ⟨x, hx⟩ := E.df
    obtain ⟨y, hy⟩ := E.dg
    refine ⟨x - ((r / a : Nat) : Int) * y, ?_⟩
    have e1 : ((r : Nat) : Int) = (a : Int) * ((r / a : Nat) : Int) + ((r % a : Nat) : Int) := by
      rw [← Int.natCast_mul, ← Int.natCast_add, hd]
    have e2 : f * n = (m : Int) * x + r := by omega
    have e3 : g * n = (m : Int) * y + a := by omega
    rw [Int.sub_mul, Int.mul_assoc, e2, e3, Int.mul_sub, Int.mul_add]
    have e4 : ((r / a : Nat) : Int) * ((m : Int) * y) = (m : Int) * (((r / a : Nat) : Int) * y) := by rw [← Int.mul_assoc, Int.mul_comm _ (m : Int), Int.mul_assoc]
    have e5 : ((r / a : Nat) : Int) * (a : Int) = (a : Int) * ((r / a : Nat) : Int) := Int.mul_comm _ _
    rw [e4, e5]
    omega
theorem Euc.last {n m r F G : Nat} {f g : Int} (E : Euc n m r 0 F G f g) : (m : Int) ∣ (n : Int) * (f % (m : Int)) - 1 := by
  have h1 := E.co
  rw [Nat.gcd_zero_right] at h1
  obtain ⟨x, hx⟩ := E.df
  have hm := Int.mul_ediv_add_emod f (m : Int)
  generalize f / (m : Int) = q at hm
  refine ⟨x - (n : Int) * q, ?_⟩
  have e : f % (m : Int) = f - (m : Int) * q := by omega
  have e2 : (n : Int) * f = (m : Int) * x + 1 := by
    rw [Int.mul_comm]
    omega
  rw [e, Int.mul_sub, e2, Int.mul_sub]
  have e4 : (n : Int) * ((m : Int) * q) = (m : Int) * ((n : Int) * q) := by rw [← Int.mul_assoc, Int.mul_comm (n : Int), Int.mul_assoc]
  rw [e4]
  omega
def sp_p_inverse : Sp := fun vs H Q _ => ∃ n m : Nat, vs = [.int n, .int m] ∧ 1 ≤ n ∧ n < 2 ^ 150 ∧ 1 ≤ m ∧ m < 2 ^ 150 ∧ Nat.gcd n m = 1 ∧ ∀ (v : Int) (H' : Hp), Same H H' → 0 ≤ v → v < m → (m : Int) ∣ (n : Int) * v - 1 → Q (.int v) H'
section
variable {P : Program} {w : World} {K : PySem.W.Frag} {mg : Str → Option Value} {base : Heap}
theorem ok_p_inverse (T : Txt K mg) : FnOk P w K mg base CX0 2 T.f_p_inverse T.fd_p_inverse ["number", "modulus"] sp_p_inverse := by
  refine T.F_p_inverse.ok sc_p_inverse (fun vs H Q E h => ?_) (fun cdv A outer s H vs Q E hr h => ?_)
  · obtain ⟨n, m, rfl, _⟩ := h
    rfl
  · obtain ⟨n, m, rfl, h1, h2, h3, h4, co, q⟩ := h
    refine ⟨_, (pss_cons (ps_par (i := 2) (j := 3) (by rfl) sc_p_inverse.nd rfl rfl (by decide) rfl rfl (pa_cons (pv 0) (pa_cons (pv 1) pa_nil)) (by rfl))
      (pss_cons (ps_asg (pe_tup (pa_cons pe_int (pa_cons pe_int pa_nil))) (pg_tup (by rfl) (pgs_cons (pg_name (i := 4) sc_p_inverse.nd rfl (by first | exact .inl rfl | exact .inr rfl)) (pgs_cons (pg_name (i := 5) sc_p_inverse.nd rfl (by first | exact .inl rfl | exact .inr rfl)) pgs_nil))))
      (pss_cons (ps_while PassesOwn.never (pt_cmpR op_ne (pv 3) pe_int (nomark _)) (pss_cons (ps_set (i := 6) sc_p_inverse.nd rfl (by first | exact .inl rfl | exact .inr rfl) (pe_op op_fdivW (pv 2) (pv 3)))
      (pss_cons (ps_par (i := 2) (j := 3) (by rfl) sc_p_inverse.nd rfl rfl (by decide) rfl rfl (pa_cons (pv 3) (pa_cons (pe_op op_sub (pv 2) (pe_op op_mulW (pv 6) (pv 3))) pa_nil)) (by rfl))
      (pss_one (ps_par (i := 4) (j := 5) (by rfl) sc_p_inverse.nd rfl rfl (by decide) rfl rfl (pa_cons (pv 5) (pa_cons (pe_op op_sub (pv 4) (pe_op op_mulW (pv 6) (pv 5))) pa_nil)) (by rfl))))))
      (pss_one (ps_ret (pe_op op_mod (pv 4) (pv 1))))))), ?_⟩
    refine ⟨_, rfl, _, rfl, _, _, rfl, ?_⟩
    refine ⟨sizeOk (by show (2 : Nat) ≤ 100000; decide), fun p np => ⟨p, _, rfl, tupOf upd_same, rfl, _, _, rfl, _, _, rfl, rfl, ?_⟩⟩
    have s1 : Same H (upd H p (.tup [.int 1, .int 0])) := same_upd np
    generalize upd H p (.tup [.int 1, .int 0]) = H1 at s1
    refine while_by (fun σ H2 => ∃ (r a F G : Nat) (f g : Int) (x : Option V), σ = [some (.int n), some (.int m), some (.int r), some (.int a), some (.int f), some (.int g), x] ∧ Euc n m r a F G f g ∧ r < 2 ^ 150 ∧ a < 2 ^ 150 ∧ H2 = H1)
      (fun σ _ => match σ with | [_, _, _, some (.int a), _, _, _] => a.toNat | _ => 0) ⟨n, m, 1, 0, 1, 0, none, rfl, Euc.start h1 co, h2, h4, rfl⟩ ?_ ?_
    · rintro σ H2 ⟨r, a, F, G, f, g, x, rfl, U, hr1, ha1, rfl⟩
      refine ⟨_, rfl, rfl, _, rfl, ite2 (fun e => ?_) (fun e => ?_)⟩
      · have h0 : a ≠ 0 := fun z => by
          subst z
          have e' : (!decide (V.int ((0 : Nat) : Int) = V.int 0)) = true := e
          exact absurd e' (by decide)
        have ap : 0 < a := Nat.pos_of_ne_zero h0
        have hd := Nat.div_add_mod r a
        have q1 : r / a ≤ r := Nat.div_le_self _ _
        have sm := U.sum
        have g1 : 1 * G ≤ r * G := Nat.mul_le_mul_right _ U.r1
        have f1 : 1 * F ≤ a * F := Nat.mul_le_mul_right _ ap
        have gl : g.natAbs < 2 ^ 150 := by
          rcases U.sg with ⟨_, z⟩ | ⟨_, z⟩ <;> omega
        refine ⟨_, rfl, _, rfl, _, _, rfl, rfl, wide_div (b := 150) (by omega) (by rw [Int.natAbs_natCast]; exact ha1) (by decide) (by decide), ?_⟩
        refine ⟨_, rfl, _, rfl, _, rfl, _, rfl, _, _, rfl, rfl, ?_, _, _, rfl, rfl, _, _, rfl, ?_⟩
        · rw [divNat]
          exact wide_mul (a := 150) (b := 150) (by rw [Int.natAbs_natCast]; omega) (by rw [Int.natAbs_natCast]; exact ha1) (by decide) (by decide) (by decide)
        refine ⟨_, rfl, _, rfl, _, rfl, _, rfl, _, _, rfl, rfl, ?_, _, _, rfl, rfl, _, _, rfl, ?_, ?_⟩
        · rw [divNat]
          exact wide_mul (a := 150) (b := 150) (by rw [Int.natAbs_natCast]; omega) gl (by decide) (by decide) (by decide)
        · refine ⟨a, r % a, G, F + r / a * G, g, f - ((r / a : Nat) : Int) * g, some (.int ((r / a : Nat) : Int)), ?_, U.step h0, ha1, Nat.lt_of_le_of_lt (Nat.mod_le _ _) hr1, rfl⟩
          have em : (r : Int) - (r : Int) / (a : Int) * (a : Int) = ((r % a : Nat) : Int) := by
            rw [← modNat, Int.emod_def, Int.mul_comm]
          show ([some (.int n), some (.int m), some (.int a), some (.int ((r : Int) - (r : Int) / (a : Int) * (a : Int))), some (.int g), some (.int (f - (r : Int) / (a : Int) * g)), some (.int ((r : Int) / (a : Int)))] : L2.St) = _
          rw [em, divNat]
        · show ((r : Int) - (r : Int) / (a : Int) * (a : Int)).toNat < ((a : Nat) : Int).toNat
          have em : (r : Int) - (r : Int) / (a : Int) * (a : Int) = ((r % a : Nat) : Int) := by
            rw [← modNat, Int.emod_def, Int.mul_comm]
          rw [em, Int.toNat_natCast, Int.toNat_natCast]
          exact Nat.mod_lt _ ap
      · have e' : ¬ (!decide (V.int (a : Int) = V.int 0)) = true := e
        have a0 : a = 0 := by
          by_cases z : V.int (a : Int) = V.int 0
          · have := V.int.inj z
            omega
          · rw [decide_eq_false z] at e'
            exact absurd rfl e'
        subst a0
        refine ⟨_, rfl, _, rfl, _, _, rfl, rfl, by show 0 < (m : Int); omega, ?_⟩
        exact q _ _ s1 (Int.emod_nonneg _ (by omega)) (Int.emod_lt_of_pos _ (by omega)) U.last
    · intro σ H2 Q1 Q2 hQ h
      obtain ⟨v, hv, hs, k, hk, hq⟩ := h
      exact ⟨v, hv, hs, k, hk, hQ _ _ hq⟩
end

end R
namespace R
open PySem PySem.Spec PyProof.Rows L2
theorem samePut {H H' : Hp} {p : Addr} {o : HO} (s : Same H H') (h : H p = none) : Same H (upd H' p o) := fun b u e => by
  rw [upd_ne (ne_of_none e h)]
  exact s b u e
theorem freshOf {H H' : Hp} {p : Addr} (s : Same H H') (h : H' p = none) : H p = none := s.free h
theorem rowL_len (g turns back whole known : Int) (lot : List Int) : (rowL g turns back whole known lot).length ≤ lot.length := by
  unfold rowL
  rw [List.length_map]
  exact List.length_filter_le _ _
theorem joinL_len2 {g turns back whole k : Int} {xs lot : List Int} {i j : Nat} (hi : i < xs.length) : (joinL g turns back whole (xs.take i) lot ++ rowL g turns back whole k (lot.take j)).length ≤ xs.length * lot.length := by
  have h1 := joinL_len g turns back whole (xs.take i) lot
  have h2 := rowL_len g turns back whole k (lot.take j)
  rw [List.length_take] at h1 h2
  rw [List.length_append]
  have h3 : (i + 1) * lot.length ≤ xs.length * lot.length := Nat.mul_le_mul_right _ hi
  rw [Nat.add_mul, Nat.one_mul] at h3
  have h4 : min i xs.length = i := by omega
  rw [h4] at h1
  omega
def sp_p_joined (K : PySem.W.Frag) : Sp := fun vs H Q _ => ∃ (c : Addr) (xs lot : List Int) (w m : Nat) (v : V), vs = [.ref c, .int w, .int m, v] ∧ SqL K H c (xs.map V.int) ∧ LotAt K H v lot ∧ 1 ≤ w ∧ w < 2 ^ 130 ∧ 1 ≤ m ∧ m ≤ 1000000 ∧
  (∀ x ∈ xs, 0 ≤ x ∧ x < (w : Int)) ∧ (∀ r ∈ lot, 0 ≤ r ∧ r < (m : Int)) ∧ xs.length * lot.length ≤ 100000 ∧
  ∀ (D : Addr) (H' : Hp) (g t b w' : Int), Same H H' → Meet g t b w w' m → ((Nat.lcm w m : Nat) : Int) = (w : Int) * t → H' D = some (.lst ((joinL g t b w xs lot).map V.int)) → Q (.ref D) H'
section
variable {P : Program} {w : World} {K : PySem.W.Frag} {mg : Str → Option Value} {base : Heap}
theorem ok_p_joined (T : Txt K mg) : FnOk P w K mg base CX0 3 T.f_p_joined T.fd_p_joined ["classes", "whole", "modulus", "lot"] (sp_p_joined K) := by
  refine T.F_p_joined.ok sc_p_joined (fun vs H Q E h => ?_) (fun cdv A outer s H vs Q E hr h => ?_)
  · obtain ⟨c, xs, lot, W, m, v, rfl, _⟩ := h
    rfl
  · obtain ⟨c, xs, lot, W, m, v, rfl, hc, hL, w1, w2, m1, m2, hx, hl, hsz, q⟩ := h
    refine ⟨_, (pss_cons (ps_set (i := 4) sc_p_joined.nd rfl (by first | exact .inl rfl | exact .inr rfl) (pe_callBfun cr_gcd (by rfl) T.g_gcd (pa_cons (pv 1) (pa_cons (pv 2) pa_nil))))
      (pss_cons (ps_set (i := 5) sc_p_joined.nd rfl (by first | exact .inl rfl | exact .inr rfl) (pe_op op_fdivW (pv 2) (pv 4)))
      (pss_cons (ps_set (i := 6) sc_p_joined.nd rfl (by first | exact .inl rfl | exact .inr rfl) (pe_call (ok_p_inverse T) (hr.mono (by decide)) (by rfl) T.g_p_inverse T.F_p_inverse.kp T.b_p_inverse .nil pass0 (pa_cons (pe_op op_fdivW (pv 1) (pv 4)) (pa_cons (pv 5) pa_nil))))
      (pss_cons (ps_set (i := 7) sc_p_joined.nd rfl (by first | exact .inl rfl | exact .inr rfl) (pe_lst pa_nil))
      (pss_cons (ps_for PassesOwn.never rfl (pi_list (pv 0)) (pg_name (i := 8) sc_p_joined.nd rfl (by first | exact .inl rfl | exact .inr rfl)) (pss_one (ps_for PassesOwn.never rfl (pi_tup (pv 3)) (pg_name (i := 9) sc_p_joined.nd rfl (by first | exact .inl rfl | exact .inr rfl)) (pss_cons (ps_set (i := 10) sc_p_joined.nd rfl (by first | exact .inl rfl | exact .inr rfl) (pe_op op_sub (pv 9) (pv 8)))
      (pss_one (ps_if (pt_cmpR op_eq (pe_op op_mod (pv 10) (pv 4)) pe_int (nomark _)) (pss_one (ps_expr (pe_bm PySem.F.plainAttrs_list PySem.F.slot_list_append PySem.F.type_list_append mt_append (pv 7) (pa_cons (pe_op op_add (pv 8) (pe_op op_mulW (pv 1) (pe_op op_mod (pe_op op_mulW (pe_op op_fdivW (pv 10) (pv 4)) (pv 6)) (pv 5)))) pa_nil)))) pss_nil))))))
      (pss_one (ps_ret (pv 7)))))))), ?_⟩
    have hg : 0 < Nat.gcd W m := Nat.gcd_pos_of_pos_left _ w1
    have gm : Nat.gcd W m ≤ m := Nat.gcd_le_right _ m1
    have gw : Nat.gcd W m ≤ W := Nat.gcd_le_left _ w1
    refine ⟨_, rfl, _, rfl, _, _, rfl, ?_⟩
    rw [Int.natAbs_natCast, Int.natAbs_natCast]
    have ew : Nat.gcd W m * (W / Nat.gcd W m) = W := Nat.mul_div_cancel' (Nat.gcd_dvd_left W m)
    have em : Nat.gcd W m * (m / Nat.gcd W m) = m := Nat.mul_div_cancel' (Nat.gcd_dvd_right W m)
    have cop : Nat.gcd (W / Nat.gcd W m) (m / Nat.gcd W m) = 1 := by rw [Nat.gcd_div (Nat.gcd_dvd_left W m) (Nat.gcd_dvd_right W m)]; exact Nat.div_self hg
    have lcmE : Nat.lcm W m = W * (m / Nat.gcd W m) := Nat.mul_div_assoc W (Nat.gcd_dvd_right W m)
    have t1 : 1 ≤ m / Nat.gcd W m := Nat.div_pos gm hg
    have t2 : m / Nat.gcd W m ≤ m := Nat.div_le_self _ _
    have v1 : 1 ≤ W / Nat.gcd W m := Nat.div_pos gw hg
    have v2 : W / Nat.gcd W m ≤ W := Nat.div_le_self _ _
    generalize Nat.gcd W m = g at *
    generalize ht : m / g = t at *
    generalize hw : W / g = w' at *
    have dm : (m : Int) / (g : Int) = (t : Int) := by rw [divNat, ht]
    have dw : (W : Int) / (g : Int) = (w' : Int) := by rw [divNat, hw]
    refine ⟨_, rfl, _, rfl, _, _, rfl, rfl, wide_div (b := 30) (by omega) (by rw [Int.natAbs_natCast]; omega) (by decide) (by decide), ?_⟩
    refine ⟨_, rfl, _, rfl, _, _, rfl, rfl, wide_div (b := 30) (by omega) (by rw [Int.natAbs_natCast]; omega) (by decide) (by decide), _, rfl, w', t, by rw [← dw, ← dm]; rfl, v1, by omega, t1, by omega, cop, fun back H1 s1 b0 b1 hb => ?_⟩
    have M : Meet (g : Int) (t : Int) back (W : Int) (w' : Int) (m : Int) := ⟨by omega, by omega, by omega, by rw [← Int.natCast_mul, ew], by rw [← Int.natCast_mul, em], hb⟩
    refine ⟨Nat.zero_le _, fun F nF => ?_⟩
    have nF0 := freshOf s1 nF
    obtain ⟨a, rfl, ta⟩ := hL.ex
    have s2 : Same H (upd H1 F (.lst [])) := samePut s1 nF0
    refine ⟨_, rfl, c, rfl, ⟨_, s2.seq hc⟩, for_list (K := K) (a := c) (xs := xs.map V.int) (fun i σ Hj => ∃ (x8 x9 x10 : Option V), σ = [some (.ref c), some (.int W), some (.int m), some (.ref a), some (.int g), some (.int ((m : Int) / (g : Int))), some (.int back), some (.ref F), x8, x9, x10] ∧
      Same H Hj ∧ Hj F = some (.lst ((joinL g t back W (xs.take i) lot).map V.int)))
      ⟨none, none, none, rfl, s2, upd_same⟩ (fun i σ Hj _ ⟨_, _, _, _, sj, _⟩ => sj.seq hc) ?_ ?_⟩
    · rintro i y σ Hj hi ⟨x8, x9, x10, rfl, sj, ej⟩
      obtain ⟨k, hk, rfl⟩ := getMapInt' hi
      have kx := hx k (List.mem_of_getElem? hk)
      refine ⟨_, rfl, a, rfl, ⟨_, Same.seqTT sj ta⟩, for_tup (K := K) (a := a) (xs := lot.map V.int) (fun j σ H2 => ∃ (x9 x10 : Option V), σ = [some (.ref c), some (.int W), some (.int m), some (.ref a), some (.int g), some (.int ((m : Int) / (g : Int))), some (.int back), some (.ref F), some (.int k), x9, x10] ∧
        Same H H2 ∧ H2 F = some (.lst ((joinL g t back W (xs.take i) lot ++ rowL g t back W k (lot.take j)).map V.int)))
        ⟨x9, x10, rfl, sj, by rw [ej]; show _ = some (HO.lst ((_ ++ []).map V.int)); rw [List.append_nil]⟩ (fun j σ H2 _ ⟨_, _, _, s3, _⟩ => Same.seqTT s3 ta) ?_ ?_⟩
      · rintro j z σ H2 hj ⟨y9, y10, rfl, s3, e3⟩
        obtain ⟨r, hr0, rfl⟩ := getMapInt' hj
        have rx := hl r (List.mem_of_getElem? hr0)
        refine ⟨_, rfl, _, rfl, _, _, rfl, rfl, ?_⟩
        refine ⟨_, rfl, _, rfl, _, _, rfl, rfl, by show (0 : Int) < (g : Int); omega, rfl, _, rfl, ite2 (fun e => ?_) (fun e => ?_)⟩
        · have e0 : (r - k) % (g : Int) = 0 := V.int.inj (of_decide_eq_true e)
          have nd : ((r - k) / (g : Int)).natAbs ≤ (r - k).natAbs := Int.natAbs_ediv_le_natAbs _ _
          refine ⟨_, rfl, .inl ⟨rfl, _, lstOf e3⟩, _, rfl, _, rfl, _, rfl, _, rfl, _, _, rfl, rfl, wide_div (b := 30) (by omega) (by rw [Int.natAbs_natCast]; omega) (by decide) (by decide), _, rfl, _, _, rfl, rfl,
            wide_mul (a := 150) (b := 30) (by omega) (by omega) (by decide) (by decide) (by decide), _, rfl, _, _, rfl, rfl, by show (0 : Int) < (m : Int) / (g : Int); rw [dm]; omega, _, _, rfl, rfl, ?_, _, _, rfl, rfl, ?_⟩
          · have u0 := Int.emod_nonneg ((r - k) / (g : Int) * back) (show ((m : Int) / (g : Int)) ≠ 0 by rw [dm]; omega)
            have u1 := Int.emod_lt_of_pos ((r - k) / (g : Int) * back) (show 0 < ((m : Int) / (g : Int)) by rw [dm]; omega)
            rw [dm] at u0 u1 ⊢
            exact wide_mul (a := 150) (b := 30) (by rw [Int.natAbs_natCast]; omega) (by omega) (by decide) (by decide) (by decide)
          · have hlen : (joinL g t back W (xs.take i) lot ++ rowL g t back W k (lot.take j)).length ≤ 100000 := Nat.le_trans (joinL_len2 (List.getElem?_eq_some_iff.mp hk).1) hsz
            refine ⟨F, _, _, rfl, rfl, e3, by rw [List.length_map]; exact sizeLt (by omega), ?_⟩
            refine ⟨_, _, rfl, samePut s3 nF0, ?_⟩
            rw [upd_same, takeSucc hr0, rowL_add, if_pos e0, ← List.append_assoc]
            generalize joinL g t back W (xs.take i) lot ++ rowL g t back W k (lot.take j) = L
            rw [List.map_append, dm]
            rfl
        · have e0 : ¬ (r - k) % (g : Int) = 0 := fun z => e (decide_eq_true (congrArg V.int z))
          refine ⟨_, _, rfl, s3, ?_⟩
          rw [e3, takeSucc hr0, rowL_add, if_neg e0, List.append_nil]
      · rintro σ H2 ⟨y9, y10, rfl, s3, e3⟩
        refine ⟨_, _, _, rfl, s3, ?_⟩
        rw [e3, List.length_map, List.take_length, takeSucc hk, joinL_add]
    · rintro σ H2 ⟨y8, y9, y10, rfl, s3, e3⟩
      rw [List.length_map, List.take_length] at e3
      exact ⟨_, rfl, q F H2 g t back w' s3 M (by rw [lcmE, Int.natCast_mul]) e3⟩
end

end R
namespace R
open PySem PySem.Spec PyProof.Rows L2
/-! ## what any value is: integers, lots, bars -/
def kOdd (K : PySem.W.Frag) (H : Hp) (x : V) : Prop := (∃ b, x = .bl b) ∨ ∃ t, TyX K H x (.type t) ∧ kitB t "int" = some false
theorem kOdd.ni {K : PySem.W.Frag} {H : Hp} {x : V} (h : kOdd K H x) (i : Int) : x ≠ .int i := by
  rintro rfl
  rcases h with ⟨b, e⟩ | ⟨t, h1, h2⟩
  · cases e
  · cases h1 with
    | base h =>
      cases h
      exact absurd h2 (by decide +kernel)
/-- an integer or something else whose kind is known -/
def Itm (K : PySem.W.Frag) (H : Hp) (x : V) : Prop := (∃ i, x = .int i) ∨ kOdd K H x
def NotTup (K : PySem.W.Frag) (H : Hp) (x : V) : Prop := ∃ t, TyX K H x (.type t) ∧ kitB t "tuple" = some false
def ascV (m : Int) : Int → List V → Bool
  | _, [] => true
  | lo, .int i :: r => (decide (lo ≤ i) && decide (i ≤ m - 1)) && ascV m (i + 1) r
  | _, _ :: _ => false
theorem ascV_ni {m lo : Int} {x : V} {r : List V} (h : ∀ i, x ≠ .int i) : ascV m lo (x :: r) = false := by
  cases x with
  | int i => exact absurd rfl (h i)
  | _ => rfl
theorem ascV_int {m lo i : Int} {r : List V} : ascV m lo (.int i :: r) = ((decide (lo ≤ i) && decide (i ≤ m - 1)) && ascV m (i + 1) r) := rfl
theorem ascV_iff {m : Int} : ∀ {l : List Int} {lo : Int}, ascV m lo (l.map V.int) = true ↔ l.Pairwise (· < ·) ∧ (∀ r ∈ l, lo ≤ r) ∧ ∀ r ∈ l, r < m
  | [], lo => ⟨fun _ => ⟨.nil, fun r h => by simp at h, fun r h => by simp at h⟩, fun _ => rfl⟩
  | x :: l, lo => by
    show ((decide (lo ≤ x) && decide (x ≤ m - 1)) && ascV m (x + 1) (l.map V.int)) = true ↔ _
    rw [Bool.and_eq_true, Bool.and_eq_true, decide_eq_true_iff, decide_eq_true_iff, ascV_iff (l := l) (lo := x + 1)]
    constructor
    · rintro ⟨⟨h1, h2⟩, h3, h4, h5⟩
      refine ⟨List.pairwise_cons.mpr ⟨fun z hz => by have := h4 z hz; omega, h3⟩, fun r hr => ?_, fun r hr => ?_⟩
      · rcases List.mem_cons.mp hr with rfl | hr
        · exact h1
        · have := h4 r hr
          omega
      · rcases List.mem_cons.mp hr with rfl | hr
        · omega
        · exact h5 r hr
    · rintro ⟨h1, h2, h3⟩
      obtain ⟨h4, h5⟩ := List.pairwise_cons.mp h1
      have := h3 x List.mem_cons_self
      exact ⟨⟨h2 x List.mem_cons_self, by omega⟩, h5, fun r hr => by have := h4 r hr; omega, fun r hr => h3 r (List.mem_cons_of_mem _ hr)⟩
theorem LotOk.asc {m : Int} {l : List Int} (h : LotOk m l) : ascV m 0 (l.map V.int) = true := ascV_iff.mpr ⟨h.up, h.ge, h.lt⟩
def barV : V → List V → Bool
  | .int m, zs => (decide (1 ≤ m) && decide (m ≤ 1000000)) && (ascV m 0 zs && decide (zs.length ≤ 60))
  | _, _ => false
theorem barV_ni {x : V} {r : List V} (h : ∀ i, x ≠ .int i) : barV x r = false := by
  cases x with
  | int i => exact absurd rfl (h i)
  | _ => rfl
theorem itmInts {K : PySem.W.Frag} {H : Hp} (l : List Int) : ∀ y ∈ l.map V.int, Itm K H y := fun y h => by
  obtain ⟨i, _, rfl⟩ := List.mem_map.mp h
  exact .inl ⟨i, rfl⟩
def sp_p_is_integer (K : PySem.W.Frag) : Sp := fun vs H Q _ => ∃ x : V, vs = [x] ∧ ((∃ i, x = .int i ∧ Q (.bl true) H) ∨ (kOdd K H x ∧ Q (.bl false) H))
def sp_p_integer_within (K : PySem.W.Frag) : Sp := fun vs H Q _ => ∃ (x : V) (lo hi : Int), vs = [x, .int lo, .int hi] ∧ ((∃ i, x = .int i ∧ Q (.bl (decide (lo ≤ i) && decide (i ≤ hi))) H) ∨ (kOdd K H x ∧ Q (.bl false) H))
def sp_p_is_ascending (K : PySem.W.Frag) : Sp := fun vs H Q _ => ∃ (x : V) (m : Int), vs = [x, .int m] ∧ ((NotTup K H x ∧ Q (.bl false) H) ∨ ∃ a xs, x = .ref a ∧ SqT K H a xs ∧ (∀ y ∈ xs, Itm K H y) ∧ Q (.bl (ascV m 0 xs)) H)
def sp_p_is_lot (K : PySem.W.Frag) : Sp := fun vs H Q _ => ∃ (x : V) (m : Int), vs = [x, .int m] ∧ ((NotTup K H x ∧ Q (.bl false) H) ∨ ∃ a xs, x = .ref a ∧ SqT K H a xs ∧ (∀ y ∈ xs, Itm K H y) ∧ Q (.bl (ascV m 0 xs && decide (xs.length ≤ 60))) H)
def sp_p_is_pair (K : PySem.W.Frag) : Sp := fun vs H Q _ => ∃ x : V, vs = [x] ∧ ((NotTup K H x ∧ Q (.bl false) H) ∨ ∃ a xs, x = .ref a ∧ SqT K H a xs ∧ Q (.bl (decide (xs.length = 2))) H)
def sp_p_is_bar (K : PySem.W.Frag) : Sp := fun vs H Q _ => ∃ x : V, vs = [x] ∧ ((NotTup K H x ∧ Q (.bl false) H) ∨ ∃ a xs, x = .ref a ∧ SqT K H a xs ∧ ((xs.length ≠ 2 ∧ Q (.bl false) H) ∨
  ∃ y z, xs = [y, z] ∧ Itm K H y ∧ ((NotTup K H z ∧ Q (.bl false) H) ∨ ∃ c zs, z = .ref c ∧ SqT K H c zs ∧ (∀ u ∈ zs, Itm K H u) ∧ Q (.bl (barV y zs)) H)))
section
variable {P : Program} {w : World} {K : PySem.W.Frag} {mg : Str → Option Value} {base : Heap}
theorem ok_p_is_integer (T : Txt K mg) : FnOk P w K mg base CX0 2 T.f_p_is_integer T.fd_p_is_integer ["value"] (sp_p_is_integer K) := by
  refine T.F_p_is_integer.ok sc_p_is_integer (fun vs H Q E h => ?_) (fun cdv A outer s H vs Q E hr h => ?_)
  · obtain ⟨x, rfl, _⟩ := h
    rfl
  · obtain ⟨x, rfl, h⟩ := h
    refine ⟨_, (pss_one (ps_ret (pe_and (pe_callB call_isi (by rfl) T.z_isinstance (by decide +kernel) (pa_cons (pv 0) (pa_cons (pe_bltn (v := .ty "int") (by rfl) T.z_int (by decide +kernel) rfl) pa_nil))) (pe_one (pe_not (pe_callB call_isi (by rfl) T.z_isinstance (by decide +kernel) (pa_cons (pv 0) (pa_cons (pe_bltn (v := .ty "bool") (by rfl) T.z_bool (by decide +kernel) rfl) pa_nil)))))))), ?_⟩
    rcases h with ⟨x, rfl, q⟩ | ⟨⟨b, rfl⟩ | ⟨t, ht, hk⟩, q⟩
    · refine ⟨_, rfl, _, _, _, _, _, rfl, .ty "int", .base (.int x), kit_ty (r := true) (by decide +kernel), true, rfl, iteT ?_⟩
      exact ⟨_, rfl, _, _, _, _, _, rfl, .ty "bool", .base (.int x), kit_ty (r := false) (by decide +kernel), false, rfl, q⟩
    · refine ⟨_, rfl, _, _, _, _, _, rfl, .ty "int", .base (.bl b), kit_ty (r := true) (by decide +kernel), true, rfl, iteT ?_⟩
      exact ⟨_, rfl, _, _, _, _, _, rfl, .ty "bool", .base (.bl b), kit_ty (r := true) (by decide +kernel), true, rfl, q⟩
    · exact ⟨_, rfl, _, _, _, _, _, rfl, .ty "int", ht, kit_ty (r := false) hk, false, rfl, iteF q⟩
theorem ok_p_integer_within (T : Txt K mg) : FnOk P w K mg base CX0 3 T.f_p_integer_within T.fd_p_integer_within ["value", "least", "greatest"] (sp_p_integer_within K) := by
  refine T.F_p_integer_within.ok sc_p_integer_within (fun vs H Q E h => ?_) (fun cdv A outer s H vs Q E hr h => ?_)
  · obtain ⟨x, lo, hi, rfl, _⟩ := h
    rfl
  · obtain ⟨x, lo, hi, rfl, h⟩ := h
    refine ⟨_, (pss_one (ps_ret (pe_and (pe_call (ok_p_is_integer T) (hr.mono (by decide)) (by rfl) T.g_p_is_integer T.F_p_is_integer.kp T.b_p_is_integer .nil pass0 (pa_cons (pv 0) pa_nil)) (pe_one (pe_chain op_le op_le (pv 1) (pv 0) (pv 2)))))), ?_⟩
    rcases h with ⟨x, rfl, q⟩ | ⟨o, q⟩
    · refine ⟨_, rfl, _, rfl, .inl ⟨x, rfl, true, rfl, iteT ⟨_, rfl, _, rfl, _, _, rfl, rfl, _, rfl, ?_⟩⟩⟩
      by_cases h : lo ≤ x
      · rw [decide_eq_true h] at q ⊢
        exact iteT ⟨_, rfl, _, _, rfl, rfl, q⟩
      · rw [decide_eq_false h] at q ⊢
        exact iteF q
    · exact ⟨_, rfl, _, rfl, .inr ⟨o, false, rfl, iteF q⟩⟩
theorem ok_p_is_pair (T : Txt K mg) : FnOk P w K mg base CX0 2 T.f_p_is_pair T.fd_p_is_pair ["value"] (sp_p_is_pair K) := by
  refine T.F_p_is_pair.ok sc_p_is_pair (fun vs H Q E h => ?_) (fun cdv A outer s H vs Q E hr h => ?_)
  · obtain ⟨v, rfl, _⟩ := h
    rfl
  · obtain ⟨v, rfl, h⟩ := h
    refine ⟨_, (pss_one (ps_ret (pe_and (pe_callB call_isi (by rfl) T.z_isinstance (by decide +kernel) (pa_cons (pv 0) (pa_cons (pe_bltn (v := .ty "tuple") (by rfl) T.z_tuple (by decide +kernel) rfl) pa_nil))) (pe_one (pe_cmpR op_eq (pe_callB call_len_seq (by rfl) T.z_len (by decide +kernel) (pa_cons (pv 0) pa_nil)) pe_int (nomark _)))))), ?_⟩
    rcases h with ⟨⟨t, ht, hk⟩, q⟩ | ⟨a, xs, rfl, ta, q⟩
    · exact ⟨_, rfl, _, _, _, _, _, rfl, .ty "tuple", ht, kit_ty (r := false) hk, false, rfl, iteF q⟩
    · refine ⟨_, rfl, _, _, _, _, _, rfl, .ty "tuple", tyTup ta, kit_ty (r := true) (by decide +kernel), true, rfl, iteT ?_⟩
      refine ⟨_, rfl, a, _, rfl, .inr ta, rfl, ?_⟩
      have e2 : decide (V.int (xs.length : Int) = V.int 2) = decide (xs.length = 2) := by
        rw [Bool.eq_iff_iff, decide_eq_true_iff, decide_eq_true_iff]
        exact ⟨fun h => by have := V.int.inj h; omega, fun h => by rw [h]; rfl⟩
      show Q (.bl (decide (V.int (xs.length : Int) = V.int 2))) H
      rw [e2]
      exact q
end

end R
namespace R
open PySem PySem.Spec PyProof.Rows L2
section
variable {P : Program} {w : World} {K : PySem.W.Frag} {mg : Str → Option Value} {base : Heap}
theorem ok_p_is_ascending (T : Txt K mg) : FnOk P w K mg base CX0 4 T.f_p_is_ascending T.fd_p_is_ascending ["value", "limit"] (sp_p_is_ascending K) := by
  refine T.F_p_is_ascending.ok sc_p_is_ascending (fun vs H Q E h => ?_) (fun cdv A outer s H vs Q E hr h => ?_)
  · obtain ⟨v, m, rfl, _⟩ := h
    rfl
  · obtain ⟨v, m, rfl, h⟩ := h
    refine ⟨_, (pss_cons (ps_if (pt_not (pt_val (pe_callB call_isi (by rfl) T.z_isinstance (by decide +kernel) (pa_cons (pv 0) (pa_cons (pe_bltn (v := .ty "tuple") (by rfl) T.z_tuple (by decide +kernel) rfl) pa_nil))))) (pss_one (ps_ret pe_bl)) pss_nil)
      (pss_cons (ps_set (i := 2) sc_p_is_ascending.nd rfl (by first | exact .inl rfl | exact .inr rfl) pe_int)
      (pss_cons (ps_for PassesOwn.never rfl (pi_tup (pv 0)) (pg_name (i := 3) sc_p_is_ascending.nd rfl (by first | exact .inl rfl | exact .inr rfl)) (pss_cons (ps_if (pt_not (pt_val (pe_call (ok_p_integer_within T) (hr.mono (by decide)) (by rfl) T.g_p_integer_within T.F_p_integer_within.kp T.b_p_integer_within .nil pass0 (pa_cons (pv 3) (pa_cons (pv 2) (pa_cons (pe_op op_sub (pv 1) pe_int) pa_nil)))))) (pss_one (ps_ret pe_bl)) pss_nil)
      (pss_one (ps_set (i := 2) sc_p_is_ascending.nd rfl (by first | exact .inl rfl | exact .inr rfl) (pe_op op_add (pv 3) pe_int)))))
      (pss_one (ps_ret pe_bl))))), ?_⟩
    rcases h with ⟨⟨t, ht, hk⟩, q⟩ | ⟨a, xs, rfl, ta, it, q⟩
    · exact ⟨_, rfl, _, _, _, _, _, rfl, .ty "tuple", ht, kit_ty (r := false) hk, false, rfl, iteT q⟩
    · refine ⟨_, rfl, _, _, _, _, _, rfl, .ty "tuple", tyTup ta, kit_ty (r := true) (by decide +kernel), true, rfl, iteF ?_⟩
      refine ⟨_, rfl, a, rfl, ⟨_, ta⟩, for_tup (K := K) (a := a) (xs := xs) (fun i σ H2 => ∃ (n : Int) (x : Option V), σ = [some (.ref a), some (.int m), some (.int n), x] ∧ ascV m 0 xs = ascV m n (xs.drop i) ∧ H2 = H)
        ⟨0, none, rfl, rfl, rfl⟩ (fun i σ H2 _ ⟨_, _, _, _, e⟩ => by rw [e]; exact ta) ?_ ?_⟩
      · rintro i y σ H2 hi ⟨n, x, rfl, hn, rfl⟩
        have hd : xs.drop i = y :: xs.drop (i + 1) := by
          obtain ⟨h1, h2⟩ := List.getElem?_eq_some_iff.mp hi
          rw [List.drop_eq_getElem_cons h1, h2]
        rw [hd] at hn
        refine ⟨_, rfl, _, rfl, _, rfl, _, _, rfl, rfl, _, _, _, rfl, ?_⟩
        rcases it y (List.mem_of_getElem? hi) with ⟨r, rfl⟩ | o
        · refine .inl ⟨r, rfl, _, rfl, ?_⟩
          rw [ascV_int] at hn
          by_cases h : (decide (n ≤ r) && decide (r ≤ m - 1)) = true
          · rw [h] at hn ⊢
            exact iteF ⟨_, rfl, _, _, rfl, rfl, _, _, rfl, hn, rfl⟩
          · rw [Bool.not_eq_true] at h
            rw [h] at hn ⊢
            rw [Bool.false_and] at hn
            rw [hn] at q
            exact iteT q
        · refine .inr ⟨o, _, rfl, iteT ?_⟩
          rw [hn, ascV_ni o.ni] at q
          exact q
      · rintro σ H2 ⟨n, x, rfl, hn, rfl⟩
        rw [List.drop_length] at hn
        rw [hn] at q
        exact q
theorem ok_p_is_lot (T : Txt K mg) : FnOk P w K mg base CX0 5 T.f_p_is_lot T.fd_p_is_lot ["value", "modulus"] (sp_p_is_lot K) := by
  refine T.F_p_is_lot.ok sc_p_is_lot (fun vs H Q E h => ?_) (fun cdv A outer s H vs Q E hr h => ?_)
  · obtain ⟨v, m, rfl, _⟩ := h
    rfl
  · obtain ⟨v, m, rfl, h⟩ := h
    refine ⟨_, (pss_one (ps_ret (pe_and (pe_call (ok_p_is_ascending T) (hr.mono (by decide)) (by rfl) T.g_p_is_ascending T.F_p_is_ascending.kp T.b_p_is_ascending .nil pass0 (pa_cons (pv 0) (pa_cons (pv 1) pa_nil))) (pe_one (pe_cmpR op_le (pe_callB call_len_seq (by rfl) T.z_len (by decide +kernel) (pa_cons (pv 0) pa_nil)) (pe_glob (v := .int 60) (by rfl) T.c_MOST_RESTS.choose_spec ⟨_, rfl⟩) (nomark _)))))), ?_⟩
    rcases h with ⟨o, q⟩ | ⟨a, xs, rfl, ta, it, q⟩
    · exact ⟨_, rfl, _, rfl, v, m, rfl, .inl ⟨o, false, rfl, iteF q⟩⟩
    · refine ⟨_, rfl, _, rfl, _, m, rfl, .inr ⟨a, xs, rfl, ta, it, _, rfl, ?_⟩⟩
      cases e : ascV m 0 xs with
      | false =>
        rw [e] at q
        exact iteF q
      | true =>
        refine iteT ⟨_, rfl, a, _, rfl, .inr ta, _, _, rfl, rfl, ?_⟩
        rw [e, Bool.true_and] at q
        have e2 : decide ((xs.length : Int) ≤ 60) = decide (xs.length ≤ 60) := by
          rw [Bool.eq_iff_iff, decide_eq_true_iff, decide_eq_true_iff]
          omega
        show Q (.bl (decide ((xs.length : Int) ≤ 60))) H
        rw [e2]
        exact q
theorem ok_p_is_bar (T : Txt K mg) : FnOk P w K mg base CX0 6 T.f_p_is_bar T.fd_p_is_bar ["value"] (sp_p_is_bar K) := by
  refine T.F_p_is_bar.ok sc_p_is_bar (fun vs H Q E h => ?_) (fun cdv A outer s H vs Q E hr h => ?_)
  · obtain ⟨v, rfl, _⟩ := h
    rfl
  · obtain ⟨v, rfl, h⟩ := h
    refine ⟨_, (pss_cons (ps_if (pt_not (pt_val (pe_call (ok_p_is_pair T) (hr.mono (by decide)) (by rfl) T.g_p_is_pair T.F_p_is_pair.kp T.b_p_is_pair .nil pass0 (pa_cons (pv 0) pa_nil)))) (pss_one (ps_ret pe_bl)) pss_nil)
      (pss_cons (ps_asg (pv 0) (pg_tup (by rfl) (pgs_cons (pg_name (i := 1) sc_p_is_bar.nd rfl (by first | exact .inl rfl | exact .inr rfl)) (pgs_cons (pg_name (i := 2) sc_p_is_bar.nd rfl (by first | exact .inl rfl | exact .inr rfl)) pgs_nil))))
      (pss_one (ps_ret (pe_and (pe_call (ok_p_integer_within T) (hr.mono (by decide)) (by rfl) T.g_p_integer_within T.F_p_integer_within.kp T.b_p_integer_within .nil pass0 (pa_cons (pv 1) (pa_cons pe_int (pa_cons (pe_glob (v := .int 1000000) (by rfl) T.c_GREATEST_MODULUS.choose_spec ⟨_, rfl⟩) pa_nil)))) (pe_one (pe_call (ok_p_is_lot T) (hr.mono (by decide)) (by rfl) T.g_p_is_lot T.F_p_is_lot.kp T.b_p_is_lot .nil pass0 (pa_cons (pv 2) (pa_cons (pv 1) pa_nil))))))))), ?_⟩
    rcases h with ⟨o, q⟩ | ⟨a, xs, rfl, ta, h⟩
    · exact ⟨_, rfl, v, rfl, .inl ⟨o, _, rfl, iteT q⟩⟩
    · refine ⟨_, rfl, _, rfl, .inr ⟨a, xs, rfl, ta, ?_⟩⟩
      rcases h with ⟨h, q⟩ | ⟨y, z, rfl, iy, h⟩
      · rw [decide_eq_false h]
        exact ⟨_, rfl, iteT q⟩
      · refine ⟨_, rfl, iteF ⟨_, rfl, a, _, rfl, ta, rfl, _, _, rfl, _, _, rfl, rfl, ?_⟩⟩
        refine ⟨_, rfl, _, _, _, rfl, ?_⟩
        rcases iy with ⟨m, rfl⟩ | o
        · refine .inl ⟨m, rfl, _, rfl, ?_⟩
          cases e : (decide (1 ≤ m) && decide (m ≤ 1000000)) with
          | false =>
            refine iteF ?_
            rcases h with ⟨_, q⟩ | ⟨c, zs, rfl, tc, iz, q⟩
            · exact q
            · have e3 : barV (.int m) zs = false := by
                show ((decide (1 ≤ m) && decide (m ≤ 1000000)) && _) = false
                rw [e]
                rfl
              rw [e3] at q
              exact q
          | true =>
            refine iteT ⟨_, rfl, _, rfl, z, m, rfl, ?_⟩
            rcases h with ⟨o, q⟩ | ⟨c, zs, rfl, tc, iz, q⟩
            · exact .inl ⟨o, q⟩
            · refine .inr ⟨c, zs, rfl, tc, iz, ?_⟩
              have e3 : barV (.int m) zs = (ascV m 0 zs && decide (zs.length ≤ 60)) := by
                show ((decide (1 ≤ m) && decide (m ≤ 1000000)) && _) = _
                rw [e]
                rfl
              rw [e3] at q
              exact q
        · refine .inr ⟨o, _, rfl, iteF ?_⟩
          rcases h with ⟨_, q⟩ | ⟨c, zs, rfl, tc, iz, q⟩
          · exact q
          · rw [barV_ni o.ni] at q
            exact q
end
theorem BarOk.bar {b : Bar} (h : BarOk b) : barV (.int b.1) (b.2.map V.int) = true := by
  have h1 := h.pos
  have h2 := h.most
  have h3 := h.lot.few
  show ((decide (1 ≤ b.1) && decide (b.1 ≤ 1000000)) && (ascV b.1 0 (b.2.map V.int) && decide ((b.2.map V.int).length ≤ 60))) = true
  rw [decide_eq_true h1, decide_eq_true h2, h.lot.asc, List.length_map, decide_eq_true h3]
  rfl

end R
namespace R
open PySem PySem.Spec PyProof.Rows L2
theorem small5000 {n : Nat} (h : n ≤ 1000000) : n < 2 ^ 5000 := Nat.lt_of_le_of_lt h (by decide)
theorem choices_take_le : ∀ (bs : List Bar) (i : Nat), choices (bs.take i) ≤ choices bs := by
  refine snocInd (fun i => by rw [List.take_nil]; exact Nat.le_refl _) fun bs b ih i => ?_
  rw [choices_add]
  by_cases hi : i ≤ bs.length
  · rw [List.take_append_of_le_length hi]
    have h1 := ih i
    have h2 : choices bs * 1 ≤ choices bs * max 1 b.2.length := Nat.mul_le_mul_left _ (by omega)
    omega
  · rw [List.take_of_length_le (by rw [List.length_append]; show bs.length + 1 ≤ i; omega), choices_add]
    exact Nat.le_refl _
/-- bars that are in order, whatever their whole -/
structure PreOk (bs : List Bar) : Prop where
  six : bs.length ≤ 6
  bar : ∀ b ∈ bs, BarOk b
theorem SvOk.pre {bs : List Bar} (h : SvOk bs) : PreOk bs := ⟨h.six, h.bar⟩
theorem PreOk.mods {bs : List Bar} (h : PreOk bs) : ModsOk bs := ⟨h.six, fun b hb => ⟨(h.bar b hb).pos, (h.bar b hb).most⟩⟩
theorem SvOk.mods {bs : List Bar} (h : SvOk bs) : ModsOk bs := ⟨h.six, fun b hb => ⟨(h.bar b hb).pos, (h.bar b hb).most⟩⟩
theorem Drawn.sv {most top : Nat} {bs : List Bar} (h : Drawn most top bs) (h6 : most ≤ 6) (ht : top ≤ 1000000) (hw : wh bs ≤ 10 ^ 30) : SvOk bs :=
  ⟨Nat.le_trans h.len h6, fun b hb => let ⟨a, c, d⟩ := h.bar b hb; ⟨a, by omega, d⟩, hw, h.many⟩
def sp_p_classes_of (K : PySem.W.Frag) : Sp := fun vs H Q _ => ∃ (v : V) (bs : List Bar), vs = [v] ∧ BarsAt K H v bs ∧ SvOk bs ∧ ∀ t H', Same H H' → H' t = some (.tup ((cls bs).map V.int)) → Q (.ref t) H'
section
variable {P : Program} {w : World} {K : PySem.W.Frag} {mg : Str → Option Value} {base : Heap}
theorem ok_p_classes_of (T : Txt K mg) : FnOk P w K mg base CX0 4 T.f_p_classes_of T.fd_p_classes_of ["bars"] (sp_p_classes_of K) := by
  refine T.F_p_classes_of.ok sc_p_classes_of (fun vs H Q E h => ?_) (fun cdv A outer s H vs Q E hr h => ?_)
  · obtain ⟨v, bs, rfl, _⟩ := h
    rfl
  · obtain ⟨v, bs, rfl, B, S, q⟩ := h
    refine ⟨_, (pss_cons (ps_set (i := 1) sc_p_classes_of.nd rfl (by first | exact .inl rfl | exact .inr rfl) pe_int)
      (pss_cons (ps_set (i := 2) sc_p_classes_of.nd rfl (by first | exact .inl rfl | exact .inr rfl) (pe_lst (pa_cons pe_int pa_nil)))
      (pss_cons (ps_for PassesOwn.never rfl (pi_tup (pv 0)) (pg_tup (by rfl) (pgs_cons (pg_name (i := 3) sc_p_classes_of.nd rfl (by first | exact .inl rfl | exact .inr rfl)) (pgs_cons (pg_name (i := 4) sc_p_classes_of.nd rfl (by first | exact .inl rfl | exact .inr rfl)) pgs_nil))) (pss_cons (ps_set (i := 2) sc_p_classes_of.nd rfl (by first | exact .inl rfl | exact .inr rfl) (pe_call (ok_p_joined T) (hr.mono (by decide)) (by rfl) T.g_p_joined T.F_p_joined.kp T.b_p_joined .nil pass0 (pa_cons (pv 2) (pa_cons (pv 1) (pa_cons (pv 3) (pa_cons (pv 4) pa_nil))))))
      (pss_one (ps_set (i := 1) sc_p_classes_of.nd rfl (by first | exact .inl rfl | exact .inr rfl) (pe_callBfun cr_lcmW (by rfl) T.g_lcm (pa_cons (pv 1) (pa_cons (pv 3) pa_nil)))))))
      (pss_one (ps_ret (pe_callTy call_tuple_of (by rfl) T.z_tuple (by decide +kernel) (pa_cons (pe_callB cr_sortedI (by rfl) T.z_sorted (by decide +kernel) (pa_cons (pv 2) pa_nil)) pa_nil))))))), ?_⟩
    obtain ⟨a, xs, rfl, ta, nx, hx⟩ := B.ex
    have M := S.mods
    refine ⟨sizeOk (by show (1 : Nat) ≤ 100000; decide), fun c0 n0 => ?_⟩
    have s0 : Same H (upd H c0 (.lst [.int 0])) := same_upd n0
    refine ⟨_, rfl, a, rfl, ⟨_, Same.seqTT s0 ta⟩, for_tup (K := K) (a := a) (xs := xs) (fun i σ H2 => ∃ (c : Addr) (ys : List Int) (x y : Option V), σ = [some (.ref a), some (.int (wh (bs.take i) : Nat)), some (.ref c), x, y] ∧
        H2 c = some (.lst (ys.map V.int)) ∧ ClsIs (bs.take i) ys ∧ ys.length ≤ choices (bs.take i) ∧ Same H H2)
      ⟨c0, [0], none, none, rfl, upd_same, ClsIs.nil, Nat.le_refl _, s0⟩ (fun i σ H2 _ ⟨_, _, _, _, _, _, _, _, s2⟩ => Same.seqTT s2 ta) ?_ ?_⟩
    · rintro i x σ H2 hi ⟨c, ys, y1, y2, rfl, ec, C, hlen, s2⟩
      have hl : i < bs.length := by
        have := (List.getElem?_eq_some_iff.mp hi).1
        omega
      have hb : bs[i]? = some bs[i] := List.getElem?_eq_getElem hl
      obtain ⟨p, l, rfl, tp, L⟩ := (hx i x _ hi hb).ex
      have hB := S.bar _ (List.getElem_mem hl)
      have hch := Nat.le_trans (choices_take_le bs i) S.many
      generalize bs[i] = b at hb tp hB L
      have hw := (M.take i).lt
      have hp := (M.take i).pos
      have h1 := hB.pos
      have h2 := hB.most
      have hf := hB.lot.few
      have hmn : b.1 = ((b.1.toNat : Nat) : Int) := by omega
      have hmul : ys.length * b.2.length ≤ choices (bs.take (i + 1)) := by
        rw [takeSucc hb, choices_add]
        exact Nat.mul_le_mul hlen (by omega)
      have hch2 := Nat.le_trans (choices_take_le bs (i + 1)) S.many
      refine ⟨p, [_, _], rfl, Same.seqTT s2 tp, rfl, _, _, rfl, _, _, rfl, rfl, ?_⟩
      refine ⟨_, rfl, _, rfl, _, rfl, _, rfl, c, ys, b.2, wh (bs.take i), b.1.toNat, l, by rw [← hmn]; rfl, lstOf ec, L.stay (.same s2), hp, hw, by omega, by omega, fun z hz => let ⟨q1, q2, _⟩ := (C.mem z).mp hz; ⟨q1, q2⟩,
        fun r hr => ⟨hB.lot.ge r hr, by have := hB.lot.lt r hr; omega⟩, ?_, fun D H3 g t bk w' s3 Mt hlcm eD => ?_⟩
      · omega
      · rw [← hmn] at Mt
        refine ⟨_, rfl, _, rfl, wh (bs.take i), b.1.toNat, by rw [← hmn], Nat.lt_trans hw (by decide), small5000 (by omega), ?_⟩
        have ew : wh (bs.take (i + 1)) = Nat.lcm (wh (bs.take i)) b.1.toNat := by
          rw [takeSucc hb, wh_add, show b.1.natAbs = b.1.toNat by omega]
        refine ⟨D, joinL g t bk (wh (bs.take i) : Nat) ys b.2, some (.int b.1), some l, ?_, eD, ?_, ?_, s2.trans s3⟩
        · rw [ew]
          rfl
        · rw [takeSucc hb]
          refine C.add Mt hB.lot ?_
          rw [← takeSucc hb, ew]
          exact hlcm
        · rw [takeSucc hb, choices_add]
          have j1 := joinL_len g t bk (wh (bs.take i) : Nat) ys b.2
          have j2 : ys.length * b.2.length ≤ choices (bs.take i) * max 1 b.2.length := Nat.mul_le_mul hlen (by omega)
          omega
    · rintro σ H2 ⟨c, ys, y1, y2, rfl, ec, C, hlen, s2⟩
      rw [nx, List.take_length] at C
      refine ⟨_, rfl, c, ys, rfl, lstOf ec, fun zs p pz sz np => ?_⟩
      have e := C.sorted pz sz
      subst e
      refine ⟨p, _, rfl, .inl ⟨lstOf upd_same, fun t nt => ?_⟩⟩
      exact q t _ ((s2.trans (same_upd np)).trans (same_upd nt)) upd_same
end

end R
namespace R
open PySem PySem.Spec PyProof.Rows L2
def sp_p_check_bars (K : PySem.W.Frag) : Sp := fun vs H Q _ => ∃ (v : V) (bs : List Bar), vs = [v] ∧ BarsAt K H v bs ∧ PreOk bs ∧ ∀ H', Same H H' → Q .non H'
section
variable {P : Program} {w : World} {K : PySem.W.Frag} {mg : Str → Option Value} {base : Heap}
theorem ok_p_check_bars (T : Txt K mg) : FnOk P w K mg base CX0 7 T.f_p_check_bars T.fd_p_check_bars ["bars"] (sp_p_check_bars K) := by
  refine T.F_p_check_bars.ok sc_p_check_bars (fun vs H Q E h => ?_) (fun cdv A outer s H vs Q E hr h => ?_)
  · obtain ⟨v, bs, rfl, _⟩ := h
    rfl
  · obtain ⟨v, bs, rfl, B, S, q⟩ := h
    refine ⟨_, (pss_cons (ps_if (PW.pt (pw_or (pt_not (pt_val (pe_callB call_isi (by rfl) T.z_isinstance (by decide +kernel) (pa_cons (pv 0) (pa_cons (pe_bltn (v := .ty "tuple") (by rfl) T.z_tuple (by decide +kernel) rfl) pa_nil))))) (pw_or1 (pt_cmpR op_gt (pe_callB call_len_seq (by rfl) T.z_len (by decide +kernel) (pa_cons (pv 0) pa_nil)) (pe_glob (v := .int 6) (by rfl) T.c_MOST_BARS.choose_spec ⟨_, rfl⟩) (nomark _))))) (pss_one ps_never) pss_nil)
      (pss_one (ps_for PassesOwn.never rfl (pi_enT (by rfl) T.z_enumerate (pa_cons (pv 0) pa_nil)) (pg_tup (by rfl) (pgs_cons (pg_name (i := 1) sc_p_check_bars.nd rfl (by first | exact .inl rfl | exact .inr rfl)) (pgs_cons (pg_name (i := 2) sc_p_check_bars.nd rfl (by first | exact .inl rfl | exact .inr rfl)) pgs_nil))) (pss_one (ps_if (pt_not (pt_val (pe_call (ok_p_is_bar T) (hr.mono (by decide)) (by rfl) T.g_p_is_bar T.F_p_is_bar.kp T.b_p_is_bar .nil pass0 (pa_cons (pv 2) pa_nil)))) (pss_one ps_never) pss_nil))))), ?_⟩
    obtain ⟨a, xs, rfl, ta, nx, hx⟩ := B.ex
    refine ⟨_, rfl, _, _, _, _, _, rfl, .ty "tuple", tyTup ta, kit_ty (r := true) (by decide +kernel), true, rfl, iteF ?_⟩
    refine ⟨_, rfl, a, _, rfl, .inr ta, _, _, rfl, rfl, _, rfl, ite2 (fun e => ?_) (fun e => ?_)⟩
    · have e' := of_decide_eq_true e
      have := S.six
      omega
    · refine ⟨_, rfl, a, xs, rfl, ta, for_it (walk_enT (K := K) (a := a) (xs := xs)) (fun i σ H2 => ∃ (x y : Option V), σ = [some (.ref a), x, y] ∧ Same H H2) ⟨none, none, rfl, Same.refl _⟩ (fun i σ H2 _ ⟨_, _, _, s2⟩ => Same.seqTT s2 ta) ?_ ?_⟩
      · rintro i y σ H2 H3 hi ⟨x1, x2, rfl, s2⟩ ⟨p, z1, z2, rfl, np, rfl, e1, e2⟩
        have s3 := s2.trans (same_upd np (o := .tup [z1, z2]))
        have hl : i < bs.length := by omega
        have hb : bs[i]? = some bs[i] := List.getElem?_eq_getElem hl
        refine ⟨p, _, rfl, tupOf upd_same, rfl, _, _, rfl, _, _, rfl, rfl, ?_⟩
        obtain ⟨a2, x2, rfl, ta2, ⟨c2, rfl, tc2⟩⟩ := ((hx i z2 _ e2 hb).stay (.same s3)).ex
        refine ⟨_, rfl, _, rfl, .inr ⟨a2, _, rfl, ta2, .inr ⟨_, _, rfl, .inl ⟨_, rfl⟩, .inr ⟨c2, _, rfl, tc2, itmInts _, true, congrArg V.bl (S.bar _ (List.getElem_mem hl)).bar, iteF ?_⟩⟩⟩⟩
        exact ⟨_, _, rfl, s3⟩
      · rintro σ H2 ⟨x1, x2, rfl, s2⟩
        exact q _ s2
end

end R
namespace R
open PySem PySem.Spec PyProof.Rows L2
def sp_p_whole_of (K : PySem.W.Frag) : Sp := fun vs H Q _ => ∃ (v : V) (bs : List Bar), vs = [v] ∧ BarsAt K H v bs ∧ SvOk bs ∧ Q (.int (wh bs : Nat)) H
section
variable {P : Program} {w : World} {K : PySem.W.Frag} {mg : Str → Option Value} {base : Heap}
theorem ok_p_whole_of (T : Txt K mg) : FnOk P w K mg base CX0 2 T.f_p_whole_of T.fd_p_whole_of ["bars"] (sp_p_whole_of K) := by
  refine T.F_p_whole_of.ok sc_p_whole_of (fun vs H Q E h => ?_) (fun cdv A outer s H vs Q E hr h => ?_)
  · obtain ⟨v, bs, rfl, _⟩ := h
    rfl
  · obtain ⟨v, bs, rfl, B, S, q⟩ := h
    refine ⟨_, (pss_cons (ps_set (i := 1) sc_p_whole_of.nd rfl (by first | exact .inl rfl | exact .inr rfl) pe_int)
      (pss_cons (ps_for PassesOwn.never rfl (pi_tup (pv 0)) (pg_tup (by rfl) (pgs_cons (pg_name (i := 2) sc_p_whole_of.nd rfl (by first | exact .inl rfl | exact .inr rfl)) (pgs_cons (pg_name (i := 3) sc_p_whole_of.nd rfl (by first | exact .inl rfl | exact .inr rfl)) pgs_nil))) (pss_one (ps_set (i := 1) sc_p_whole_of.nd rfl (by first | exact .inl rfl | exact .inr rfl) (pe_callBfun cr_lcmW (by rfl) T.g_lcm (pa_cons (pv 1) (pa_cons (pv 2) pa_nil))))))
      (pss_cons (ps_if (pt_cmpR op_gt (pv 1) (pe_glob (v := .int 1000000000000000000000000000000) (by rfl) T.c_GREATEST_WHOLE.choose_spec ⟨_, rfl⟩) (nomark _)) (pss_one ps_never) pss_nil)
      (pss_one (ps_ret (pv 1)))))), ?_⟩
    obtain ⟨a, xs, rfl, ta, nx, hx⟩ := B.ex
    have M := S.mods
    refine ⟨_, rfl, a, rfl, ⟨_, ta⟩, for_tup (K := K) (a := a) (xs := xs) (fun i σ H2 => ∃ x y : Option V, σ = [some (.ref a), some (.int (wh (bs.take i) : Nat)), x, y] ∧ H2 = H)
      ⟨none, none, rfl, rfl⟩ (fun i σ H2 _ ⟨_, _, _, e⟩ => by rw [e]; exact ta) ?_ ?_⟩
    · rintro i x σ H2 hi ⟨y1, y2, rfl, rfl⟩
      have hl : i < bs.length := by
        have := (List.getElem?_eq_some_iff.mp hi).1
        omega
      have hb : bs[i]? = some bs[i] := List.getElem?_eq_getElem hl
      obtain ⟨p, l, rfl, tp, _⟩ := (hx i x _ hi hb).ex
      have hm := M.mod _ (List.getElem_mem hl)
      generalize bs[i] = b at hb tp hm
      have hw := (M.take i).lt
      have hmn : b.1 = ((b.1.toNat : Nat) : Int) := by omega
      refine ⟨p, [_, _], rfl, tp, rfl, _, _, rfl, _, _, rfl, rfl, ?_⟩
      refine ⟨_, rfl, _, rfl, wh (bs.take i), b.1.toNat, by rw [← hmn], Nat.lt_trans hw (by decide), small5000 (by omega), ?_⟩
      refine ⟨some (.int b.1), some l, ?_, rfl⟩
      rw [takeSucc hb, wh_add, show b.1.natAbs = b.1.toNat by omega]
      rfl
    · rintro σ H2 ⟨y1, y2, rfl, rfl⟩
      rw [nx, List.take_length]
      refine ⟨_, rfl, _, _, rfl, rfl, _, rfl, ite2 (fun e => ?_) (fun e => ?_)⟩
      · have e' := of_decide_eq_true e
        have := S.great
        omega
      · exact ⟨_, rfl, q⟩
end

end R
namespace R
open PySem PySem.Spec PyProof.Rows L2
def sp_p_check_choices (K : PySem.W.Frag) : Sp := fun vs H Q _ => ∃ (v : V) (bs : List Bar), vs = [v] ∧ BarsAt K H v bs ∧ SvOk bs ∧ Q .non H
section
variable {P : Program} {w : World} {K : PySem.W.Frag} {mg : Str → Option Value} {base : Heap}
theorem ok_p_check_choices (T : Txt K mg) : FnOk P w K mg base CX0 2 T.f_p_check_choices T.fd_p_check_choices ["bars"] (sp_p_check_choices K) := by
  refine T.F_p_check_choices.ok sc_p_check_choices (fun vs H Q E h => ?_) (fun cdv A outer s H vs Q E hr h => ?_)
  · obtain ⟨v, bs, rfl, _⟩ := h
    rfl
  · obtain ⟨v, bs, rfl, B, S, q⟩ := h
    refine ⟨_, (pss_cons (ps_set (i := 1) sc_p_check_choices.nd rfl (by first | exact .inl rfl | exact .inr rfl) pe_int)
      (pss_cons (ps_for PassesOwn.never rfl (pi_tup (pv 0)) (pg_tup (by rfl) (pgs_cons (pg_name (i := 2) sc_p_check_choices.nd rfl (by first | exact .inl rfl | exact .inr rfl)) (pgs_cons (pg_name (i := 3) sc_p_check_choices.nd rfl (by first | exact .inl rfl | exact .inr rfl)) pgs_nil))) (pss_one (ps_set (i := 1) sc_p_check_choices.nd rfl (by first | exact .inl rfl | exact .inr rfl) (pe_op op_mulW (pv 1) (pe_callB (call_max2 rfl) (by rfl) T.z_max (by decide +kernel) (pa_cons pe_int (pa_cons (pe_callB call_len_seq (by rfl) T.z_len (by decide +kernel) (pa_cons (pv 3) pa_nil)) pa_nil)))))))
      (pss_one (ps_if (pt_cmpR op_gt (pv 1) (pe_glob (v := .int 2000) (by rfl) T.c_MOST_CHOICES.choose_spec ⟨_, rfl⟩) (nomark _)) (pss_one ps_never) pss_nil)))), ?_⟩
    obtain ⟨a, xs, rfl, ta, nx, hx⟩ := B.ex
    refine ⟨_, rfl, a, rfl, ⟨_, ta⟩, for_tup (K := K) (a := a) (xs := xs) (fun i σ H2 => ∃ x y : Option V, σ = [some (.ref a), some (.int (choices (bs.take i) : Nat)), x, y] ∧ H2 = H)
      ⟨none, none, rfl, rfl⟩ (fun i σ H2 _ ⟨_, _, _, e⟩ => by rw [e]; exact ta) ?_ ?_⟩
    · rintro i x σ H2 hi ⟨y1, y2, rfl, rfl⟩
      have hl : i < bs.length := by
        have := (List.getElem?_eq_some_iff.mp hi).1
        omega
      have hb : bs[i]? = some bs[i] := List.getElem?_eq_getElem hl
      obtain ⟨p, l, rfl, tp, ⟨c, rfl, tc⟩⟩ := (hx i x _ hi hb).ex
      have hm := (S.bar _ (List.getElem_mem hl)).lot.few
      have hch := Nat.le_trans (choices_take_le bs i) S.many
      generalize bs[i] = b at hb tp hm tc
      refine ⟨p, [_, _], rfl, tp, rfl, _, _, rfl, _, _, rfl, rfl, ?_⟩
      refine ⟨_, rfl, _, rfl, c, _, rfl, .inr tc, _, _, rfl, _, _, rfl, rfl, ?_, ?_⟩
      · rw [List.length_map, maxIte]
        exact wide_mul (a := 20) (b := 20) (by rw [Int.natAbs_natCast]; omega) (by rw [Int.natAbs_natCast]; omega) (by decide) (by decide) (by decide)
      · refine ⟨some (.int b.1), some (.ref c), ?_, rfl⟩
        rw [List.length_map, maxIte, takeSucc hb, choices_add, Int.natCast_mul]
        rfl
    · rintro σ H2 ⟨y1, y2, rfl, rfl⟩
      rw [nx, List.take_length]
      refine ⟨_, rfl, _, _, rfl, rfl, _, rfl, ite2 (fun e => ?_) (fun e => ?_)⟩
      · have e' := of_decide_eq_true e
        have := S.many
        omega
      · exact q
end

end R
namespace R
open PySem PySem.Spec PyProof.Rows L2
/-! ## the sieve as an object -/
theorem putF_len (f : Str) (v : V) : ∀ fs : List (Str × V), (putF f v fs).length ≤ fs.length + 1
  | [] => Nat.le_refl _
  | (g, x) :: r => by
    show (if g = f then (g, v) :: r else (g, x) :: putF f v r).length ≤ r.length + 1 + 1
    split
    · exact Nat.le_succ _
    · exact Nat.succ_le_succ (putF_len f v r)
theorem nBW : ¬ (("_bars" : Str) = "_whole") := by decide +kernel
theorem nBC : ¬ (("_bars" : Str) = "_classes") := by decide +kernel
theorem nWC : ¬ (("_whole" : Str) = "_classes") := by decide +kernel
/-- the attributes in the order in which they are stored -/
def flds (v : V) (n : Int) (t : V) : List (Str × V) := putF "_classes" t (putF "_whole" (.int n) (putF "_bars" v []))
theorem flds_bars (v : V) (n : Int) (t : V) : (flds v n t).lookup ("_bars" : Str) = some v := by
  unfold flds
  rw [lookup_putF, if_neg nBC, lookup_putF, if_neg nBW, lookup_putF, if_pos rfl]
theorem flds_whole (v : V) (n : Int) (t : V) : (flds v n t).lookup ("_whole" : Str) = some (.int n) := by
  unfold flds
  rw [lookup_putF, if_neg nWC, lookup_putF, if_pos rfl]
theorem flds_classes (v : V) (n : Int) (t : V) : (flds v n t).lookup ("_classes" : Str) = some t := by
  unfold flds
  rw [lookup_putF, if_pos rfl]
/-- a Sieve of the bars bs stands at p: v its bars, t its classes -/
structure SvAt (K : PySem.W.Frag) (C : Addr) (H : Hp) (p : Addr) (v : V) (t : Addr) (bs : List Bar) : Prop where
  ob : ∃ dx, H p = some (.ins C dx (flds v (wh bs : Nat) (.ref t)))
  bars : BarsAt K H v bs
  cls : SqT K H t ((cls bs).map V.int)
  ok : SvOk bs
theorem SvAt.stay {K : PySem.W.Frag} {C : Addr} {H H' : Hp} {p : Addr} {v : V} {t : Addr} {bs : List Bar} (h : SvAt K C H p v t bs) (s : Same H H') : SvAt K C H' p v t bs :=
  ⟨let ⟨dx, e⟩ := h.ob; ⟨dx, s _ _ e⟩, h.bars.stay (.same s), Same.seqTT s h.cls, h.ok⟩
theorem SvAt.keep {K : PySem.W.Frag} {C : Addr} {H H' : Hp} {p r : Addr} {v : V} {t : Addr} {bs : List Bar} {L : Addr} (h : SvAt K C H p v t bs) (R : RowAt H r L) (s : Kp r H H') : SvAt K C H' p v t bs := by
  obtain ⟨dx, e⟩ := h.ob
  obtain ⟨zs, er⟩ := R.lst
  refine ⟨⟨dx, s _ _ (ne_of e er (by intro z; cases z)) e⟩, h.bars.stay (R.tups s), R.tups s _ _ h.cls, h.ok⟩
section
variable {P : Program} {w : World} {K : PySem.W.Frag} {mg : Str → Option Value} {base : Heap}
def sp_get (K : PySem.W.Frag) (C : Addr) (f : V → Addr → List Bar → V) : Sp := fun vs H Q _ => ∃ (p : Addr) (v : V) (t : Addr) (bs : List Bar), vs = [.ref p] ∧ SvAt K C H p v t bs ∧ Q (f v t bs) H
theorem ok_m_Sieve_bars (T : Txt K mg) : FnOk P w K mg base CX0 2 T.f_m_Sieve_bars T.fd_m_Sieve_bars ["self"] (sp_get K T.C fun v _ _ => v) := by
  refine T.F_m_Sieve_bars.ok sc_m_Sieve_bars (fun vs H Q E h => ?_) (fun cdv A outer s H vs Q E hr h => ?_)
  · obtain ⟨p, v, t, bs, rfl, _⟩ := h
    rfl
  · obtain ⟨p, v, t, bs, rfl, S, q⟩ := h
    obtain ⟨dx, e⟩ := S.ob
    exact ⟨_, (pss_one (ps_ret (pe_fld (pv 0) rfl))), _, rfl, p, T.C, dx, _, _, rfl, e, T.cl, T.n_bars, flds_bars _ _ _, q⟩
theorem ok_m_Sieve_whole (T : Txt K mg) : FnOk P w K mg base CX0 2 T.f_m_Sieve_whole T.fd_m_Sieve_whole ["self"] (sp_get K T.C fun _ _ bs => .int (wh bs : Nat)) := by
  refine T.F_m_Sieve_whole.ok sc_m_Sieve_whole (fun vs H Q E h => ?_) (fun cdv A outer s H vs Q E hr h => ?_)
  · obtain ⟨p, v, t, bs, rfl, _⟩ := h
    rfl
  · obtain ⟨p, v, t, bs, rfl, S, q⟩ := h
    obtain ⟨dx, e⟩ := S.ob
    exact ⟨_, (pss_one (ps_ret (pe_fld (pv 0) rfl))), _, rfl, p, T.C, dx, _, _, rfl, e, T.cl, T.n_whole, flds_whole _ _ _, q⟩
theorem ok_m_Sieve_classes (T : Txt K mg) : FnOk P w K mg base CX0 2 T.f_m_Sieve_classes T.fd_m_Sieve_classes ["self"] (sp_get K T.C fun _ t _ => .ref t) := by
  refine T.F_m_Sieve_classes.ok sc_m_Sieve_classes (fun vs H Q E h => ?_) (fun cdv A outer s H vs Q E hr h => ?_)
  · obtain ⟨p, v, t, bs, rfl, _⟩ := h
    rfl
  · obtain ⟨p, v, t, bs, rfl, S, q⟩ := h
    obtain ⟨dx, e⟩ := S.ob
    exact ⟨_, (pss_one (ps_ret (pe_fld (pv 0) rfl))), _, rfl, p, T.C, dx, _, _, rfl, e, T.cl, T.n_classes, flds_classes _ _ _, q⟩

end
/-! ## data -/
def okD (n : Nat) (d : PyData) : Prop := d.canLay0 = true ∧ d.depth ≤ n
theorem okD.shaped {n : Nat} {d : PyData} (h : okD n d) (hn : n ≤ 64) : SeqAt.shaped d = true := by
  unfold SeqAt.shaped
  rw [h.1, decide_eq_true (Nat.le_trans h.2 hn)]
  rfl
theorem okD.eqv {n : Nat} {d : PyData} (h : okD n d) : PyData.eqv d d = true := SeqAt.eqv_refl d h.1
theorem okD.int (i : Int) : okD 0 (.int i) := ⟨rfl, Nat.le_refl _⟩
theorem okD.all {n : Nat} : ∀ {ds : List PyData}, (∀ d ∈ ds, okD n d) → PyData.canLayAll0 ds = true ∧ PyData.depthAll ds ≤ n
  | [], _ => ⟨rfl, Nat.zero_le _⟩
  | d :: ds, h => by
    obtain ⟨a, b⟩ := h d List.mem_cons_self
    obtain ⟨c, e⟩ := okD.all fun x hx => h x (List.mem_cons_of_mem d hx)
    refine ⟨?_, ?_⟩
    · rw [PyData.canLayAll0, a, c]
      rfl
    · rw [PyData.depthAll]
      omega
theorem okD.tup {n : Nat} {ds : List PyData} (h : ∀ d ∈ ds, okD n d) : okD (n + 1) (.tuple ds) := by
  obtain ⟨a, b⟩ := okD.all h
  refine ⟨?_, ?_⟩
  · rw [PyData.canLay0]
    exact a
  · rw [PyData.depth]
    omega
theorem okD.lst {n : Nat} {ds : List PyData} (h : ∀ d ∈ ds, okD n d) : okD (n + 1) (.list ds) := by
  obtain ⟨a, b⟩ := okD.all h
  refine ⟨?_, ?_⟩
  · rw [PyData.canLay0]
    exact a
  · rw [PyData.depth]
    omega
theorem dpInts {K : PySem.W.Frag} {H : Hp} : ∀ l : List Int, DpAll K H (l.map V.int) (l.map PyData.int)
  | [] => .nil
  | i :: l => .cons (.int i) (dpInts l)
theorem dpTup {K : PySem.W.Frag} {H : Hp} {a : Addr} {l : List Int} (h : SqT K H a (l.map V.int)) : Dp K H (.ref a) (.tuple (l.map PyData.int)) := .tup h (dpInts l)
theorem dpLst {K : PySem.W.Frag} {H : Hp} {a : Addr} {l : List Int} (h : SqL K H a (l.map V.int)) : Dp K H (.ref a) (.list (l.map PyData.int)) := .lst h (dpInts l)
theorem okInts (l : List Int) : ∀ d ∈ l.map PyData.int, okD 0 d := fun d h => by
  obtain ⟨i, _, rfl⟩ := List.mem_map.mp h
  exact .int i
theorem eqvNil (l : List Int) : PyData.eqv (.list (l.map PyData.int)) (.list []) = decide (l = []) := by
  rw [PyData.eqv]
  cases l with
  | nil => rfl
  | cons x r => rfl
theorem eqvNilT (l : List Int) : PyData.eqv (.tuple (l.map PyData.int)) (.tuple []) = decide (l = []) := by
  rw [PyData.eqv]
  cases l with
  | nil => rfl
  | cons x r => rfl

end R
namespace R
open PySem PySem.Spec PyProof.Rows L2
def sp_m_Sieve_init (K : PySem.W.Frag) (C : Addr) : Sp := fun vs H Q _ => ∃ (p dx : Addr) (v : V) (bs : List Bar), vs = [.ref p, v] ∧ H p = some (.ins C dx []) ∧ BarsAt K H v bs ∧ SvOk bs ∧
  ∀ (t : Addr) (H' : Hp), (∀ b o, b ≠ p → H b = some o → H' b = some o) → SvAt K C H' p v t bs → Q .non H'
section
variable {P : Program} {w : World} {K : PySem.W.Frag} {mg : Str → Option Value} {base : Heap}
theorem ok_m_Sieve_init (T : Txt K mg) : FnOk P w K mg base CX0 8 T.f_m_Sieve_init T.fd_m_Sieve_init ["self", "bars"] (sp_m_Sieve_init K T.C) := by
  refine T.F_m_Sieve_init.ok sc_m_Sieve_init (fun vs H Q E h => ?_) (fun cdv A outer s H vs Q E hr h => ?_)
  · obtain ⟨p, dx, v, bs, rfl, _⟩ := h
    rfl
  · obtain ⟨p, dx, v, bs, rfl, hp, B, S, q⟩ := h
    refine ⟨_, (pss_cons (ps_expr (pe_call (ok_p_check_bars T) (hr.mono (by decide)) (by rfl) T.g_p_check_bars T.F_p_check_bars.kp T.b_p_check_bars .nil pass0 (pa_cons (pv 1) pa_nil)))
      (pss_cons (ps_fld (pv 0) (pv 1) rfl)
      (pss_cons (ps_fld (pv 0) (pe_call (ok_p_whole_of T) (hr.mono (by decide)) (by rfl) T.g_p_whole_of T.F_p_whole_of.kp T.b_p_whole_of .nil pass0 (pa_cons (pv 1) pa_nil)) rfl)
      (pss_cons (ps_expr (pe_call (ok_p_check_choices T) (hr.mono (by decide)) (by rfl) T.g_p_check_choices T.F_p_check_choices.kp T.b_p_check_choices .nil pass0 (pa_cons (pv 1) pa_nil)))
      (pss_one (ps_fld (pv 0) (pe_call (ok_p_classes_of T) (hr.mono (by decide)) (by rfl) T.g_p_classes_of T.F_p_classes_of.kp T.b_p_classes_of .nil pass0 (pa_cons (pv 1) pa_nil)) rfl)))))), ?_⟩
    have st : ∀ {H1 H2 : Hp} {fs fs' : List (Str × V)}, H1 p = some (.ins T.C dx fs) → TupsStay K H1 (upd H1 p (.ins T.C dx fs')) := fun {H1 H2 fs fs'} e a xs h => by
      rcases h with (h | ⟨o, h⟩) | h
      · exact .inl (.inl (by rw [upd_ne (ne_of h e (by intro z; cases z))]; exact h))
      · exact .inl (.inr ⟨o, by rw [upd_ne (ne_of h e (by intro z; cases z))]; exact h⟩)
      · exact .inr h
    refine ⟨_, rfl, v, bs, rfl, B, S.pre, fun H1 s1 => ?_⟩
    have p1 := s1 _ _ hp
    have B1 := B.stay (.same s1)
    refine ⟨_, rfl, _, rfl, p, T.C, dx, [], rfl, p1, T.cl, T.n_bars, (by show 0 < 1000; decide), ?_⟩
    have B2 : BarsAt K _ v bs := B1.stay (st (H2 := H1) (fs' := putF "_bars" v []) p1)
    refine ⟨_, rfl, v, bs, rfl, B2, S, _, rfl, p, T.C, dx, _, rfl, upd_same, T.cl, T.n_whole, (by show 1 < 1000; decide), ?_⟩
    have B3 := B2.stay (st (H2 := H1) (fs' := putF "_whole" (.int (wh bs : Nat)) (putF "_bars" v [])) upd_same)
    refine ⟨_, rfl, v, bs, rfl, B3, S, ?_⟩
    refine ⟨_, rfl, v, bs, rfl, B3, S, fun t H4 s4 e4 => ?_⟩
    have p4 := s4 _ _ (upd_same (H := upd H1 p (.ins T.C dx (putF "_bars" v []))) (a := p) (o := .ins T.C dx (putF "_whole" (.int (wh bs : Nat)) (putF "_bars" v []))))
    refine ⟨_, rfl, p, T.C, dx, _, rfl, p4, T.cl, T.n_classes, ?_, ?_⟩
    · have l1 := putF_len "_whole" (.int (wh bs : Nat)) (putF "_bars" v [])
      have l2 := putF_len "_bars" v []
      have l3 : ([] : List (Str × V)).length = 0 := rfl
      omega
    · have B4 := B3.stay (.same s4)
      refine q t _ (fun b o n e => ?_) ⟨⟨dx, upd_same⟩, B4.stay (st (H2 := H1) p4), st (H2 := H1) p4 _ _ (tupOf e4), S⟩
      rw [upd_ne n]
      refine s4 _ _ ?_
      rw [upd_ne n, upd_ne n]
      exact s1 _ _ e
/-- Sieve(bars) at a new place x -/
theorem make_sieve {C : Addr} {H : Hp} {v : V} {bs : List Bar} {Q : VK} {E : XK} {x dx : Addr} (B : BarsAt K H v bs) (S : SvOk bs) (nx : H x = none) (ndx : H dx = none)
    (k : ∀ t H', Same H H' → SvAt K C H' x v t bs → Q .non H') : sp_m_Sieve_init K C (.ref x :: ([v] ++ [])) (upd (upd H dx (.own x)) x (.ins C dx [])) Q E := by
  have s0 : Same H (upd (upd H dx (.own x)) x (.ins C dx [])) := samePut (same_upd ndx) nx
  exact ⟨x, dx, v, bs, rfl, upd_same, B.stay (.same s0), S, fun t H' s1 A => k t H' (fun b o e => s1 b o (ne_of_none e nx) (s0 b o e)) A⟩
end

end R
namespace R
open PySem PySem.Spec PyProof.Rows L2
/-! ## the law -/
def sp_law (K : PySem.W.Frag) : Sp := fun vs H Q _ => ∃ (a : Addr) (ns : List Int), vs = [.ref a] ∧ SqL K H a (ns.map V.int) ∧ ns.length ≤ 63 ∧ ∀ H', Q (.bl true) H'
theorem powTop {bs : List Bar} {most top : Nat} (D : Drawn most top bs) (h6 : most ≤ 6) (ht : top ≤ 60) : wh bs ≤ top ^ bs.length := by
  have h : ∀ bs : List Bar, (∀ b ∈ bs, b.1.natAbs ≤ top) → wh bs ≤ top ^ bs.length := by
    refine snocInd (fun _ => by rw [List.length_nil, Nat.pow_zero]; decide) fun bs b ih h => ?_
    rw [wh_add, List.length_append]
    exact Nat.le_trans (lcm_le_mul _ _) (Nat.mul_le_mul (ih fun c hc => h c (List.mem_append_left _ hc)) (h b (List.mem_append_right _ (List.mem_singleton.mpr rfl))))
  exact h bs fun b hb => by
    have := D.bar b hb
    omega
theorem powLe {bs : List Bar} {most top N : Nat} (D : Drawn most top bs) (h6 : most ≤ 6) (h1 : 1 ≤ top) (ht : top ≤ 60) (hN : top ^ most ≤ N) : wh bs ≤ N :=
  Nat.le_trans (powTop D h6 ht) (Nat.le_trans (Nat.pow_le_pow_right h1 D.len) hN)
theorem nilOk : SvOk [] := ⟨by decide, fun b h => by simp at h, by decide, by decide⟩
theorem clsNil : cls [] = [0] := rfl

end R
namespace R
open PySem PySem.Spec PyProof.Rows L2
/-! ## walks within a comprehension's block, told over the written part alone -/
theorem pi_tupK {X : Cx} {K : PySem.W.Frag} {tg e : Expr} {te : TE} (hK : X.K = K) (he : PE X e te) : PI X tg e (iTup K te) := by
  subst hK
  exact pi_tup he
theorem pi_listK {X : Cx} {K : PySem.W.Frag} {tg e : Expr} {te : TE} (hK : X.K = K) (he : PE X e te) : PI X tg e (iList K te) := by
  subst hK
  exact pi_list he
def rTupOf (K : PySem.W.Frag) : List V → Hp → VK → Prop := fun vs H Q => ∃ p ys, vs = [.ref p] ∧ ((SqL K H p ys ∧ ∀ l, H l = none → Q (.ref l) (upd H l (.tup ys))) ∨ (SqT K H p ys ∧ Q (.ref p) H))

end R
namespace R
open PySem PySem.Spec PyProof.Rows L2
/-! ## bars as data -/
/-- bars + (a bar,) -/
theorem catBar {K : PySem.W.Frag} {H : Hp} {v : V} {bs : List Bar} {b : Bar} {p p2 : Addr} {Q : V → Hp → Prop} (B : BarsAt K H v bs) (few : bs.length ≤ 1000) (bar : BarAt K H (.ref p) b) (t2 : SqT K H p2 [.ref p])
    (q : ∀ y H', Same H H' → BarsAt K H' y (bs ++ [b]) → Q y H') : rCatA K v (.ref p2) H Q := by
  obtain ⟨a, xs, rfl, tb, nb, hb⟩ := B.ex
  refine ⟨a, p2, xs, [.ref p], rfl, rfl, tb, t2, sizeOk (by show xs.length + 1 ≤ 100000; omega), fun e => ?_, fun _ e => absurd e (List.cons_ne_nil _ _), fun _ _ q' nq' => ?_⟩
  · subst e
    exact q _ _ (Same.refl _) (BarsAt.add (xs := []) t2 nb (fun j x d h1 h2 => by simp at h1) bar)
  · exact q _ _ (same_upd nq') (BarsAt.add (tupOf upd_same) nb (fun j x d h1 h2 => (hb j x d h1 h2).stay (.same (same_upd nq'))) (bar.stay (.same (same_upd nq'))))
def barD (b : Bar) : PyData := .tuple [.int b.1, .tuple (b.2.map PyData.int)]
theorem dpBar {K : PySem.W.Frag} {H : Hp} {v : V} {b : Bar} (h : BarAt K H v b) : Dp K H v (barD b) := by
  obtain ⟨a, x, rfl, ta, ⟨c, rfl, tc⟩⟩ := h.ex
  exact .tup ta (.cons (.int _) (.cons (dpTup tc) .nil))
theorem dpBars {K : PySem.W.Frag} {H : Hp} {v : V} {bs : List Bar} (h : BarsAt K H v bs) : Dp K H v (.tuple (bs.map barD)) := by
  obtain ⟨a, xs, rfl, ta, nx, hx⟩ := h.ex
  refine .tup ta ?_
  clear ta h
  induction xs generalizing bs with
  | nil =>
    cases bs with
    | nil => exact .nil
    | cons b r => cases nx
  | cons x xs ih =>
    cases bs with
    | nil => cases nx
    | cons b r => exact .cons (dpBar (hx 0 x b rfl rfl)) (ih (Nat.succ.inj nx) fun i y d h1 h2 => hx (i + 1) y d h1 h2)
theorem okBars (bs : List Bar) : okD 3 (.tuple (bs.map barD)) := okD.tup fun d h => by
  obtain ⟨b, _, rfl⟩ := List.mem_map.mp h
  refine okD.tup fun d h => ?_
  rcases List.mem_cons.mp h with rfl | h
  · exact ⟨rfl, Nat.zero_le _⟩
  · rw [List.mem_singleton.mp h]
    exact okD.tup (okInts _)

end R
namespace R
open PySem PySem.Spec PyProof.Rows L2
/-! ## data that are equal -/
theorem eqvInts : ∀ xs ys : List Int, PyData.eqvAll (xs.map PyData.int) (ys.map PyData.int) = decide (xs = ys)
  | [], [] => by
    show PyData.eqvAll [] [] = _
    rw [PyData.eqvAll]
    rfl
  | [], y :: ys => by
    show PyData.eqvAll [] (_ :: _) = _
    rw [PyData.eqvAll] <;> first | rfl | simp
  | x :: xs, [] => by
    show PyData.eqvAll (_ :: _) [] = _
    rw [PyData.eqvAll] <;> first | rfl | simp
  | x :: xs, y :: ys => by
    show PyData.eqvAll (PyData.int x :: xs.map PyData.int) (PyData.int y :: ys.map PyData.int) = _
    rw [PyData.eqvAll, eqvInts xs ys, PyData.eqv]
    by_cases h : x = y
    · subst h
      by_cases h2 : xs = ys
      · subst h2
        simp
      · simp [h2]
    · simp [h]
theorem eqvIntsT (xs ys : List Int) : PyData.eqv (.tuple (xs.map PyData.int)) (.tuple (ys.map PyData.int)) = decide (xs = ys) := by
  rw [PyData.eqv]
  exact eqvInts xs ys
theorem eqvIntsL (xs ys : List Int) : PyData.eqv (.list (xs.map PyData.int)) (.list (ys.map PyData.int)) = decide (xs = ys) := by
  rw [PyData.eqv]
  exact eqvInts xs ys
theorem eqvBar (a b : Bar) : PyData.eqv (barD a) (barD b) = decide (a = b) := by
  obtain ⟨m, l⟩ := a
  obtain ⟨n, k⟩ := b
  show PyData.eqv (.tuple [.int m, .tuple (l.map PyData.int)]) (.tuple [.int n, .tuple (k.map PyData.int)]) = _
  rw [PyData.eqv, PyData.eqvAll, PyData.eqvAll, PyData.eqvAll, eqvIntsT, PyData.eqv]
  by_cases h : m = n
  · subst h
    by_cases h2 : l = k
    · subst h2
      simp
    · simp [h2]
  · simp [h]
theorem eqvBarsAll : ∀ xs ys : List Bar, PyData.eqvAll (xs.map barD) (ys.map barD) = decide (xs = ys)
  | [], [] => by
    show PyData.eqvAll [] [] = _
    rw [PyData.eqvAll]
    rfl
  | [], y :: ys => by
    show PyData.eqvAll [] (_ :: _) = _
    rw [PyData.eqvAll] <;> first | rfl | simp
  | x :: xs, [] => by
    show PyData.eqvAll (_ :: _) [] = _
    rw [PyData.eqvAll] <;> first | rfl | simp
  | x :: xs, y :: ys => by
    show PyData.eqvAll (barD x :: xs.map barD) (barD y :: ys.map barD) = _
    rw [PyData.eqvAll, eqvBarsAll xs ys, eqvBar]
    by_cases h : x = y
    · subst h
      by_cases h2 : xs = ys
      · subst h2
        simp
      · simp [h2]
    · simp [h]
theorem eqvBars (xs ys : List Bar) : PyData.eqv (.tuple (xs.map barD)) (.tuple (ys.map barD)) = decide (xs = ys) := by
  rw [PyData.eqv]
  exact eqvBarsAll xs ys

end R
namespace R
open PySem PySem.Spec PyProof.Rows L2
/-! ## places: the fitting numbers in a row -/
def below (c : List Int) (y : Int) : Nat := (c.filter fun z => decide (z < y)).length
/-- the place of the least fitting number from x on -/
def pl (bs : List Bar) (x : Int) : Int := x / (wh bs : Int) * ((cls bs).length : Int) + (below (cls bs) (x % (wh bs : Int)) : Int)
theorem below_succ {c : List Int} (h : c.Pairwise (· < ·)) (y : Int) : below c (y + 1) = below c y + (if y ∈ c then 1 else 0) := by
  induction c with
  | nil => rfl
  | cons a r ih =>
    obtain ⟨h1, h2⟩ := List.pairwise_cons.mp h
    have ih := ih h2
    unfold below at ih ⊢
    by_cases e : a = y
    · subst e
      have n : a ∉ r := fun z => by have := h1 a z; omega
      rw [if_neg n] at ih
      rw [List.filter_cons_of_pos (by simp; omega), List.filter_cons_of_neg (by simp), List.length_cons, if_pos List.mem_cons_self, ih]
    · have em : (y ∈ a :: r) = (y ∈ r) := by
        rw [List.mem_cons]
        exact propext ⟨fun z => z.elim (fun w => absurd w.symm e) id, .inr⟩
      simp only [em]
      by_cases l : a < y
      · rw [List.filter_cons_of_pos (by simp; omega), List.filter_cons_of_pos (by simp; omega), List.length_cons, List.length_cons, ih]
        omega
      · rw [List.filter_cons_of_neg (by simp; omega), List.filter_cons_of_neg (by simp; omega), ih]
theorem below_zero {c : List Int} (h : ∀ z ∈ c, 0 ≤ z) : below c 0 = 0 := by
  unfold below
  rw [List.filter_eq_nil_iff.mpr fun z hz => by have := h z hz; simp; omega]
  rfl
theorem below_all {c : List Int} {w : Int} (h : ∀ z ∈ c, z < w) : below c w = c.length := by
  unfold below
  rw [List.filter_eq_self.mpr fun z hz => by have := h z hz; simp; omega]
theorem cls_mem {bs : List Bar} {x : Int} : x ∈ cls bs ↔ 0 ≤ x ∧ x < (wh bs : Int) ∧ fitsB bs x = true := (cls_is bs).mem x
theorem divStep {x w : Int} (hw : 0 < w) : (x % w + 1 < w ∧ (x + 1) / w = x / w ∧ (x + 1) % w = x % w + 1) ∨ (x % w + 1 = w ∧ (x + 1) / w = x / w + 1 ∧ (x + 1) % w = 0) := by
  have h0 := Int.emod_nonneg x (Int.ne_of_gt hw)
  have h1 := Int.emod_lt_of_pos x hw
  have h2 := Int.mul_ediv_add_emod x w
  by_cases h : x % w + 1 < w
  · refine .inl ⟨h, ?_⟩
    have e : x + 1 = (x % w + 1) + w * (x / w) := by omega
    rw [e, Int.add_mul_ediv_left _ _ (Int.ne_of_gt hw), Int.add_mul_emod_self_left, Int.ediv_eq_zero_of_lt (by omega) h, Int.emod_eq_of_lt (by omega) h]
    exact ⟨by omega, rfl⟩
  · refine .inr ⟨by omega, ?_⟩
    have e : x + 1 = 0 + w * (x / w + 1) := by rw [Int.mul_add]; omega
    rw [e, Int.add_mul_ediv_left _ _ (Int.ne_of_gt hw), Int.add_mul_emod_self_left]
    exact ⟨by rw [Int.zero_ediv, Int.zero_add], Int.zero_emod _⟩
def PosOk (bs : List Bar) : Prop := 0 < wh bs
theorem pl_succ {bs : List Bar} (hw : 0 < wh bs) (x : Int) : pl bs (x + 1) = pl bs x + (if fitsB bs x = true then 1 else 0) := by
  have hw' : (0 : Int) < (wh bs : Int) := by omega
  have r0 := Int.emod_nonneg x (Int.ne_of_gt hw')
  have r1 := Int.emod_lt_of_pos x hw'
  have key : (below (cls bs) (x % (wh bs : Int) + 1) : Int) = (below (cls bs) (x % (wh bs : Int)) : Int) + (if fitsB bs x = true then 1 else 0) := by
    rw [below_succ (cls_up bs)]
    have em : (x % (wh bs : Int) ∈ cls bs) ↔ fitsB bs x = true := by
      rw [cls_mem, fitsB_mod]
      exact ⟨fun h => h.2.2, fun h => ⟨r0, r1, h⟩⟩
    by_cases f : fitsB bs x = true
    · rw [if_pos (em.mpr f), if_pos f]
      rfl
    · rw [if_neg (fun z => f (em.mp z)), if_neg f]
      rfl
  unfold pl
  rcases divStep (x := x) hw' with ⟨_, e1, e2⟩ | ⟨h, e1, e2⟩
  · rw [e1, e2, key]
    omega
  · rw [e1, e2, below_zero fun z hz => (cls_mem.mp hz).1]
    rw [h, below_all fun z hz => (cls_mem.mp hz).2.1] at key
    rw [Int.add_mul, Int.one_mul]
    omega
/-- how many fit from a on, k numbers -/
def cnt (bs : List Bar) (a : Int) (k : Nat) : Nat := ((List.range k).filter fun i : Nat => fitsB bs (a + i)).length
theorem cnt_succ (bs : List Bar) (a : Int) (k : Nat) : cnt bs a (k + 1) = cnt bs a k + (if fitsB bs (a + k) = true then 1 else 0) := by
  unfold cnt
  rw [List.range_succ, List.filter_append, List.length_append]
  by_cases f : fitsB bs (a + k) = true
  · rw [List.filter_cons_of_pos (p := fun i : Nat => fitsB bs (a + i)) f, if_pos f]
    rfl
  · rw [List.filter_cons_of_neg (p := fun i : Nat => fitsB bs (a + i)) f, if_neg f]
    rfl
theorem pl_add {bs : List Bar} (hw : 0 < wh bs) (a : Int) (k : Nat) : pl bs (a + k) = pl bs a + (cnt bs a k : Int) := by
  induction k with
  | zero =>
    show pl bs (a + 0) = pl bs a + ((0 : Nat) : Int)
    rw [Int.add_zero]
    omega
  | succ k ih =>
    rw [cnt_succ, show a + ((k + 1 : Nat) : Int) = (a + k) + 1 by omega, pl_succ hw, ih]
    by_cases f : fitsB bs (a + k) = true
    · rw [if_pos f, if_pos f]
      omega
    · rw [if_neg f, if_neg f]
      omega
theorem pl_whole {bs : List Bar} (hw : 0 < wh bs) (x j : Int) : pl bs (x + j * (wh bs : Int)) = pl bs x + j * ((cls bs).length : Int) := by
  unfold pl
  rw [Int.add_mul_ediv_right _ _ (by omega), Int.add_mul_emod_self_right, Int.add_mul]
  omega
theorem pl_mono {bs : List Bar} (hw : 0 < wh bs) {a b : Int} (h : a ≤ b) : pl bs a ≤ pl bs b := by
  have e := pl_add hw a (b - a).toNat
  rw [show a + (((b - a).toNat : Nat) : Int) = b by omega] at e
  omega
theorem pl_fit {bs : List Bar} (hw : 0 < wh bs) {a b : Int} (f : fitsB bs a = true) (h : a < b) : pl bs a < pl bs b := by
  have e := pl_succ hw a
  rw [if_pos f] at e
  have := pl_mono hw (show a + 1 ≤ b by omega)
  omega
theorem fit_unique {bs : List Bar} (hw : 0 < wh bs) {a b : Int} (fa : fitsB bs a = true) (fb : fitsB bs b = true) (e : pl bs a = pl bs b) : a = b := by
  by_cases h : a = b
  · exact h
  · by_cases l : a < b
    · have := pl_fit hw fa l
      omega
    · have := pl_fit hw fb (show b < a by omega)
      omega
/-- the fitting number at a place -/
def st (bs : List Bar) (q : Int) : Int := q / ((cls bs).length : Int) * (wh bs : Int) + (cls bs).getD (q % ((cls bs).length : Int)).toNat 0
theorem below_at {c : List Int} (h : c.Pairwise (· < ·)) : ∀ {j : Nat} {x : Int}, c[j]? = some x → below c x = j := by
  induction c with
  | nil => intro j x e; simp at e
  | cons a r ih =>
    obtain ⟨h1, h2⟩ := List.pairwise_cons.mp h
    intro j x e
    cases j with
    | zero =>
      cases Option.some.inj e
      unfold below
      rw [List.filter_eq_nil_iff.mpr fun z hz => ?_]
      · rfl
      · rcases List.mem_cons.mp hz with rfl | hz
        · simp
        · have := h1 z hz
          simp
          omega
    | succ j =>
      have e' : r[j]? = some x := e
      have q := ih h2 e'
      have lt := h1 x (List.mem_of_getElem? e')
      unfold below at q ⊢
      rw [List.filter_cons_of_pos (by simp; omega), List.length_cons, q]
section
variable {bs : List Bar} {q : Int}
theorem st_parts (hw : 0 < wh bs) (hn : 0 < (cls bs).length) : ∃ x, (cls bs)[(q % ((cls bs).length : Int)).toNat]? = some x ∧ st bs q = x + q / ((cls bs).length : Int) * (wh bs : Int) ∧ 0 ≤ x ∧ x < (wh bs : Int) ∧ fitsB bs x = true := by
  have r0 := Int.emod_nonneg q (show ((cls bs).length : Int) ≠ 0 by omega)
  have r1 := Int.emod_lt_of_pos q (show (0 : Int) < ((cls bs).length : Int) by omega)
  have hj : (q % ((cls bs).length : Int)).toNat < (cls bs).length := by omega
  have e := List.getElem?_eq_getElem hj
  refine ⟨_, e, ?_, cls_mem.mp (List.mem_of_getElem? e)⟩
  unfold st
  rw [List.getD_eq_getElem?_getD, e, Int.add_comm]
  rfl
theorem fits_st (hw : 0 < wh bs) (hn : 0 < (cls bs).length) : fitsB bs (st bs q) = true := by
  obtain ⟨x, _, e, x0, x1, f⟩ := st_parts (q := q) hw hn
  rw [e, ← fitsB_mod, Int.add_mul_emod_self_right, fitsB_mod]
  exact f
theorem pl_st (hw : 0 < wh bs) (hn : 0 < (cls bs).length) : pl bs (st bs q) = q := by
  obtain ⟨x, h, e, x0, x1, f⟩ := st_parts (q := q) hw hn
  have r0 := Int.emod_nonneg q (show ((cls bs).length : Int) ≠ 0 by omega)
  have d := Int.mul_ediv_add_emod q ((cls bs).length : Int)
  rw [e, pl_whole hw]
  unfold pl
  rw [Int.emod_eq_of_lt x0 x1, Int.ediv_eq_zero_of_lt x0 x1, Int.zero_mul, Int.zero_add, below_at (cls_up bs) h, Int.mul_comm]
  omega
theorem st_pl (hw : 0 < wh bs) {x : Int} (f : fitsB bs x = true) : st bs (pl bs x) = x := by
  have hn : 0 < (cls bs).length := List.length_pos_of_mem (cls_mem.mpr ⟨Int.emod_nonneg x (by omega), Int.emod_lt_of_pos x (by omega), by rw [fitsB_mod]; exact f⟩)
  exact fit_unique hw (fits_st hw hn) f (pl_st hw hn)
end
theorem cls_empty {bs : List Bar} (hw : 0 < wh bs) (h : cls bs = []) (x : Int) : fitsB bs x = false := by
  cases f : fitsB bs x with
  | false => rfl
  | true =>
    have := cls_mem.mpr ⟨Int.emod_nonneg x (show (wh bs : Int) ≠ 0 by omega), Int.emod_lt_of_pos x (show (0 : Int) < (wh bs : Int) by omega), by rw [fitsB_mod]; exact f⟩
    rw [h] at this
    simp at this
theorem cnt_le (bs : List Bar) (a : Int) (k : Nat) : cnt bs a k ≤ k := by
  unfold cnt
  have h := List.length_filter_le (fun i : Nat => fitsB bs (a + i)) (List.range k)
  rw [List.length_range] at h
  exact h
theorem below_le (c : List Int) (y : Int) : below c y ≤ c.length := List.length_filter_le _ _
/-- how great a place may be -/
theorem pl_size {bs : List Bar} (hw : 0 < wh bs) {x : Int} {N : Nat} (hx : x.natAbs ≤ N) : (pl bs x).natAbs ≤ N * (cls bs).length + (cls bs).length := by
  unfold pl
  have h1 : (x / (wh bs : Int)).natAbs ≤ N := Nat.le_trans (Int.natAbs_ediv_le_natAbs _ _) hx
  have h2 := below_le (cls bs) (x % (wh bs : Int))
  have h3 : (x / (wh bs : Int) * ((cls bs).length : Int)).natAbs ≤ N * (cls bs).length := by
    rw [Int.natAbs_mul, Int.natAbs_natCast]
    exact Nat.mul_le_mul_right _ h1
  omega

end R
namespace R
open PySem PySem.Spec PyProof.Rows L2
theorem below_split {c : List Int} {y : Int} {n : Nat} (hn : n ≤ c.length) (h1 : ∀ (j : Nat) x, j < n → c[j]? = some x → x < y) (h2 : ∀ (j : Nat) x, n ≤ j → c[j]? = some x → ¬ x < y) : below c y = n := by
  unfold below
  have e : c = c.take n ++ c.drop n := (List.take_append_drop n c).symm
  rw [e, List.filter_append]
  rw [List.filter_eq_self.mpr fun z hz => ?_, List.filter_eq_nil_iff.mpr fun z hz => ?_, List.append_nil, List.length_take]
  · omega
  · obtain ⟨j, hj, ez⟩ := List.mem_iff_getElem.mp hz
    rw [List.length_drop] at hj
    rw [List.getElem_drop] at ez
    have q := h2 (n + j) z (by omega) (by rw [List.getElem?_eq_getElem (by omega), ez])
    simpa using q
  · obtain ⟨j, hj, ez⟩ := List.mem_iff_getElem.mp hz
    rw [List.length_take] at hj
    rw [List.getElem_take] at ez
    have q := h1 j z (by omega) (by rw [List.getElem?_eq_getElem (by omega), ez])
    simpa using q
theorem ups {c : List Int} (h : c.Pairwise (· < ·)) {i j : Nat} {x y : Int} (hi : c[i]? = some x) (hj : c[j]? = some y) (l : i ≤ j) : x ≤ y := by
  obtain ⟨a, ea⟩ := List.getElem?_eq_some_iff.mp hi
  obtain ⟨b, eb⟩ := List.getElem?_eq_some_iff.mp hj
  by_cases e : i = j
  · subst e
    rw [← ea, ← eb]
    exact Int.le_refl _
  · have := List.pairwise_iff_getElem.mp h i j a b (by omega)
    omega
/-- divmod of numbers that are not too great -/
theorem divp_small {i j : Int} (hj : 0 < j) (hi : i.natAbs < 2 ^ 3000) : CDivP i j := by
  refine divp_ok hj ?_
  have := PyProof.Rows.intBits_le hi
  omega
theorem nodup_len : ∀ {xs ys : List Int}, xs.Nodup → (∀ x ∈ xs, x ∈ ys) → xs.length ≤ ys.length
  | [], _, _, _ => Nat.zero_le _
  | x :: r, ys, n, h => by
    obtain ⟨n1, n2⟩ := List.nodup_cons.mp n
    have hx := h x List.mem_cons_self
    have ih := nodup_len (ys := ys.erase x) n2 fun y hy => (List.mem_erase_of_ne (fun e => n1 (by rw [← e]; exact hy))).mpr (h y (List.mem_cons_of_mem _ hy))
    rw [List.length_erase_of_mem hx] at ih
    have := List.length_pos_of_mem hx
    show r.length + 1 ≤ ys.length
    omega
theorem cls_choices {bs : List Bar} (S : SvOk bs) : (cls bs).length ≤ choices bs := by
  have h : ∀ bs : List Bar, (∀ b ∈ bs, BarOk b) → ∃ xs, ClsIs bs xs ∧ xs.length ≤ choices bs := by
    refine snocInd (fun _ => ⟨[0], ClsIs.nil, Nat.le_refl _⟩) fun bs b ih h => ?_
    obtain ⟨xs, C, hl⟩ := ih fun c hc => h c (List.mem_append_left _ hc)
    have B := h b (List.mem_append_right _ (List.mem_singleton.mpr rfl))
    have w1 : 0 < wh bs := wh_pos bs fun c hc => (h c (List.mem_append_left _ hc)).pos
    have m1 := B.pos
    have hg : 0 < Nat.gcd (wh bs) b.1.toNat := Nat.gcd_pos_of_pos_left _ w1
    obtain ⟨back, hb⟩ : ∃ back : Int, ((b.1.toNat / Nat.gcd (wh bs) b.1.toNat : Nat) : Int) ∣ ((wh bs / Nat.gcd (wh bs) b.1.toNat : Nat) : Int) * back - 1 := by
      have cop : Nat.gcd (wh bs / Nat.gcd (wh bs) b.1.toNat) (b.1.toNat / Nat.gcd (wh bs) b.1.toNat) = 1 := by
        rw [Nat.gcd_div (Nat.gcd_dvd_left _ _) (Nat.gcd_dvd_right _ _)]
        exact Nat.div_self hg
      have v1 : 1 ≤ wh bs / Nat.gcd (wh bs) b.1.toNat := Nat.div_pos (Nat.gcd_le_left _ w1) hg
      generalize wh bs / Nat.gcd (wh bs) b.1.toNat = n at cop v1
      generalize b.1.toNat / Nat.gcd (wh bs) b.1.toNat = m at cop
      have walk : ∀ (k : Nat) (r a F G : Nat) (f g : Int), a ≤ k → Euc n m r a F G f g → ∃ back : Int, (m : Int) ∣ (n : Int) * back - 1 := by
        intro k
        induction k with
        | zero =>
          intro r a F G f g ha E
          obtain rfl : a = 0 := by omega
          exact ⟨_, E.last⟩
        | succ k ih =>
          intro r a F G f g ha E
          by_cases h0 : a = 0
          · subst h0
            exact ⟨_, E.last⟩
          · exact ih _ _ _ _ _ _ (by have := Nat.mod_lt r (Nat.pos_of_ne_zero h0); omega) (E.step h0)
      exact walk m n m 1 0 1 0 (Nat.le_refl _) (Euc.start v1 cop)
    have ew : Nat.gcd (wh bs) b.1.toNat * (wh bs / Nat.gcd (wh bs) b.1.toNat) = wh bs := Nat.mul_div_cancel' (Nat.gcd_dvd_left _ _)
    have em : Nat.gcd (wh bs) b.1.toNat * (b.1.toNat / Nat.gcd (wh bs) b.1.toNat) = b.1.toNat := Nat.mul_div_cancel' (Nat.gcd_dvd_right _ _)
    have t1 : 1 ≤ b.1.toNat / Nat.gcd (wh bs) b.1.toNat := Nat.div_pos (Nat.gcd_le_right _ (by omega)) hg
    have M : Meet (Nat.gcd (wh bs) b.1.toNat : Nat) (b.1.toNat / Nat.gcd (wh bs) b.1.toNat : Nat) back (wh bs : Nat) (wh bs / Nat.gcd (wh bs) b.1.toNat : Nat) b.1 :=
      ⟨by omega, by omega, by omega, by rw [← Int.natCast_mul, ew], by rw [← Int.natCast_mul, em]; omega, hb⟩
    refine ⟨_, C.add M B.lot ?_, ?_⟩
    · rw [wh_add, show b.1.natAbs = b.1.toNat by omega, ← Int.natCast_mul]
      congr 1
      exact Nat.mul_div_assoc _ (Nat.gcd_dvd_right _ _)
    · rw [choices_add]
      exact Nat.le_trans (joinL_len _ _ _ _ _ _) (Nat.mul_le_mul hl (by omega))
  obtain ⟨xs, C, hl⟩ := h bs S.bar
  have h1 := nodup_len (cls_is bs).nd (ys := xs) fun x hx => (C.mem x).mpr ((cls_is bs).mem x |>.mp hx)
  exact Nat.le_trans h1 hl
theorem choices_cls {bs : List Bar} (S : SvOk bs) : (cls bs).length ≤ 2000 := Nat.le_trans (cls_choices S) S.many

end R
namespace R
open PySem PySem.Spec PyProof.Rows L2
def sp_p_share (K : PySem.W.Frag) (C : Addr) : Sp := fun vs H Q _ => ∃ (p : Addr) (v : V) (t : Addr) (bs : List Bar), vs = [.ref p] ∧ SvAt K C H p v t bs ∧
  ∀ (u : Addr) (H' : Hp), Same H H' → H' u = some (.tup [.int ((cls bs).length / Nat.gcd (cls bs).length (wh bs) : Nat), .int (wh bs / Nat.gcd (cls bs).length (wh bs) : Nat)]) → Q (.ref u) H'
theorem cls_len (bs : List Bar) : (cls bs).length ≤ wh bs := clsTo_len bs (wh bs)
section
variable {P : Program} {w : World} {K : PySem.W.Frag} {mg : Str → Option Value} {base : Heap}
theorem ok_p_share (T : Txt K mg) : FnOk P w K mg base CX0 4 T.f_p_share T.fd_p_share ["sieve"] (sp_p_share K T.C) := by
  refine T.F_p_share.ok sc_p_share (fun vs H Q E h => ?_) (fun cdv A outer s H vs Q E hr h => ?_)
  · obtain ⟨p, v, t, bs, rfl, _⟩ := h
    rfl
  · obtain ⟨p, v, t, bs, rfl, S, q⟩ := h
    refine ⟨_, (pss_cons (ps_set (i := 1) sc_p_share.nd rfl (by first | exact .inl rfl | exact .inr rfl) (pe_callB call_len_seq (by rfl) T.z_len (by decide +kernel) (pa_cons (pe_prop (pv 0) T.cl T.pp_classes (ok_m_Sieve_classes T) (hr.mono (by decide)) T.b_m_Sieve_classes .nil pass0 (by rfl)) pa_nil)))
      (pss_cons (ps_set (i := 2) sc_p_share.nd rfl (by first | exact .inl rfl | exact .inr rfl) (pe_callBfun cr_gcd (by rfl) T.g_gcd (pa_cons (pv 1) (pa_cons (pe_prop (pv 0) T.cl T.pp_whole (ok_m_Sieve_whole T) (hr.mono (by decide)) T.b_m_Sieve_whole .nil pass0 (by rfl)) pa_nil))))
      (pss_one (ps_ret (pe_tup (pa_cons (pe_op op_fdivW (pv 1) (pv 2)) (pa_cons (pe_op op_fdivW (pe_prop (pv 0) T.cl T.pp_whole (ok_m_Sieve_whole T) (hr.mono (by decide)) T.b_m_Sieve_whole .nil pass0 (by rfl)) (pv 2)) pa_nil))))))), ?_⟩
    have hp := S.ok.mods.pos
    have hw := S.ok.mods.lt
    have hn := cls_len bs
    have g1 : 0 < Nat.gcd (cls bs).length (wh bs) := Nat.gcd_pos_of_pos_right _ hp
    have g2 : Nat.gcd (cls bs).length (wh bs) ≤ wh bs := Nat.gcd_le_right _ hp
    refine ⟨_, rfl, p, _, _, rfl, S.ob.choose_spec, p, v, t, bs, rfl, S, t, _, rfl, .inr S.cls, ?_⟩
    refine ⟨_, rfl, _, rfl, p, _, _, rfl, S.ob.choose_spec, p, v, t, bs, rfl, S, _, _, rfl, ?_⟩
    rw [Int.natAbs_natCast, Int.natAbs_natCast, List.length_map]
    generalize Nat.gcd (cls bs).length (wh bs) = g at *
    refine ⟨_, rfl, _, rfl, _, _, rfl, rfl, wide_div (b := 131) (by omega) (by rw [Int.natAbs_natCast]; omega) (by decide) (by decide), ?_⟩
    refine ⟨_, rfl, p, _, _, rfl, S.ob.choose_spec, p, v, t, bs, rfl, S, _, rfl, _, _, rfl, rfl, wide_div (b := 131) (by omega) (by rw [Int.natAbs_natCast]; omega) (by decide) (by decide), ?_⟩
    refine ⟨sizeOk (by show (2 : Nat) ≤ 100000; decide), fun u nu => q u _ (same_upd nu) ?_⟩
    rw [upd_same]
    show some (HO.tup [.int (((cls bs).length : Int) / (g : Int)), .int ((wh bs : Int) / (g : Int))]) = _
    rw [divNat, divNat]
end

end R
namespace R
open PySem PySem.Spec PyProof.Rows L2
/-! ## values that are no numbers -/
/-- a value that is no number, index or the like: no integer, or one that is too great -/
def OddV (K : PySem.W.Frag) (H : Hp) (x : V) : Prop := kOdd K H x ∨ x = .int (10 ^ 30 + 1) ∨ x = .int (0 - 10 ^ 30 - 1)
theorem tyKeep {K : PySem.W.Frag} {H H' : Hp} {r L : Addr} {x : V} {t : Value} (h : TyX K H x t) (R : RowAt H r L) (s : Kp r H H') (R' : RowAt H' r L) : TyX K H' x t := by
  obtain ⟨ns, i, b, z, e, _⟩ := R.ex
  obtain ⟨ns', i', b', z', e', _⟩ := R'.ex
  have ne : ∀ {a : Addr} {o : HO}, H a = some o → (∀ zs, o ≠ .lst zs) → a ≠ r := fun {a o} h1 h2 w => by
    subst w
    rw [e] at h1
    exact h2 _ (Option.some.inj h1).symm
  cases h with
  | base h => cases h with
    | non => exact .base .non
    | bl b => exact .base (.bl b)
    | int i => exact .base (.int i)
    | str x => exact .base (.str x)
    | flt x => exact .base (.flt x)
    | lst h =>
      rename_i a xs
      by_cases w : a = r
      · subst w
        exact .base (.lst e')
      · exact .base (.lst (s _ _ w h))
    | frz h => exact .base (.frz (s _ _ (ne h (fun _ w => nomatch w)) h))
    | tup h => exact .base (.tup (s _ _ (ne h (fun _ w => nomatch w)) h))
    | dK h => exact .base (.dK (s _ _ (ne h (fun _ w => nomatch w)) h))
    | dT h => exact .base (.dT (s _ _ (ne h (fun _ w => nomatch w)) h))
    | ins h c1 c2 c3 c4 c5 => exact .base (.ins (s _ _ (ne h (fun _ w => nomatch w)) h) c1 c2 c3 c4 c5)
  | byt b => exact .byt b
  | set h => exact .set (s _ _ (ne h (fun _ w => nomatch w)) h)
  | kList e c => exact .kList e c
  | kTuple e c => exact .kTuple e c
  | kDict e c => exact .kDict e c
  | fTuple h => exact .fTuple (s _ _ (ne h (fun _ w => nomatch w)) h)
  | fDict h => exact .fDict (s _ _ (ne h (fun _ w => nomatch w)) h)
theorem tySame {K : PySem.W.Frag} {H H' : Hp} {x : V} {t : Value} (h : TyX K H x t) (s : Same H H') : TyX K H' x t := by
  cases h with
  | base h => cases h with
    | non => exact .base .non
    | bl b => exact .base (.bl b)
    | int i => exact .base (.int i)
    | str x => exact .base (.str x)
    | flt x => exact .base (.flt x)
    | lst h => exact .base (.lst (s _ _ h))
    | frz h => exact .base (.frz (s _ _ h))
    | tup h => exact .base (.tup (s _ _ h))
    | dK h => exact .base (.dK (s _ _ h))
    | dT h => exact .base (.dT (s _ _ h))
    | ins h c1 c2 c3 c4 c5 => exact .base (.ins (s _ _ h) c1 c2 c3 c4 c5)
  | byt b => exact .byt b
  | set h => exact .set (s _ _ h)
  | kList e c => exact .kList e c
  | kTuple e c => exact .kTuple e c
  | kDict e c => exact .kDict e c
  | fTuple h => exact .fTuple (s _ _ h)
  | fDict h => exact .fDict (s _ _ h)
theorem OddV.keep {K : PySem.W.Frag} {H H' : Hp} {r L : Addr} {x : V} (h : OddV K H x) (R : RowAt H r L) (s : Kp r H H') (R' : RowAt H' r L) : OddV K H' x := by
  rcases h with (h | ⟨t, h1, h2⟩) | h
  · exact .inl (.inl h)
  · exact .inl (.inr ⟨t, tyKeep h1 R s R', h2⟩)
  · exact .inr h
theorem OddV.same {K : PySem.W.Frag} {H H' : Hp} {x : V} (h : OddV K H x) (s : Same H H') : OddV K H' x := by
  rcases h with (h | ⟨t, h1, h2⟩) | h
  · exact .inl (.inl h)
  · exact .inl (.inr ⟨t, tySame h1 s, h2⟩)
  · exact .inr h

end R
namespace R
open PySem PySem.Spec PyProof.Rows L2
/-! ## numbers judged -/
def IsNum (x : Int) : Prop := -1000000000000000000000000000000 ≤ x ∧ x ≤ 1000000000000000000000000000000
theorem IsNum.size {x : Int} (h : IsNum x) : x.natAbs < 2 ^ 200 := by
  have : x.natAbs ≤ 1000000000000000000000000000000 := by
    unfold IsNum at h
    omega
  exact Nat.lt_of_le_of_lt this (by decide)
/-- what may be asked of any value: a number, an integer that is none, or something else -/
theorem OddV.cases {K : PySem.W.Frag} {H : Hp} {x : V} (h : OddV K H x) : kOdd K H x ∨ ∃ i, x = .int i ∧ ¬ IsNum i := by
  rcases h with h | rfl | rfl
  · exact .inl h
  · exact .inr ⟨_, rfl, by unfold IsNum; omega⟩
  · exact .inr ⟨_, rfl, by unfold IsNum; omega⟩
def sp_p_is_number (K : PySem.W.Frag) : Sp := fun vs H Q _ => ∃ x : V, vs = [x] ∧ ((∃ i, x = .int i ∧ IsNum i ∧ Q (.bl true) H) ∨ (OddV K H x ∧ Q (.bl false) H))
section
variable {P : Program} {w : World} {K : PySem.W.Frag} {mg : Str → Option Value} {base : Heap}
theorem ok_p_is_number (T : Txt K mg) : FnOk P w K mg base CX0 4 T.f_p_is_number T.fd_p_is_number ["value"] (sp_p_is_number K) := by
  refine T.F_p_is_number.ok sc_p_is_number (fun vs H Q E h => ?_) (fun cdv A outer s H vs Q E hr h => ?_)
  · obtain ⟨x, rfl, _⟩ := h
    rfl
  · obtain ⟨x, rfl, h⟩ := h
    refine ⟨_, (pss_one (ps_ret (pe_call (ok_p_integer_within T) (hr.mono (by decide)) (by rfl) T.g_p_integer_within T.F_p_integer_within.kp T.b_p_integer_within .nil pass0 (pa_cons (pv 0) (pa_cons (pe_un un_neg (pe_glob (v := .int 1000000000000000000000000000000) (by rfl) T.c_GREATEST_NUMBER.choose_spec ⟨_, rfl⟩)) (pa_cons (pe_glob (v := .int 1000000000000000000000000000000) (by rfl) T.c_GREATEST_NUMBER.choose_spec ⟨_, rfl⟩) pa_nil)))))), ?_⟩
    rcases h with ⟨i, rfl, hi, q⟩ | ⟨o, q⟩
    · refine ⟨_, rfl, _, rfl, _, _, _, rfl, .inl ⟨_, rfl, ?_⟩⟩
      rw [decide_eq_true hi.1, decide_eq_true hi.2]
      exact q
    · rcases o.cases with o | ⟨i, rfl, hi⟩
      · exact ⟨_, rfl, _, rfl, _, _, _, rfl, .inr ⟨o, q⟩⟩
      · refine ⟨_, rfl, _, rfl, _, _, _, rfl, .inl ⟨_, rfl, ?_⟩⟩
        have e : (decide (-1000000000000000000000000000000 ≤ i) && decide (i ≤ 1000000000000000000000000000000)) = false := by
          rw [← Bool.decide_and, decide_eq_false]
          exact hi
        show Q (.bl (decide (-1000000000000000000000000000000 ≤ i) && decide (i ≤ 1000000000000000000000000000000))) H
        rw [e]
        exact q
end

end R
namespace R
open PySem PySem.Spec PyProof.Rows L2
def sp_p_check_number (K : PySem.W.Frag) (B : Addr) : Sp := fun vs H Q E => ∃ x : V, vs = [x] ∧ ((∃ i, x = .int i ∧ IsNum i ∧ Q .non H) ∨ (OddV K H x ∧ E (.ref B) none H))
section
variable {P : Program} {w : World} {K : PySem.W.Frag} {mg : Str → Option Value} {base : Heap}
theorem ok_p_check_number (T : Txt K mg) : FnOk P w K mg base (L2.CX P w) 5 T.f_p_check_number T.fd_p_check_number ["value"] (sp_p_check_number K T.C_BadNumber) := by
  refine T.F_p_check_number.okX sc_p_check_number (fun vs H Q E h => ?_) (fun cdv A outer s H vs Q E hr h => ?_)
  · obtain ⟨x, rfl, _⟩ := h
    rfl
  · obtain ⟨x, rfl, h⟩ := h
    refine ⟨_, (pss_one (ps_if (pt_not (pt_val (pe_call (ok_p_is_number T) (hr.mono (by decide)) (by rfl) T.g_p_is_number T.F_p_is_number.kp T.b_p_is_number .nil pass0 (pa_cons (pv 0) pa_nil)))) (pss_one (ps_raise rfl (takes_of rfl rfl rfl rfl) (pmk_own PySem.F.excBase_ValueError T.x_BadNumber T.g_BadNumber T.k_BadNumber (raises_own T.b_BadNumber T.t_BadNumber) (by rfl)))) pss_nil)), ?_⟩
    rcases h with ⟨i, rfl, hi, q⟩ | ⟨o, q⟩
    · exact ⟨_, rfl, _, rfl, .inl ⟨i, rfl, hi, true, rfl, iteF q⟩⟩
    · exact ⟨_, rfl, _, rfl, .inr ⟨o, false, rfl, iteT q⟩⟩
end

end R
namespace R
open PySem PySem.Spec PyProof.Rows L2
/-! ## the list of the fitting numbers in a stretch, as a law makes it -/
def fitTo (bs : List Bar) (a : Int) (k : Nat) : List Int := ((List.range k).filter fun i : Nat => fitsB bs (a + i)).map fun i : Nat => a + i
theorem fitTo_len (bs : List Bar) (a : Int) (k : Nat) : (fitTo bs a k).length = cnt bs a k := List.length_map _
theorem fitTo_succ (bs : List Bar) (a : Int) (k : Nat) : fitTo bs a (k + 1) = fitTo bs a k ++ (if fitsB bs (a + k) = true then [a + k] else []) := by
  unfold fitTo
  rw [List.range_succ, List.filter_append, List.map_append]
  by_cases f : fitsB bs (a + k) = true
  · rw [List.filter_cons_of_pos (p := fun i : Nat => fitsB bs (a + i)) f, if_pos f]
    rfl
  · rw [List.filter_cons_of_neg (p := fun i : Nat => fitsB bs (a + i)) f, if_neg f]
    rfl
theorem fitTo_at {bs : List Bar} (hw : 0 < wh bs) (a : Int) : ∀ (k j : Nat) (x : Int), (fitTo bs a k)[j]? = some x → fitsB bs x = true ∧ pl bs x = pl bs a + j := by
  intro k
  induction k with
  | zero => intro j x h; simp [fitTo] at h
  | succ k ih =>
    intro j x h
    rw [fitTo_succ] at h
    by_cases hj : j < (fitTo bs a k).length
    · rw [List.getElem?_append_left hj] at h
      exact ih j x h
    · rw [List.getElem?_append_right (by omega)] at h
      by_cases f : fitsB bs (a + k) = true
      · rw [if_pos f] at h
        have hl := (List.getElem?_eq_some_iff.mp h).1
        have e : j = (fitTo bs a k).length := by
          have : [a + (k : Int)].length = 1 := rfl
          omega
        subst e
        rw [Nat.sub_self] at h
        cases Option.some.inj h
        refine ⟨f, ?_⟩
        rw [fitTo_len, pl_add hw]
      · rw [if_neg f] at h
        simp at h

end R
namespace R
open PySem PySem.Spec PyProof.Rows L2
def sp_p_classes_below (K : PySem.W.Frag) : Sp := fun vs H Q _ => ∃ (t : Addr) (c : List Int) (y : Int), vs = [.ref t, .int y] ∧ SqT K H t (c.map V.int) ∧ c.Pairwise (· < ·) ∧ c.length ≤ 100000 ∧ Q (.int (below c y : Nat)) H
def sp_p_place_from (K : PySem.W.Frag) (C : Addr) : Sp := fun vs H Q _ => ∃ (p : Addr) (v : V) (t : Addr) (bs : List Bar) (x : Int), vs = [.ref p, .int x] ∧ SvAt K C H p v t bs ∧ x.natAbs < 2 ^ 200 ∧ ∀ H', Same H H' → Q (.int (pl bs x)) H'
section
variable {P : Program} {w : World} {K : PySem.W.Frag} {mg : Str → Option Value} {base : Heap}
theorem ok_p_classes_below (T : Txt K mg) : FnOk P w K mg base CX0 2 T.f_p_classes_below T.fd_p_classes_below ["classes", "number"] (sp_p_classes_below K) := by
  refine T.F_p_classes_below.ok sc_p_classes_below (fun vs H Q E h => ?_) (fun cdv A outer s H vs Q E hr h => ?_)
  · obtain ⟨t, c, y, rfl, _⟩ := h
    rfl
  · obtain ⟨t, c, y, rfl, ht, hc, hl, q⟩ := h
    refine ⟨_, (pss_cons (ps_set (i := 2) sc_p_classes_below.nd rfl (by first | exact .inl rfl | exact .inr rfl) pe_int)
      (pss_cons (ps_set (i := 3) sc_p_classes_below.nd rfl (by first | exact .inl rfl | exact .inr rfl) (pe_callB call_len_seq (by rfl) T.z_len (by decide +kernel) (pa_cons (pv 0) pa_nil)))
      (pss_cons (ps_while PassesOwn.never (pt_cmpR op_lt (pv 2) (pv 3) (nomark _)) (pss_cons (ps_set (i := 4) sc_p_classes_below.nd rfl (by first | exact .inl rfl | exact .inr rfl) (pe_op op_fdivW (pe_op op_add (pv 2) (pv 3)) pe_int))
      (pss_one (ps_if (pt_cmpR op_lt (pe_ix ix_tup (pv 0) (pv 4) (fun _ _ => rfl)) (pv 1) (nomark _)) (pss_one (ps_set (i := 2) sc_p_classes_below.nd rfl (by first | exact .inl rfl | exact .inr rfl) (pe_op op_add (pv 4) pe_int))) (pss_one (ps_set (i := 3) sc_p_classes_below.nd rfl (by first | exact .inl rfl | exact .inr rfl) (pv 4)))))))
      (pss_one (ps_ret (pv 2)))))), ?_⟩
    refine ⟨_, rfl, t, _, rfl, .inr ht, ?_⟩
    rw [List.length_map]
    refine while_by (fun σ H2 => ∃ (lo hi : Nat) (m : Option V), σ = [some (.ref t), some (.int y), some (.int lo), some (.int hi), m] ∧ lo ≤ hi ∧ hi ≤ c.length ∧ (∀ (j : Nat) x, j < lo → c[j]? = some x → x < y) ∧
        (∀ (j : Nat) x, hi ≤ j → c[j]? = some x → ¬ x < y) ∧ H2 = H)
      (fun σ _ => match σ with | [_, _, some (.int lo), some (.int hi), _] => (hi - lo).toNat | _ => 0)
      ⟨0, c.length, none, rfl, Nat.zero_le _, Nat.le_refl _, fun j x h => by omega, fun j x h e => by have := (List.getElem?_eq_some_iff.mp e).1; omega, rfl⟩ ?_ ?_
    · rintro σ H2 ⟨lo, hi, m, rfl, h1, h2, h3, h4, rfl⟩
      refine ⟨_, rfl, _, rfl, _, _, rfl, rfl, _, rfl, ite2 (fun e => ?_) (fun e => ?_)⟩
      · have e' := of_decide_eq_true e
        have em : ((lo : Int) + (hi : Int)) / 2 = (((lo + hi) / 2 : Nat) : Int) := by omega
        refine ⟨_, rfl, _, rfl, _, _, rfl, rfl, _, _, rfl, rfl, wide_div (b := 3) (by decide) (by decide) (by decide) (by decide), ?_⟩
        have hm : (lo + hi) / 2 < c.length := by omega
        have ex : c[(lo + hi) / 2]? = some c[(lo + hi) / 2] := List.getElem?_eq_getElem hm
        generalize c[(lo + hi) / 2] = x at ex
        have at1 : atI (c.map V.int) (((lo : Int) + (hi : Int)) / 2) = some (.int x) := by
          rw [em]
          refine atI_nat ?_
          rw [List.getElem?_map, ex]
          rfl
        refine ⟨_, rfl, _, rfl, t, _, _, _, rfl, rfl, ht, at1, _, rfl, _, _, rfl, rfl, _, rfl, ite2 (fun f => ?_) (fun f => ?_)⟩
        · have f' := of_decide_eq_true f
          refine ⟨_, rfl, _, _, rfl, rfl, ⟨(lo + hi) / 2 + 1, hi, some (.int (((lo + hi) / 2 : Nat) : Int)), ?_, by omega, h2, fun j z hj ez => ?_, h4, rfl⟩, ?_⟩
          · rw [show ((((lo + hi) / 2 + 1 : Nat)) : Int) = (((lo + hi) / 2 : Nat) : Int) + 1 from rfl, ← em]
            rfl
          · have := ups hc ez ex (by omega)
            omega
          · show ((hi : Int) - (((lo : Int) + (hi : Int)) / 2 + 1)).toNat < ((hi : Int) - (lo : Int)).toNat
            omega
        · have f' : ¬ x < y := fun z => f (decide_eq_true z)
          refine ⟨_, rfl, ⟨lo, (lo + hi) / 2, some (.int (((lo + hi) / 2 : Nat) : Int)), ?_, by omega, by omega, h3, fun j z hj ez => ?_, rfl⟩, ?_⟩
          · rw [← em]
            rfl
          · have := ups hc ex ez (by omega)
            omega
          · show (((lo : Int) + (hi : Int)) / 2 - (lo : Int)).toNat < ((hi : Int) - (lo : Int)).toNat
            omega
      · have e' : ¬ (lo : Int) < (hi : Int) := fun z => e (decide_eq_true z)
        obtain rfl : lo = hi := by omega
        refine ⟨_, rfl, ?_⟩
        rw [below_split h2 h3 h4] at q
        exact q
    · intro σ H2 Q1 Q2 hQ h
      obtain ⟨v, hv, v2, hv2, i, j, h5, h6, k, hk, hq⟩ := h
      exact ⟨v, hv, v2, hv2, i, j, h5, h6, k, hk, hQ _ _ hq⟩
theorem ok_p_place_from (T : Txt K mg) : FnOk P w K mg base CX0 4 T.f_p_place_from T.fd_p_place_from ["sieve", "number"] (sp_p_place_from K T.C) := by
  refine T.F_p_place_from.ok sc_p_place_from (fun vs H Q E h => ?_) (fun cdv A outer s H vs Q E hr h => ?_)
  · obtain ⟨p, v, t, bs, x, rfl, _⟩ := h
    rfl
  · obtain ⟨p, v, t, bs, x, rfl, S, hx, q⟩ := h
    refine ⟨_, (pss_cons (ps_asg (pe_callB call_divmodW (by rfl) T.z_divmod (by decide +kernel) (pa_cons (pv 1) (pa_cons (pe_prop (pv 0) T.cl T.pp_whole (ok_m_Sieve_whole T) (hr.mono (by decide)) T.b_m_Sieve_whole .nil pass0 (by rfl)) pa_nil))) (pg_tup (by rfl) (pgs_cons (pg_name (i := 2) sc_p_place_from.nd rfl (by first | exact .inl rfl | exact .inr rfl)) (pgs_cons (pg_name (i := 3) sc_p_place_from.nd rfl (by first | exact .inl rfl | exact .inr rfl)) pgs_nil))))
      (pss_one (ps_ret (pe_op op_add (pe_op op_mulW (pv 2) (pe_callB call_len_seq (by rfl) T.z_len (by decide +kernel) (pa_cons (pe_prop (pv 0) T.cl T.pp_classes (ok_m_Sieve_classes T) (hr.mono (by decide)) T.b_m_Sieve_classes .nil pass0 (by rfl)) pa_nil))) (pe_call (ok_p_classes_below T) (hr.mono (by decide)) (by rfl) T.g_p_classes_below T.F_p_classes_below.kp T.b_p_classes_below .nil pass0 (pa_cons (pe_prop (pv 0) T.cl T.pp_classes (ok_m_Sieve_classes T) (hr.mono (by decide)) T.b_m_Sieve_classes .nil pass0 (by rfl)) (pa_cons (pv 3) pa_nil))))))), ?_⟩
    have hw := S.ok.mods.pos
    have hn := choices_cls S.ok
    refine ⟨_, rfl, _, rfl, p, _, _, rfl, S.ob.choose_spec, p, v, t, bs, rfl, S, _, _, rfl, divp_small (by omega) (Nat.lt_of_lt_of_le hx (by decide)), fun d nd => ?_⟩
    have S1 := S.stay (same_upd nd (o := .tup [.int (x / (wh bs : Int)), .int (x % (wh bs : Int))]))
    refine ⟨d, _, rfl, tupOf upd_same, rfl, _, _, rfl, _, _, rfl, rfl, ?_⟩
    refine ⟨_, rfl, _, rfl, p, _, _, rfl, S1.ob.choose_spec, p, v, t, bs, rfl, S1, t, _, rfl, .inr S1.cls, _, _, rfl, rfl, ?_, ?_⟩
    · have h1 : (x / (wh bs : Int)).natAbs ≤ x.natAbs := Int.natAbs_ediv_le_natAbs _ _
      rw [List.length_map]
      exact wide_mul (a := 200) (b := 20) (by omega) (by rw [Int.natAbs_natCast]; omega) (by decide) (by decide) (by decide)
    · refine ⟨_, rfl, p, _, _, rfl, S1.ob.choose_spec, p, v, t, bs, rfl, S1, _, rfl, t, cls bs, _, rfl, S1.cls, cls_up bs, by omega, _, _, rfl, rfl, ?_⟩
      rw [List.length_map]
      exact q _ (same_upd nd)
end

end R
namespace R
open PySem PySem.Spec PyProof.Rows L2
theorem st_add {bs : List Bar} (hn : 0 < (cls bs).length) (q u : Int) : st bs (q + u * ((cls bs).length : Int)) = st bs q + u * (wh bs : Int) := by
  unfold st
  rw [Int.add_mul_ediv_right _ _ (by omega), Int.add_mul_emod_self_right, Int.add_mul]
  omega
def sp_p_standing_at (K : PySem.W.Frag) (C : Addr) : Sp := fun vs H Q _ => ∃ (p : Addr) (v : V) (t : Addr) (bs : List Bar) (x : Int), vs = [.ref p, .int x] ∧ SvAt K C H p v t bs ∧ 0 < (cls bs).length ∧ x.natAbs < 2 ^ 300 ∧ ∀ H', Same H H' → Q (.int (st bs x)) H'
section
variable {P : Program} {w : World} {K : PySem.W.Frag} {mg : Str → Option Value} {base : Heap}
theorem ok_p_standing_at (T : Txt K mg) : FnOk P w K mg base CX0 4 T.f_p_standing_at T.fd_p_standing_at ["sieve", "place"] (sp_p_standing_at K T.C) := by
  refine T.F_p_standing_at.ok sc_p_standing_at (fun vs H Q E h => ?_) (fun cdv A outer s H vs Q E hr h => ?_)
  · obtain ⟨p, v, t, bs, x, rfl, _⟩ := h
    rfl
  · obtain ⟨p, v, t, bs, x, rfl, S, hn, hx, q⟩ := h
    refine ⟨_, (pss_cons (ps_asg (pe_callB call_divmodW (by rfl) T.z_divmod (by decide +kernel) (pa_cons (pv 1) (pa_cons (pe_callB call_len_seq (by rfl) T.z_len (by decide +kernel) (pa_cons (pe_prop (pv 0) T.cl T.pp_classes (ok_m_Sieve_classes T) (hr.mono (by decide)) T.b_m_Sieve_classes .nil pass0 (by rfl)) pa_nil)) pa_nil))) (pg_tup (by rfl) (pgs_cons (pg_name (i := 2) sc_p_standing_at.nd rfl (by first | exact .inl rfl | exact .inr rfl)) (pgs_cons (pg_name (i := 3) sc_p_standing_at.nd rfl (by first | exact .inl rfl | exact .inr rfl)) pgs_nil))))
      (pss_one (ps_ret (pe_op op_add (pe_op op_mulW (pv 2) (pe_prop (pv 0) T.cl T.pp_whole (ok_m_Sieve_whole T) (hr.mono (by decide)) T.b_m_Sieve_whole .nil pass0 (by rfl))) (pe_ix ix_tup (pe_prop (pv 0) T.cl T.pp_classes (ok_m_Sieve_classes T) (hr.mono (by decide)) T.b_m_Sieve_classes .nil pass0 (by rfl)) (pv 3) (fun _ _ => rfl)))))), ?_⟩
    have hw := S.ok.mods.pos
    have hw2 := S.ok.mods.lt
    refine ⟨_, rfl, _, rfl, p, _, _, rfl, S.ob.choose_spec, p, v, t, bs, rfl, S, t, _, rfl, .inr S.cls, ?_⟩
    rw [List.length_map]
    refine ⟨_, _, rfl, divp_small (by omega) (Nat.lt_of_lt_of_le hx (by decide)), fun d nd => ?_⟩
    have S1 := S.stay (same_upd nd (o := .tup [.int (x / ((cls bs).length : Int)), .int (x % ((cls bs).length : Int))]))
    refine ⟨d, _, rfl, tupOf upd_same, rfl, _, _, rfl, _, _, rfl, rfl, ?_⟩
    obtain ⟨y, ey, es, y0, y1, f⟩ := st_parts (q := x) hw hn
    have r0 := Int.emod_nonneg x (show ((cls bs).length : Int) ≠ 0 by omega)
    refine ⟨_, rfl, _, rfl, p, _, _, rfl, S1.ob.choose_spec, p, v, t, bs, rfl, S1, _, _, rfl, rfl, ?_, _, rfl, p, _, _, rfl, S1.ob.choose_spec, p, v, t, bs, rfl, S1, _, rfl, t, _, _, .int y, rfl, rfl, S1.cls, ?_, _, _, rfl, rfl, ?_⟩
    · have h1 : (x / ((cls bs).length : Int)).natAbs ≤ x.natAbs := Int.natAbs_ediv_le_natAbs _ _
      exact wide_mul (a := 300) (b := 140) (by omega) (by rw [Int.natAbs_natCast]; omega) (by decide) (by decide) (by decide)
    · refine at_of (j := (x % ((cls bs).length : Int)).toNat) (by omega) ?_
      rw [List.getElem?_map, ey]
      rfl
    · rw [es, Int.add_comm] at q
      exact q _ (same_upd nd)
end

end R
namespace R
open PySem PySem.Spec PyProof.Rows L2
/-! ## integers off their limits -/
/-- no integer from lo to hi -/
def OffI (K : PySem.W.Frag) (H : Hp) (lo hi : Int) (x : V) : Prop := kOdd K H x ∨ ∃ i, x = .int i ∧ ¬ (lo ≤ i ∧ i ≤ hi)
theorem offNo {lo hi i : Int} (h : ¬ (lo ≤ i ∧ i ≤ hi)) : (decide (lo ≤ i) && decide (i ≤ hi)) = false := by
  rw [← Bool.decide_and, decide_eq_false h]
theorem onYes {lo hi i : Int} (h1 : lo ≤ i) (h2 : i ≤ hi) : (decide (lo ≤ i) && decide (i ≤ hi)) = true := by
  rw [decide_eq_true h1, decide_eq_true h2]
  rfl

end R
namespace R
open PySem PySem.Spec PyProof.Rows L2
def sp_p_check_some (K : PySem.W.Frag) (C B : Addr) : Sp := fun vs H Q E => ∃ (p : Addr) (v : V) (t : Addr) (bs : List Bar), vs = [.ref p] ∧ SvAt K C H p v t bs ∧
  ((cls bs ≠ [] ∧ ∀ H', Same H H' → Q .non H') ∨ (cls bs = [] ∧ ∀ H', Same H H' → E (.ref B) none H'))
section
variable {P : Program} {w : World} {K : PySem.W.Frag} {mg : Str → Option Value} {base : Heap}
theorem ok_p_check_some (T : Txt K mg) : FnOk P w K mg base (L2.CX P w) 4 T.f_p_check_some T.fd_p_check_some ["sieve"] (sp_p_check_some K T.C T.C_Nothing) := by
  refine T.F_p_check_some.okX sc_p_check_some (fun vs H Q E h => ?_) (fun cdv A outer s H vs Q E hr h => ?_)
  · obtain ⟨p, v, t, bs, rfl, _⟩ := h
    rfl
  · obtain ⟨p, v, t, bs, rfl, S, h⟩ := h
    refine ⟨_, (pss_one (ps_if (pt_cmpR (op_eqD hr.units) (pe_prop (pv 0) T.cl T.pp_classes (ok_m_Sieve_classes T) (hr.mono (by decide)) T.b_m_Sieve_classes .nil pass0 (by rfl)) (pe_tup pa_nil) (nomark _)) (pss_one (ps_raise rfl (takes_of rfl rfl rfl rfl) (pmk_own PySem.F.excBase_ValueError T.x_Nothing T.g_Nothing T.k_Nothing (raises_own T.b_Nothing T.t_Nothing) (by rfl)))) pss_nil)), ?_⟩
    refine ⟨_, rfl, p, _, _, rfl, S.ob.choose_spec, p, v, t, bs, rfl, S, sizeOk (by show (0 : Nat) ≤ 100000; decide), fun d nd => ?_⟩
    have s1 : Same H (upd H d (.tup [])) := same_upd nd
    refine ⟨_, _, dpTup (Same.seqTT s1 S.cls), .tup (tupOf upd_same) .nil, (okD.tup (okInts _)).shaped (by decide), by decide, _, rfl, ?_⟩
    rw [eqvNilT]
    rcases h with ⟨h, q⟩ | ⟨h, q⟩
    · rw [decide_eq_false h]
      exact iteF (q _ s1)
    · rw [decide_eq_true h]
      exact iteT (q _ s1)
end

end R
namespace R
open PySem PySem.Spec PyProof.Rows L2
/-! ## moduli checked -/
def sp_p_check_modulus (K : PySem.W.Frag) (B : Addr) : Sp := fun vs H Q E => ∃ (x : V) (hi : Int), vs = [x, .int hi] ∧ ((∃ i, x = .int i ∧ 1 ≤ i ∧ i ≤ hi ∧ Q .non H) ∨ (OffI K H 1 hi x ∧ E (.ref B) none H))
section
variable {P : Program} {w : World} {K : PySem.W.Frag} {mg : Str → Option Value} {base : Heap}
theorem ok_p_check_modulus (T : Txt K mg) : FnOk P w K mg base (L2.CX P w) 4 T.f_p_check_modulus T.fd_p_check_modulus ["value", "greatest"] (sp_p_check_modulus K T.C_BadModulus) := by
  refine T.F_p_check_modulus.okX sc_p_check_modulus (fun vs H Q E h => ?_) (fun cdv A outer s H vs Q E hr h => ?_)
  · obtain ⟨x, hi, rfl, _⟩ := h
    rfl
  · obtain ⟨x, hi, rfl, h⟩ := h
    refine ⟨_, (pss_one (ps_if (pt_not (pt_val (pe_call (ok_p_integer_within T) (hr.mono (by decide)) (by rfl) T.g_p_integer_within T.F_p_integer_within.kp T.b_p_integer_within .nil pass0 (pa_cons (pv 0) (pa_cons pe_int (pa_cons (pv 1) pa_nil)))))) (pss_one (ps_raise rfl (takes_of rfl rfl rfl rfl) (pmk_own PySem.F.excBase_ValueError T.x_BadModulus T.g_BadModulus T.k_BadModulus (raises_own T.b_BadModulus T.t_BadModulus) (by rfl)))) pss_nil)), ?_⟩
    rcases h with ⟨i, rfl, h1, h2, q⟩ | ⟨o | ⟨i, rfl, o⟩, q⟩
    · refine ⟨_, rfl, _, rfl, _, 1, hi, rfl, .inl ⟨i, rfl, _, rfl, ?_⟩⟩
      rw [onYes h1 h2]
      exact iteF q
    · exact ⟨_, rfl, _, rfl, _, 1, hi, rfl, .inr ⟨o, _, rfl, iteT q⟩⟩
    · refine ⟨_, rfl, _, rfl, _, 1, hi, rfl, .inl ⟨i, rfl, _, rfl, ?_⟩⟩
      rw [offNo o]
      exact iteT q
end

end R
namespace R
open PySem PySem.Spec PyProof.Rows L2
/-! ## an empty set -/
abbrev noSet (w : World) : Obj := { cls := .type "set", dict := none, data := .set #[] 0 (.fresh 0 0 (!w.params.followText "set-order")) }

end R
namespace R
open PySem PySem.Spec PyProof.Rows L2
/-! ## {e for t in it if ..}, e an int -/
open PpSet in
/-- D the new set; W by the turn and a measure -/
def tScI (w : World) (wi : TI) (g : TG) (tt : TT) (te : TE) (vs : List Nat) : TE := fun σ H Q => wi σ H fun J H1 => ∀ D, H1 D = none →
  ∃ W : Nat → Nat → Hp → Prop, (∃ m, W 0 m (upd H1 D (SetO w D (fun _ => false) 0))) ∧ ∀ i m H, W i m H → (J.stop i H ∧ Q (.ref D) H) ∨
    (J.go i H ∧ ∃ Nx : Hp → Prop, (∀ H', Nx H' → ∃ m', m' < m ∧ W (i + 1) m' H') ∧ ∀ x H', J.yld i H x H' → g x (wipe σ vs) H' fun σ2 H2 => wipe σ2 vs = wipe σ vs ∧ tt σ2 H2 fun b H3 =>
      if b = true then te σ2 H3 fun y H4 => ∃ (c : Int) (S : Int → Bool) (n : Nat), y = .int c ∧ H4 D = some (SetO w D S n) ∧ n + 1 < scanBound ∧ Nx (upd H4 D (SetO w D (fun j => S j || decide (j = c)) (if S c = true then n else n + 1))) else Nx H3)
open PpSet in
theorem addI_ok {X : Cx} {pins : List (Addr × Obj)} {σ : L2.St} {H : Hp} {s : Shared} {E : Value → Shared → Prop} {D : Addr} {S : Int → Bool} {n : Nat} {y : Int} {tk : Tok} {Q : Value → Shared → Prop} (I : Inv X pins σ H s)
    (hD : H D = some (SetO X.w D S n)) (room : n + 1 < scanBound) (h : ∀ s', Inv X pins σ (upd H D (SetO X.w D (fun j => S j || decide (j = y)) (if S y = true then n else n + 1))) s' → Q .none s') :
    wpAny (model X.prog X.w) X.A (call (.builtin "set.add") [.ref D, .int y tk]) Q E s := by
  refine setR_add (setO_get I hD) room fun h' sb new => h _ ?_
  obtain ⟨o, _, _, _, ho, _⟩ := id new
  exact I.write (e := D) (t' := s.toks + 1) (by rw [hD]; trivial) (.inl rfl) (fun b u hb hu => (sb.2 b hb).trans hu) ⟨o, ho⟩ (setO_new new)
open PpSet in
set_option maxHeartbeats 8000000 in
theorem scI_core {X : Cx} {pins : List (Addr × Obj)} {s : Shared} {σ : L2.St} {H : Hp} {Q : VK} {elt tg iter : Expr} {ifs : List Expr} {scope : Scope} {own : List (PySem.Str × Nat)} {pos pos' : Pos} {wi : TI} {g : TG} {tt : TT} {te : TE}
    {use : Option (Value → Sem Unit)} {Qf : Value → Shared → Prop} (hc : X.calm = true) (hN : X.N.Nodup) (I : Inv X pins σ H s) (hi : PI X tg iter wi) (ok : BlkOk X.N X.env.scope scope own)
    (hg : ∀ (s : Shared) (H : Hp) (C : Addr) (cl : List (PySem.Str × Addr)) (fp : List Addr), PG (X.blk s H scope (compEnvC scope cl C X.env) fp) tg g)
    (ht : ∀ (s : Shared) (H : Hp) (C : Addr) (cl : List (PySem.Str × Addr)) (fp : List Addr), PTs (X.blk s H scope (compEnvC scope cl C X.env) fp) ifs tt)
    (he : ∀ (s : Shared) (H : Hp) (C : Addr) (cl : List (PySem.Str × Addr)) (fp : List Addr), PE (X.blk s H scope (compEnvC scope cl C X.env) fp) elt te) (hs : ∀ x, foldedSetIterable iter X.env x = pure x)
    (h : tScI X.w wi g tt te (own.map (·.2)) σ H Q)
    (last : ∀ D C s' m H', Inv X pins σ H' s' → Q (.ref D) H' → s'.heap.Ns C m → FpOk X pins H' C → compPost (model X.prog X.w) X.A X.xe use Qf (.ref D) C (.ok .next) s') :
    wpAny (model X.prog X.w) X.A (comprehension (.SetComp elt [⟨tg, iter, ifs, 0⟩] scope pos) scope X.env pos' (newSet (.type "set")) false (eval iter X.env) use) Qf X.xe s := by
  have cap : ∀ y ∈ scope.names, y.2 = .free → ∃ c, X.env.cells.lookup y.1 = some c := fun y hy e => I.ok.has _ (ok.free y hy e)
  refine wpAny_comprehension_free (use := use) rfl hs (closure_ok cap) ok.kind (fun y hy e => by rw [ok.uniq y hy, e]) (thn (hi.run pins s σ H _ I h) fun xv s1 hx => thn hx fun itv s2 h2 => ?_)
  obtain ⟨it, fp, tn, J, H2, e, I2, T, st2, f2, q⟩ := h2
  subst e
  refine newSet_ok (newEnv_comp ?_)
  generalize hD : s2.heap.objs.size = D
  have fresh := I2.hok.fresh (Nat.le_of_eq hD)
  obtain ⟨W, ⟨m0, w0⟩, turn⟩ := q D fresh
  generalize hs3 : ({ s2 with heap := s2.heap.push (noSet X.w) } : Shared) = s3
  have h3 : s3.heap = s2.heap.push (noSet X.w) := hs3 ▸ rfl
  have I3 : Inv X pins σ (upd H2 D (SetO X.w D (fun _ => false) 0)) s3 := by
    rw [← hs3]
    refine I2.laid (t' := s2.toks) (fun b o e => Heap.get?_push_of_some _ e) (Nat.le_of_eq hD) ?_
    subst hD
    exact setO_new (setR_fresh X.w)
  have old : ∀ b ∈ fp, b < s2.heap.objs.size := fun b hb => let ⟨_, e, _⟩ := T.obj _ _ st2 b hb; Heap.lt_size e
  have f3 : ∀ b ∈ fp, FpOk X pins (upd H2 D (SetO X.w D (fun _ => false) 0)) b ∧ b < s3.heap.objs.size := fun b hb => by
    have lt := old b hb
    refine ⟨⟨?_, (f2 b hb).2⟩, h3 ▸ (by rw [Heap.size_push]; exact Nat.lt_succ_of_lt lt)⟩
    rw [upd_ne (hD ▸ Nat.ne_of_lt lt)]
    exact (f2 b hb).1
  have st3 : tn 0 s3.heap := T.keep _ _ _ st2 fun b _ o e => h3 ▸ Heap.get?_push_of_some _ e
  have I4 := block_start I3 ok hN f3
  have pg := hg s3 (upd H2 D (SetO X.w D (fun _ => false) 0)) s3.heap.objs.size (cellsFrom (s3.heap.objs.size + 1) scope.names (cloFrom X.env.cells scope.names [])) fp
  have pt := ht s3 (upd H2 D (SetO X.w D (fun _ => false) 0)) s3.heap.objs.size (cellsFrom (s3.heap.objs.size + 1) scope.names (cloFrom X.env.cells scope.names [])) fp
  have pe := he s3 (upd H2 D (SetO X.w D (fun _ => false) 0)) s3.heap.objs.size (cellsFrom (s3.heap.objs.size + 1) scope.names (cloFrom X.env.cells scope.names [])) fp
  show codeAny _ _ (.compStart (.SetComp elt [⟨tg, iter, ifs, 0⟩] scope pos) 0 (.ref it) (.ref D) (compEnvC scope (cellsFrom (s3.heap.objs.size + 1) scope.names (cloFrom X.env.cells scope.names [])) s3.heap.objs.size X.env))
    (compPost (model X.prog X.w) X.A X.xe use Qf (.ref D) s3.heap.objs.size) { s3 with heap := pushCells (s3.heap.push { cls := .type "dict", data := .dict #[] }) scope.names }
  have none3 : ∀ b ∈ fp, (upd H2 D (SetO X.w D (fun _ => false) 0)) b = none := fun b hb => (f3 b hb).1.1
  generalize hce : compEnvC scope (cellsFrom (s3.heap.objs.size + 1) scope.names (cloFrom X.env.cells scope.names [])) s3.heap.objs.size X.env = ce at I4 pg pt pe ⊢
  have cL : ce.locals = s3.heap.objs.size := hce ▸ rfl
  generalize hH3 : upd H2 D (SetO X.w D (fun _ => false) 0) = H3 at I3 I4 pg pt pe w0 none3 f3
  generalize hs4 : ({ s3 with heap := pushCells (s3.heap.push { cls := .type "dict", data := .dict #[] }) scope.names } : Shared) = s4 at I4 ⊢
  have st4 : tn 0 s4.heap := T.keep _ _ _ st3 fun b _ o e => hs4 ▸ pushCells_keeps _ _ _ _ (Heap.get?_push_of_some _ e)
  have still : ∀ {σ' : L2.St} {H' : Hp} {s' : Shared}, Inv (X.blk s3 H3 scope ce fp) [] σ' H' s' → (∀ b ∈ fp, H' b = none) → ∀ b ∈ fp, FpOk (X.blk s3 H3 scope ce fp) [] H' b := by
    intro σ' H' s' I' hn b hb
    obtain ⟨x1, x2⟩ := I'.ok.exf b hb
    exact ⟨hn b hb, x1, I'.ok.exfs b hb, .inl hb, x2, fun p hp => absurd (show p ∈ ([] : List (Addr × Obj)) ++ [] from hp) (by simp)⟩
  have loop : codeAny (model X.prog X.w) X.A (.compLoop (.SetComp elt [⟨tg, iter, ifs, 0⟩] scope pos) 0 (.ref it) (.ref D) ce) (compPost (model X.prog X.w) X.A X.xe use Qf (.ref D) s3.heap.objs.size) s4 := by
    refine compLoopS_any (fun n s' => ∃ i H', Inv (X.blk s3 H3 scope ce fp) [] (wipe σ (own.map (·.2))) H' s' ∧ tn i s'.heap ∧ (∀ b ∈ fp, H' b = none) ∧ W i n H') ?_ m0 ⟨0, H3, I4, st4, none3, w0⟩
    rintro n s5 ⟨i, H5, I5, st5, n5, w5⟩
    rcases turn i n H5 w5 with ⟨stop, done⟩ | ⟨go, Nx, hNx, step⟩
    · refine thnF (T.done (X.blk s3 H3 scope ce fp) rfl rfl rfl hc i [] s5 _ H5 (fun _ _ => False) I5 (still I5 n5) st5 stop) fun r s6 ⟨hr, I6⟩ => ?_
      subst hr
      have I7 : Inv X pins σ H5 s6 := I3.call' (ch := fp) I6.os I6.base I6.hok I6.bare fun b hb => let z := (f3 b hb).1.2; ⟨z.2.2.1, z.1, z.2.2.2.1, z.2.2.2.2⟩
      have gone : H5 s3.heap.objs.size = none := cL ▸ (show H5 ce.locals = none from I6.free)
      obtain ⟨m, hm, _⟩ := I6.loc
      have hm' : s6.heap.Ns ce.locals m := hm
      rw [cL] at hm'
      exact last D s3.heap.objs.size s6 m H5 I7 done hm' (I3.fpOk (Nat.le_refl _) gone)
    · refine thnF (T.item (X.blk s3 H3 scope ce fp) rfl rfl rfl hc i [] s5 _ H5 (fun _ _ => False) I5 (still I5 n5) st5 go) fun r s6 ⟨u, hr, h6⟩ => ?_
      subst hr
      refine thnF h6 fun _ s7 ⟨x, H7, I7, r7, y7, st7, n7⟩ => ?_
      have I7' := I7.pinned (still I7 n7) (T.obj _ _ st7)
      refine thnF (pg.run _ s7 _ H7 x u _ I7' r7 (step x H7 y7)) fun _ s8 ⟨σ8, H8, I8, hw8, q8⟩ => ?_
      refine thnF (pt.run _ s8 σ8 H8 _ I8 q8) fun b s9 ⟨H9, I9, q9⟩ => ?_
      have fin : ∀ {s' : Shared} {H' : Hp}, Inv (X.blk s3 H3 scope ce fp) ([] ++ pinsAt fp s7.heap) σ8 H' s' → Nx H' →
          ∃ m, m < n ∧ ∃ i H', Inv (X.blk s3 H3 scope ce fp) [] (wipe σ (own.map (·.2))) H' s' ∧ tn i s'.heap ∧ (∀ b ∈ fp, H' b = none) ∧ W i m H' := by
        intro s' H' I' nx
        obtain ⟨m', hm, w'⟩ := hNx H' nx
        have pinned : ∀ b ∈ fp, ∀ o, s7.heap.get? b = some o → s'.heap.get? b = some o ∧ H' b = none := fun b hb o e => by
          have z := I'.pin (b, o) (List.mem_append_right _ (List.mem_append_right _ (mem_pinsAt hb e)))
          exact ⟨z.1, z.2.1⟩
        have len : (wipe σ (own.map (·.2))).length = σ8.length := by rw [← hw8, wipe_length]
        refine ⟨m', hm, i + 1, H', (I'.unpinned (pins := [])).weak len (fun j v e => (wipe_some (hw8 ▸ e)).1), T.keep _ _ _ st7 fun b hb o e => (pinned b hb o e).1, fun b hb => ?_, w'⟩
        obtain ⟨o, e, _⟩ := T.obj _ _ st7 b hb
        exact (pinned b hb o e).2
      cases b with
      | false =>
        rw [if_neg Bool.false_ne_true] at q9 ⊢
        exact fin I9 q9
      | true =>
        rw [if_pos rfl] at q9 ⊢
        refine thnF (pe.run _ s9 σ8 H9 _ I9 q9) fun z s10 ⟨yv, H10, I10, r10, c, S0, n0, ey, hD10, room, nx⟩ => ?_
        subst ey
        obtain ⟨tk, rfl⟩ : ∃ t, z = Value.int c t := r10
        exact addI_ok (X := X.blk s3 H3 scope ce fp) I10 hD10 room fun s11 I11 => fin I11 nx
  exact codeAny_compStart_set loop (T.self X.A 0 _ _ _ st4 loop)
open PpSet in
theorem pe_scI {X : Cx} {elt tg iter : Expr} {ifs : List Expr} {scope : Scope} {own : List (PySem.Str × Nat)} {pos : Pos} {wi : TI} {g : TG} {tt : TT} {te : TE} (hc : X.calm = true) (hN : X.N.Nodup) (hi : PI X tg iter wi)
    (ok : BlkOk X.N X.env.scope scope own) (hg : ∀ (s : Shared) (H : Hp) (C : Addr) (cl : List (PySem.Str × Addr)) (fp : List Addr), PG (X.blk s H scope (compEnvC scope cl C X.env) fp) tg g)
    (ht : ∀ (s : Shared) (H : Hp) (C : Addr) (cl : List (PySem.Str × Addr)) (fp : List Addr), PTs (X.blk s H scope (compEnvC scope cl C X.env) fp) ifs tt)
    (he : ∀ (s : Shared) (H : Hp) (C : Addr) (cl : List (PySem.Str × Addr)) (fp : List Addr), PE (X.blk s H scope (compEnvC scope cl C X.env) fp) elt te) (hs : ∀ x, foldedSetIterable iter X.env x = pure x := by intro _; rfl) :
    PE X (.SetComp elt [⟨tg, iter, ifs, 0⟩] scope pos) (tScI X.w wi g tt te (own.map (·.2))) := by
  refine ⟨fun pins s σ H Q I h => ?_⟩
  rw [eval_SetComp]
  refine scI_core hc hN I hi ok hg ht he hs h fun D C s' m H' I' q hn f => ⟨m, hn, fun h'' sb => ⟨.ref D, H', ?_, rfl, q⟩⟩
  exact I'.turned (t' := s'.toks) (fun b o hb e => (sb.2 b hb).trans e) f.1 f.2.1 f.2.2.2.1 f.2.2.2.2.1 f.2.2.2.2.2
/-- over a tuple that stands still -/
theorem scI_tup {w : World} {K : PySem.W.Frag} {a : Addr} {xs : List V} {g : TG} {tt : TT} {te : TE} {vs : List Nat} {σ : L2.St} {H1 : Hp} {D : Addr} {Qd : Hp → Prop} (Pv : Nat → Hp → Prop) (h0 : Pv 0 (upd H1 D (SetO w D (fun _ => false) 0)))
    (hl : ∀ i H, i ≤ xs.length → Pv i H → SqT K H a xs)
    (hs : ∀ i x H, xs[i]? = some x → Pv i H → g x (wipe σ vs) H fun σ2 H2 => wipe σ2 vs = wipe σ vs ∧ tt σ2 H2 fun b H3 => if b = true then te σ2 H3 fun y H4 =>
      ∃ (c : Int) (S : Int → Bool) (n : Nat), y = .int c ∧ H4 D = some (SetO w D S n) ∧ n + 1 < scanBound ∧ Pv (i + 1) (upd H4 D (SetO w D (fun j => S j || decide (j = c)) (if S c = true then n else n + 1))) else Pv (i + 1) H3)
    (hd : ∀ H, Pv xs.length H → Qd H) : ∃ W : Nat → Nat → Hp → Prop, (∃ m, W 0 m (upd H1 D (SetO w D (fun _ => false) 0))) ∧ ∀ i m H, W i m H → ((Itt K a).stop i H ∧ Qd H) ∨
      ((Itt K a).go i H ∧ ∃ Nx : Hp → Prop, (∀ H', Nx H' → ∃ m', m' < m ∧ W (i + 1) m' H') ∧ ∀ x H', (Itt K a).yld i H x H' → g x (wipe σ vs) H' fun σ2 H2 => wipe σ2 vs = wipe σ vs ∧ tt σ2 H2 fun b H3 =>
        if b = true then te σ2 H3 fun y H4 => ∃ (c : Int) (S : Int → Bool) (n : Nat), y = .int c ∧ H4 D = some (SetO w D S n) ∧ n + 1 < scanBound ∧ Nx (upd H4 D (SetO w D (fun j => S j || decide (j = c)) (if S c = true then n else n + 1))) else Nx H3) := by
  refine ⟨fun i m H => m = xs.length - i ∧ i ≤ xs.length ∧ Pv i H, ⟨_, rfl, Nat.zero_le _, h0⟩, ?_⟩
  rintro i _ H ⟨rfl, hi, p⟩
  by_cases lt : i < xs.length
  · refine .inr ⟨⟨xs, xs[i], hl i H hi p, by simp [lt]⟩, Pv (i + 1), fun H' p' => ⟨xs.length - (i + 1), by omega, rfl, lt, p'⟩, fun x H' ⟨e, y⟩ => ?_⟩
    subst e
    exact hs i x _ (y xs (hl i _ hi p)) p
  · obtain rfl : i = xs.length := by omega
    exact .inl ⟨⟨xs, hl _ H hi p, Nat.le_refl _⟩, hd H p⟩

end R
namespace R
open PySem PySem.Spec PyProof.Rows L2
/-! ## set(xs) of a list of ints, sorted(set(xs)) -/
/-- how many members such a set may have -/
def Capped (w : World) (ns : List Int) (cap : Nat) : Prop := ∀ (i : Nat) (h : Heap) (a : Addr) (c : Nat), SetR w h a (fun j => decide (j ∈ ns.take i)) c → c ≤ cap
theorem nodup_le : ∀ {xs ys : List Int}, xs.Nodup → (∀ x ∈ xs, x ∈ ys) → xs.length ≤ ys.length
  | [], _, _, _ => Nat.zero_le _
  | x :: xs, ys, nd, sub => by
    obtain ⟨n1, n2⟩ := List.nodup_cons.mp nd
    have hx : x ∈ ys := sub x List.mem_cons_self
    have e := nodup_le (ys := ys.erase x) n2 fun z hz => (List.mem_erase_of_ne fun q => n1 (by rw [← q]; exact hz)).mpr (sub z (List.mem_cons_of_mem _ hz))
    rw [List.length_erase_of_mem hx] at e
    have := List.length_pos_of_mem hx
    show xs.length + 1 ≤ ys.length
    omega
theorem capBy {w : World} {ns ys : List Int} (sub : ∀ x ∈ ns, x ∈ ys) : Capped w ns ys.length := by
  rintro i h a c ⟨o, es, ep, t, _, _, _, _, nd, mem, _, _, cnt, _⟩
  have e := nodup_le nd fun x hx => sub x (List.mem_of_mem_take (of_decide_eq_true ((mem x).mpr hx)))
  rw [List.length_map, Array.length_toList, cnt] at e
  exact e
theorem capRange {w : World} {ns : List Int} {m : Nat} (h : ∀ x ∈ ns, 0 ≤ x ∧ x < (m : Int)) : Capped w ns m := by
  have e := capBy (w := w) (ns := ns) (ys := (List.range m).map fun i : Nat => (i : Int)) fun x hx => by
    obtain ⟨h1, h2⟩ := h x hx
    exact List.mem_map.mpr ⟨x.toNat, List.mem_range.mpr (by omega), by omega⟩
  rw [List.length_map, List.length_range] at e
  exact e
theorem capLen {w : World} (ns : List Int) : Capped w ns ns.length := capBy fun _ h => h
/-- the walk of set.update over ints -/
theorem upd_ints {P : Program} {w : World} {A : Around} {I : Addr} {fp wr : List Addr} {G : Array GenState → Array GenState → Prop} {n : Nat} {Pv : Nat → Value → Prop} {St : Nat → Shared → Prop} {R : Result → Shared → Prop}
    (W : WalksS P w A.in1 I fp wr G n Pv St) (S : Addr) (far : S ∉ fp) (ns : List Int) (hn : n = ns.length) (cap : Nat) (few : cap + 1 < scanBound) (cp : Capped w ns cap) (val : ∀ i v, Pv i v → ∃ k t, ns[i]? = some k ∧ v = .int k t) :
    ∀ (k i : Nat) (s : Shared), n - i = k → i ≤ n → St i s → (∃ c, SetR w s.heap S (fun j => decide (j ∈ ns.take i)) c) →
      (∀ s' c, Moved (S :: wr) G s s' → c ≤ cap → SetR w s'.heap S (fun j => decide (j ∈ ns)) c → R (.ok (.ret .none)) s') →
      codeAny (model P w) A (.builtin "set.update.loop" ⟨[.ref S, .ref I], []⟩) R s := by
  have farW : S ∉ wr := fun z => far (W.sub _ z)
  have more : ∀ b ∈ wr, b ∈ S :: wr := fun b z => List.mem_cons_of_mem _ z
  intro k
  induction k with
  | zero =>
    rintro i s ek le st ⟨c, hS⟩ hR
    obtain rfl : i = n := by omega
    refine codeAny_builtin F.entry_set_update_loop ?_
    rw [Around.under_plainId F.plain_set_update_loop _]
    show wpAny _ A.in1 (pyNext (.ref I) >>= _) _ _ s
    refine wpAny_bind (W.done s _ _ st fun s' mv => ?_)
    show wpAny _ A.in1 (ret Value.none) _ _ s'
    rw [List.take_of_length_le (by omega)] at hS
    have hS' := hS.at (h' := s'.heap) fun o e => mv.heap S o farW e
    exact wpAny_pure (hR s' c (mv.mono more) (cp ns.length _ S c (by rw [List.take_length]; exact hS')) hS')
  | succ k ih =>
    rintro i s ek le st ⟨c, hS⟩ hR
    have lt : i < n := by omega
    refine codeAny_builtin F.entry_set_update_loop ?_
    rw [Around.under_plainId F.plain_set_update_loop _]
    show wpAny _ A.in1 (pyNext (.ref I) >>= _) _ _ s
    refine wpAny_bind (W.item i s _ _ lt st fun v s' pv st' mv => ?_)
    obtain ⟨z, t, hz, rfl⟩ := val i v pv
    have hS1 : SetR w s'.heap S (fun j => decide (j ∈ ns.take i)) c := hS.at fun o e => mv.heap S o farW e
    have hc := cp i _ S c hS1
    show wpAny _ A.in1 (holding [Value.int z t] (setAdd S (.int z t)) >>= _) _ _ s'
    refine wpAny_bind (wpAny_holding ?_)
    unfold setAdd
    refine wpAny_holding (wpAny_bind ((intKind P w).pyHash (k := z) (intKind_is _ _ _ _) ?_))
    refine setR_add_hashed (s := { s' with toks := s'.toks + 1 }) hS1 (by omega) fun h' sb hS2 => ?_
    have hS3 := hS2.congr (S' := fun j => decide (j ∈ ns.take (i + 1))) fun j => by
      rw [List.take_add_one, hz]
      simp [List.mem_append]
    refine wpAny_pure ⟨plainId_quiet F.plain_set_update_loop _, ih (i + 1) _ (by omega) lt (W.frame _ s' _ _ st' (Nat.le_succ _) fun b hb o e => ?_) ⟨_, hS3⟩ fun s2 c2 mv2 hc2 hS4 => ?_⟩
    · rw [sb.2 b (fun q : b = S => far (by rw [← q]; exact hb))]; exact e
    · refine hR s2 c2 (Moved.trans W.gtrans ((mv.mono more).then_heap (Nat.le_succ _) fun b o hb e => ?_) mv2) hc2 hS4
      rw [sb.2 b (fun q : b = S => hb (by rw [q]; exact List.mem_cons_self))]; exact e
set_option maxHeartbeats 8000000 in
theorem call_setG {P : Program} {w : World} {A : Around} {E : Value → Shared → Prop} {s : Shared} {l : Addr} {items : Array Value} (ns : List Int) {Q : Value → Shared → Prop} (hh : A.handled = none) (hl : s.heap.IsList l items)
    (hit : IntsAre items.toList ns) (cap : Nat) (few : cap + 1 < scanBound) (cp : Capped w ns cap)
    (h : ∀ (h' : Heap) (tk c : Nat), c ≤ cap → SetR w h' s.heap.objs.size (fun j => decide (j ∈ ns)) c → (∀ b o, s.heap.get? b = some o → h'.get? b = some o) → Q (.ref s.heap.objs.size) { s with heap := h', toks := tk }) :
    wpAny (model P w) A (call (.type "set") [.ref l]) Q E s := by
  have size_ : items.size = ns.length := Array.length_toList.symm.trans (IntsAre.length hit)
  obtain ⟨c, tl, hmro⟩ := F.called_set.mro
  have m1 := F.called_set.made
  have m2 := F.called_set.sub
  refine wpAny_call (codeAny_of_tree (show wpAny _ _ (callAny (.type "set") _) _ _ _ from wpAny_pure ⟨Code.quiet_builtin _ (by decide +kernel), codeAny_builtin F.entry_type_call ?_⟩))
  rw [Around.under_plain (weight_type_call_type "set" [.ref l] []) rfl]
  have m3 := F.called_set.notType
  have m4 := F.called_set.canCreate
  have m5 := F.typeCall_set_1 (.ref l)
  repeat (any_goals (first | assumption | wp_step))
  refine codeAny_mono (code_set_led1 (.ref l) (E := E) (Q₁ := fun ob s1 => ob = .ref s.heap.objs.size ∧ s1 = { s with heap := s.heap.push (noSet w) }) ⟨rfl, rfl⟩) fun r s1 hr => ?_
  cases r with
  | error e => exact hr
  | ok fl =>
    cases fl with
    | ret ob =>
      obtain ⟨rfl, rfl⟩ := hr
      have gS : (s.heap.push (noSet w)).get? s.heap.objs.size = some (noSet w) := Heap.get?_push_size _ rfl
      have tS : Shared.TypeIs { s with heap := s.heap.push (noSet w) } (.ref s.heap.objs.size) "set" := ⟨_, gS, rfl⟩
      have m6 := F.called_set.init.lookup
      have m7 := F.called_set.init.bind (.ref s.heap.objs.size)
      repeat (any_goals (first | assumption | wp_step))
      refine codeAny_mono (codeAny_call_builtin (R := wants (fun r s2 => r = .none ∧ ∃ h' tk c, s2 = { s with heap := h', toks := tk } ∧ c ≤ cap ∧ SetR w h' s.heap.objs.size (fun j => decide (j ∈ ns)) c ∧ (∀ b o, s.heap.get? b = some o → h'.get? b = some o)) E)
        F.called_set.init.plain F.entry_set_init (check_set_init_1 tS ?_)) fun r2 s2 hr2 => ?_
      · obtain ⟨⟨oc, od, odt, osl⟩, gL, e1, nl, e2⟩ := hl
        dsimp only at e1 e2
        subst e1 e2
        have gL' : (s.heap.push (noSet w)).get? l = some { cls := .type "list", dict := od, data := .seq items nl, slots := osl } := Heap.get?_push_of_some _ gL
        have n1 := F.sub_list_set
        have n2 := F.sub_list_frozenset
        have n3 : (Value.type "list" == Value.type "dict") = false := by decide
        have lL : (s.heap.push (noSet w)).IsList l items := ⟨_, gL', rfl, nl, rfl⟩
        unfold Builtin.«set.__init__» noKeywords Builtin.Frozenset.updateFrom
        generalize iter_ : pyIter = PI
        wp_walk
        subst iter_
        refine wpAny_pyIter_list lL (wpAny_bind (wpAny_runValue ?_))
        have lt : l < s.heap.objs.size := Heap.lt_size gL
        have sz : (s.heap.push (noSet w)).objs.size = s.heap.objs.size + 1 := Heap.size_push ..
        have far : l ≠ (s.heap.push (noSet w)).objs.size := by rw [sz]; exact Nat.ne_of_lt (Nat.lt_succ_of_lt lt)
        have out : s.heap.objs.size ∉ [(s.heap.push (noSet w)).objs.size, l] := by
          rw [sz]
          simp only [List.mem_cons, List.not_mem_nil, or_false, not_or]
          exact ⟨Nat.ne_of_lt (Nat.lt_succ_self _), Nat.ne_of_gt lt⟩
        have val : ∀ (i : Nat) (v : Value), items[i]? = some v → ∃ k t, ns[i]? = some k ∧ v = .int k t := fun i v hv => by
          have hi : i < ns.length := size_ ▸ (Array.getElem?_eq_some_iff.mp hv).1
          obtain ⟨t, e⟩ := PyProof.Rows.IntsAre.int_at hit i v (by rw [Array.getElem?_toList]; exact hv)
          exact ⟨ns[i], t, List.getElem?_eq_getElem hi, by rw [e, List.getD_eq_getElem?_getD, List.getElem?_eq_getElem hi]; rfl⟩
        refine upd_ints ((Walks.list (A := A.in1.in1.in1) (by simp [hh]) _ l far items).toS) s.heap.objs.size out ns size_ cap few cp val (items.size - 0) 0 _ (by omega) (Nat.zero_le _)
          ⟨⟨_, Heap.get?_push_size _ rfl, rfl, rfl⟩, lL.push _⟩ ⟨0, setR_new_at (Heap.get?_push_of_some _ gS)⟩ fun s' c' mv hc' hS' => ?_
        obtain ⟨h', g2, d', tk', os'⟩ := s'
        obtain rfl : g2 = s.gens := mv.gens
        obtain rfl : d' = s.drawn := mv.drawn
        obtain rfl : os' = s.os := mv.os
        refine wpAny_pure (show wpAny _ _ (ret Value.none) _ _ _ from wpAny_pure ⟨rfl, h', tk', c', rfl, hc', hS', fun b o e => ?_⟩)
        have b0 : b < s.heap.objs.size := Heap.lt_size e
        refine mv.heap b o ?_ (Heap.get?_push_of_some _ (Heap.get?_push_of_some _ e))
        rw [sz]
        simp only [List.mem_cons, List.not_mem_nil, or_false, not_or]
        exact ⟨Nat.ne_of_lt b0, Nat.ne_of_lt (Nat.lt_succ_of_lt b0)⟩
      · cases r2 with
        | error e => exact hr2
        | ok fl2 =>
          cases fl2 with
          | ret r =>
            obtain ⟨rfl, h', tk, c', rfl, hc', hS', hk'⟩ := hr2
            repeat (any_goals (first | assumption | wp_step))
            exact h _ _ _ hc' hS' hk'
          | _ => exact hr2.elim
    | _ => exact hr.elim
/-- set(xs), xs a list of ints -/
def rSetG (K : PySem.W.Frag) (w : World) : List V → Hp → VK → Prop := fun vs H Q => ∃ (a : Addr) (ns : List Int) (cap : Nat), vs = [.ref a] ∧ SqL K H a (ns.map V.int) ∧ Capped w ns cap ∧ cap ≤ 4000 ∧
  ∀ p c, c ≤ cap → H p = none → Q (.ref p) (upd H p (SetO w p (fun j => decide (j ∈ ns)) c))
theorem cr_setG {X : Cx} (hc : X.calm = true) : CallR X (.type "set") (rSetG X.K X.w) := by
  intro pn st σ H vs us Q I r h
  obtain ⟨a, ns, cap, rfl, ha, cp, few, q⟩ := h
  rw [Vals.ref1 r]
  obtain ⟨its, rv, p, _⟩ := I.list ha
  have new : H st.heap.objs.size = none := I.hok.fresh (Nat.le_refl _)
  have b4 : (4001 : Nat) < scanBound := by decide
  refine call_setG ns (I.ok.hd hc) p.isList (by simpa using ints_of_vals rv) cap (by omega) cp fun h' tk c hc R k => ?_
  exact ⟨.ref _, _, I.laid (t' := tk) k (Nat.le_refl _) (setO_new R), rfl, q _ _ hc new⟩

end R
namespace R
open PySem PySem.Spec PyProof.Rows L2
/-! ## sorted of a set of ints, any number of them -/
theorem run_sortedS {P : Program} {w : World} {A : Around} {E : Value → Shared → Prop} {st : Shared} {a : Addr} {S : Int → Bool} {n : Nat} {Q : Value → Shared → Prop} (R : SetR w st.heap a S n) (nh : A.handled = none)
    (fin : ∀ s' p (out : Array Value) (c : Nat) (ns : List Int), (∀ b o, st.heap.get? b = some o → s'.heap.get? b = some o) → s'.gens = st.gens → s'.os = st.os → st.heap.objs.size ≤ p →
      s'.heap.get? p = some (seqObj "list" out c) → IntsAre out.toList ns → ns.Pairwise (· < ·) ∧ (∀ k, k ∈ ns ↔ S k = true) ∧ ns.length = n → Q (.ref p) s') :
    wpAny (model P w) A (call (.builtin "sorted") [.ref a]) Q E st := by
  obtain ⟨o, es, ep, t, ho, hex, hd, g, nd, mem, bound, fit, cnt, ris, led⟩ := R
  refine Calls.call_function_entry PyProof.Rows.kind_sorted PyProof.Rows.plain_sorted PyProof.Rows.entry_sorted (PyProof.Rows.args_sorted1 _) ?_
  unfold Builtin.«sorted»
  refine wpAny_bind (m := checkCount "sorted" 1 1 _) <| wpAny_pure ?_
  refine wpAny_bind (collect_set (A := A.in1) nh ⟨o, ho, hex.1, hd⟩ fit bound ris led fun s1 vs kp sz gn os pm => ?_)
  have lv : vs.length = n := by rw [pm.length_eq, List.length_map, Array.length_toList, cnt]
  have iv : IntsAre vs (vs.map Builtin.Re.reRawOf) := L2.ints_of vs fun v hv => by
    obtain ⟨e, he, ev⟩ := List.mem_map.mp (pm.mem_iff.mp hv)
    obtain ⟨k, tk, ek, _⟩ := g e he
    exact ⟨k, tk, ev ▸ ek⟩
  have kk : (vs.map Builtin.Re.reRawOf).Perm (es.toList.map keyOf) := by
    have q := pm.map Builtin.Re.reRawOf
    rw [List.map_map] at q
    exact q
  have small : vs.length ≤ sizeLine := by
    rw [lv, ← cnt]
    exact fits_of_scanBound bound
  refine wpAny_bind (wpAny_newList ?_ small)
  have at1 : (s1.heap.push (seqObj "list" vs.toArray 0)).get? s1.heap.objs.size = some (seqObj "list" vs.toArray 0) := Heap.get?_push_size _ rfl
  refine wpAny_bind (wpAny_holding (wpAny_call_entry PyProof.Rows.slot_list_sort ⟨_, at1, rfl⟩ PyProof.Rows.entry_list_sort
    (SrtO.list_sort_ord SrtO.swo_int at1 small (fun two => SrtO.ints_sortable iv two) fun out o1 o2 => ⟨_, rfl, ?_⟩) (PyProof.Rows.args_list_sort _)))
  obtain ⟨c, hc⟩ := PyProof.Rows.sortedHeap_at (vs := vs) (out := out.toArray) at1
  obtain ⟨k1, k2, k3⟩ := SrtO.ints_out iv o1 o2
  have pn := k2.trans kk
  refine wpAny_pure ⟨_, rfl, fin _ s1.heap.objs.size out.toArray c (out.map SrtO.iv) (fun b u e => ?_) gn os sz hc k1 ⟨L2.lt_of_le_nodup _ k3 (pn.nodup_iff.mpr nd), fun k => by rw [pn.mem_iff, ← mem k], ?_⟩⟩
  · have q := kp b u e
    have lt := Heap.lt_size q
    show (PyProof.Rows.sortedHeap (s1.heap.push (seqObj "list" vs.toArray 0)) s1.heap.objs.size vs out.toArray).get? b = some u
    rw [PyProof.Rows.sortedHeap_old (Nat.ne_of_lt lt) (by rw [size_push']; exact Nat.lt_succ_of_lt lt)]
    exact Heap.get?_push_of_some _ q
  · rw [pn.length_eq, List.length_map, Array.length_toList]; exact cnt
def rSortedSL (w : World) : List V → Hp → VK → Prop := fun vs H Q => ∃ (a : Addr) (S : Int → Bool) (n : Nat), vs = [V.ref a] ∧ H a = some (SetO w a S n) ∧ n ≤ 100000 ∧
  ∀ (ns : List Int) (p : Addr), ns.Pairwise (· < ·) → (∀ k : Int, k ∈ ns ↔ S k = true) → ns.length = n → H p = none → Q (.ref p) (upd H p (.lst (ns.map V.int)))
theorem cr_sortedSL {X : Cx} (hc : X.calm = true) : CallR X (.builtin "sorted") (rSortedSL X.w) := by
  intro pn st σ H vs us Q I r h
  obtain ⟨a, S, n, rfl, ha, few, q⟩ := h
  rw [Vals.ref1 r]
  refine run_sortedS (setO_get I ha) (I.ok.hd hc) fun s' p out c ns k g o hp hg hi ⟨h1, h2, h3⟩ => ?_
  have new : H p = none := I.hok.fresh hp
  have small : (ns.map V.int).length ≤ sizeLine := by rw [List.length_map, h3]; exact sizeOk few
  have J : Inv X pn σ (upd H p (.lst (ns.map V.int))) { st with heap := s'.heap, gens := s'.gens, drawn := s'.drawn, toks := s'.toks } :=
    I.call (ch := []) (Un.laid k hp new) (I.hok.laid k hp ⟨small, out.toList, c, vals_of_ints hi, hg⟩) (by rw [g]; exact I.bare) fun _ z => nomatch z
  have e : s' = { st with heap := s'.heap, gens := s'.gens, drawn := s'.drawn, toks := s'.toks } := by
    cases s'
    cases st
    cases o
    rfl
  rw [e]
  exact ⟨.ref p, _, J, rfl, q ns p h1 h2 h3 new⟩

end R
namespace R
open PySem PySem.Spec PyProof.Rows L2
/-! ## numbers by two moduli -/
theorem bezout (a b : Nat) : ∃ x y : Int, (a : Int) * x + (b : Int) * y = (Nat.gcd a b : Nat) := by
  refine Nat.gcd.induction (P := fun a b => ∃ x y : Int, (a : Int) * x + (b : Int) * y = (Nat.gcd a b : Nat)) a b (fun n => ⟨0, 1, ?_⟩) fun m n hm ih => ?_
  · rw [Nat.gcd_zero_left, Int.mul_one, Int.mul_zero, Int.zero_add]
  · obtain ⟨x, y, e⟩ := ih
    refine ⟨y - ((n / m : Nat) : Int) * x, x, ?_⟩
    rw [Nat.gcd_rec m n, ← e]
    have d : (n : Int) = (m : Int) * ((n / m : Nat) : Int) + ((n % m : Nat) : Int) := by
      rw [← Int.natCast_mul, ← Int.natCast_add, Nat.div_add_mod]
    have d2 : (n : Int) * x = (m : Int) * (((n / m : Nat) : Int) * x) + ((n % m : Nat) : Int) * x := by
      rw [← Int.mul_assoc, ← Int.add_mul, ← d]
    rw [Int.mul_sub, d2]
    omega
theorem lcm_pos' {w m : Nat} (hw : 0 < w) (hm : 0 < m) : 0 < Nat.lcm w m := Nat.lcm_pos hw hm
theorem crt {w m : Nat} (hw : 0 < w) (hm : 0 < m) {a r : Int} (h : ((Nat.gcd w m : Nat) : Int) ∣ r - a) : ∃ x : Int, 0 ≤ x ∧ x < (Nat.lcm w m : Nat) ∧ x % (w : Int) = a % (w : Int) ∧ x % (m : Int) = r % (m : Int) := by
  obtain ⟨k, hk⟩ := h
  obtain ⟨u, v, e⟩ := bezout w m
  have hl : 0 < Nat.lcm w m := Nat.lcm_pos hw hm
  have dw : (w : Int) ∣ ((Nat.lcm w m : Nat) : Int) := Int.natCast_dvd_natCast.mpr (Nat.dvd_lcm_left w m)
  have dm : (m : Int) ∣ ((Nat.lcm w m : Nat) : Int) := Int.natCast_dvd_natCast.mpr (Nat.dvd_lcm_right w m)
  refine ⟨(a + (w : Int) * (u * k)) % ((Nat.lcm w m : Nat) : Int), Int.emod_nonneg _ (by omega), Int.emod_lt_of_pos _ (by omega), ?_, ?_⟩
  · rw [Int.emod_emod_of_dvd _ dw, Int.add_mul_emod_self_left]
  · rw [Int.emod_emod_of_dvd _ dm]
    refine Int.emod_eq_emod_iff_emod_sub_eq_zero.mpr (Int.emod_eq_zero_of_dvd ⟨-(v * k), ?_⟩)
    have e1 : (w : Int) * (u * k) + (m : Int) * (v * k) = r - a := by
      rw [← Int.mul_assoc, ← Int.mul_assoc, ← Int.add_mul, e, hk]
    rw [Int.mul_neg]
    omega
/-- two numbers below the least common multiple that leave the same by both are one -/
theorem crt_one {w m : Nat} {x y : Int} (hx : 0 ≤ x ∧ x < (Nat.lcm w m : Nat)) (hy : 0 ≤ y ∧ y < (Nat.lcm w m : Nat)) (h1 : x % (w : Int) = y % (w : Int)) (h2 : x % (m : Int) = y % (m : Int)) : x = y := by
  have d1 : (w : Int) ∣ x - y := Int.dvd_of_emod_eq_zero (Int.emod_eq_emod_iff_emod_sub_eq_zero.mp h1)
  have d2 : (m : Int) ∣ x - y := Int.dvd_of_emod_eq_zero (Int.emod_eq_emod_iff_emod_sub_eq_zero.mp h2)
  have d3 : ((Nat.lcm w m : Nat) : Int) ∣ x - y := by
    rw [← Int.dvd_natAbs] at d1 d2 ⊢
    exact Int.natCast_dvd_natCast.mpr (Nat.lcm_dvd (Int.natCast_dvd_natCast.mp d1) (Int.natCast_dvd_natCast.mp d2))
  rcases Int.lt_or_le x y with l | l
  · have := Int.le_of_dvd (a := ((Nat.lcm w m : Nat) : Int)) (b := y - x) (by omega) (by obtain ⟨c, e⟩ := d3; exact ⟨-c, by rw [Int.mul_neg]; omega⟩)
    omega
  · rcases Int.lt_or_le y x with l2 | l2
    · have := Int.le_of_dvd (a := ((Nat.lcm w m : Nat) : Int)) (b := x - y) (by omega) d3
      omega
    · omega
/-- the rest r by m is left by a fitting number just if some class agrees with it by the common measure -/
def agrees (bs : List Bar) (m : Nat) (r : Int) : Bool := (cls bs).any fun c => decide (c % ((Nat.gcd (wh bs) m : Nat) : Int) = r % ((Nat.gcd (wh bs) m : Nat) : Int))
theorem agrees_iff {bs : List Bar} {m : Nat} {r : Int} : agrees bs m r = true ↔ ∃ c ∈ cls bs, c % ((Nat.gcd (wh bs) m : Nat) : Int) = r % ((Nat.gcd (wh bs) m : Nat) : Int) := by
  unfold agrees
  rw [List.any_eq_true]
  constructor
  · rintro ⟨c, h1, h2⟩
    exact ⟨c, h1, of_decide_eq_true h2⟩
  · rintro ⟨c, h1, h2⟩
    exact ⟨c, h1, decide_eq_true h2⟩
theorem gcd_dvd_int (w m : Nat) : ((Nat.gcd w m : Nat) : Int) ∣ (w : Int) ∧ ((Nat.gcd w m : Nat) : Int) ∣ (m : Int) :=
  ⟨Int.natCast_dvd_natCast.mpr (Nat.gcd_dvd_left w m), Int.natCast_dvd_natCast.mpr (Nat.gcd_dvd_right w m)⟩
theorem emod_cls {bs : List Bar} (hp : 0 < wh bs) {x : Int} (f : fitsB bs x = true) : x % (wh bs : Int) ∈ cls bs := by
  refine (cls_is bs).mem _ |>.mpr ⟨Int.emod_nonneg _ (by omega), Int.emod_lt_of_pos _ (by omega), ?_⟩
  rw [fitsB_mod]
  exact f
theorem leaves_iff {bs : List Bar} {m : Nat} (hp : 0 < wh bs) (hm : 0 < m) {r : Int} :
    agrees bs m r = true ↔ ∃ x : Int, 0 ≤ x ∧ x < (Nat.lcm (wh bs) m : Nat) ∧ fitsB bs x = true ∧ x % (m : Int) = r % (m : Int) := by
  obtain ⟨g1, g2⟩ := gcd_dvd_int (wh bs) m
  rw [agrees_iff]
  constructor
  · rintro ⟨c, hc, e⟩
    obtain ⟨c1, c2, c3⟩ := ((cls_is bs).mem c).mp hc
    obtain ⟨x, x1, x2, x3, x4⟩ := crt hp hm (a := c) (r := r) (Int.dvd_of_emod_eq_zero (Int.emod_eq_emod_iff_emod_sub_eq_zero.mp e.symm))
    refine ⟨x, x1, x2, ?_, x4⟩
    rw [← fitsB_mod, x3, fitsB_mod]
    exact c3
  · rintro ⟨x, _, _, f, e⟩
    refine ⟨_, emod_cls hp f, ?_⟩
    rw [Int.emod_emod_of_dvd _ g1, ← Int.emod_emod_of_dvd x g2, e, Int.emod_emod_of_dvd _ g2]
/-- the rests of some classes by g -/
def modsTo (c : List Int) (g : Int) (n : Nat) : List Int := (c.take n).map (· % g)
theorem modsTo_succ {c : List Int} {g x : Int} {n : Nat} (h : c[n]? = some x) : modsTo c g (n + 1) = modsTo c g n ++ [x % g] := by
  unfold modsTo
  rw [takeSucc h, List.map_append]
  rfl

end R
namespace R
open PySem PySem.Spec PyProof.Rows L2
/-! ## the rests that fitting numbers leave -/
def restsTo (bs : List Bar) (m n : Nat) : List Int := ((List.range n).filter fun r : Nat => agrees bs m r).map fun r : Nat => (r : Int)
theorem restsTo_succ (bs : List Bar) (m n : Nat) : restsTo bs m (n + 1) = restsTo bs m n ++ (if agrees bs m n = true then [(n : Int)] else []) := by
  unfold restsTo
  rw [List.range_succ, List.filter_append, List.map_append]
  by_cases h : agrees bs m n = true
  · rw [if_pos h, show List.filter (fun r : Nat => agrees bs m r) [n] = [n] from List.filter_cons_of_pos h]
    rfl
  · rw [if_neg h, show List.filter (fun r : Nat => agrees bs m r) [n] = [] from List.filter_cons_of_neg h]
    rfl
theorem restsTo_len (bs : List Bar) (m n : Nat) : (restsTo bs m n).length ≤ n := by
  unfold restsTo
  rw [List.length_map]
  have h := List.length_filter_le (fun r : Nat => agrees bs m r) (List.range n)
  rw [List.length_range] at h
  exact h
def restsL (bs : List Bar) (m : Nat) : List Int := restsTo bs m m
theorem mem_restsL {bs : List Bar} {m : Nat} {r : Int} : r ∈ restsL bs m ↔ 0 ≤ r ∧ r < (m : Int) ∧ agrees bs m r = true := by
  unfold restsL restsTo
  rw [List.mem_map]
  constructor
  · rintro ⟨j, hj, rfl⟩
    obtain ⟨h1, h2⟩ := List.mem_filter.mp hj
    have := List.mem_range.mp h1
    exact ⟨by omega, by omega, h2⟩
  · rintro ⟨h1, h2, h3⟩
    refine ⟨r.toNat, List.mem_filter.mpr ⟨List.mem_range.mpr (by omega), ?_⟩, by omega⟩
    rw [Int.toNat_of_nonneg h1]
    exact h3
theorem restsL_up (bs : List Bar) (m : Nat) : (restsL bs m).Pairwise (· < ·) := by
  unfold restsL restsTo
  rw [List.pairwise_map]
  exact (List.pairwise_lt_range.filter _).imp fun h => by omega
def sp_p_rests (K : PySem.W.Frag) (C B : Addr) : Sp := fun vs H Q E => ∃ (p : Addr) (v : V) (t : Addr) (bs : List Bar) (x : V), vs = [.ref p, x] ∧ SvAt K C H p v t bs ∧
  ((OffI K H 1 1000 x ∧ E (.ref B) none H) ∨ ∃ m : Nat, x = .int m ∧ 1 ≤ m ∧ m ≤ 1000 ∧ ∀ D H', Same H H' → H D = none → H' D = some (.lst ((restsL bs m).map V.int)) → Q (.ref D) H')
section
variable {P : Program} {w : World} {K : PySem.W.Frag} {mg : Str → Option Value} {base : Heap}
theorem ok_p_rests (T : Txt K mg) : FnOk P w K mg base (L2.CX P w) 5 T.f_p_rests T.fd_p_rests ["sieve", "modulus"] (sp_p_rests K T.C T.C_BadModulus) := by
  refine T.F_p_rests.okX sc_p_rests (fun vs H Q E h => ?_) (fun cdv A outer s H vs Q E hr h => ?_)
  · obtain ⟨p, v, t, bs, x, rfl, _⟩ := h
    rfl
  · obtain ⟨p, v, t, bs, x, rfl, S, h⟩ := h
    refine ⟨_, (pss_cons (ps_expr (pe_call (ok_p_check_modulus T) (hr.mono (by decide)) (by rfl) T.g_p_check_modulus T.F_p_check_modulus.kp T.b_p_check_modulus .nil (passes_call (takes_of rfl rfl rfl rfl) (fun _ _ _ _ h => h)) (pa_cons (pv 1) (pa_cons (pe_glob (v := .int 1000) (by rfl) T.c_GREATEST_LISTED_BY.choose_spec ⟨_, rfl⟩) pa_nil))))
      (pss_cons (ps_set (i := 2) sc_p_rests.nd rfl (by first | exact .inl rfl | exact .inr rfl) (pe_callBfun cr_gcd (by rfl) T.g_gcd (pa_cons (pe_prop (pv 0) T.cl T.pp_whole (ok_m_Sieve_whole T) (hr.mono (by decide)) T.b_m_Sieve_whole .nil pass0 (by rfl)) (pa_cons (pv 1) pa_nil))))
      (pss_cons (ps_set (i := 3) sc_p_rests.nd rfl (by first | exact .inl rfl | exact .inr rfl) (pe_scI (own := [("number", 4)]) rfl sc_p_rests.nd (pi_tup (pe_prop (pv 0) T.cl T.pp_classes (ok_m_Sieve_classes T) (hr.mono (by decide)) T.b_m_Sieve_classes .nil pass0 (by rfl))) (blkOk_by (N := ["sieve", "modulus", "common", "left", "number", "rest"]) (sc := defScope s_p_rests) (by decide +kernel)) (fun _ _ _ _ _ => (pg_name (i := 4) sc_p_rests.nd rfl (by first | exact .inl rfl | exact .inr rfl))) (fun _ _ _ _ _ => pts_nil) (fun _ _ _ _ _ => (pe_op op_mod (pv 4) (pv 2)))))
      (pss_one (ps_ret (pe_lc (own := [("rest", 5)]) rfl sc_p_rests.nd (pi_range1 (by rfl) T.z_range (pa_cons (pv 1) pa_nil)) (blkOk_by (N := ["sieve", "modulus", "common", "left", "number", "rest"]) (sc := defScope s_p_rests) (by decide +kernel)) (fun _ _ _ _ _ => (pg_name (i := 5) sc_p_rests.nd rfl (by first | exact .inl rfl | exact .inr rfl))) (fun _ _ _ _ _ => (pts_one (pt_cmpR (r := rSIn w) or_sin (pe_op op_mod (pv 5) (pv 2)) (pv 3) (by rfl)))) (fun _ _ _ _ _ => (pv 5)))))))), ?_⟩
    rcases h with ⟨o, q⟩ | ⟨m, rfl, m1, m2, q⟩
    · exact ⟨_, rfl, x, _, rfl, .inr ⟨o, q⟩⟩
    · refine ⟨_, rfl, _, _, rfl, .inl ⟨m, rfl, by omega, by show (m : Int) ≤ 1000; omega, ?_⟩⟩
      have few := choices_cls S.ok
      have hp := S.ok.mods.pos
      have hg : 0 < Nat.gcd (wh bs) m := Nat.gcd_pos_of_pos_left _ hp
      refine ⟨_, rfl, p, _, _, rfl, S.ob.choose_spec, p, v, t, bs, rfl, S, _, rfl, _, _, rfl, ?_⟩
      rw [Int.natAbs_natCast, Int.natAbs_natCast]
      refine ⟨_, rfl, p, _, _, rfl, S.ob.choose_spec, p, v, t, bs, rfl, S, t, rfl, ⟨_, S.cls⟩, fun D nD => ?_⟩
      refine scI_tup (K := K) (a := t) (xs := (cls bs).map V.int) (fun i Hi => ∃ n, n ≤ i ∧ Hi D = some (SetO w D (fun j => decide (j ∈ modsTo (cls bs) (Nat.gcd (wh bs) m : Nat) i)) n) ∧ Same H Hi)
        ⟨0, Nat.le_refl _, by rw [upd_same]; exact congrArg some (congrArg (SetO w D · 0) (funext fun j => (decide_eq_false (by unfold modsTo; simp)).symm)), same_upd nD⟩ (fun i Hi _ ⟨_, _, _, si⟩ => Same.seqTT si S.cls) ?_ ?_
      · rintro i y Hi hi ⟨n, ni, ei, si⟩
        obtain ⟨c, hc, rfl⟩ := getMapInt' hi
        have il := (List.getElem?_eq_some_iff.mp hc).1
        refine ⟨rfl, _, rfl, _, rfl, _, _, rfl, rfl, by show (0 : Int) < ((Nat.gcd (wh bs) m : Nat) : Int); omega, ?_⟩
        refine ⟨_, _, n, rfl, ei, Nat.lt_of_le_of_lt (show n + 1 ≤ 2001 by omega) (by decide), (if decide (c % ((Nat.gcd (wh bs) m : Nat) : Int) ∈ modsTo (cls bs) (Nat.gcd (wh bs) m : Nat) i) = true then n else n + 1), ?_, ?_, samePut si nD⟩
        · split <;> omega
        · rw [upd_same, modsTo_succ hc]
          refine congrArg some (congrArg (SetO w D · _) (funext fun j => ?_))
          rw [← Bool.decide_or]
          exact decide_eq_decide.mpr (by rw [List.mem_append, List.mem_singleton])
      · rintro H1 ⟨n, _, e1, s1⟩
        rw [List.length_map] at e1
        have nDn : ∀ {b : Addr} {u : HO}, H b = some u → b ≠ D := fun e => ne_of_none e nD
        refine ⟨_, rfl, (m : Int), rfl, by omega, by omega, fun F nF => ?_⟩
        rw [Int.toNat_natCast]
        refine lc_range (lo := 0) (n := m) (fun k Hk => Hk F = some (.lst ((restsTo bs m k).map V.int)) ∧ Same H1 Hk) ⟨upd_same, same_upd nF⟩ ?_ ?_
        · rintro k Hk hk ⟨ek, sk⟩
          refine ⟨rfl, _, rfl, _, rfl, _, _, rfl, rfl, by show (0 : Int) < ((Nat.gcd (wh bs) m : Nat) : Int); omega, _, rfl, _, _, _, _, rfl, rfl, sk _ _ e1, _, rfl, ?_⟩
          have eg : decide ((0 + (k : Int)) % ((Nat.gcd (wh bs) m : Nat) : Int) ∈ modsTo (cls bs) (Nat.gcd (wh bs) m : Nat) (cls bs).length) = agrees bs m k := by
            rw [Int.zero_add, Bool.eq_iff_iff, decide_eq_true_iff, agrees_iff]
            unfold modsTo
            rw [List.take_length, List.mem_map]
          rw [eg]
          refine ite2 (fun e => ?_) (fun e => ?_)
          · refine ⟨_, rfl, _, ek, ?_, ?_, samePut sk nF⟩
            · rw [List.length_map]
              have := restsTo_len bs m k
              exact sizeLt (by omega)
            · rw [upd_same, restsTo_succ, if_pos e, List.map_append, Int.zero_add]
              rfl
          · refine ⟨?_, sk⟩
            rw [ek, restsTo_succ, if_neg e, List.append_nil]
        · rintro Hk ⟨ek, sk⟩
          exact q F Hk (s1.trans sk) (s1.free nF) ek
end

end R
namespace R
open PySem PySem.Spec PyProof.Rows L2
/-! ## what is sure -/
/-- the greatest modulus by which all of the first n classes leave one rest -/
def sureTo (bs : List Bar) (n : Nat) : Nat := ((cls bs).take n).foldl (fun g c => Nat.gcd g (c - (cls bs).headD 0).natAbs) (wh bs)
theorem sureTo_succ {bs : List Bar} {n : Nat} {x : Int} (h : (cls bs)[n]? = some x) : sureTo bs (n + 1) = Nat.gcd (sureTo bs n) (x - (cls bs).headD 0).natAbs := by
  unfold sureTo
  rw [takeSucc h, List.foldl_append]
  rfl
theorem sureTo_dvd (bs : List Bar) : ∀ n, sureTo bs n ∣ wh bs
  | 0 => Nat.dvd_refl _
  | n + 1 => by
    cases h : (cls bs)[n]? with
    | none =>
      have e : sureTo bs (n + 1) = sureTo bs n := by
        unfold sureTo
        rw [List.getElem?_eq_none_iff] at h
        rw [List.take_of_length_le (by omega), List.take_of_length_le h]
      rw [e]
      exact sureTo_dvd bs n
    | some x =>
      rw [sureTo_succ h]
      exact Nat.dvd_trans (Nat.gcd_dvd_left _ _) (sureTo_dvd bs n)
theorem sureTo_pos {bs : List Bar} (hp : 0 < wh bs) (n : Nat) : 0 < sureTo bs n := Nat.pos_of_dvd_of_pos (sureTo_dvd bs n) hp
theorem emod_of_emod {a : Int} {m k : Nat} (h : m ∣ k) : a % (k : Int) % (m : Int) = a % (m : Int) := Int.emod_emod_of_dvd a (Int.natCast_dvd_natCast.mpr h)
def sureM (bs : List Bar) : Nat := sureTo bs (cls bs).length
def sureR (bs : List Bar) : Int := (cls bs).headD 0 % (sureM bs : Int)
theorem head_get {bs : List Bar} (h : cls bs ≠ []) : (cls bs)[0]? = some ((cls bs).headD 0) := by
  cases e : cls bs with
  | nil => exact absurd e h
  | cons x r => rfl
def sp_p_greatest_sure (K : PySem.W.Frag) (C B : Addr) : Sp := fun vs H Q E => ∃ (p : Addr) (v : V) (t : Addr) (bs : List Bar), vs = [.ref p] ∧ SvAt K C H p v t bs ∧
  ((cls bs = [] ∧ ∀ H', Same H H' → E (.ref B) none H') ∨ (cls bs ≠ [] ∧ ∀ u H', Same H H' → H u = none → H' u = some (.tup [.int (sureM bs), .int (sureR bs)]) → Q (.ref u) H'))
section
variable {P : Program} {w : World} {K : PySem.W.Frag} {mg : Str → Option Value} {base : Heap}
theorem ok_p_greatest_sure (T : Txt K mg) : FnOk P w K mg base (L2.CX P w) 5 T.f_p_greatest_sure T.fd_p_greatest_sure ["sieve"] (sp_p_greatest_sure K T.C T.C_Nothing) := by
  refine T.F_p_greatest_sure.okX sc_p_greatest_sure (fun vs H Q E h => ?_) (fun cdv A outer s H vs Q E hr h => ?_)
  · obtain ⟨p, v, t, bs, rfl, _⟩ := h
    rfl
  · obtain ⟨p, v, t, bs, rfl, S, h⟩ := h
    refine ⟨_, (pss_cons (ps_expr (pe_call (ok_p_check_some T) (hr.mono (by decide)) (by rfl) T.g_p_check_some T.F_p_check_some.kp T.b_p_check_some .nil (passes_call (takes_of rfl rfl rfl rfl) (fun _ _ _ _ h => h)) (pa_cons (pv 0) pa_nil)))
      (pss_cons (ps_set (i := 1) sc_p_greatest_sure.nd rfl (by first | exact .inl rfl | exact .inr rfl) (pe_ix ix_tup (pe_prop (pv 0) T.cl T.pp_classes (ok_m_Sieve_classes T) (hr.mono (by decide)) T.b_m_Sieve_classes .nil pass0 (by rfl)) pe_int (fun _ _ => rfl)))
      (pss_cons (ps_set (i := 2) sc_p_greatest_sure.nd rfl (by first | exact .inl rfl | exact .inr rfl) (pe_prop (pv 0) T.cl T.pp_whole (ok_m_Sieve_whole T) (hr.mono (by decide)) T.b_m_Sieve_whole .nil pass0 (by rfl)))
      (pss_cons (ps_for (passes_of rfl) rfl (pi_tup (pe_prop (pv 0) T.cl T.pp_classes (ok_m_Sieve_classes T) (hr.mono (by decide)) T.b_m_Sieve_classes .nil pass0 (by rfl))) (pg_name (i := 3) sc_p_greatest_sure.nd rfl (by first | exact .inl rfl | exact .inr rfl)) (pss_one (ps_set (i := 2) sc_p_greatest_sure.nd rfl (by first | exact .inl rfl | exact .inr rfl) (pe_callBfun cr_gcd (by rfl) T.g_gcd (pa_cons (pv 2) (pa_cons (pe_op op_sub (pv 3) (pv 1)) pa_nil))))))
      (pss_one (ps_ret (pe_tup (pa_cons (pv 2) (pa_cons (pe_op op_mod (pv 1) (pv 2)) pa_nil))))))))), ?_⟩
    rcases h with ⟨h, q⟩ | ⟨h, q⟩
    · exact ⟨_, rfl, p, v, t, bs, rfl, S, .inr ⟨h, q⟩⟩
    · refine ⟨_, rfl, p, v, t, bs, rfl, S, .inl ⟨h, fun H1 s1 => ?_⟩⟩
      have S1 := S.stay s1
      have hp := S.ok.mods.pos
      refine ⟨_, rfl, p, _, _, rfl, S1.ob.choose_spec, p, v, t, bs, rfl, S1, t, _, _, _, rfl, rfl, S1.cls, atI_nat (j := 0) (by rw [List.getElem?_map, head_get h]; rfl), ?_⟩
      refine ⟨_, rfl, p, _, _, rfl, S1.ob.choose_spec, p, v, t, bs, rfl, S1, ?_⟩
      refine ⟨_, rfl, p, _, _, rfl, S1.ob.choose_spec, p, v, t, bs, rfl, S1, t, rfl, ⟨_, S1.cls⟩, for_tup (K := K) (a := t) (xs := (cls bs).map V.int) (fun i σ H2 => ∃ x : Option V, σ = [some (.ref p), some (.int ((cls bs).headD 0)), some (.int (sureTo bs i)), x] ∧ H2 = H1)
        ⟨none, rfl, rfl⟩ (fun i σ H2 _ ⟨_, _, e⟩ => by rw [e]; exact S1.cls) ?_ ?_⟩
      · rintro i y σ H2 hi ⟨x, rfl, rfl⟩
        obtain ⟨c, hc, rfl⟩ := getMapInt' hi
        refine ⟨_, rfl, _, rfl, _, rfl, _, _, rfl, rfl, _, _, rfl, ?_⟩
        rw [Int.natAbs_natCast, ← sureTo_succ hc]
        exact ⟨_, rfl, rfl⟩
      · rintro σ H2 ⟨x, rfl, rfl⟩
        rw [List.length_map]
        have g0 := sureTo_pos hp (cls bs).length
        refine ⟨_, rfl, _, rfl, _, rfl, _, _, rfl, rfl, by show (0 : Int) < (sureTo bs (cls bs).length : Int); omega, sizeOk (by show (2 : Nat) ≤ 100000; decide), fun u nu => ?_⟩
        exact q u _ (s1.trans (same_upd nu)) (s1.free nu) upd_same
end

end R
namespace R
open PySem PySem.Spec PyProof.Rows L2
/-! a list of pairs of ints -/
structure PrAt (H : Hp) (xs : List V) (ms : List (Int × Int)) : Prop where
  len : xs.length = ms.length
  at_ : ∀ (i : Nat) x m, xs[i]? = some x → ms[i]? = some m → ∃ t, x = .ref t ∧ H t = some (.tup [.int m.1, .int m.2])
theorem PrAt.nil (H : Hp) : PrAt H [] [] := ⟨rfl, fun i x m h _ => by simp at h⟩
theorem PrAt.stay {H H' : Hp} {xs : List V} {ms : List (Int × Int)} (h : PrAt H xs ms) (s : ∀ t u, H t = some (.tup u) → H' t = some (.tup u)) : PrAt H' xs ms :=
  ⟨h.len, fun i x m a b => let ⟨t, e, q⟩ := h.at_ i x m a b; ⟨t, e, s _ _ q⟩⟩
theorem PrAt.app {H : Hp} {xs ys : List V} {ms ns : List (Int × Int)} (h : PrAt H xs ms) (k : PrAt H ys ns) : PrAt H (xs ++ ys) (ms ++ ns) := by
  refine ⟨by rw [List.length_append, List.length_append, h.len, k.len], fun i x m a b => ?_⟩
  by_cases l : i < xs.length
  · rw [List.getElem?_append_left l] at a
    rw [List.getElem?_append_left (by rw [← h.len]; exact l)] at b
    exact h.at_ i x m a b
  · rw [List.getElem?_append_right (by omega)] at a
    rw [List.getElem?_append_right (by rw [← h.len]; omega), ← h.len] at b
    exact k.at_ _ x m a b
theorem PrAt.one {H : Hp} {t : Addr} {m : Int × Int} (h : H t = some (.tup [.int m.1, .int m.2])) : PrAt H [.ref t] [m] := by
  refine ⟨rfl, fun i x n a b => ?_⟩
  cases i with
  | zero =>
    cases Option.some.inj a
    cases Option.some.inj b
    exact ⟨t, rfl, h⟩
  | succ i => simp at a
/-- what a pair on the heap tells -/
def prOf (H : Hp) (x : V) : Int × Int := match x with
  | .ref t => match H t with
    | some (.tup [.int a, .int b]) => (a, b)
    | _ => (0, 0)
  | _ => (0, 0)
theorem prOf_at {H : Hp} {t : Addr} {m : Int × Int} (h : H t = some (.tup [.int m.1, .int m.2])) : prOf H (.ref t) = m := by
  show (match H t with | some (.tup [.int a, .int b]) => (a, b) | _ => (0, 0)) = m
  rw [h]
theorem PrAt.map {H : Hp} {xs : List V} {ms : List (Int × Int)} (h : PrAt H xs ms) : xs.map (prOf H) = ms := by
  refine List.ext_getElem? fun i => ?_
  rw [List.getElem?_map]
  cases a : xs[i]? with
  | none =>
    have := List.getElem?_eq_none_iff.mp a
    rw [List.getElem?_eq_none_iff.mpr (by rw [← h.len]; exact this)]
    rfl
  | some x =>
    have l := (List.getElem?_eq_some_iff.mp a).1
    have b : ms[i]? = some (ms[i]'(by rw [← h.len]; exact l)) := List.getElem?_eq_getElem _
    obtain ⟨t, rfl, e⟩ := h.at_ i x _ a b
    rw [b]
    exact congrArg some (prOf_at e)
theorem PrAt.all {H : Hp} {xs : List V} {ms : List (Int × Int)} (h : PrAt H xs ms) : ∀ x ∈ xs, ∃ t, x = V.ref t ∧ H t = some (.tup [.int (prOf H x).1, .int (prOf H x).2]) := fun x hx => by
  obtain ⟨i, hi⟩ := List.getElem?_of_mem hx
  have l := (List.getElem?_eq_some_iff.mp hi).1
  obtain ⟨t, rfl, e⟩ := h.at_ i x _ hi (List.getElem?_eq_getElem (by rw [← h.len]; exact l))
  exact ⟨t, rfl, by rw [prOf_at e]; exact e⟩
theorem PrAt.of {H : Hp} {ys : List V} (h : ∀ x ∈ ys, ∃ t, x = V.ref t ∧ H t = some (.tup [.int (prOf H x).1, .int (prOf H x).2])) : PrAt H ys (ys.map (prOf H)) := by
  refine ⟨(List.length_map ..).symm, fun i x m a b => ?_⟩
  rw [List.getElem?_map, a] at b
  obtain ⟨t, rfl, e⟩ := h x (List.mem_of_getElem? a)
  exact ⟨t, rfl, by rw [← Option.some.inj b]; exact e⟩
/-- the marks of one side as they grow -/
def MarksTo (H0 : Hp) (F : Addr) (l : List (Int × Int)) (H : Hp) : Prop := ∃ xs : List V, H F = some (.lst xs) ∧ PrAt H xs l ∧ ∀ b o, b ≠ F → H0 b = some o → H b = some o
theorem MarksTo.start {H : Hp} {F : Addr} (n : H F = none) : MarksTo H F [] (upd H F (.lst [])) := ⟨[], upd_same, PrAt.nil _, fun b o nb e => by rw [upd_ne nb]; exact e⟩
theorem MarksTo.add {H0 H : Hp} {F t : Addr} {l : List (Int × Int)} {m : Int × Int} {xs : List V} (e : H F = some (.lst xs)) (pr : PrAt H xs l) (k : ∀ b o, b ≠ F → H0 b = some o → H b = some o) (nt : H t = none) :
    upd H t (.tup [.int m.1, .int m.2]) F = some (.lst xs) ∧ MarksTo H0 F (l ++ [m]) (upd (upd H t (.tup [.int m.1, .int m.2])) F (.lst (xs ++ [.ref t]))) := by
  have ntF : t ≠ F := fun z => by rw [z, e] at nt; cases nt
  refine ⟨by rw [upd_ne (Ne.symm ntF)]; exact e, xs ++ [.ref t], upd_same, ?_, fun b o nb q => ?_⟩
  · refine PrAt.app (pr.stay fun a u q => ?_) (PrAt.one ?_)
    · rw [upd_ne (fun z => by rw [z, e] at q; cases q), upd_ne (ne_of_none q nt)]
      exact q
    · rw [upd_ne ntF]
      exact upd_same
  · rw [upd_ne nb, upd_ne (ne_of_none (k b o nb q) nt)]
    exact k b o nb q
/-! as data -/
def prD (m : Int × Int) : PyData := .tuple [.int m.1, .int m.2]
theorem dpPr {K : PySem.W.Frag} {H : Hp} : ∀ {xs : List V} {ms : List (Int × Int)}, PrAt H xs ms → DpAll K H xs (ms.map prD)
  | [], [], _ => .nil
  | [], m :: ms, h => nomatch h.len
  | x :: xs, [], h => nomatch h.len
  | x :: xs, m :: ms, h => by
    obtain ⟨t, rfl, e⟩ := h.at_ 0 x m rfl rfl
    exact .cons (.tup (tupOf e) (.cons (.int _) (.cons (.int _) .nil))) (dpPr ⟨Nat.succ.inj h.len, fun i y n a b => h.at_ (i + 1) y n a b⟩)
theorem okPr (ms : List (Int × Int)) : ∀ d ∈ ms.map prD, okD 1 d := fun d h => by
  obtain ⟨m, _, rfl⟩ := List.mem_map.mp h
  refine okD.tup fun d h => ?_
  rcases List.mem_cons.mp h with rfl | h
  · exact ⟨rfl, Nat.zero_le _⟩
  · rw [List.mem_singleton.mp h]
    exact ⟨rfl, Nat.zero_le _⟩
theorem eqvPrNil (ms : List (Int × Int)) : PyData.eqv (.list (ms.map prD)) (.list []) = decide (ms = []) := by
  rw [PyData.eqv]
  cases ms with
  | nil => rfl
  | cons x r => rfl
theorem eqvPr (m n : Int × Int) : PyData.eqv (prD m) (prD n) = decide (m = n) := by
  obtain ⟨a, b⟩ := m
  obtain ⟨c, d⟩ := n
  show PyData.eqv (.tuple [.int a, .int b]) (.tuple [.int c, .int d]) = _
  rw [PyData.eqv, PyData.eqvAll, PyData.eqvAll, PyData.eqvAll, PyData.eqv, PyData.eqv]
  by_cases h : a = c
  · subst h
    by_cases h2 : b = d
    · subst h2
      simp
    · simp [h2]
  · simp [h]
theorem inPr {m : Int × Int} {ms : List (Int × Int)} (h : m ∈ ms) : ((ms.map prD).any fun z => PyData.eqv z (prD m)) = true := by
  rw [List.any_map, List.any_eq_true]
  refine ⟨m, h, ?_⟩
  show PyData.eqv (prD m) (prD m) = true
  rw [eqvPr]
  exact decide_eq_true rfl

end R
namespace R
open PySem PySem.Spec PyProof.Rows L2
/-! ## all pairs of rests, their sums and products -/
def prodL (as bs : List Int) : List (Int × Int) := as.flatMap fun a => bs.map fun b => (a, b)
theorem prodL_app (as cs bs : List Int) : prodL (as ++ cs) bs = prodL as bs ++ prodL cs bs := List.flatMap_append
theorem prodL_one (a : Int) (bs : List Int) : prodL [a] bs = bs.map fun b => (a, b) := by
  unfold prodL
  rw [List.flatMap_cons, List.flatMap_nil, List.append_nil]
theorem prodL_len (bs : List Int) : ∀ as : List Int, (prodL as bs).length = as.length * bs.length
  | [] => by rw [List.length_nil, Nat.zero_mul]; rfl
  | a :: as => by
    rw [show a :: as = [a] ++ as from rfl, prodL_app, List.length_append, prodL_len bs as, prodL_one, List.length_map, List.length_append, Nat.add_mul]
    show _ = 1 * _ + _
    rw [Nat.one_mul]
theorem mem_prodL {as bs : List Int} {m : Int × Int} : m ∈ prodL as bs ↔ m.1 ∈ as ∧ m.2 ∈ bs := by
  unfold prodL
  rw [List.mem_flatMap]
  constructor
  · rintro ⟨a, ha, h⟩
    obtain ⟨b, hb, rfl⟩ := List.mem_map.mp h
    exact ⟨ha, hb⟩
  · rintro ⟨h1, h2⟩
    exact ⟨m.1, h1, List.mem_map.mpr ⟨m.2, h2, rfl⟩⟩
theorem restsL_len (bs : List Bar) (m : Nat) : (restsL bs m).length ≤ m := restsTo_len bs m m
def sp_p_pairs_of_rests (K : PySem.W.Frag) (C B : Addr) : Sp := fun vs H Q E => ∃ (p : Addr) (v : V) (t : Addr) (bs : List Bar) (p2 : Addr) (v2 : V) (t2 : Addr) (cs : List Bar) (x : V), vs = [.ref p, .ref p2, x] ∧ SvAt K C H p v t bs ∧ SvAt K C H p2 v2 t2 cs ∧
  ((OffI K H 1 200 x ∧ E (.ref B) none H) ∨ ∃ m : Nat, x = .int m ∧ 1 ≤ m ∧ m ≤ 200 ∧ ∀ D H' xs, Same H H' → H D = none → H' D = some (.lst xs) → PrAt H' xs (prodL (restsL bs m) (restsL cs m)) → Q (.ref D) H')
section
variable {P : Program} {w : World} {K : PySem.W.Frag} {mg : Str → Option Value} {base : Heap}
theorem ok_p_pairs_of_rests (T : Txt K mg) : FnOk P w K mg base (L2.CX P w) 6 T.f_p_pairs_of_rests T.fd_p_pairs_of_rests ["one", "other", "modulus"] (sp_p_pairs_of_rests K T.C T.C_BadModulus) := by
  refine T.F_p_pairs_of_rests.okX sc_p_pairs_of_rests (fun vs H Q E h => ?_) (fun cdv A outer s H vs Q E hr h => ?_)
  · obtain ⟨p, v, t, bs, p2, v2, t2, cs, x, rfl, _⟩ := h
    rfl
  · obtain ⟨p, v, t, bs, p2, v2, t2, cs, x, rfl, S, S2, h⟩ := h
    refine ⟨_, (pss_cons (ps_expr (pe_call (ok_p_check_modulus T) (hr.mono (by decide)) (by rfl) T.g_p_check_modulus T.F_p_check_modulus.kp T.b_p_check_modulus .nil (passes_call (takes_of rfl rfl rfl rfl) (fun _ _ _ _ h => h)) (pa_cons (pv 2) (pa_cons (pe_glob (v := .int 200) (by rfl) T.c_GREATEST_RECKONED_BY.choose_spec ⟨_, rfl⟩) pa_nil))))
      (pss_cons (ps_set (i := 3) sc_p_pairs_of_rests.nd rfl (by first | exact .inl rfl | exact .inr rfl) (pe_call (ok_p_rests T) (hr.mono (by decide)) (by rfl) T.g_p_rests T.F_p_rests.kp T.b_p_rests .nil (passes_call (takes_of rfl rfl rfl rfl) (fun _ _ _ _ h => h)) (pa_cons (pv 1) (pa_cons (pv 2) pa_nil))))
      (pss_one (ps_ret (pe_lc2 (own := [("first", 4), ("second", 5)]) (vs1 := [5]) rfl sc_p_pairs_of_rests.nd (pi_list (pe_call (ok_p_rests T) (hr.mono (by decide)) (by rfl) T.g_p_rests T.F_p_rests.kp T.b_p_rests .nil passL (pa_cons (pv 0) (pa_cons (pv 2) pa_nil)))) (blkOk_by (N := ["one", "other", "modulus", "of_other", "first", "second"]) (sc := defScope s_p_pairs_of_rests) (by decide +kernel)) (by decide) (fun _ _ _ _ _ => (pg_name (i := 4) sc_p_pairs_of_rests.nd rfl (by first | exact .inl rfl | exact .inr rfl))) (fun _ _ _ _ _ => pts_nil) (fun _ _ _ _ _ => (pi_listK (K := K) rfl (pv 3))) (fun _ _ _ _ _ => (pg_name (i := 5) sc_p_pairs_of_rests.nd rfl (by first | exact .inl rfl | exact .inr rfl))) (fun _ _ _ _ _ => pts_nil) (fun _ _ _ _ _ => (pe_tup (pa_cons (pv 4) (pa_cons (pv 5) pa_nil))))))))), ?_⟩
    rcases h with ⟨o, q⟩ | ⟨m, rfl, m1, m2, q⟩
    · exact ⟨_, rfl, x, _, rfl, .inr ⟨o, q⟩⟩
    · refine ⟨_, rfl, _, _, rfl, .inl ⟨m, rfl, by omega, by show (m : Int) ≤ 200; omega, ?_⟩⟩
      refine ⟨_, rfl, _, rfl, p2, v2, t2, cs, _, rfl, S2, .inr ⟨m, rfl, m1, by omega, fun D1 H1 s1 n1 e1 => ?_⟩⟩
      refine ⟨_, rfl, _, rfl, p, v, t, bs, _, rfl, S.stay s1, .inr ⟨m, rfl, m1, by omega, fun D2 H2 s2 n2 e2 => ?_⟩⟩
      refine ⟨D2, rfl, ⟨_, lstOf e2⟩, fun F nF => ?_⟩
      have la := restsL_len bs m
      have lb := restsL_len cs m
      have f1 := s2 _ _ e1
      generalize restsL bs m = as at *
      generalize restsL cs m = ds at *
      have ss : ∀ {l : List (Int × Int)} {Hj : Hp}, MarksTo H2 F l Hj → Same H2 Hj := fun ⟨_, _, _, k⟩ b o e => k b o (ne_of_none e nF) e
      have ll : (as.map V.int).length = as.length := List.length_map ..
      have l2 : (ds.map V.int).length = ds.length := List.length_map ..
      refine ⟨fun i n H => n = as.length - i ∧ i ≤ as.length ∧ MarksTo H2 F (prodL (as.take i) ds) H, ⟨_, rfl, Nat.zero_le _, MarksTo.start nF⟩, ?_⟩
      rintro i _ Hi ⟨rfl, hi, pv⟩
      have si := lstOf (K := K) (ss pv _ _ e2)
      by_cases lt : i < as.length
      · refine .inr ⟨⟨_, _, si, getMapInt lt⟩, MarksTo H2 F (prodL (as.take (i + 1)) ds), fun H' p' => ⟨as.length - (i + 1), by omega, rfl, lt, p'⟩, ?_⟩
        rintro x _ ⟨rfl, y⟩
        have hx := y _ si
        rw [getMapInt lt] at hx
        obtain rfl := Option.some.inj hx
        have ha : as[i]? = some as[i] := List.getElem?_eq_getElem lt
        generalize as[i] = a at ha
        have step : prodL (as.take (i + 1)) ds = prodL (as.take i) ds ++ ds.map fun b => (a, b) := by rw [takeSucc ha, prodL_app, prodL_one]
        refine ⟨rfl, ?_⟩
        refine ⟨_, rfl, D1, rfl, ⟨_, lstOf (ss pv _ _ f1)⟩, ?_⟩
        refine ⟨fun j n H => n = ds.length - j ∧ j ≤ ds.length ∧ MarksTo H2 F (prodL (as.take i) ds ++ (ds.take j).map fun b => (a, b)) H, ⟨_, rfl, Nat.zero_le _, by rw [List.take_zero, List.map_nil, List.append_nil]; exact pv⟩, ?_⟩
        rintro j _ Hj ⟨rfl, hj, pw⟩
        have sj := lstOf (K := K) (ss pw _ _ f1)
        by_cases lj : j < ds.length
        · refine .inr ⟨⟨_, _, sj, getMapInt lj⟩, MarksTo H2 F (prodL (as.take i) ds ++ (ds.take (j + 1)).map fun b => (a, b)), fun H' p' => ⟨ds.length - (j + 1), by omega, rfl, lj, p'⟩, ?_⟩
          rintro z _ ⟨rfl, y2⟩
          have hz := y2 _ sj
          rw [getMapInt lj] at hz
          obtain rfl := Option.some.inj hz
          have hb : ds[j]? = some ds[j] := List.getElem?_eq_getElem lj
          generalize ds[j] = b at hb
          refine ⟨rfl, ?_⟩
          refine ⟨_, rfl, _, rfl, sizeOk (by show (2 : Nat) ≤ 100000; decide), fun e ne => ?_⟩
          obtain ⟨xs, ex, px, kx⟩ := pw
          obtain ⟨g1, g2⟩ := MarksTo.add (m := (a, b)) ex px kx ne
          refine ⟨_, g1, ?_, ?_⟩
          · rw [px.len, List.length_append, prodL_len, List.length_map, List.length_take, List.length_take]
            have h1 : min i as.length * ds.length ≤ 200 * 200 := Nat.mul_le_mul (by omega) (by omega)
            exact sizeLt (by omega)
          · rw [takeSucc hb, List.map_append, ← List.append_assoc]
            exact g2
        · obtain rfl : j = ds.length := by omega
          rw [List.take_length, ← step] at pw
          exact .inl ⟨⟨_, sj, by rw [l2]; exact Nat.le_refl _⟩, pw⟩
      · obtain rfl : i = as.length := by omega
        rw [List.take_length] at pv
        have sv := ss pv
        obtain ⟨xs, ex, px, _⟩ := pv
        exact .inl ⟨⟨_, si, by rw [ll]; exact Nat.le_refl _⟩, q F Hi xs (s1.trans (s2.trans sv)) ((s1.trans s2).free nF) ex px⟩
end

end R
namespace R
open PySem PySem.Spec PyProof.Rows L2
/-! a dict that is known by its int keys -/
structure DOn (H : Hp) (d : Addr) (S : List Int) : Prop where
  ex : ∃ (kvs : List (Key × V)) (ks : List Int), H d = some (.dK kvs) ∧ kvs.map (·.1) = ks.map Sum.inl ∧ ks.Nodup ∧ ∀ k, k ∈ ks ↔ k ∈ S
theorem DOn.nil {H : Hp} {d : Addr} (h : H d = some (.dK [])) : DOn H d [] := ⟨[], [], h, rfl, List.nodup_nil, fun _ => Iff.rfl⟩
theorem DOn.stay {H H' : Hp} {d : Addr} {S : List Int} (h : DOn H d S) (s : ∀ u, H d = some u → H' d = some u) : DOn H' d S := by
  obtain ⟨kvs, ks, e, r⟩ := h.ex
  exact ⟨kvs, ks, s _ e, r⟩
theorem putK_old {kvs : List (Key × V)} {k : Key} {v : V} (m : k ∈ kvs.map (·.1)) : (putK kvs k v).map (·.1) = kvs.map (·.1) := by
  obtain ⟨kv, m, e⟩ := List.mem_map.mp m
  unfold putK
  rw [if_pos (List.any_eq_true.mpr ⟨kv, m, decide_eq_true e⟩), List.map_map]
  refine List.map_congr_left fun x _ => ?_
  show (if x.1 = k then (x.1, v) else x).1 = x.1
  split <;> rfl
theorem putK_add {kvs : List (Key × V)} {k : Key} {v : V} (m : k ∉ kvs.map (·.1)) : (putK kvs k v).map (·.1) = kvs.map (·.1) ++ [k] := by
  unfold putK
  rw [if_neg, List.map_append]
  · rfl
  · intro q
    obtain ⟨kv, q, e⟩ := List.any_eq_true.mp q
    exact m (List.mem_map.mpr ⟨kv, q, of_decide_eq_true e⟩)
theorem len_range {ks : List Int} {m : Nat} (nd : ks.Nodup) (h : ∀ k ∈ ks, 0 ≤ k ∧ k < (m : Int)) : ks.length ≤ m := by
  have e := nodup_le nd (ys := (List.range m).map fun i : Nat => (i : Int)) fun k hk => by
    obtain ⟨h1, h2⟩ := h k hk
    exact List.mem_map.mpr ⟨k.toNat, List.mem_range.mpr (by omega), by omega⟩
  rw [List.length_map, List.length_range] at e
  exact e
theorem DOn.put {H : Hp} {d : Addr} {S : List Int} {m : Nat} (h : DOn H d S) (hS : ∀ k ∈ S, 0 ≤ k ∧ k < (m : Int)) (hm : m ≤ 100000) (k : Int) (v : V) :
    ∃ H', DPut H d (.int k) v H' ∧ (∀ b o, b ≠ d → H b = some o → H' b = some o) ∧ DOn H' d (S ++ [k]) := by
  obtain ⟨kvs, ks, e, hk, nd, mem⟩ := h.ex
  have hl : kvs.length ≤ m := by
    have e2 := congrArg List.length hk
    rw [List.length_map, List.length_map] at e2
    rw [e2]
    exact len_range nd fun k hk => hS k ((mem k).mp hk)
  refine ⟨_, DPut.k (k := Sum.inl k) e (sizeLt (by omega)), fun b o nb q => by rw [upd_ne nb]; exact q, ⟨_, if k ∈ ks then ks else ks ++ [k], upd_same, ?_, ?_, ?_⟩⟩
  · have e3 : (Sum.inl k : Key) ∈ kvs.map (·.1) ↔ k ∈ ks := by
      rw [hk, List.mem_map]
      exact ⟨fun ⟨a, b, c⟩ => Sum.inl.inj c ▸ b, fun b => ⟨k, b, rfl⟩⟩
    by_cases q : k ∈ ks
    · rw [if_pos q, putK_old (e3.mpr q), hk]
    · rw [if_neg q, putK_add (fun z => q (e3.mp z)), hk, List.map_append]
      rfl
  · split
    · exact nd
    · rename_i q
      refine List.nodup_append.mpr ⟨nd, by simp, fun a ha b hb => ?_⟩
      rw [List.mem_singleton.mp hb]
      exact fun z => q (z ▸ ha)
  · intro j
    rw [List.mem_append, List.mem_singleton, ← mem j]
    split
    · rename_i q
      exact ⟨.inl, fun z => z.elim id fun z => z ▸ q⟩
    · rw [List.mem_append, List.mem_singleton]
theorem upOf {ys ks : List Int} (p : ys.Perm ks) (nd : ks.Nodup) (up : ys.Pairwise (· ≤ ·)) : ys.Pairwise (· < ·) := by
  have n2 := p.nodup_iff.mpr nd
  exact (List.pairwise_and_iff.mpr ⟨up, n2⟩).imp fun ⟨a, b⟩ => by omega

end R
namespace R
open PySem PySem.Spec PyProof.Rows L2
/-! a set comprehension over a list -/
theorem scI_list {w : World} {K : PySem.W.Frag} {a : Addr} {xs : List V} {g : TG} {tt : TT} {te : TE} {vs : List Nat} {σ : L2.St} {H1 : Hp} {D : Addr} {Qd : Hp → Prop} (Pv : Nat → Hp → Prop) (h0 : Pv 0 (upd H1 D (SetO w D (fun _ => false) 0)))
    (hl : ∀ i H, i ≤ xs.length → Pv i H → SqL K H a xs)
    (hs : ∀ i x H, xs[i]? = some x → Pv i H → g x (wipe σ vs) H fun σ2 H2 => wipe σ2 vs = wipe σ vs ∧ tt σ2 H2 fun b H3 => if b = true then te σ2 H3 fun y H4 =>
      ∃ (c : Int) (S : Int → Bool) (n : Nat), y = .int c ∧ H4 D = some (SetO w D S n) ∧ n + 1 < scanBound ∧ Pv (i + 1) (upd H4 D (SetO w D (fun j => S j || decide (j = c)) (if S c = true then n else n + 1))) else Pv (i + 1) H3)
    (hd : ∀ H, Pv xs.length H → Qd H) : ∃ W : Nat → Nat → Hp → Prop, (∃ m, W 0 m (upd H1 D (SetO w D (fun _ => false) 0))) ∧ ∀ i m H, W i m H → ((Itl K a).stop i H ∧ Qd H) ∨
      ((Itl K a).go i H ∧ ∃ Nx : Hp → Prop, (∀ H', Nx H' → ∃ m', m' < m ∧ W (i + 1) m' H') ∧ ∀ x H', (Itl K a).yld i H x H' → g x (wipe σ vs) H' fun σ2 H2 => wipe σ2 vs = wipe σ vs ∧ tt σ2 H2 fun b H3 =>
        if b = true then te σ2 H3 fun y H4 => ∃ (c : Int) (S : Int → Bool) (n : Nat), y = .int c ∧ H4 D = some (SetO w D S n) ∧ n + 1 < scanBound ∧ Nx (upd H4 D (SetO w D (fun j => S j || decide (j = c)) (if S c = true then n else n + 1))) else Nx H3) := by
  refine ⟨fun i m H => m = xs.length - i ∧ i ≤ xs.length ∧ Pv i H, ⟨_, rfl, Nat.zero_le _, h0⟩, ?_⟩
  rintro i _ H ⟨rfl, hi, p⟩
  by_cases lt : i < xs.length
  · refine .inr ⟨⟨xs, xs[i], hl i H hi p, by simp [lt]⟩, Pv (i + 1), fun H' p' => ⟨xs.length - (i + 1), by omega, rfl, lt, p'⟩, fun x H' ⟨e, y⟩ => ?_⟩
    subst e
    exact hs i x _ (y xs (hl i _ hi p)) p
  · obtain rfl : i = xs.length := by omega
    exact .inl ⟨⟨xs, hl _ H hi p, Nat.le_refl _⟩, hd H p⟩
def sumM (m : Nat) (z : Int × Int) : Int := (z.1 + z.2) % (m : Int)
def mulM (m : Nat) (z : Int × Int) : Int := z.1 * z.2 % (m : Int)
def sp_p_sums (K : PySem.W.Frag) (C B : Addr) : Sp := fun vs H Q E => ∃ (p : Addr) (v : V) (t : Addr) (bs : List Bar) (p2 : Addr) (v2 : V) (t2 : Addr) (cs : List Bar) (x : V), vs = [.ref p, .ref p2, x] ∧ SvAt K C H p v t bs ∧ SvAt K C H p2 v2 t2 cs ∧
  ((OffI K H 1 200 x ∧ E (.ref B) none H) ∨ ∃ m : Nat, x = .int m ∧ 1 ≤ m ∧ m ≤ 200 ∧ ∀ (ns : List Int) D H', Same H H' → H D = none → ns.Pairwise (· < ·) → (∀ k, k ∈ ns ↔ k ∈ (prodL (restsL bs m) (restsL cs m)).map (sumM m)) → H' D = some (.lst (ns.map V.int)) → Q (.ref D) H')
def sp_p_products (K : PySem.W.Frag) (C B : Addr) : Sp := fun vs H Q E => ∃ (p : Addr) (v : V) (t : Addr) (bs : List Bar) (p2 : Addr) (v2 : V) (t2 : Addr) (cs : List Bar) (x : V), vs = [.ref p, .ref p2, x] ∧ SvAt K C H p v t bs ∧ SvAt K C H p2 v2 t2 cs ∧
  ((OffI K H 1 200 x ∧ E (.ref B) none H) ∨ ∃ m : Nat, x = .int m ∧ 1 ≤ m ∧ m ≤ 200 ∧ ∀ (ns : List Int) D H', Same H H' → H D = none → ns.Pairwise (· < ·) → (∀ k, k ∈ ns ↔ k ∈ (prodL (restsL bs m) (restsL cs m)).map (mulM m)) → H' D = some (.lst (ns.map V.int)) → Q (.ref D) H')
section
variable {P : Program} {w : World} {K : PySem.W.Frag} {mg : Str → Option Value} {base : Heap}
theorem ok_p_sums (T : Txt K mg) : FnOk P w K mg base (L2.CX P w) 7 T.f_p_sums T.fd_p_sums ["one", "other", "modulus"] (sp_p_sums K T.C T.C_BadModulus) := by
  refine T.F_p_sums.okX sc_p_sums (fun vs H Q E h => ?_) (fun cdv A outer s H vs Q E hr h => ?_)
  · obtain ⟨p, v, t, bs, p2, v2, t2, cs, x, rfl, _⟩ := h
    rfl
  · obtain ⟨p, v, t, bs, p2, v2, t2, cs, x, rfl, S, S2, h⟩ := h
    refine ⟨_, (pss_one (ps_ret (pe_callB (cr_sortedSL rfl) (by rfl) T.z_sorted (by decide +kernel) (pa_cons (pe_scI (own := [("first", 3), ("second", 4)]) (g := gTup K 2 (gCons (gName 3) (gCons (gName 4) (gNil)))) rfl sc_p_sums.nd (pi_list (pe_call (ok_p_pairs_of_rests T) (hr.mono (by decide)) (by rfl) T.g_p_pairs_of_rests T.F_p_pairs_of_rests.kp T.b_p_pairs_of_rests .nil (passes_call (takes_of rfl rfl rfl rfl) (fun _ _ _ _ h => h)) (pa_cons (pv 0) (pa_cons (pv 1) (pa_cons (pv 2) pa_nil))))) (blkOk_by (N := ["one", "other", "modulus", "first", "second"]) (sc := defScope s_p_sums) (by decide +kernel)) (fun _ _ _ _ _ => (pg_tup (by rfl) (pgs_cons (pg_name (i := 3) sc_p_sums.nd rfl (by first | exact .inl rfl | exact .inr rfl)) (pgs_cons (pg_name (i := 4) sc_p_sums.nd rfl (by first | exact .inl rfl | exact .inr rfl)) pgs_nil)))) (fun _ _ _ _ _ => pts_nil) (fun _ _ _ _ _ => (pe_op op_mod (pe_op op_add (pv 3) (pv 4)) (pv 2)))) pa_nil)))), ?_⟩
    rcases h with ⟨o, q⟩ | ⟨m, rfl, m1, m2, q⟩
    · exact ⟨_, rfl, _, rfl, _, rfl, p, v, t, bs, p2, v2, t2, cs, x, rfl, S, S2, .inl ⟨o, q⟩⟩
    · refine ⟨_, rfl, _, rfl, _, rfl, p, v, t, bs, p2, v2, t2, cs, _, rfl, S, S2, .inr ⟨m, rfl, m1, m2, fun D1 H1 xs s1 n1 e1 px => ?_⟩⟩
      have bnd : ∀ z ∈ prodL (restsL bs m) (restsL cs m), (0 ≤ z.1 ∧ z.1 < (m : Int)) ∧ 0 ≤ z.2 ∧ z.2 < (m : Int) := fun z hz => by
        obtain ⟨h1, h2⟩ := mem_prodL.mp hz
        obtain ⟨a1, a2, _⟩ := mem_restsL.mp h1
        obtain ⟨b1, b2, _⟩ := mem_restsL.mp h2
        exact ⟨⟨a1, a2⟩, b1, b2⟩
      have few : (prodL (restsL bs m) (restsL cs m)).length ≤ 40000 := by
        rw [prodL_len]
        exact Nat.mul_le_mul (Nat.le_trans (restsL_len bs m) m2) (Nat.le_trans (restsL_len cs m) m2)
      generalize prodL (restsL bs m) (restsL cs m) = ps at *
      have lx := px.len
      refine ⟨D1, rfl, ⟨_, lstOf e1⟩, fun D nD => ?_⟩
      refine scI_list (K := K) (a := D1) (xs := xs) (fun i Hi => ∃ l : List Int, l.Nodup ∧ (∀ k, k ∈ l ↔ k ∈ (ps.take i).map (sumM m)) ∧ Hi D = some (SetO w D (fun j => decide (j ∈ (ps.take i).map (sumM m))) l.length) ∧ Same H1 Hi)
        ⟨[], List.nodup_nil, fun k => Iff.rfl, by rw [upd_same]; exact congrArg some (congrArg (SetO w D · 0) (funext fun j => (decide_eq_false (by simp)).symm)), same_upd nD⟩ (fun i Hi _ ⟨_, _, _, _, si⟩ => lstOf (si _ _ e1)) ?_ ?_
      · rintro i y Hi hi ⟨l, nl, ml, ei, si⟩
        have il := (List.getElem?_eq_some_iff.mp hi).1
        have hz : ps[i]? = some ps[i] := List.getElem?_eq_getElem (by omega)
        generalize ps[i] = z at hz
        obtain ⟨u, rfl, tu⟩ := px.at_ i y z hi hz
        obtain ⟨⟨a1, a2⟩, b1, b2⟩ := bnd z (List.mem_of_getElem? hz)
        refine ⟨u, _, rfl, tupOf (si _ _ tu), rfl, _, _, rfl, _, _, rfl, rfl, rfl, ?_⟩
        refine ⟨_, rfl, _, rfl, _, _, rfl, rfl, ?_⟩
        refine ⟨_, rfl, _, _, rfl, rfl, by show (0 : Int) < (m : Int); omega, ?_⟩
        have hl : l.length ≤ m := len_range nl fun k hk => by
          obtain ⟨y, _, rfl⟩ := List.mem_map.mp ((ml k).mp hk)
          exact ⟨Int.emod_nonneg _ (by omega), Int.emod_lt_of_pos _ (by omega)⟩
        refine ⟨sumM m z, _, l.length, rfl, ei, Nat.lt_of_le_of_lt (show l.length + 1 ≤ 201 by omega) (by decide), (if sumM m z ∈ l then l else l ++ [sumM m z]), ?_, ?_, ?_, samePut si nD⟩
        · split
          · exact nl
          · rename_i q
            refine List.nodup_append.mpr ⟨nl, by simp, fun a ha b hb => ?_⟩
            rw [List.mem_singleton.mp hb]
            exact fun e => q (e ▸ ha)
        · intro k
          rw [takeSucc hz, List.map_append, List.mem_append, ← ml k, List.map_singleton, List.mem_singleton]
          split
          · rename_i q
            exact ⟨.inl, fun e => e.elim id fun e => e ▸ q⟩
          · rw [List.mem_append, List.mem_singleton]
        · have en : (if decide (sumM m z ∈ (ps.take i).map (sumM m)) = true then l.length else l.length + 1) = (if sumM m z ∈ l then l else l ++ [sumM m z]).length := by
            by_cases q : sumM m z ∈ l
            · rw [if_pos q, if_pos (decide_eq_true ((ml _).mp q))]
            · rw [if_neg q, if_neg (fun e => q ((ml _).mpr (of_decide_eq_true e))), List.length_append]
              rfl
          rw [upd_same, en, takeSucc hz, List.map_append]
          refine congrArg some (congrArg (SetO w D · _) (funext fun j => ?_))
          rw [← Bool.decide_or]
          exact decide_eq_decide.mpr (by rw [List.mem_append, List.map_singleton, List.mem_singleton])
      · rintro H2 ⟨l, nl, ml, e2, s2⟩
        have hl : l.length ≤ m := len_range nl fun k hk => by
          obtain ⟨y, _, rfl⟩ := List.mem_map.mp ((ml k).mp hk)
          exact ⟨Int.emod_nonneg _ (by omega), Int.emod_lt_of_pos _ (by omega)⟩
        rw [lx, List.take_length] at e2
        refine ⟨D, _, l.length, rfl, e2, by omega, fun ns F up mem _ nF => ?_⟩
        exact q ns F _ (s1.trans (samePut s2 (s2.free nF))) ((s1.trans s2).free nF) up (fun k => by rw [mem, decide_eq_true_iff]) upd_same
theorem ok_p_products (T : Txt K mg) : FnOk P w K mg base (L2.CX P w) 7 T.f_p_products T.fd_p_products ["one", "other", "modulus"] (sp_p_products K T.C T.C_BadModulus) := by
  refine T.F_p_products.okX sc_p_products (fun vs H Q E h => ?_) (fun cdv A outer s H vs Q E hr h => ?_)
  · obtain ⟨p, v, t, bs, p2, v2, t2, cs, x, rfl, _⟩ := h
    rfl
  · obtain ⟨p, v, t, bs, p2, v2, t2, cs, x, rfl, S, S2, h⟩ := h
    refine ⟨_, (pss_one (ps_ret (pe_callB (cr_sortedSL rfl) (by rfl) T.z_sorted (by decide +kernel) (pa_cons (pe_scI (own := [("first", 3), ("second", 4)]) (g := gTup K 2 (gCons (gName 3) (gCons (gName 4) (gNil)))) rfl sc_p_products.nd (pi_list (pe_call (ok_p_pairs_of_rests T) (hr.mono (by decide)) (by rfl) T.g_p_pairs_of_rests T.F_p_pairs_of_rests.kp T.b_p_pairs_of_rests .nil (passes_call (takes_of rfl rfl rfl rfl) (fun _ _ _ _ h => h)) (pa_cons (pv 0) (pa_cons (pv 1) (pa_cons (pv 2) pa_nil))))) (blkOk_by (N := ["one", "other", "modulus", "first", "second"]) (sc := defScope s_p_products) (by decide +kernel)) (fun _ _ _ _ _ => (pg_tup (by rfl) (pgs_cons (pg_name (i := 3) sc_p_products.nd rfl (by first | exact .inl rfl | exact .inr rfl)) (pgs_cons (pg_name (i := 4) sc_p_products.nd rfl (by first | exact .inl rfl | exact .inr rfl)) pgs_nil)))) (fun _ _ _ _ _ => pts_nil) (fun _ _ _ _ _ => (pe_op op_mod (pe_op op_mulW (pv 3) (pv 4)) (pv 2)))) pa_nil)))), ?_⟩
    rcases h with ⟨o, q⟩ | ⟨m, rfl, m1, m2, q⟩
    · exact ⟨_, rfl, _, rfl, _, rfl, p, v, t, bs, p2, v2, t2, cs, x, rfl, S, S2, .inl ⟨o, q⟩⟩
    · refine ⟨_, rfl, _, rfl, _, rfl, p, v, t, bs, p2, v2, t2, cs, _, rfl, S, S2, .inr ⟨m, rfl, m1, m2, fun D1 H1 xs s1 n1 e1 px => ?_⟩⟩
      have bnd : ∀ z ∈ prodL (restsL bs m) (restsL cs m), (0 ≤ z.1 ∧ z.1 < (m : Int)) ∧ 0 ≤ z.2 ∧ z.2 < (m : Int) := fun z hz => by
        obtain ⟨h1, h2⟩ := mem_prodL.mp hz
        obtain ⟨a1, a2, _⟩ := mem_restsL.mp h1
        obtain ⟨b1, b2, _⟩ := mem_restsL.mp h2
        exact ⟨⟨a1, a2⟩, b1, b2⟩
      have few : (prodL (restsL bs m) (restsL cs m)).length ≤ 40000 := by
        rw [prodL_len]
        exact Nat.mul_le_mul (Nat.le_trans (restsL_len bs m) m2) (Nat.le_trans (restsL_len cs m) m2)
      generalize prodL (restsL bs m) (restsL cs m) = ps at *
      have lx := px.len
      refine ⟨D1, rfl, ⟨_, lstOf e1⟩, fun D nD => ?_⟩
      refine scI_list (K := K) (a := D1) (xs := xs) (fun i Hi => ∃ l : List Int, l.Nodup ∧ (∀ k, k ∈ l ↔ k ∈ (ps.take i).map (mulM m)) ∧ Hi D = some (SetO w D (fun j => decide (j ∈ (ps.take i).map (mulM m))) l.length) ∧ Same H1 Hi)
        ⟨[], List.nodup_nil, fun k => Iff.rfl, by rw [upd_same]; exact congrArg some (congrArg (SetO w D · 0) (funext fun j => (decide_eq_false (by simp)).symm)), same_upd nD⟩ (fun i Hi _ ⟨_, _, _, _, si⟩ => lstOf (si _ _ e1)) ?_ ?_
      · rintro i y Hi hi ⟨l, nl, ml, ei, si⟩
        have il := (List.getElem?_eq_some_iff.mp hi).1
        have hz : ps[i]? = some ps[i] := List.getElem?_eq_getElem (by omega)
        generalize ps[i] = z at hz
        obtain ⟨u, rfl, tu⟩ := px.at_ i y z hi hz
        obtain ⟨⟨a1, a2⟩, b1, b2⟩ := bnd z (List.mem_of_getElem? hz)
        refine ⟨u, _, rfl, tupOf (si _ _ tu), rfl, _, _, rfl, _, _, rfl, rfl, rfl, ?_⟩
        refine ⟨_, rfl, _, rfl, _, _, rfl, rfl, wide_mul (a := 22) (b := 22) (by omega) (by omega) (by decide) (by decide) (by decide), ?_⟩
        refine ⟨_, rfl, _, _, rfl, rfl, by show (0 : Int) < (m : Int); omega, ?_⟩
        have hl : l.length ≤ m := len_range nl fun k hk => by
          obtain ⟨y, _, rfl⟩ := List.mem_map.mp ((ml k).mp hk)
          exact ⟨Int.emod_nonneg _ (by omega), Int.emod_lt_of_pos _ (by omega)⟩
        refine ⟨mulM m z, _, l.length, rfl, ei, Nat.lt_of_le_of_lt (show l.length + 1 ≤ 201 by omega) (by decide), (if mulM m z ∈ l then l else l ++ [mulM m z]), ?_, ?_, ?_, samePut si nD⟩
        · split
          · exact nl
          · rename_i q
            refine List.nodup_append.mpr ⟨nl, by simp, fun a ha b hb => ?_⟩
            rw [List.mem_singleton.mp hb]
            exact fun e => q (e ▸ ha)
        · intro k
          rw [takeSucc hz, List.map_append, List.mem_append, ← ml k, List.map_singleton, List.mem_singleton]
          split
          · rename_i q
            exact ⟨.inl, fun e => e.elim id fun e => e ▸ q⟩
          · rw [List.mem_append, List.mem_singleton]
        · have en : (if decide (mulM m z ∈ (ps.take i).map (mulM m)) = true then l.length else l.length + 1) = (if mulM m z ∈ l then l else l ++ [mulM m z]).length := by
            by_cases q : mulM m z ∈ l
            · rw [if_pos q, if_pos (decide_eq_true ((ml _).mp q))]
            · rw [if_neg q, if_neg (fun e => q ((ml _).mpr (of_decide_eq_true e))), List.length_append]
              rfl
          rw [upd_same, en, takeSucc hz, List.map_append]
          refine congrArg some (congrArg (SetO w D · _) (funext fun j => ?_))
          rw [← Bool.decide_or]
          exact decide_eq_decide.mpr (by rw [List.mem_append, List.map_singleton, List.mem_singleton])
      · rintro H2 ⟨l, nl, ml, e2, s2⟩
        have hl : l.length ≤ m := len_range nl fun k hk => by
          obtain ⟨y, _, rfl⟩ := List.mem_map.mp ((ml k).mp hk)
          exact ⟨Int.emod_nonneg _ (by omega), Int.emod_lt_of_pos _ (by omega)⟩
        rw [lx, List.take_length] at e2
        refine ⟨D, _, l.length, rfl, e2, by omega, fun ns F up mem _ nF => ?_⟩
        exact q ns F _ (s1.trans (samePut s2 (s2.free nF))) ((s1.trans s2).free nF) up (fun k => by rw [mem, decide_eq_true_iff]) upd_same
end

end R
namespace R
open PySem PySem.Spec PyProof.Rows L2
/-! ## lists of tuples of ints -/
/-- a list of tuples of ints -/
structure TupsAt (K : PySem.W.Frag) (H : Hp) (D : Addr) (LL : List (List Int)) : Prop where
  ex : ∃ ts : List Addr, H D = some (.lst (ts.map V.ref)) ∧ ts.length = LL.length ∧ ∀ (i : Nat) t l, ts[i]? = some t → LL[i]? = some l → SqT K H t (l.map V.int)
theorem TupsAt.stay {K : PySem.W.Frag} {H H' : Hp} {D : Addr} {LL : List (List Int)} (h : TupsAt K H D LL) (s : Same H H') : TupsAt K H' D LL :=
  let ⟨ts, e, n, f⟩ := h.ex
  ⟨ts, s _ _ e, n, fun i t l a b => Same.seqTT s (f i t l a b)⟩
theorem TupsAt.nil {K : PySem.W.Frag} {H : Hp} {D : Addr} (h : H D = some (.lst [])) : TupsAt K H D [] := ⟨[], h, rfl, fun i t l a _ => by simp at a⟩
theorem TupsAt.add {K : PySem.W.Frag} {H : Hp} {D t : Addr} {ts : List Addr} {LL : List (List Int)} {l : List Int} (e : H D = some (.lst (ts.map V.ref ++ [V.ref t]))) (n : ts.length = LL.length)
    (f : ∀ (i : Nat) t l, ts[i]? = some t → LL[i]? = some l → SqT K H t (l.map V.int)) (ht : SqT K H t (l.map V.int)) : TupsAt K H D (LL ++ [l]) := by
  refine ⟨ts ++ [t], by rw [e, List.map_append]; rfl, by rw [List.length_append, List.length_append, n]; rfl, fun i u k a b => ?_⟩
  by_cases h : i < ts.length
  · rw [List.getElem?_append_left h] at a
    rw [List.getElem?_append_left (by omega)] at b
    exact f i u k a b
  · rw [List.getElem?_append_right (by omega)] at a
    rw [List.getElem?_append_right (by omega), ← n] at b
    cases z : i - ts.length with
    | zero =>
      rw [z] at a b
      cases Option.some.inj a
      cases Option.some.inj b
      exact ht
    | succ j => rw [z] at a; simp at a
theorem dpTups {K : PySem.W.Frag} {H : Hp} : ∀ {ts : List Addr} {LL : List (List Int)}, ts.length = LL.length → (∀ (i : Nat) t l, ts[i]? = some t → LL[i]? = some l → SqT K H t (l.map V.int)) → DpAll K H (ts.map V.ref) (LL.map fun l => .tuple (l.map PyData.int))
  | [], [], _, _ => .nil
  | [], _ :: _, h, _ => by cases h
  | _ :: _, [], h, _ => by cases h
  | t :: ts, l :: LL, h, f => .cons (dpTup (f 0 t l rfl rfl)) (dpTups (Nat.succ.inj h) fun i u k a b => f (i + 1) u k a b)
theorem TupsAt.dp {K : PySem.W.Frag} {H : Hp} {D : Addr} {LL : List (List Int)} (h : TupsAt K H D LL) : Dp K H (.ref D) (.list (LL.map fun l => .tuple (l.map PyData.int))) := by
  obtain ⟨ts, e, n, f⟩ := h.ex
  exact .lst (lstOf e) (dpTups n f)
theorem okTups (LL : List (List Int)) : okD 2 (.list (LL.map fun l => .tuple (l.map PyData.int))) := okD.lst fun d hd => by
  obtain ⟨l, _, rfl⟩ := List.mem_map.mp hd
  exact okD.tup (okInts l)

end R
namespace R
open PySem PySem.Spec PyProof.Rows L2
/-! ## bars taken by times and moved -/
def scB (k o : Int) (b : Bar) : Bar := (b.1 * k, b.2.map fun r => r * k + o)
theorem whPow {N : Nat} : ∀ bs : List Bar, (∀ b ∈ bs, b.1.natAbs ≤ N) → wh bs ≤ N ^ bs.length := by
  refine snocInd (fun _ => by rw [List.length_nil, Nat.pow_zero]; decide) fun bs b ih h => ?_
  rw [wh_add, List.length_append]
  exact Nat.le_trans (lcm_le_mul _ _) (Nat.mul_le_mul (ih fun c hc => h c (List.mem_append_left _ hc)) (h b (List.mem_append_right _ (List.mem_singleton.mpr rfl))))
theorem scB_lot {k o m : Int} {l : List Int} (h : LotOk m l) (k1 : 1 ≤ k) (o0 : 0 ≤ o) (o1 : o < k) : LotOk (m * k) (l.map fun r => r * k + o) := by
  refine ⟨List.pairwise_map.mpr (h.up.imp fun {x y} lt => ?_), fun r hr => ?_, fun r hr => ?_, by rw [List.length_map]; exact h.few⟩
  · have := Int.mul_lt_mul_of_pos_right lt (show 0 < k by omega)
    omega
  · obtain ⟨x, hx, rfl⟩ := List.mem_map.mp hr
    have := Int.mul_nonneg (h.ge x hx) (show 0 ≤ k by omega)
    omega
  · obtain ⟨x, hx, rfl⟩ := List.mem_map.mp hr
    have h1 := h.lt x hx
    have h2 : (x + 1) * k ≤ m * k := Int.mul_le_mul_of_nonneg_right (by omega) (by omega)
    rw [Int.add_mul, Int.one_mul] at h2
    omega
theorem choices_sc (k o : Int) : ∀ bs : List Bar, choices (bs.map (scB k o)) = choices bs := by
  refine snocInd rfl fun bs b ih => ?_
  rw [List.map_append, choices_add, ← ih]
  show choices (bs.map (scB k o) ++ [scB k o b]) = _
  rw [choices_add]
  show _ * max 1 ((b.2.map _).length) = _
  rw [List.length_map]
theorem scB_one (bs : List Bar) : bs.map (scB 1 0) = bs := by
  have h : ∀ b : Bar, scB 1 0 b = b := fun b => by
    unfold scB
    rw [Int.mul_one, show (fun r : Int => r * 1 + 0) = id from funext fun r => by show r * 1 + 0 = r; omega, List.map_id]
  rw [show scB 1 0 = id from funext h, List.map_id]
theorem Drawn.scaled {most top : Nat} {bs : List Bar} {k o : Int} (D : Drawn most top bs) (h6 : most ≤ 3) (ht : top ≤ 60) (k1 : 1 ≤ k) (k2 : k ≤ 60) (o0 : 0 ≤ o) (o1 : o < k) :
    SvOk (bs.map (scB k o)) ∧ ∀ b ∈ bs.map (scB k o), 1 ≤ b.1 ∧ b.1 ≤ (top : Int) * k := by
  have mods : ∀ b ∈ bs.map (scB k o), 1 ≤ b.1 ∧ b.1 ≤ (top : Int) * k := fun b hb => by
    obtain ⟨c, hc, rfl⟩ := List.mem_map.mp hb
    obtain ⟨c1, c2, _⟩ := D.bar c hc
    have h1 : 1 * 1 ≤ c.1 * k := Int.mul_le_mul c1 k1 (by decide) (by omega)
    have h2 : c.1 * k ≤ (top : Int) * k := Int.mul_le_mul_of_nonneg_right c2 (by omega)
    exact ⟨by show 1 ≤ c.1 * k; omega, h2⟩
  have top60 : (top : Int) * k ≤ 60 * 60 := Int.mul_le_mul (by omega) k2 (by omega) (by decide)
  have len : (bs.map (scB k o)).length ≤ 3 := by
    rw [List.length_map]
    exact Nat.le_trans D.len h6
  refine ⟨⟨by omega, fun b hb => ?_, ?_, by rw [choices_sc]; exact D.many⟩, mods⟩
  · obtain ⟨h1, h2⟩ := mods b hb
    refine ⟨h1, by omega, ?_⟩
    obtain ⟨c, hc, rfl⟩ := List.mem_map.mp hb
    exact scB_lot (D.bar c hc).2.2 k1 o0 o1
  · have h := whPow (N := 3600) (bs.map (scB k o)) fun b hb => by have := mods b hb; omega
    exact Nat.le_trans h (Nat.le_trans (Nat.pow_le_pow_right (by decide) len) (by decide))
/-- a list of bars under way -/
structure BarLst (K : PySem.W.Frag) (H : Hp) (D : Addr) (bs : List Bar) : Prop where
  ex : ∃ ys : List V, H D = some (.lst ys) ∧ ys.length = bs.length ∧ ∀ (i : Nat) x b, ys[i]? = some x → bs[i]? = some b → BarAt K H x b
theorem BarLst.nil {K : PySem.W.Frag} {H : Hp} {D : Addr} (h : H D = some (.lst [])) : BarLst K H D [] := ⟨[], h, rfl, fun i x b a _ => by simp at a⟩
theorem BarLst.add {K : PySem.W.Frag} {H H' : Hp} {D : Addr} {bs : List Bar} {b : Bar} {ys : List V} {x : V} (n : ys.length = bs.length) (f : ∀ (i : Nat) x b, ys[i]? = some x → bs[i]? = some b → BarAt K H x b) (t : TupsStay K H H')
    (e : H' D = some (.lst (ys ++ [x]))) (hb : BarAt K H' x b) : BarLst K H' D (bs ++ [b]) := by
  refine ⟨ys ++ [x], e, by rw [List.length_append, List.length_append, n]; rfl, fun i u c h1 h2 => ?_⟩
  by_cases h : i < ys.length
  · rw [List.getElem?_append_left h] at h1
    rw [List.getElem?_append_left (by omega)] at h2
    exact (f i u c h1 h2).stay t
  · rw [List.getElem?_append_right (by omega)] at h1
    rw [List.getElem?_append_right (by omega), ← n] at h2
    cases z : i - ys.length with
    | zero =>
      rw [z] at h1 h2
      cases Option.some.inj h1
      cases Option.some.inj h2
      exact hb
    | succ j => rw [z] at h1; simp at h1
theorem BarLst.tup {K : PySem.W.Frag} {H : Hp} {u : Addr} {ys : List V} {bs : List Bar} (n : ys.length = bs.length) (f : ∀ (i : Nat) x b, ys[i]? = some x → bs[i]? = some b → BarAt K H x b) (nu : H u = none) :
    BarsAt K (upd H u (.tup ys)) (.ref u) bs := ⟨u, ys, rfl, tupOf upd_same, n, fun i x b h1 h2 => (f i x b h1 h2).stay (.same (same_upd nu))⟩
/-- a list's change leaves the tuples -/
theorem lstTups {K : PySem.W.Frag} {H : Hp} {D : Addr} {ys zs : List V} (e : H D = some (.lst ys)) : TupsStay K H (upd H D (.lst zs)) := fun b xs h => by
  rcases h with (h | ⟨o, h⟩) | h
  · exact .inl (.inl (by rw [upd_ne (ne_of h e (by intro z; cases z))]; exact h))
  · exact .inl (.inr ⟨o, by rw [upd_ne (ne_of h e (by intro z; cases z))]; exact h⟩)
  · exact .inr h

end R
namespace R
open PySem PySem.Spec PyProof.Rows L2
/-! ## a sieve as one bar -/
def oneB (bs : List Bar) : List Bar := [((wh bs : Int), cls bs)]
theorem oneOk {bs : List Bar} (S : SvOk bs) (h1 : wh bs ≤ 1000000) (h2 : (cls bs).length ≤ 60) : SvOk (oneB bs) := by
  have w1 : 0 < wh bs := wh_pos bs fun b hb => (S.bar b hb).pos
  refine ⟨by show (1 : Nat) ≤ 6; decide, fun b hb => ?_, ?_, ?_⟩
  · rw [List.mem_singleton.mp hb]
    refine ⟨by show (1 : Int) ≤ (wh bs : Int); omega, by show (wh bs : Int) ≤ 1000000; omega, cls_up bs, fun r hr => (cls_mem.mp hr).1, fun r hr => (cls_mem.mp hr).2.1, h2⟩
  · show Nat.lcm 1 (wh bs : Int).natAbs ≤ 10 ^ 30
    rw [Nat.lcm_one_left, Int.natAbs_natCast]
    exact Nat.le_trans h1 (by decide)
  · show 1 * max 1 (cls bs).length ≤ 2000
    omega
/-- the tuple of one bar -/
theorem oneAt {K : PySem.W.Frag} {H : Hp} {a b t : Addr} {bs : List Bar} (hb : SqT K H b [.ref a]) (ha : SqT K H a [.int (wh bs : Nat), .ref t]) (ht : SqT K H t ((cls bs).map V.int)) : BarsAt K H (.ref b) (oneB bs) :=
  ⟨b, [.ref a], rfl, hb, rfl, fun i x c h1 h2 => by
    cases i with
    | succ i => simp at h1
    | zero =>
      obtain rfl : V.ref a = x := Option.some.inj h1
      obtain rfl : ((wh bs : Int), cls bs) = c := Option.some.inj h2
      exact ⟨a, .ref t, rfl, ha, ⟨t, rfl, ht⟩⟩⟩
def sp_p_as_one (K : PySem.W.Frag) (C G M : Addr) : Sp := fun vs H Q E => ∃ (p : Addr) (v : V) (t : Addr) (bs : List Bar), vs = [.ref p] ∧ SvAt K C H p v t bs ∧
  ((1000000 < wh bs ∧ E (.ref G) none H) ∨ (wh bs ≤ 1000000 ∧ 60 < (cls bs).length ∧ E (.ref M) none H) ∨
    (wh bs ≤ 1000000 ∧ (cls bs).length ≤ 60 ∧ ∀ p' v' t' H', Same H H' → SvAt K C H' p' v' t' (oneB bs) → Q (.ref p') H'))
section
variable {P : Program} {w : World} {K : PySem.W.Frag} {mg : Str → Option Value} {base : Heap}
theorem ok_p_as_one (T : Txt K mg) : FnOk P w K mg base (L2.CX P w) 12 T.f_p_as_one T.fd_p_as_one ["sieve"] (sp_p_as_one K T.C T.C_TooGreat T.C_TooMany) := by
  refine T.F_p_as_one.okX sc_p_as_one (fun vs H Q E h => ?_) (fun cdv A outer s H vs Q E hr h => ?_)
  · obtain ⟨p, v, t, bs, rfl, _⟩ := h
    rfl
  · obtain ⟨p, v, t, bs, rfl, S, h⟩ := h
    refine ⟨_, (pss_cons (ps_if (pt_cmpR op_gt (pe_prop (pv 0) T.cl T.pp_whole (ok_m_Sieve_whole T) (hr.mono (by decide)) T.b_m_Sieve_whole .nil pass0 (by rfl)) (pe_glob (v := .int 1000000) (by rfl) T.c_GREATEST_MODULUS.choose_spec ⟨_, rfl⟩) (nomark _)) (pss_one (ps_raise rfl (takes_of rfl rfl rfl rfl) (pmk_own PySem.F.excBase_ValueError T.x_TooGreat T.g_TooGreat T.k_TooGreat (raises_own T.b_TooGreat T.t_TooGreat) (by rfl)))) pss_nil)
      (pss_cons (ps_if (pt_cmpR op_gt (pe_callB call_len_seq (by rfl) T.z_len (by decide +kernel) (pa_cons (pe_prop (pv 0) T.cl T.pp_classes (ok_m_Sieve_classes T) (hr.mono (by decide)) T.b_m_Sieve_classes .nil pass0 (by rfl)) pa_nil)) (pe_glob (v := .int 60) (by rfl) T.c_MOST_RESTS.choose_spec ⟨_, rfl⟩) (nomark _)) (pss_one (ps_raise rfl (takes_of rfl rfl rfl rfl) (pmk_own PySem.F.excBase_ValueError T.x_TooMany T.g_TooMany T.k_TooMany (raises_own T.b_TooMany T.t_TooMany) (by rfl)))) pss_nil)
      (pss_one (ps_ret (pe_make T.mkC (ok_m_Sieve_init T) (hr.mono (by decide)) (by rfl) T.g_Sieve T.b_m_Sieve_init .nil pass0 (pa_cons (pe_tup (pa_cons (pe_tup (pa_cons (pe_prop (pv 0) T.cl T.pp_whole (ok_m_Sieve_whole T) (hr.mono (by decide)) T.b_m_Sieve_whole .nil pass0 (by rfl)) (pa_cons (pe_prop (pv 0) T.cl T.pp_classes (ok_m_Sieve_classes T) (hr.mono (by decide)) T.b_m_Sieve_classes .nil pass0 (by rfl)) pa_nil))) pa_nil)) pa_nil)))))), ?_⟩
    refine ⟨_, rfl, p, _, _, rfl, S.ob.choose_spec, p, v, t, bs, rfl, S, _, _, rfl, rfl, _, rfl, ?_⟩
    rcases h with ⟨h, q⟩ | ⟨h1, h, q⟩ | ⟨h1, h2, q⟩
    · rw [decide_eq_true (show (1000000 : Int) < ((wh bs : Nat) : Int) by omega)]
      exact iteT q
    · rw [decide_eq_false (show ¬ (1000000 : Int) < ((wh bs : Nat) : Int) by omega)]
      refine iteF ⟨_, rfl, p, _, _, rfl, S.ob.choose_spec, p, v, t, bs, rfl, S, t, _, rfl, .inr S.cls, _, _, rfl, rfl, _, rfl, ?_⟩
      rw [List.length_map, decide_eq_true (show (60 : Int) < (((cls bs).length : Nat) : Int) by omega)]
      exact iteT q
    · rw [decide_eq_false (show ¬ (1000000 : Int) < ((wh bs : Nat) : Int) by omega)]
      refine iteF ⟨_, rfl, p, _, _, rfl, S.ob.choose_spec, p, v, t, bs, rfl, S, t, _, rfl, .inr S.cls, _, _, rfl, rfl, _, rfl, ?_⟩
      rw [List.length_map, decide_eq_false (show ¬ (60 : Int) < (((cls bs).length : Nat) : Int) by omega)]
      refine iteF ⟨_, rfl, p, _, _, rfl, S.ob.choose_spec, p, v, t, bs, rfl, S, _, rfl, p, _, _, rfl, S.ob.choose_spec, p, v, t, bs, rfl, S, sizeOk (by show (2 : Nat) ≤ 100000; decide), fun a na => ⟨sizeOk (by show (1 : Nat) ≤ 100000; decide), fun b nb => ?_⟩⟩
      have s1 : Same H (upd H a (.tup [.int (wh bs : Nat), .ref t])) := same_upd na
      have s2 : Same (upd H a (.tup [.int (wh bs : Nat), .ref t])) (upd (upd H a (.tup [.int (wh bs : Nat), .ref t])) b (.tup [.ref a])) := same_upd nb
      have B := oneAt (tupOf upd_same) (tupOf (s2 _ _ upd_same)) (Same.seqTT (s1.trans s2) S.cls)
      exact fun y dy ny ndy _ => make_sieve B (oneOk S.ok h1 h2) ny ndy fun t' H' s' A => ⟨rfl, q _ _ _ _ ((s1.trans s2).trans s') A⟩
end

end R
namespace R
open PySem PySem.Spec PyProof.Rows L2
/-- what is no stretch: a begin that is no number, an end that is none, or an end ahead of the begin -/
def OddS (K : PySem.W.Frag) (H : Hp) (x y : V) : Prop := OddV K H x ∨ (∃ i, x = .int i ∧ IsNum i ∧ OddV K H y) ∨ ∃ i j, x = .int i ∧ y = .int j ∧ IsNum i ∧ IsNum j ∧ j < i
def OkS (x y : V) : Prop := ∃ i j, x = .int i ∧ y = .int j ∧ IsNum i ∧ IsNum j ∧ i ≤ j
def sp_p_check_stretch (K : PySem.W.Frag) (B : Addr) : Sp := fun vs H Q E => ∃ x y : V, vs = [x, y] ∧ ((OkS x y ∧ Q .non H) ∨ (OddS K H x y ∧ E (.ref B) none H))
section
variable {P : Program} {w : World} {K : PySem.W.Frag} {mg : Str → Option Value} {base : Heap}
theorem ok_p_check_stretch (T : Txt K mg) : FnOk P w K mg base (L2.CX P w) 5 T.f_p_check_stretch T.fd_p_check_stretch ["begin", "end"] (sp_p_check_stretch K T.C_BadStretch) := by
  refine T.F_p_check_stretch.okX sc_p_check_stretch (fun vs H Q E h => ?_) (fun cdv A outer s H vs Q E hr h => ?_)
  · obtain ⟨x, y, rfl, _⟩ := h
    rfl
  · obtain ⟨x, y, rfl, h⟩ := h
    refine ⟨_, (pss_one (ps_if (PW.pt (pw_or (pt_not (pt_val (pe_call (ok_p_is_number T) (hr.mono (by decide)) (by rfl) T.g_p_is_number T.F_p_is_number.kp T.b_p_is_number .nil pass0 (pa_cons (pv 0) pa_nil)))) (pw_or (pt_not (pt_val (pe_call (ok_p_is_number T) (hr.mono (by decide)) (by rfl) T.g_p_is_number T.F_p_is_number.kp T.b_p_is_number .nil pass0 (pa_cons (pv 1) pa_nil)))) (pw_or1 (pt_cmpR op_gt (pv 0) (pv 1) (nomark _)))))) (pss_one (ps_raise rfl (takes_of rfl rfl rfl rfl) (pmk_own PySem.F.excBase_ValueError T.x_BadStretch T.g_BadStretch T.k_BadStretch (raises_own T.b_BadStretch T.t_BadStretch) (by rfl)))) pss_nil)), ?_⟩
    rcases h with ⟨⟨i, j, rfl, rfl, hi, hj, hij⟩, q⟩ | ⟨o | ⟨i, rfl, hi, o⟩ | ⟨i, j, rfl, rfl, hi, hj, hij⟩, q⟩
    · refine ⟨_, rfl, _, rfl, .inl ⟨i, rfl, hi, true, rfl, iteF ?_⟩⟩
      refine ⟨_, rfl, _, rfl, .inl ⟨j, rfl, hj, true, rfl, iteF ?_⟩⟩
      refine ⟨_, rfl, _, rfl, _, _, rfl, rfl, _, rfl, ?_⟩
      rw [decide_eq_false (by omega)]
      exact iteF q
    · exact ⟨_, rfl, _, rfl, .inr ⟨o, false, rfl, iteT (iteT q)⟩⟩
    · refine ⟨_, rfl, _, rfl, .inl ⟨i, rfl, hi, true, rfl, iteF ?_⟩⟩
      exact ⟨_, rfl, _, rfl, .inr ⟨o, false, rfl, iteT (iteT q)⟩⟩
    · refine ⟨_, rfl, _, rfl, .inl ⟨i, rfl, hi, true, rfl, iteF ?_⟩⟩
      refine ⟨_, rfl, _, rfl, .inl ⟨j, rfl, hj, true, rfl, iteF ?_⟩⟩
      refine ⟨_, rfl, _, rfl, _, _, rfl, rfl, _, rfl, ?_⟩
      rw [decide_eq_true hij]
      exact iteT q
end

end R
namespace R
open PySem PySem.Spec PyProof.Rows L2
def sp_p_count (K : PySem.W.Frag) (C B : Addr) : Sp := fun vs H Q E => ∃ (p : Addr) (v : V) (t : Addr) (bs : List Bar) (x y : V), vs = [.ref p, x, y] ∧ SvAt K C H p v t bs ∧
  ((∃ i j, x = .int i ∧ y = .int j ∧ IsNum i ∧ IsNum j ∧ i ≤ j ∧ ∀ H', Same H H' → Q (.int (pl bs j - pl bs i)) H') ∨ (OddS K H x y ∧ E (.ref B) none H))
section
variable {P : Program} {w : World} {K : PySem.W.Frag} {mg : Str → Option Value} {base : Heap}
theorem ok_p_count (T : Txt K mg) : FnOk P w K mg base (L2.CX P w) 6 T.f_p_count T.fd_p_count ["sieve", "begin", "end"] (sp_p_count K T.C T.C_BadStretch) := by
  refine T.F_p_count.okX sc_p_count (fun vs H Q E h => ?_) (fun cdv A outer s H vs Q E hr h => ?_)
  · obtain ⟨p, v, t, bs, x, y, rfl, _⟩ := h
    rfl
  · obtain ⟨p, v, t, bs, x, y, rfl, S, h⟩ := h
    refine ⟨_, (pss_cons (ps_expr (pe_call (ok_p_check_stretch T) (hr.mono (by decide)) (by rfl) T.g_p_check_stretch T.F_p_check_stretch.kp T.b_p_check_stretch .nil (passes_call (takes_of rfl rfl rfl rfl) (fun _ _ _ _ h => h)) (pa_cons (pv 1) (pa_cons (pv 2) pa_nil))))
      (pss_one (ps_ret (pe_op op_sub (pe_call (ok_p_place_from T) (hr.mono (by decide)) (by rfl) T.g_p_place_from T.F_p_place_from.kp T.b_p_place_from .nil pass0 (pa_cons (pv 0) (pa_cons (pv 2) pa_nil))) (pe_call (ok_p_place_from T) (hr.mono (by decide)) (by rfl) T.g_p_place_from T.F_p_place_from.kp T.b_p_place_from .nil pass0 (pa_cons (pv 0) (pa_cons (pv 1) pa_nil))))))), ?_⟩
    rcases h with ⟨i, j, rfl, rfl, hi, hj, hij, q⟩ | ⟨o, q⟩
    · refine ⟨_, rfl, _, rfl, _, _, rfl, .inl ⟨⟨i, j, rfl, rfl, hi, hj, hij⟩, ?_⟩⟩
      refine ⟨_, rfl, _, rfl, p, v, t, bs, j, rfl, S, hj.size, fun H1 s1 => ?_⟩
      refine ⟨_, rfl, _, rfl, p, v, t, bs, i, rfl, S.stay s1, hi.size, fun H2 s2 => ?_⟩
      exact ⟨_, _, rfl, rfl, q _ (s1.trans s2)⟩
    · exact ⟨_, rfl, _, rfl, _, _, rfl, .inr ⟨o, q⟩⟩
end

end R
namespace R
open PySem PySem.Spec PyProof.Rows L2
/-! ## rows of bars cut and joined -/
theorem cutTake (xs : List V) {i : Nat} (h : i ≤ xs.length) : cutV xs none (some (i : Int)) = xs.take i := by
  unfold cutV
  rw [HT.sIx_none, HT.sIx_nat, List.drop_zero, Nat.sub_zero, Nat.min_eq_left h]
theorem cutDrop (xs : List V) {i : Nat} (h : i ≤ xs.length) : cutV xs (some (i : Int)) none = xs.drop i := by
  unfold cutV
  rw [HT.sIx_none, HT.sIx_nat, Nat.min_eq_left h, List.take_of_length_le (by rw [List.length_drop]; exact Nat.le_refl _)]
theorem cutTake' (xs : List V) (i : Nat) : cutV xs none (some (i : Int)) = xs.take i := by
  unfold cutV
  rw [HT.sIx_none, HT.sIx_nat, List.drop_zero, Nat.sub_zero, ← List.take_take, List.take_length]
theorem barsTake' {K : PySem.W.Frag} {H : Hp} {v : V} {bs : List Bar} {i : Nat} {Q : V → Hp → Prop} (B : BarsAt K H v bs) (q : ∀ y H', Same H H' → BarsAt K H' y (bs.take i) → Q y H') : rSlA K v none (some (i : Int)) H Q := by
  obtain ⟨a, xs, rfl, tb, nb, hb⟩ := B.ex
  refine ⟨a, xs, rfl, tb, fun h => ?_, fun _ p np => ?_⟩
  · have h2 := h.2
    rw [HT.sIx_nat] at h2
    have e : bs.take i = bs := List.take_of_length_le (by omega)
    exact q _ _ (Same.refl _) (by rw [e]; exact B)
  · refine q _ _ (same_upd np) ?_
    rw [cutTake' xs i]
    refine ⟨p, _, rfl, tupOf upd_same, by rw [List.length_take, List.length_take, nb], fun j x b h1 h2 => ?_⟩
    rw [List.getElem?_take] at h1 h2
    by_cases hj : j < i
    · rw [if_pos hj] at h1 h2
      exact (hb j x b h1 h2).stay (.same (same_upd np))
    · rw [if_neg hj] at h1
      cases h1
theorem barsTake {K : PySem.W.Frag} {H : Hp} {v : V} {bs : List Bar} {i : Nat} {Q : V → Hp → Prop} (B : BarsAt K H v bs) (_ : i ≤ bs.length) (q : ∀ y H', Same H H' → BarsAt K H' y (bs.take i) → Q y H') : rSlA K v none (some (i : Int)) H Q := barsTake' B q
theorem barsDrop {K : PySem.W.Frag} {H : Hp} {v : V} {bs : List Bar} {i : Nat} {Q : V → Hp → Prop} (B : BarsAt K H v bs) (hi : i ≤ bs.length) (q : ∀ y H', Same H H' → BarsAt K H' y (bs.drop i) → Q y H') : rSlA K v (some (i : Int)) none H Q := by
  obtain ⟨a, xs, rfl, tb, nb, hb⟩ := B.ex
  refine ⟨a, xs, rfl, tb, fun h => ?_, fun _ p np => ?_⟩
  · have h1 := h.1
    rw [HT.sIx_nat] at h1
    by_cases z : i = 0
    · subst z
      exact q _ _ (Same.refl _) B
    · have e : bs = [] := List.length_eq_zero_iff.mp (by omega)
      subst e
      rw [List.drop_nil] at q
      exact q _ _ (Same.refl _) B
  · refine q _ _ (same_upd np) ?_
    rw [cutDrop xs (by omega)]
    refine ⟨p, _, rfl, tupOf upd_same, by rw [List.length_drop, List.length_drop, nb], fun j x b h1 h2 => ?_⟩
    rw [List.getElem?_drop] at h1 h2
    exact (hb _ x b h1 h2).stay (.same (same_upd np))
theorem catBars {K : PySem.W.Frag} {H : Hp} {v u : V} {bs cs : List Bar} {Q : V → Hp → Prop} (B : BarsAt K H v bs) (C : BarsAt K H u cs) (few : bs.length + cs.length ≤ 1000) (q : ∀ y H', Same H H' → BarsAt K H' y (bs ++ cs) → Q y H') : rCatA K v u H Q := by
  obtain ⟨a, xs, rfl, tb, nb, hb⟩ := B.ex
  obtain ⟨c, ys, rfl, tc, nc, hc⟩ := C.ex
  refine ⟨a, c, xs, ys, rfl, rfl, tb, tc, sizeOk (by omega), fun e => ?_, fun _ e => ?_, fun _ _ p np => ?_⟩
  · subst e
    have e2 : bs = [] := List.length_eq_zero_iff.mp nb.symm
    subst e2
    exact q _ _ (Same.refl _) C
  · subst e
    have e2 : cs = [] := List.length_eq_zero_iff.mp nc.symm
    subst e2
    rw [List.append_nil] at q
    exact q _ _ (Same.refl _) B
  · refine q _ _ (same_upd np) ⟨p, _, rfl, tupOf upd_same, by rw [List.length_append, List.length_append, nb, nc], fun j x b h1 h2 => ?_⟩
    by_cases hj : j < xs.length
    · rw [List.getElem?_append_left hj] at h1
      rw [List.getElem?_append_left (by omega)] at h2
      exact (hb j x b h1 h2).stay (.same (same_upd np))
    · rw [List.getElem?_append_right (by omega)] at h1
      rw [List.getElem?_append_right (by omega), ← nb] at h2
      exact (hc _ x b h1 h2).stay (.same (same_upd np))
/-- (a bar,) -/
theorem oneBar {K : PySem.W.Frag} {H : Hp} {p : Addr} {x : V} {b : Bar} (t : SqT K H p [x]) (h : BarAt K H x b) : BarsAt K H (.ref p) [b] :=
  ⟨p, [x], rfl, t, rfl, fun j y c h1 h2 => by
    cases j with
    | zero =>
      cases Option.some.inj h1
      cases Option.some.inj h2
      exact h
    | succ j => simp at h1⟩
theorem choices_app (xs : List Bar) : ∀ ys : List Bar, choices (xs ++ ys) = choices xs * choices ys := by
  refine snocInd (by rw [List.append_nil]; exact (Nat.mul_one _).symm) fun ys b ih => ?_
  rw [← List.append_assoc, choices_add, choices_add, ih, Nat.mul_assoc]
theorem choices_pos : ∀ ys : List Bar, 1 ≤ choices ys := by
  refine snocInd (Nat.le_refl _) fun ys b ih => ?_
  rw [choices_add]
  exact Nat.mul_le_mul ih (show 1 ≤ max 1 b.2.length by omega)
theorem wh_app (xs : List Bar) : ∀ ys : List Bar, wh (xs ++ ys) = Nat.lcm (wh xs) (wh ys) := by
  refine snocInd (by rw [List.append_nil]; exact (Nat.lcm_one_right _).symm) fun ys b ih => ?_
  rw [← List.append_assoc, wh_add, wh_add, ih, Nat.lcm_assoc]
theorem cutAt {bs : List Bar} {i : Nat} {b : Bar} (h : bs[i]? = some b) : bs = bs.take i ++ [b] ++ bs.drop (i + 1) := by
  obtain ⟨h1, h2⟩ := List.getElem?_eq_some_iff.mp h
  rw [← takeSucc h, List.take_append_drop]
theorem wh_out {xs ys : List Bar} {b : Bar} : wh (xs ++ ys) ∣ wh (xs ++ [b] ++ ys) := by
  rw [wh_app, wh_app, wh_app]
  exact Nat.lcm_dvd (Nat.dvd_trans (Nat.dvd_lcm_left _ _) (Nat.dvd_lcm_left _ _)) (Nat.dvd_lcm_right _ _)
/-- a bar left out -/
theorem SvOk.less {xs ys : List Bar} {b : Bar} (S : SvOk (xs ++ [b] ++ ys)) : SvOk (xs ++ ys) := by
  have hp : 0 < wh (xs ++ [b] ++ ys) := wh_pos _ fun c hc => (S.bar c hc).pos
  refine ⟨?_, fun c hc => S.bar c ?_, Nat.le_trans (Nat.le_of_dvd hp wh_out) S.great, ?_⟩
  · have := S.six
    rw [List.length_append, List.length_append] at this
    rw [List.length_append]
    omega
  · rcases List.mem_append.mp hc with h | h
    · exact List.mem_append_left _ (List.mem_append_left _ h)
    · exact List.mem_append_right _ h
  · have := S.many
    rw [choices_app, choices_app] at this
    rw [choices_app]
    have h1 : choices [b] = max 1 b.2.length := by
      show 1 * max 1 b.2.length = _
      rw [Nat.one_mul]
    have h2 := choices_pos xs
    refine Nat.le_trans (Nat.mul_le_mul_right _ ?_) this
    exact Nat.le_mul_of_pos_right _ (choices_pos [b])
/-- a bar with fewer rests in its place -/
theorem SvOk.swap {xs ys : List Bar} {b c : Bar} (S : SvOk (xs ++ [b] ++ ys)) (e : c.1 = b.1) (o : BarOk c) (l : c.2.length ≤ b.2.length) : SvOk (xs ++ [c] ++ ys) := by
  refine ⟨?_, fun d hd => ?_, ?_, ?_⟩
  · have := S.six
    rw [List.length_append, List.length_append] at this ⊢
    exact this
  · rcases List.mem_append.mp hd with h | h
    · rcases List.mem_append.mp h with h | h
      · exact S.bar d (List.mem_append_left _ (List.mem_append_left _ h))
      · rw [List.mem_singleton.mp h]
        exact o
    · exact S.bar d (List.mem_append_right _ h)
  · have := S.great
    rw [wh_app, wh_add] at this ⊢
    rw [e]
    exact this
  · have := S.many
    rw [choices_app, choices_add] at this ⊢
    exact Nat.le_trans (Nat.mul_le_mul_right _ (Nat.mul_le_mul_left _ (show max 1 c.2.length ≤ max 1 b.2.length by omega))) this
theorem LotOk.len {m : Int} {l : List Int} (h : LotOk m l) : l.length ≤ m.toNat := by
  have := nodup_len (ys := (List.range m.toNat).map fun i : Nat => (i : Int)) (h.up.imp fun {a b} (lt : a < b) => Int.ne_of_lt lt) fun x hx => by
    have h1 := h.ge x hx
    have h2 := h.lt x hx
    exact List.mem_map.mpr ⟨x.toNat, List.mem_range.mpr (by omega), by omega⟩
  rwa [List.length_map, List.length_range] at this
theorem choicesPow {N : Nat} : ∀ bs : List Bar, (∀ b ∈ bs, max 1 b.2.length ≤ N) → choices bs ≤ N ^ bs.length := by
  refine snocInd (fun _ => by rw [List.length_nil, Nat.pow_zero]; decide) fun bs b ih h => ?_
  rw [choices_add, List.length_append]
  exact Nat.mul_le_mul (ih fun c hc => h c (List.mem_append_left _ hc)) (h b (List.mem_append_right _ (List.mem_singleton.mpr rfl)))

end R
namespace R
open PySem PySem.Spec PyProof.Rows L2
/-! ## some bars of a sieve -/
def othersTo (js : List Int) (n : Nat) : List Int := ((List.range n).filter fun k : Nat => decide ((k : Int) ∉ js)).map fun k : Nat => (k : Int)
theorem othersTo_succ (js : List Int) (n : Nat) : othersTo js (n + 1) = othersTo js n ++ (if decide ((n : Int) ∉ js) = true then [(n : Int)] else []) := by
  unfold othersTo
  rw [List.range_succ, List.filter_append, List.map_append]
  by_cases h : decide ((n : Int) ∉ js) = true
  · rw [if_pos h, show List.filter (fun k : Nat => decide ((k : Int) ∉ js)) [n] = [n] from List.filter_cons_of_pos h]
    rfl
  · rw [if_neg h, show List.filter (fun k : Nat => decide ((k : Int) ∉ js)) [n] = [] from List.filter_cons_of_neg h]
    rfl
theorem othersTo_len (js : List Int) (n : Nat) : (othersTo js n).length ≤ n := by
  unfold othersTo
  rw [List.length_map]
  have h := List.length_filter_le (fun k : Nat => decide ((k : Int) ∉ js)) (List.range n)
  rw [List.length_range] at h
  exact h
theorem othersTo_mem {js : List Int} {n : Nat} {x : Int} (h : x ∈ othersTo js n) : 0 ≤ x ∧ x < (n : Int) := by
  unfold othersTo at h
  obtain ⟨k, hk, rfl⟩ := List.mem_map.mp h
  have := List.mem_range.mp (List.mem_filter.mp hk).1
  omega
def pickB (bs : List Bar) (js : List Int) : List Bar := js.map fun j => bs.getD j.toNat (1, [])
theorem pick_less (bs : List Bar) (i : Nat) : ∀ n, n ≤ bs.length → pickB bs (othersTo [(i : Int)] n) = if n ≤ i then bs.take n else bs.take i ++ (bs.take n).drop (i + 1)
  | 0, _ => by
    rw [if_pos (Nat.zero_le _)]
    rfl
  | n + 1, h => by
    have ih := pick_less bs i n (by omega)
    have hb : bs[n]? = some bs[n] := List.getElem?_eq_getElem (by omega)
    unfold pickB at ih ⊢
    rw [othersTo_succ, List.map_append, ih]
    have eg : bs.getD ((n : Int)).toNat (1, []) = bs[n] := by
      rw [Int.toNat_natCast, List.getD_eq_getElem?_getD, hb]
      rfl
    by_cases e : n = i
    · subst e
      rw [if_pos (Nat.le_refl _), if_neg (show ¬ decide ((n : Int) ∉ [(n : Int)]) = true by simp), if_neg (show ¬ n + 1 ≤ n by omega), List.map_nil, List.append_nil, List.drop_of_length_le (by rw [List.length_take]; omega), List.append_nil]
    · rw [if_pos (decide_eq_true (show (n : Int) ∉ [(i : Int)] by rw [List.mem_singleton]; omega)), List.map_cons, List.map_nil, eg]
      by_cases l : n ≤ i
      · rw [if_pos l, if_pos (show n + 1 ≤ i by omega), takeSucc hb]
      · rw [if_neg l, if_neg (show ¬ n + 1 ≤ i by omega), takeSucc hb, List.append_assoc, List.drop_append_of_le_length (by rw [List.length_take]; omega)]
def lessB (bs : List Bar) (i : Nat) : List Bar := bs.take i ++ bs.drop (i + 1)
theorem lessOk {bs : List Bar} {i : Nat} (S : SvOk bs) (h : i < bs.length) : SvOk (lessB bs i) := by
  have e := cutAt (List.getElem?_eq_getElem h)
  rw [e] at S
  exact S.less
theorem pick_out {bs : List Bar} {i : Nat} (h : i < bs.length) : pickB bs (othersTo [(i : Int)] bs.length) = bs.take i ++ bs.drop (i + 1) := by
  rw [pick_less bs i _ (Nat.le_refl _), if_neg (by omega), List.take_length]
def sp_p_others (K : PySem.W.Frag) (C : Addr) : Sp := fun vs H Q _ => ∃ (p : Addr) (v : V) (t : Addr) (bs : List Bar) (a : Addr) (js : List Int), vs = [.ref p, .ref a] ∧ SvAt K C H p v t bs ∧ SqT K H a (js.map V.int) ∧
  ∀ D H', Same H H' → H D = none → H' D = some (.lst ((othersTo js bs.length).map V.int)) → Q (.ref D) H'
def sp_p_only (K : PySem.W.Frag) (C : Addr) : Sp := fun vs H Q _ => ∃ (p : Addr) (v : V) (t : Addr) (bs : List Bar) (a : Addr) (js : List Int), vs = [.ref p, .ref a] ∧ SvAt K C H p v t bs ∧ (SqL K H a (js.map V.int) ∨ SqT K H a (js.map V.int)) ∧
  (∀ j ∈ js, 0 ≤ j ∧ j < (bs.length : Int)) ∧ js.length ≤ 6 ∧ SvOk (pickB bs js) ∧ ∀ p' v' t' H', Same H H' → SvAt K C H' p' v' t' (pickB bs js) → Q (.ref p') H'
/-- a walk over a list or a tuple -/
def iEither (K : PySem.W.Frag) (te : TE) : TI := fun σ H R => te σ H fun x H1 => ∃ a, x = .ref a ∧ (((∃ xs, SqL K H1 a xs) ∧ R (Itl K a) H1) ∨ ((∃ xs, SqT K H1 a xs) ∧ R (Itt K a) H1))
theorem pi_either {X : Cx} {tg l : Expr} {tl : TE} (hl : PE X l tl) : PI X tg l (iEither X.K tl) := ⟨fun pins s σ H R I h => thn (hl.run pins s σ H _ I h) fun v s1 ⟨x, H1, I1, r1, a, e, q1⟩ => by
  subst e
  cases r1
  have new : ∀ b ∈ [s1.heap.objs.size], FpOk X pins H1 b := fun b hb => by
    rw [List.mem_singleton.mp hb]
    exact I1.fpOk (Nat.le_refl _) (I1.hok.fresh (Nat.le_refl _))
  rcases q1 with ⟨⟨xs, hq⟩, q⟩ | ⟨⟨xs, hq⟩, q⟩
  · obtain ⟨its, rv, pl, hz⟩ := I1.list hq
    exact wpAny_pyIter_list pl.isList ⟨_, _, _, _, _, rfl, I1.kept (t' := s1.toks) fun b o e => Heap.get?_push_of_some _ e, turn_list a _, ⟨_, Heap.get?_push_size _ rfl, rfl, rfl⟩, new, q⟩
  · obtain ⟨its, rv, pl, hz⟩ := I1.tuple hq
    exact wpAny_pyIter_tuple (show s1.heap.IsTuple a its.toArray from pl) ⟨_, _, _, _, _, rfl, I1.kept (t' := s1.toks) fun b o e => Heap.get?_push_of_some _ e, turn_tuple a _, ⟨_, Heap.get?_push_size _ rfl, rfl, rfl⟩, new, q⟩⟩

end R
namespace R
open PySem PySem.Spec PyProof.Rows L2
/-! ## others -/
section
variable {P : Program} {w : World} {K : PySem.W.Frag} {mg : Str → Option Value} {base : Heap}
theorem ok_p_others (T : Txt K mg) : FnOk P w K mg base CX0 4 T.f_p_others T.fd_p_others ["sieve", "indexes"] (sp_p_others K T.C) := by
  refine T.F_p_others.ok sc_p_others (fun vs H Q E h => ?_) (fun cdv A outer s H vs Q E hr h => ?_)
  · obtain ⟨p, v, t, bs, a, js, rfl, _⟩ := h
    rfl
  · obtain ⟨p, v, t, bs, a, js, rfl, S, ta, q⟩ := h
    refine ⟨_, (pss_one (ps_ret (pe_lc (own := [("index", 2)]) rfl sc_p_others.nd (pi_range1 (by rfl) T.z_range (pa_cons (pe_callB (r := rLenK K) call_len_seq (by rfl) T.z_len (by decide +kernel) (pa_cons (pe_prop (pv 0) T.cl T.pp_bars (ok_m_Sieve_bars T) (hr.mono (by decide)) T.b_m_Sieve_bars .nil pass0 (by rfl)) pa_nil)) pa_nil)) (blkOk_by (N := ["sieve", "indexes", "index"]) (sc := defScope s_p_others) (by decide +kernel)) (fun _ _ _ _ _ => (pg_name (i := 2) sc_p_others.nd rfl (by first | exact .inl rfl | exact .inr rfl))) (fun _ _ _ _ _ => (pts_one (pt_cmpR (r := rIn K true) op_notIn_seq (pv 2) (pv 1) (by rfl)))) (fun _ _ _ _ _ => (pv 2))))), ?_⟩
    obtain ⟨b, xs, rfl, tb, nb, hb⟩ := S.bars.ex
    have six := S.ok.six
    refine ⟨_, rfl, p, _, _, rfl, S.ob.choose_spec, p, _, t, bs, rfl, S, b, _, rfl, .inr tb, _, rfl, by omega, by omega, fun D nD => ?_⟩
    rw [nb]
    refine lc_range (lo := 0) (n := bs.length) (fun i Hi => Hi D = some (.lst ((othersTo js i).map V.int)) ∧ Same H Hi) ⟨upd_same, same_upd nD⟩ ?_ ?_
    · rintro i Hi hi ⟨e, si⟩
      refine ⟨rfl, _, rfl, _, rfl, a, _, rfl, .inr (Same.seqTT si ta), rfl, flatInts _, _, rfl, ?_⟩
      have ed : (!inV (.int (0 + (i : Int))) (js.map V.int)) = decide ((i : Int) ∉ js) := by
        rw [inVInt, Int.zero_add, ← decide_not]
      show if (!inV (.int (0 + (i : Int))) (js.map V.int)) = true then _ else _
      rw [ed]
      refine ite2 (fun f => ?_) (fun f => ?_)
      · refine ⟨_, rfl, _, e, ?_, ?_, samePut si nD⟩
        · rw [List.length_map]
          have := othersTo_len js i
          exact sizeLt (by omega)
        · rw [upd_same, othersTo_succ, if_pos f, List.map_append, Int.zero_add]
          rfl
      · refine ⟨?_, si⟩
        rw [e, othersTo_succ, if_neg f, List.append_nil]
    · rintro Hi ⟨e, si⟩
      exact q D Hi si nD e
end

end R
namespace R
open PySem PySem.Spec PyProof.Rows L2
/-! ## only -/
section
variable {P : Program} {w : World} {K : PySem.W.Frag} {mg : Str → Option Value} {base : Heap}
theorem ok_p_only (T : Txt K mg) : FnOk P w K mg base CX0 12 T.f_p_only T.fd_p_only ["sieve", "indexes"] (sp_p_only K T.C) := by
  refine T.F_p_only.ok sc_p_only (fun vs H Q E h => ?_) (fun cdv A outer s H vs Q E hr h => ?_)
  · obtain ⟨p, v, t, bs, a, js, rfl, _⟩ := h
    rfl
  · obtain ⟨p, v, t, bs, a, js, rfl, S, ta, hj, j6, ok, q⟩ := h
    refine ⟨_, (pss_one (ps_ret (pe_make T.mkC (ok_m_Sieve_init T) (hr.mono (by decide)) (by rfl) T.g_Sieve T.b_m_Sieve_init .nil pass0 (pa_cons (pe_callTy call_tuple_of (by rfl) T.z_tuple (by decide +kernel) (pa_cons (pe_lc (own := [("index", 2)]) rfl sc_p_only.nd (pi_either (pv 1)) (blkOk_by (N := ["sieve", "indexes", "index"]) (sc := defScope s_p_only) (by decide +kernel)) (fun _ _ _ _ _ => (pg_name (i := 2) sc_p_only.nd rfl (by first | exact .inl rfl | exact .inr rfl))) (fun _ _ _ _ _ => pts_nil) (fun _ _ _ _ _ => (pe_ix (r := rIxT K) ix_tup (pe_prop (pv 0) T.cl T.pp_bars (ok_m_Sieve_bars T) (hr.mono (by decide)) T.b_m_Sieve_bars .nil pass0 (by rfl)) (pv 2) (fun _ _ => rfl)))) pa_nil)) pa_nil)))), ?_⟩
    obtain ⟨b, xs, rfl, tb, nb, hb⟩ := S.bars.ex
    rcases ta with ta | ta
    · refine ⟨_, rfl, a, rfl, .inl ⟨⟨_, ta⟩, fun D nD => ?_⟩⟩
      refine lc_list (K := K) (a := a) (xs := js.map V.int) (fun j Hj => BarLst K Hj D (pickB bs (js.take j)) ∧ Same H Hj) ⟨BarLst.nil upd_same, same_upd nD⟩ (fun j Hj _ ⟨_, sj⟩ => sj.seq ta) ?_ ?_
      · rintro j y Hj hy ⟨⟨ys, ey, ny, fy⟩, sj⟩
        obtain ⟨k, hk, rfl⟩ := getMapInt' hy
        obtain ⟨k0, k1⟩ := hj k (List.mem_of_getElem? hk)
        have hkb : bs[k.toNat]? = some bs[k.toNat] := List.getElem?_eq_getElem (by omega)
        have hkx : xs[k.toNat]? = some xs[k.toNat] := List.getElem?_eq_getElem (by omega)
        have eg : bs.getD k.toNat (1, []) = bs[k.toNat] := by
          rw [List.getD_eq_getElem?_getD, hkb]
          rfl
        have Sj := S.stay sj
        have at_ := atI_nat hkx
        rw [Int.toNat_of_nonneg k0] at at_
        refine ⟨rfl, _, rfl, p, _, _, rfl, Sj.ob.choose_spec, p, _, t, bs, rfl, Sj, _, rfl, b, xs, k, _, rfl, rfl, Same.seqTT sj tb, at_, ?_⟩
        refine ⟨_, ey, ?_, ?_, samePut sj nD⟩
        · rw [ny]
          unfold pickB
          rw [List.length_map, List.length_take]
          exact sizeLt (by omega)
        · have Bk := (hb _ _ _ hkx hkb).stay (.same sj)
          have ep : pickB bs (js.take (j + 1)) = pickB bs (js.take j) ++ [bs[k.toNat]] := by
            unfold pickB
            rw [takeSucc hk, List.map_append, List.map_cons, List.map_nil, eg]
          rw [ep]
          exact BarLst.add ny fy (lstTups ey) upd_same (Bk.stay (lstTups ey))
      · rintro H1 ⟨⟨ys, ey, ny, fy⟩, s1⟩
        rw [List.length_map, List.take_length] at ny fy
        refine ⟨D, ys, rfl, .inl ⟨lstOf ey, fun u nu => ?_⟩⟩
        have B := BarLst.tup ny fy nu
        have s2 := s1.trans (same_upd nu (o := .tup ys))
        exact fun y dy ny' ndy _ => make_sieve B ok ny' ndy fun t' H' s' A => ⟨rfl, q _ _ _ _ (s2.trans s') A⟩
    · refine ⟨_, rfl, a, rfl, .inr ⟨⟨_, ta⟩, fun D nD => ?_⟩⟩
      refine lc_tup (K := K) (a := a) (xs := js.map V.int) (fun j Hj => BarLst K Hj D (pickB bs (js.take j)) ∧ Same H Hj) ⟨BarLst.nil upd_same, same_upd nD⟩ (fun j Hj _ ⟨_, sj⟩ => Same.seqTT sj ta) ?_ ?_
      · rintro j y Hj hy ⟨⟨ys, ey, ny, fy⟩, sj⟩
        obtain ⟨k, hk, rfl⟩ := getMapInt' hy
        obtain ⟨k0, k1⟩ := hj k (List.mem_of_getElem? hk)
        have hkb : bs[k.toNat]? = some bs[k.toNat] := List.getElem?_eq_getElem (by omega)
        have hkx : xs[k.toNat]? = some xs[k.toNat] := List.getElem?_eq_getElem (by omega)
        have eg : bs.getD k.toNat (1, []) = bs[k.toNat] := by
          rw [List.getD_eq_getElem?_getD, hkb]
          rfl
        have Sj := S.stay sj
        have at_ := atI_nat hkx
        rw [Int.toNat_of_nonneg k0] at at_
        refine ⟨rfl, _, rfl, p, _, _, rfl, Sj.ob.choose_spec, p, _, t, bs, rfl, Sj, _, rfl, b, xs, k, _, rfl, rfl, Same.seqTT sj tb, at_, ?_⟩
        refine ⟨_, ey, ?_, ?_, samePut sj nD⟩
        · rw [ny]
          unfold pickB
          rw [List.length_map, List.length_take]
          exact sizeLt (by omega)
        · have Bk := (hb _ _ _ hkx hkb).stay (.same sj)
          have ep : pickB bs (js.take (j + 1)) = pickB bs (js.take j) ++ [bs[k.toNat]] := by
            unfold pickB
            rw [takeSucc hk, List.map_append, List.map_cons, List.map_nil, eg]
          rw [ep]
          exact BarLst.add ny fy (lstTups ey) upd_same (Bk.stay (lstTups ey))
      · rintro H1 ⟨⟨ys, ey, ny, fy⟩, s1⟩
        rw [List.length_map, List.take_length] at ny fy
        refine ⟨D, ys, rfl, .inl ⟨lstOf ey, fun u nu => ?_⟩⟩
        have B := BarLst.tup ny fy nu
        have s2 := s1.trans (same_upd nu (o := .tup ys))
        exact fun y dy ny' ndy _ => make_sieve B ok ny' ndy fun t' H' s' A => ⟨rfl, q _ _ _ _ (s2.trans s') A⟩
end

end R
namespace R
open PySem PySem.Spec PyProof.Rows L2
/-! ## bars that can be left out -/
def shL (bs : List Bar) : List Int := [(((cls bs).length / Nat.gcd (cls bs).length (wh bs) : Nat) : Int), ((wh bs / Nat.gcd (cls bs).length (wh bs) : Nat) : Int)]
theorem low_iff {n N m M : Nat} (hN : 0 < N) (hM : 0 < M) : (n / Nat.gcd n N = m / Nat.gcd m M ∧ N / Nat.gcd n N = M / Nat.gcd m M) ↔ n * M = m * N := by
  have g1 : 0 < Nat.gcd n N := Nat.gcd_pos_of_pos_right _ hN
  have g2 : 0 < Nat.gcd m M := Nat.gcd_pos_of_pos_right _ hM
  have c1 : Nat.Coprime (n / Nat.gcd n N) (N / Nat.gcd n N) := Nat.coprime_div_gcd_div_gcd g1
  have c2 : Nat.Coprime (m / Nat.gcd m M) (M / Nat.gcd m M) := Nat.coprime_div_gcd_div_gcd g2
  have e1 : n / Nat.gcd n N * Nat.gcd n N = n := Nat.div_mul_cancel (Nat.gcd_dvd_left _ _)
  have e2 : N / Nat.gcd n N * Nat.gcd n N = N := Nat.div_mul_cancel (Nat.gcd_dvd_right _ _)
  have e3 : m / Nat.gcd m M * Nat.gcd m M = m := Nat.div_mul_cancel (Nat.gcd_dvd_left _ _)
  have e4 : M / Nat.gcd m M * Nat.gcd m M = M := Nat.div_mul_cancel (Nat.gcd_dvd_right _ _)
  generalize n / Nat.gcd n N = a at *
  generalize N / Nat.gcd n N = b at *
  generalize m / Nat.gcd m M = c at *
  generalize M / Nat.gcd m M = d at *
  generalize Nat.gcd n N = g at *
  generalize Nat.gcd m M = h at *
  subst e1 e2 e3 e4
  constructor
  · rintro ⟨rfl, rfl⟩
    rw [Nat.mul_assoc, Nat.mul_assoc, Nat.mul_left_comm g, Nat.mul_left_comm h, Nat.mul_comm g h]
  · intro e
    have k : a * d = c * b := by
      have e' : (a * d) * (g * h) = (c * b) * (g * h) := by
        calc (a * d) * (g * h) = a * g * (d * h) := by rw [Nat.mul_assoc, Nat.mul_assoc, Nat.mul_left_comm d g h]
          _ = c * h * (b * g) := e
          _ = (c * b) * (g * h) := by rw [Nat.mul_assoc, Nat.mul_assoc, Nat.mul_left_comm h b g, Nat.mul_comm h g]
      exact Nat.eq_of_mul_eq_mul_right (Nat.mul_pos g1 g2) e'
    have d0 : 0 < d := Nat.pos_of_ne_zero fun z => by rw [z, Nat.zero_mul] at hM; omega
    have bd : b ∣ d := c1.symm.dvd_of_dvd_mul_left ⟨c, by rw [k, Nat.mul_comm]⟩
    have db : d ∣ b := c2.symm.dvd_of_dvd_mul_left ⟨a, by rw [← k, Nat.mul_comm]⟩
    have ebd : b = d := Nat.dvd_antisymm bd db
    subst ebd
    exact ⟨Nat.eq_of_mul_eq_mul_right d0 k, rfl⟩
theorem cnt_sub {bs cs : List Bar} (h : ∀ x, fitsB bs x = true → fitsB cs x = true) : ∀ k : Nat, cnt bs 0 k ≤ cnt cs 0 k ∧ (cnt bs 0 k = cnt cs 0 k ↔ ∀ j : Nat, j < k → fitsB cs j = true → fitsB bs j = true)
  | 0 => ⟨Nat.le_refl _, fun _ j hj => absurd hj (Nat.not_lt_zero _), fun _ => rfl⟩
  | k + 1 => by
    obtain ⟨h1, h2⟩ := cnt_sub h k
    have hk := h (k : Int)
    rw [cnt_succ, cnt_succ, Int.zero_add]
    constructor
    · split
      · rename_i f
        rw [if_pos (hk f)]
        omega
      · omega
    · constructor
      · intro e
        have two : cnt bs 0 k = cnt cs 0 k ∧ (fitsB cs (k : Int) = true → fitsB bs (k : Int) = true) := by
          by_cases f : fitsB bs (k : Int) = true
          · rw [if_pos f, if_pos (hk f)] at e
            exact ⟨by omega, fun _ => f⟩
          · rw [if_neg f] at e
            by_cases f2 : fitsB cs (k : Int) = true
            · rw [if_pos f2] at e
              omega
            · rw [if_neg f2] at e
              exact ⟨by omega, fun z => absurd z f2⟩
        intro j hj fj
        by_cases ej : j = k
        · subst ej
          exact two.2 fj
        · exact h2.mp two.1 j (by omega) fj
      · intro hall
        have e := h2.mpr fun j hj => hall j (by omega)
        have hk2 := hall k (Nat.lt_succ_self _)
        by_cases f : fitsB bs (k : Int) = true
        · rw [if_pos f, if_pos (hk f), e]
        · rw [if_neg f, if_neg fun z => f (hk2 z), e]
theorem sh_iff {bs cs : List Bar} (h0 : 0 < wh bs) (h1 : 0 < wh cs) (d : wh cs ∣ wh bs) (h : ∀ x, fitsB bs x = true → fitsB cs x = true) : shL cs = shL bs ↔ ∀ x, fitsB cs x = true → fitsB bs x = true := by
  have a1 : shL cs = shL bs ↔ (cls cs).length * wh bs = (cls bs).length * wh cs := by
    rw [← low_iff h1 h0]
    unfold shL
    constructor
    · intro e
      have e1 := List.cons.inj e
      have e2 := (List.cons.inj e1.2).1
      exact ⟨by have := e1.1; omega, by omega⟩
    · rintro ⟨x, y⟩
      rw [x, y]
  rw [a1]
  obtain ⟨k, hk⟩ := d
  have c1 : cnt bs 0 (wh bs) = (cls bs).length := by
    have e := pl_add h0 0 (wh bs)
    have e2 := pl_whole h0 0 1
    rw [Int.one_mul, Int.one_mul] at e2
    omega
  have c2 : cnt cs 0 (wh bs) = k * (cls cs).length := by
    have e := pl_add h1 0 (wh bs)
    have e2 := pl_whole h1 0 (k : Int)
    have e3 : ((wh bs : Nat) : Int) = (k : Int) * (wh cs : Int) := by rw [hk, Nat.mul_comm, Int.natCast_mul]
    rw [e3] at e
    rw [← e3] at e e2
    rw [e3] at e e2
    have e4 : ((k * (cls cs).length : Nat) : Int) = (k : Int) * ((cls cs).length : Int) := Int.natCast_mul _ _
    omega
  have k0 : 0 < k := Nat.pos_of_ne_zero fun z => by rw [z, Nat.mul_zero] at hk; omega
  have m1 : (cls cs).length * wh bs = (cls bs).length * wh cs ↔ cnt bs 0 (wh bs) = cnt cs 0 (wh bs) := by
    rw [c1, c2, hk]
    constructor
    · intro e
      have e' : wh cs * ((cls cs).length * k) = wh cs * (cls bs).length := by
        rw [Nat.mul_left_comm, e, Nat.mul_comm]
      have := Nat.eq_of_mul_eq_mul_left h1 e'
      rw [Nat.mul_comm k]
      exact this.symm
    · intro e
      rw [e, Nat.mul_left_comm, Nat.mul_comm k (cls cs).length, Nat.mul_comm (wh cs)]
  rw [m1, (cnt_sub h (wh bs)).2]
  constructor
  · intro hall x fx
    have w0 : ((wh bs : Nat) : Int) ≠ 0 := by omega
    have x0 := Int.emod_nonneg x w0
    have x1 := Int.emod_lt_of_pos x (show (0 : Int) < (wh bs : Nat) by omega)
    have fc : fitsB cs (x % ((wh bs : Nat) : Int)) = true := by
      rw [← fitsB_mod cs, Int.emod_emod_of_dvd x (Int.natCast_dvd_natCast.mpr ⟨k, hk⟩), fitsB_mod]
      exact fx
    have := hall (x % ((wh bs : Nat) : Int)).toNat (by omega) (by rw [Int.toNat_of_nonneg x0]; exact fc)
    rw [Int.toNat_of_nonneg x0, fitsB_mod] at this
    exact this
  · exact fun hall j _ fj => hall j fj
theorem fits_app (xs ys : List Bar) (x : Int) : fitsB (xs ++ ys) x = (fitsB xs x && fitsB ys x) := List.all_append
theorem less_fits {bs : List Bar} {i : Nat} (h : i < bs.length) {x : Int} (f : fitsB bs x = true) : fitsB (lessB bs i) x = true := by
  rw [cutAt (List.getElem?_eq_getElem h), fits_app, fits_app, Bool.and_eq_true, Bool.and_eq_true] at f
  unfold lessB
  rw [fits_app, f.1.1, f.2]
  rfl
theorem need_iff {bs : List Bar} {i : Nat} (S : SvOk bs) (h : i < bs.length) : shL (lessB bs i) = shL bs ↔ ∀ x, fitsB (lessB bs i) x = true → fitsB bs x = true := by
  have d : wh (lessB bs i) ∣ wh bs := by
    have := wh_out (xs := bs.take i) (ys := bs.drop (i + 1)) (b := bs[i])
    rw [← cutAt (List.getElem?_eq_getElem h)] at this
    exact this
  exact sh_iff S.mods.pos (lessOk S h).mods.pos d fun x => less_fits h
def needTo (bs : List Bar) (n : Nat) : List Int := ((List.range n).filter fun i => decide (shL (lessB bs i) = shL bs)).map fun i : Nat => (i : Int)
theorem needTo_succ (bs : List Bar) (n : Nat) : needTo bs (n + 1) = needTo bs n ++ (if decide (shL (lessB bs n) = shL bs) = true then [(n : Int)] else []) := by
  unfold needTo
  rw [List.range_succ, List.filter_append, List.map_append]
  by_cases h : decide (shL (lessB bs n) = shL bs) = true
  · rw [if_pos h, show List.filter (fun i => decide (shL (lessB bs i) = shL bs)) [n] = [n] from List.filter_cons_of_pos h]
    rfl
  · rw [if_neg h, show List.filter (fun i => decide (shL (lessB bs i) = shL bs)) [n] = [] from List.filter_cons_of_neg h]
    rfl
theorem needTo_len (bs : List Bar) (n : Nat) : (needTo bs n).length ≤ n := by
  unfold needTo
  rw [List.length_map]
  have h := List.length_filter_le (fun i => decide (shL (lessB bs i) = shL bs)) (List.range n)
  rw [List.length_range] at h
  exact h
def sp_p_is_enough (K : PySem.W.Frag) (C : Addr) : Sp := fun vs H Q _ => ∃ (p : Addr) (v : V) (t : Addr) (bs : List Bar) (a : Addr) (js : List Int), vs = [.ref p, .ref a] ∧ SvAt K C H p v t bs ∧ (SqL K H a (js.map V.int) ∨ SqT K H a (js.map V.int)) ∧
  (∀ j ∈ js, 0 ≤ j ∧ j < (bs.length : Int)) ∧ js.length ≤ 6 ∧ SvOk (pickB bs js) ∧ ∀ H', Same H H' → Q (.bl (decide (shL (pickB bs js) = shL bs))) H'
def sp_p_needless (K : PySem.W.Frag) (C : Addr) : Sp := fun vs H Q _ => ∃ (p : Addr) (v : V) (t : Addr) (bs : List Bar), vs = [.ref p] ∧ SvAt K C H p v t bs ∧
  ∀ D H', Same H H' → H D = none → H' D = some (.lst ((needTo bs bs.length).map V.int)) → Q (.ref D) H'

end R
namespace R
open PySem PySem.Spec PyProof.Rows L2
/-! ## is_enough -/
section
variable {P : Program} {w : World} {K : PySem.W.Frag} {mg : Str → Option Value} {base : Heap}
theorem ok_p_is_enough (T : Txt K mg) : FnOk P w K mg base CX0 13 T.f_p_is_enough T.fd_p_is_enough ["sieve", "indexes"] (sp_p_is_enough K T.C) := by
  refine T.F_p_is_enough.ok sc_p_is_enough (fun vs H Q E h => ?_) (fun cdv A outer s H vs Q E hr h => ?_)
  · obtain ⟨p, v, t, bs, a, js, rfl, _⟩ := h
    rfl
  · obtain ⟨p, v, t, bs, a, js, rfl, S, ta, hj, j6, ok, q⟩ := h
    refine ⟨_, (pss_one (ps_ret (pe_cmpR (op_eqD hr.units) (pe_call (ok_p_share T) (hr.mono (by decide)) (by rfl) T.g_p_share T.F_p_share.kp T.b_p_share .nil pass0 (pa_cons (pe_call (ok_p_only T) (hr.mono (by decide)) (by rfl) T.g_p_only T.F_p_only.kp T.b_p_only .nil pass0 (pa_cons (pv 0) (pa_cons (pv 1) pa_nil))) pa_nil)) (pe_call (ok_p_share T) (hr.mono (by decide)) (by rfl) T.g_p_share T.F_p_share.kp T.b_p_share .nil pass0 (pa_cons (pv 0) pa_nil)) (nomark _)))), ?_⟩
    refine ⟨_, rfl, _, rfl, p, v, t, bs, a, js, rfl, S, ta, hj, j6, ok, fun p' v' t' H1 s1 A => ⟨p', v', t', _, rfl, A, fun u H2 s2 e2 => ?_⟩⟩
    refine ⟨_, rfl, p, v, t, bs, rfl, (S.stay s1).stay s2, fun u2 H3 s3 e3 => ?_⟩
    refine ⟨_, _, dpTup (l := shL (pickB bs js)) (tupOf (s3 _ _ e2)), dpTup (l := shL bs) (tupOf e3), (okD.tup (okInts _)).shaped (by decide), (okD.tup (okInts _)).shaped (by decide), ?_⟩
    rw [eqvIntsT]
    exact q _ ((s1.trans s2).trans s3)
end

end R
namespace R
open PySem PySem.Spec PyProof.Rows L2
/-! ## needless -/
section
variable {P : Program} {w : World} {K : PySem.W.Frag} {mg : Str → Option Value} {base : Heap}
theorem ok_p_needless (T : Txt K mg) : FnOk P w K mg base CX0 14 T.f_p_needless T.fd_p_needless ["sieve"] (sp_p_needless K T.C) := by
  refine T.F_p_needless.ok sc_p_needless (fun vs H Q E h => ?_) (fun cdv A outer s H vs Q E hr h => ?_)
  · obtain ⟨p, v, t, bs, rfl, _⟩ := h
    rfl
  · obtain ⟨p, v, t, bs, rfl, S, q⟩ := h
    refine ⟨_, (pss_one (ps_ret (pe_lc (own := [("index", 1)]) rfl sc_p_needless.nd (pi_range1 (by rfl) T.z_range (pa_cons (pe_callB (r := rLenK K) call_len_seq (by rfl) T.z_len (by decide +kernel) (pa_cons (pe_prop (pv 0) T.cl T.pp_bars (ok_m_Sieve_bars T) (hr.mono (by decide)) T.b_m_Sieve_bars .nil pass0 (by rfl)) pa_nil)) pa_nil)) (blkOk_by (N := ["sieve", "index"]) (sc := defScope s_p_needless) (by decide +kernel)) (fun _ _ _ _ _ => (pg_name (i := 1) sc_p_needless.nd rfl (by first | exact .inl rfl | exact .inr rfl))) (fun _ _ _ _ _ => (pts_one (pt_val (pe_call (ok_p_is_enough T) (hr.mono (by decide)) (by rfl) T.g_p_is_enough T.F_p_is_enough.kp T.b_p_is_enough .nil pass0 (pa_cons (pv 0) (pa_cons (pe_call (ok_p_others T) (hr.mono (by decide)) (by rfl) T.g_p_others T.F_p_others.kp T.b_p_others .nil pass0 (pa_cons (pv 0) (pa_cons (pe_tup (pa_cons (pv 1) pa_nil)) pa_nil))) pa_nil)))))) (fun _ _ _ _ _ => (pv 1))))), ?_⟩
    obtain ⟨b, xs, rfl, tb, nb, hb⟩ := S.bars.ex
    have six := S.ok.six
    refine ⟨_, rfl, p, _, _, rfl, S.ob.choose_spec, p, _, t, bs, rfl, S, b, _, rfl, .inr tb, _, rfl, by omega, by omega, fun D nD => ?_⟩
    rw [nb]
    refine lc_range (lo := 0) (n := bs.length) (fun i Hi => Hi D = some (.lst ((needTo bs i).map V.int)) ∧ Same H Hi) ⟨upd_same, same_upd nD⟩ ?_ ?_
    · rintro i Hi hi ⟨e, si⟩
      have Si := S.stay si
      refine ⟨rfl, _, rfl, _, rfl, _, rfl, sizeOk (by show (1 : Nat) ≤ 100000; decide), fun a na => ?_⟩
      have s1 := same_upd na (o := .tup [.int (0 + (i : Int))])
      refine ⟨p, _, t, bs, a, [0 + (i : Int)], rfl, Si.stay s1, tupOf upd_same, fun D2 H2 s2 _ e2 => ?_⟩
      rw [Int.zero_add] at e2 ⊢
      have S2 := (Si.stay s1).stay s2
      refine ⟨p, _, t, bs, D2, _, rfl, S2, .inl (lstOf e2), fun j hj => othersTo_mem hj, Nat.le_trans (othersTo_len _ _) six, by rw [pick_out hi]; exact lessOk S.ok hi, fun H3 s3 => ?_⟩
      rw [pick_out hi]
      have e3 := s3 _ _ (s2 _ _ (s1 _ _ e))
      have s4 := ((si.trans s1).trans s2).trans s3
      refine ⟨_, rfl, ?_⟩
      show if decide (shL (lessB bs i) = shL bs) = true then _ else _
      refine ite2 (fun f => ?_) (fun f => ?_)
      · refine ⟨_, rfl, _, e3, ?_, ?_, samePut s4 nD⟩
        · rw [List.length_map]
          have := needTo_len bs i
          exact sizeLt (by omega)
        · rw [upd_same, needTo_succ, if_pos f, List.map_append]
          rfl
      · refine ⟨?_, s4⟩
        rw [e3, needTo_succ, if_neg f, List.append_nil]
    · rintro Hi ⟨e, si⟩
      exact q D Hi si nD e
end

end R
namespace R
open PySem PySem.Spec PyProof.Rows L2
/-! ## a bar that all fitting numbers keep to -/
def agC (g : Int) (lot : List Int) (n : Nat) (k : Int) : Nat := ((lot.take n).filter fun r => decide (r % g = k)).length
theorem agC_succ {g k x : Int} {lot : List Int} {n : Nat} (h : lot[n]? = some x) : agC g lot (n + 1) k = agC g lot n k + (if x % g = k then 1 else 0) := by
  unfold agC
  rw [takeSucc h, List.filter_append, List.length_append]
  congr 1
  by_cases e : x % g = k
  · rw [if_pos e, show List.filter (fun r => decide (r % g = k)) [x] = [x] from List.filter_cons_of_pos (decide_eq_true e)]
    rfl
  · rw [if_neg e, show List.filter (fun r => decide (r % g = k)) [x] = [] from List.filter_cons_of_neg (by rw [decide_eq_false e]; simp)]
    rfl
theorem agC_le (g k : Int) (lot : List Int) (n : Nat) : agC g lot n k ≤ lot.length := by
  unfold agC
  refine Nat.le_trans (List.length_filter_le _ _) ?_
  rw [List.length_take]
  omega
/-- the dict tells f, 0 where it has no key -/
def Tells (kvs : List (L2.Key × V)) (f : Int → Nat) : Prop := ∀ k : Int, (valV kvs (Sum.inl k)).getD (V.int 0) = V.int (f k : Nat)
theorem Tells.nil {g : Int} {lot : List Int} : Tells [] (agC g lot 0) := fun k => by
  rw [valV_nil]
  rfl
theorem Tells.put {kvs : List (L2.Key × V)} {g x : Int} {lot : List Int} {n : Nat} (h : Tells kvs (agC g lot n)) (hx : lot[n]? = some x) :
    Tells (putK kvs (Sum.inl (x % g)) (.int ((agC g lot n (x % g) : Nat) + 1))) (agC g lot (n + 1)) := fun k => by
  rw [valV_put, agC_succ hx]
  by_cases e : x % g = k
  · subst e
    rw [if_pos rfl, if_pos rfl]
    rfl
  · rw [if_neg (fun z => e (Sum.inl.inj z).symm), if_neg e]
    exact h k
def keepsB (bs : List Bar) (b : Bar) : Bool := (cls bs).all fun c => decide (agC ((Nat.gcd (wh bs) b.1.natAbs : Nat) : Int) b.2 b.2.length (c % ((Nat.gcd (wh bs) b.1.natAbs : Nat) : Int)) = b.1.natAbs / Nat.gcd (wh bs) b.1.natAbs)
theorem nodup_in {xs ys : List Int} (h : xs.Nodup) (sub : ∀ x ∈ xs, x ∈ ys) (len : ys.length ≤ xs.length) : ∀ y ∈ ys, y ∈ xs := fun y hy => by
  by_cases m : y ∈ xs
  · exact m
  · have := nodup_len (xs := y :: xs) (List.nodup_cons.mpr ⟨m, h⟩) (ys := ys) fun z hz => by
      rcases List.mem_cons.mp hz with rfl | hz
      · exact hy
      · exact sub z hz
    have e : (y :: xs).length = xs.length + 1 := rfl
    omega
theorem keeps_iff {bs : List Bar} {b : Bar} (hp : 0 < wh bs) (o : BarOk b) : keepsB bs b = true ↔ ∀ x, fitsB bs x = true → x % b.1 ∈ b.2 := by
  obtain ⟨m, hm⟩ : ∃ m : Nat, b.1 = (m : Int) := ⟨b.1.toNat, by have := o.pos; omega⟩
  have m1 : 0 < m := by have := o.pos; omega
  have lo := o.lot
  unfold keepsB
  rw [hm, Int.natAbs_natCast] at *
  have g0 : 0 < Nat.gcd (wh bs) m := Nat.gcd_pos_of_pos_left _ hp
  have dg : Nat.gcd (wh bs) m ∣ m := Nat.gcd_dvd_right _ _
  have dw : Nat.gcd (wh bs) m ∣ wh bs := Nat.gcd_dvd_left _ _
  have ew : Nat.gcd (wh bs) m * (m / Nat.gcd (wh bs) m) = m := Nat.mul_div_cancel' dg
  have nd : b.2.Nodup := lo.up.imp fun {a b} (lt : a < b) => Int.ne_of_lt lt
  -- all the rests that agree
  have full : ∀ k : Int, 0 ≤ k → k < (Nat.gcd (wh bs) m : Nat) → ∃ ys : List Int, ys.Nodup ∧ ys.length = m / Nat.gcd (wh bs) m ∧ ∀ r, r ∈ ys ↔ 0 ≤ r ∧ r < (m : Int) ∧ r % ((Nat.gcd (wh bs) m : Nat) : Int) = k := by
    intro k k0 k1
    generalize Nat.gcd (wh bs) m = g at *
    generalize m / g = q at *
    refine ⟨(List.range q).map fun j : Nat => k + (g : Int) * (j : Int), ?_, by rw [List.length_map, List.length_range], fun r => ?_⟩
    · unfold List.Nodup
      rw [List.pairwise_map]
      refine List.pairwise_lt_range.imp fun {a b} lt e => ?_
      have : (g : Int) * (a : Int) = (g : Int) * (b : Int) := by omega
      have := Int.eq_of_mul_eq_mul_left (by omega) this
      omega
    · rw [List.mem_map]
      constructor
      · rintro ⟨j, hj, rfl⟩
        have hj' := List.mem_range.mp hj
        have h1 : (g : Int) * ((j : Int) + 1) ≤ (g : Int) * (q : Int) := Int.mul_le_mul_of_nonneg_left (by omega) (by omega)
        have h2 : (g : Int) * (q : Int) = (m : Int) := by rw [← Int.natCast_mul, ew]
        have h3 : 0 ≤ (g : Int) * (j : Int) := Int.mul_nonneg (by omega) (by omega)
        rw [Int.mul_add, Int.mul_one] at h1
        refine ⟨by omega, by omega, ?_⟩
        rw [Int.add_mul_emod_self_left]
        exact Int.emod_eq_of_lt k0 k1
      · rintro ⟨r0, r1, rk⟩
        have e := Int.emod_add_mul_ediv r (g : Int)
        rw [rk] at e
        have d0 : 0 ≤ r / (g : Int) := Int.ediv_nonneg r0 (by omega)
        have d1 : r / (g : Int) < (q : Int) := by
          refine Int.ediv_lt_of_lt_mul (by omega) ?_
          rw [Int.mul_comm, ← Int.natCast_mul, ew]
          exact r1
        exact ⟨(r / (g : Int)).toNat, List.mem_range.mpr (by omega), by rw [Int.toNat_of_nonneg d0]; exact e⟩
  have agk : ∀ k : Int, agC ((Nat.gcd (wh bs) m : Nat) : Int) b.2 b.2.length k = (b.2.filter fun r => decide (r % ((Nat.gcd (wh bs) m : Nat) : Int) = k)).length := fun k => by
    unfold agC
    rw [List.take_length]
  rw [List.all_eq_true]
  constructor
  · intro h x fx
    have hc := h _ (emod_cls hp fx)
    rw [decide_eq_true_iff, agk] at hc
    have k0 := Int.emod_nonneg (x % (wh bs : Int)) (show ((Nat.gcd (wh bs) m : Nat) : Int) ≠ 0 by omega)
    have k1 := Int.emod_lt_of_pos (x % (wh bs : Int)) (show (0 : Int) < (Nat.gcd (wh bs) m : Nat) by omega)
    obtain ⟨ys, _, yl, ym⟩ := full _ k0 k1
    have inn := nodup_in (nd.filter _) (ys := ys) (fun r hr => by
      obtain ⟨h1, h2⟩ := List.mem_filter.mp hr
      exact (ym r).mpr ⟨lo.ge r h1, lo.lt r h1, of_decide_eq_true h2⟩) (by rw [yl, hc]; exact Nat.le_refl _)
    have xm : x % (m : Int) ∈ ys := (ym _).mpr ⟨Int.emod_nonneg _ (by omega), Int.emod_lt_of_pos _ (by omega), by
      rw [Int.emod_emod_of_dvd x (Int.natCast_dvd_natCast.mpr dg), Int.emod_emod_of_dvd x (Int.natCast_dvd_natCast.mpr dw)]⟩
    exact (List.mem_filter.mp (inn _ xm)).1
  · intro h c hc
    obtain ⟨c0, c1, fc⟩ := cls_mem.mp hc
    rw [decide_eq_true_iff, agk]
    have k0 := Int.emod_nonneg c (show ((Nat.gcd (wh bs) m : Nat) : Int) ≠ 0 by omega)
    have k1 := Int.emod_lt_of_pos c (show (0 : Int) < (Nat.gcd (wh bs) m : Nat) by omega)
    obtain ⟨ys, yn, yl, ym⟩ := full _ k0 k1
    rw [← yl]
    refine Nat.le_antisymm (nodup_len (nd.filter _) fun r hr => ?_) (nodup_len yn fun r hr => ?_)
    · obtain ⟨h1, h2⟩ := List.mem_filter.mp hr
      exact (ym r).mpr ⟨lo.ge r h1, lo.lt r h1, of_decide_eq_true h2⟩
    · obtain ⟨r0, r1, rk⟩ := (ym r).mp hr
      obtain ⟨x, x0, x1, xw, xm⟩ := crt hp m1 (a := c) (r := r) (Int.dvd_of_emod_eq_zero (Int.emod_eq_emod_iff_emod_sub_eq_zero.mp rk))
      have fx : fitsB bs x = true := by
        rw [← fitsB_mod, xw, fitsB_mod]
        exact fc
      have := h x fx
      rw [xm, Int.emod_eq_of_lt r0 r1] at this
      exact List.mem_filter.mpr ⟨this, decide_eq_true rk⟩
def withinB (bs cs : List Bar) : Bool := cs.all (keepsB bs)
theorem within_iff {bs cs : List Bar} (hp : 0 < wh bs) (o : ∀ b ∈ cs, BarOk b) : withinB bs cs = true ↔ ∀ x, fitsB bs x = true → fitsB cs x = true := by
  unfold withinB fitsB
  rw [List.all_eq_true]
  constructor
  · intro h x fx
    rw [List.all_eq_true]
    exact fun b hb => decide_eq_true ((keeps_iff hp (o b hb)).mp (h b hb) x fx)
  · intro h b hb
    refine (keeps_iff hp (o b hb)).mpr fun x fx => ?_
    have := h x fx
    rw [List.all_eq_true] at this
    exact of_decide_eq_true (this b hb)
def sp_p_keeps_to (K : PySem.W.Frag) (C : Addr) : Sp := fun vs H Q _ => ∃ (p : Addr) (v : V) (t : Addr) (bs : List Bar) (x : V) (b : Bar), vs = [.ref p, x] ∧ SvAt K C H p v t bs ∧ BarAt K H x b ∧ BarOk b ∧ ∀ H', Same H H' → Q (.bl (keepsB bs b)) H'
def sp_two (K : PySem.W.Frag) (C : Addr) (f : List Bar → List Bar → Bool) : Sp := fun vs H Q _ => ∃ (p : Addr) (v : V) (t : Addr) (bs : List Bar) (p2 : Addr) (v2 : V) (t2 : Addr) (cs : List Bar), vs = [.ref p, .ref p2] ∧ SvAt K C H p v t bs ∧ SvAt K C H p2 v2 t2 cs ∧
  ∀ H', Same H H' → Q (.bl (f bs cs)) H'
section
variable {P : Program} {w : World} {K : PySem.W.Frag} {mg : Str → Option Value} {base : Heap}
theorem ok_p_keeps_to (T : Txt K mg) : FnOk P w K mg base CX0 4 T.f_p_keeps_to T.fd_p_keeps_to ["sieve", "bar"] (sp_p_keeps_to K T.C) := by
  refine T.F_p_keeps_to.ok sc_p_keeps_to (fun vs H Q E h => ?_) (fun cdv A outer s H vs Q E hr h => ?_)
  · obtain ⟨p, v, t, bs, x, b, rfl, _⟩ := h
    rfl
  · obtain ⟨p, v, t, bs, x, b, rfl, S, B, o, q⟩ := h
    refine ⟨_, (pss_cons (ps_asg (pv 1) (pg_tup (by rfl) (pgs_cons (pg_name (i := 2) sc_p_keeps_to.nd rfl (by first | exact .inl rfl | exact .inr rfl)) (pgs_cons (pg_name (i := 3) sc_p_keeps_to.nd rfl (by first | exact .inl rfl | exact .inr rfl)) pgs_nil))))
      (pss_cons (ps_set (i := 4) sc_p_keeps_to.nd rfl (by first | exact .inl rfl | exact .inr rfl) (pe_callBfun cr_gcd (by rfl) T.g_gcd (pa_cons (pe_prop (pv 0) T.cl T.pp_whole (ok_m_Sieve_whole T) (hr.mono (by decide)) T.b_m_Sieve_whole .nil pass0 (by rfl)) (pa_cons (pv 2) pa_nil))))
      (pss_cons (ps_set (i := 5) sc_p_keeps_to.nd rfl (by first | exact .inl rfl | exact .inr rfl) pe_dnewK)
      (pss_cons (ps_for PassesOwn.never rfl (pi_tup (pv 3)) (pg_name (i := 6) sc_p_keeps_to.nd rfl (by first | exact .inl rfl | exact .inr rfl)) (pss_one (ps_dput (hu_of hr) (pv 5) (pe_op op_mod (pv 6) (pv 4)) (pe_op op_add (pe_dget2 (hu_of hr) (pv 5) (pe_op op_mod (pv 6) (pv 4)) pe_int ⟨by rfl, by rfl, by rfl, by rfl⟩) pe_int) (by rfl))))
      (pss_cons (ps_set (i := 7) sc_p_keeps_to.nd rfl (by first | exact .inl rfl | exact .inr rfl) (pe_op op_fdivW (pv 2) (pv 4)))
      (pss_one (ps_ret (pe_callB (cr_all rfl) (by rfl) T.z_all (by decide +kernel) (pa_cons (pe_lc (own := [("number", 8)]) rfl sc_p_keeps_to.nd (pi_tup (pe_prop (pv 0) T.cl T.pp_classes (ok_m_Sieve_classes T) (hr.mono (by decide)) T.b_m_Sieve_classes .nil pass0 (by rfl))) (blkOk_by (N := ["sieve", "bar", "modulus", "lot", "common", "agreeing", "rest", "needed", "number"]) (sc := defScope s_p_keeps_to) (by decide +kernel)) (fun _ _ _ _ _ => (pg_name (i := 8) sc_p_keeps_to.nd rfl (by first | exact .inl rfl | exact .inr rfl))) (fun _ _ _ _ _ => pts_nil) (fun _ _ _ _ _ => (pe_cmpR op_eq (pe_dget2 (hu_of hr) (pv 5) (pe_op op_mod (pv 8) (pv 4)) pe_int ⟨by rfl, by rfl, by rfl, by rfl⟩) (pv 7) (nomark _)))) pa_nil))))))))), ?_⟩
    obtain ⟨pb, lv, rfl, tp, ⟨lc, rfl, tc⟩⟩ := B.ex
    have b1 := o.pos
    have b2 := o.most
    have b60 := o.lot.few
    have hp := S.ok.mods.pos
    have hw := S.ok.mods.lt
    have g0 : 0 < Nat.gcd (wh bs) b.1.natAbs := Nat.gcd_pos_of_pos_left _ hp
    have few := choices_cls S.ok
    refine ⟨_, rfl, pb, _, rfl, tp, rfl, _, _, rfl, _, _, rfl, rfl, ?_⟩
    refine ⟨_, rfl, p, _, _, rfl, S.ob.choose_spec, p, v, t, bs, rfl, S, _, rfl, _, _, rfl, ?_⟩
    rw [Int.natAbs_natCast]
    obtain ⟨g, hg⟩ : ∃ g : Nat, g = Nat.gcd (wh bs) b.1.natAbs := ⟨_, rfl⟩
    have gl : g ≤ b.1.natAbs := by rw [hg]; exact Nat.gcd_le_right _ (by omega)
    rw [← hg] at g0 ⊢
    refine fun D nD => ?_
    have hmod : b.1 = ((b.1.natAbs : Nat) : Int) := by omega
    have s0 := same_upd nD (o := .dK [])
    refine ⟨_, rfl, lc, rfl, ⟨_, Same.seqTT s0 tc⟩, for_tup (K := K) (a := lc) (xs := b.2.map V.int) (fun i σ Hi => ∃ (x6 : Option V) (kvs : List (L2.Key × V)), σ = [some (.ref p), some (.ref pb), some (.int b.1), some (.ref lc), some (.int (g : Nat)), some (.ref D), x6, none, none] ∧ Hi D = some (.dK kvs) ∧ Tells kvs (agC g b.2 i) ∧ kvs.length ≤ i ∧ Same H Hi)
      ⟨none, [], rfl, upd_same, Tells.nil, Nat.le_refl _, s0⟩ (fun i σ Hi _ ⟨_, _, _, _, _, _, si⟩ => Same.seqTT si tc) ?_ ?_⟩
    · rintro i y σ Hi hi ⟨x6, kvs, rfl, ei, ti, li, si⟩
      obtain ⟨x, hx, rfl⟩ := getMapInt' hi
      have il := (List.getElem?_eq_some_iff.mp hx).1
      refine ⟨_, rfl, D, rfl, .inl ⟨kvs, .inl ei⟩, _, rfl, _, rfl, _, _, rfl, rfl, by show (0 : Int) < (g : Int); omega, _, DGet.k (k := Sum.inl (x % (g : Int))) ei, ?_⟩
      rw [ti (x % (g : Int))]
      refine ⟨_, _, rfl, rfl, _, rfl, _, rfl, _, rfl, _, _, rfl, rfl, by show (0 : Int) < (g : Int); omega, D, _, rfl, DPut.k (k := Sum.inl (x % (g : Int))) ei (sizeLt (by omega)), ?_⟩
      exact ⟨_, _, rfl, upd_same, Tells.put ti hx, Nat.le_trans (length_putK _ _ _) (by omega), samePut si nD⟩
    · rintro σ H1 ⟨x6, kvs, rfl, e1, t1, _, s1⟩
      rw [List.length_map] at t1
      refine ⟨_, rfl, _, rfl, _, _, rfl, rfl, wide_div (b := 131) (by omega) (by omega) (by decide) (by decide), ?_⟩
      have S1 := S.stay s1
      refine ⟨_, rfl, p, _, _, rfl, S1.ob.choose_spec, p, v, t, bs, rfl, S1, t, rfl, ⟨_, S1.cls⟩, fun F nF => ?_⟩
      refine lc_tup (K := K) (a := t) (xs := (cls bs).map V.int) (fun k Hk => Hk F = some (.lst ((((cls bs).take k).map fun c => decide (agC g b.2 b.2.length (c % (g : Int)) = b.1.natAbs / g)).map V.bl)) ∧ Same H1 Hk) ⟨upd_same, same_upd nF⟩ (fun k Hk _ ⟨_, sk⟩ => (S1.stay sk).cls) ?_ ?_
      · rintro k y Hk hk ⟨ek, sk⟩
        obtain ⟨c, hc, rfl⟩ := getMapInt' hk
        have kl := (List.getElem?_eq_some_iff.mp hc).1
        refine ⟨rfl, _, rfl, D, rfl, .inl ⟨kvs, .inl (sk _ _ e1)⟩, _, rfl, _, rfl, _, _, rfl, rfl, by show (0 : Int) < (g : Int); omega, _, DGet.k (k := Sum.inl (c % (g : Int))) (sk _ _ e1), ?_⟩
        rw [t1 (c % (g : Int))]
        refine ⟨_, rfl, rfl, _, ek, ?_, ?_, samePut sk nF⟩
        · rw [List.length_map, List.length_map, List.length_take]
          exact sizeLt (by omega)
        · rw [upd_same, takeSucc hc, List.map_append, List.map_append, List.map_cons, List.map_nil, List.map_cons, List.map_nil]
          refine congrArg (fun z => some (HO.lst (_ ++ [V.bl z]))) ?_
          rw [Bool.eq_iff_iff, decide_eq_true_iff, decide_eq_true_iff]
          have ed : b.1 / (g : Int) = ((b.1.natAbs / g : Nat) : Int) := by
            rw [hmod, divNat, Int.natAbs_natCast]
          show V.int _ = V.int (b.1 / (g : Int)) ↔ _
          rw [ed]
          exact ⟨fun z => by have := V.int.inj z; omega, fun z => by rw [z]⟩
      · rintro Hk ⟨ek, sk⟩
        rw [List.length_map, List.take_length] at ek
        refine ⟨F, _, rfl, lstOf ek, ?_⟩
        have ea : (((cls bs).map fun c => decide (agC g b.2 b.2.length (c % (g : Int)) = b.1.natAbs / g)).all id) = keepsB bs b := by
          rw [List.all_map, hg]
          rfl
        rw [ea]
        exact q _ (s1.trans sk)
theorem ok_p_within (T : Txt K mg) : FnOk P w K mg base CX0 5 T.f_p_within T.fd_p_within ["one", "other"] (sp_two K T.C withinB) := by
  refine T.F_p_within.ok sc_p_within (fun vs H Q E h => ?_) (fun cdv A outer s H vs Q E hr h => ?_)
  · obtain ⟨p, v, t, bs, p2, v2, t2, cs, rfl, _⟩ := h
    rfl
  · obtain ⟨p, v, t, bs, p2, v2, t2, cs, rfl, S, S2, q⟩ := h
    refine ⟨_, (pss_one (ps_ret (pe_callB (cr_all rfl) (by rfl) T.z_all (by decide +kernel) (pa_cons (pe_lc (own := [("bar", 2)]) rfl sc_p_within.nd (pi_tup (pe_prop (pv 1) T.cl T.pp_bars (ok_m_Sieve_bars T) (hr.mono (by decide)) T.b_m_Sieve_bars .nil pass0 (by rfl))) (blkOk_by (N := ["one", "other", "bar"]) (sc := defScope s_p_within) (by decide +kernel)) (fun _ _ _ _ _ => (pg_name (i := 2) sc_p_within.nd rfl (by first | exact .inl rfl | exact .inr rfl))) (fun _ _ _ _ _ => pts_nil) (fun _ _ _ _ _ => (pe_call (ok_p_keeps_to T) (hr.mono (by decide)) (by rfl) T.g_p_keeps_to T.F_p_keeps_to.kp T.b_p_keeps_to .nil pass0 (pa_cons (pv 0) (pa_cons (pv 2) pa_nil))))) pa_nil)))), ?_⟩
    obtain ⟨va, xs, rfl, ta, nx, hx⟩ := S2.bars.ex
    have six := S2.ok.six
    refine ⟨_, rfl, p2, _, _, rfl, S2.ob.choose_spec, p2, _, t2, cs, rfl, S2, va, rfl, ⟨_, ta⟩, fun F nF => ?_⟩
    refine lc_tup (K := K) (a := va) (xs := xs) (fun k Hk => Hk F = some (.lst (((cs.take k).map (keepsB bs)).map V.bl)) ∧ Same H Hk) ⟨upd_same, same_upd nF⟩ (fun k Hk _ ⟨_, sk⟩ => Same.seqTT sk ta) ?_ ?_
    · rintro k y Hk hk ⟨ek, sk⟩
      have kl : k < cs.length := by
        have := (List.getElem?_eq_some_iff.mp hk).1
        omega
      have hb : cs[k]? = some cs[k] := List.getElem?_eq_getElem kl
      refine ⟨rfl, _, rfl, _, rfl, p, v, t, bs, y, cs[k], rfl, S.stay sk, (hx k y _ hk hb).stay (.same sk), S2.ok.bar _ (List.getElem_mem kl), fun H2 s2 => ?_⟩
      refine ⟨_, s2 _ _ ek, ?_, ?_, samePut (sk.trans s2) nF⟩
      · rw [List.length_map, List.length_map, List.length_take]
        exact sizeLt (by omega)
      · rw [upd_same, takeSucc hb, List.map_append, List.map_append]
        rfl
    · rintro Hk ⟨ek, sk⟩
      rw [nx, List.take_length] at ek
      refine ⟨F, _, rfl, lstOf ek, ?_⟩
      have ea : ((cs.map (keepsB bs)).all id) = withinB bs cs := by
        rw [List.all_map]
        rfl
      rw [ea]
      exact q _ sk
end

end R
namespace R
open PySem PySem.Spec PyProof.Rows L2
/-! ## alike -/
section
variable {P : Program} {w : World} {K : PySem.W.Frag} {mg : Str → Option Value} {base : Heap}
theorem ok_p_alike (T : Txt K mg) : FnOk P w K mg base CX0 6 T.f_p_alike T.fd_p_alike ["one", "other"] (sp_two K T.C fun bs cs => withinB bs cs && withinB cs bs) := by
  refine T.F_p_alike.ok sc_p_alike (fun vs H Q E h => ?_) (fun cdv A outer s H vs Q E hr h => ?_)
  · obtain ⟨p, v, t, bs, p2, v2, t2, cs, rfl, _⟩ := h
    rfl
  · obtain ⟨p, v, t, bs, p2, v2, t2, cs, rfl, S, S2, q⟩ := h
    refine ⟨_, (pss_one (ps_ret (pe_and (pe_call (ok_p_within T) (hr.mono (by decide)) (by rfl) T.g_p_within T.F_p_within.kp T.b_p_within .nil pass0 (pa_cons (pv 0) (pa_cons (pv 1) pa_nil))) (pe_one (pe_call (ok_p_within T) (hr.mono (by decide)) (by rfl) T.g_p_within T.F_p_within.kp T.b_p_within .nil pass0 (pa_cons (pv 1) (pa_cons (pv 0) pa_nil))))))), ?_⟩
    refine ⟨_, rfl, _, rfl, p, v, t, bs, p2, v2, t2, cs, rfl, S, S2, fun H1 s1 => ⟨_, rfl, ?_⟩⟩
    cases e : withinB bs cs with
    | false =>
      refine iteF ?_
      have this : Q (.bl (withinB bs cs && withinB cs bs)) H1 := q _ s1
      rw [e] at this
      exact this
    | true =>
      refine iteT ⟨_, rfl, _, rfl, p2, v2, t2, cs, p, v, t, bs, rfl, S2.stay s1, S.stay s1, fun H2 s2 => ?_⟩
      have this : Q (.bl (withinB bs cs && withinB cs bs)) H2 := q _ (s1.trans s2)
      rw [e, Bool.true_and] at this
      exact this
end

end R
namespace R
open PySem PySem.Spec PyProof.Rows L2
/-! ## two sieves side by side -/
def sp_p_both (K : PySem.W.Frag) (C M : Addr) : Sp := fun vs H Q E => ∃ (p : Addr) (v : V) (t : Addr) (bs : List Bar) (p2 : Addr) (v2 : V) (t2 : Addr) (cs : List Bar), vs = [.ref p, .ref p2] ∧ SvAt K C H p v t bs ∧ SvAt K C H p2 v2 t2 cs ∧
  ((6 < bs.length + cs.length ∧ ∀ H', Same H H' → E (.ref M) none H') ∨ (SvOk (bs ++ cs) ∧ ∀ p' v' t' H', Same H H' → SvAt K C H' p' v' t' (bs ++ cs) → Q (.ref p') H'))
section
variable {P : Program} {w : World} {K : PySem.W.Frag} {mg : Str → Option Value} {base : Heap}
theorem ok_p_both (T : Txt K mg) : FnOk P w K mg base (L2.CX P w) 12 T.f_p_both T.fd_p_both ["one", "other"] (sp_p_both K T.C T.C_TooMany) := by
  refine T.F_p_both.okX sc_p_both (fun vs H Q E h => ?_) (fun cdv A outer s H vs Q E hr h => ?_)
  · obtain ⟨p, v, t, bs, p2, v2, t2, cs, rfl, _⟩ := h
    rfl
  · obtain ⟨p, v, t, bs, p2, v2, t2, cs, rfl, S, S2, h⟩ := h
    refine ⟨_, (pss_cons (ps_set (i := 2) sc_p_both.nd rfl (by first | exact .inl rfl | exact .inr rfl) (pe_op op_catA (pe_prop (pv 0) T.cl T.pp_bars (ok_m_Sieve_bars T) (hr.mono (by decide)) T.b_m_Sieve_bars .nil pass0 (by rfl)) (pe_prop (pv 1) T.cl T.pp_bars (ok_m_Sieve_bars T) (hr.mono (by decide)) T.b_m_Sieve_bars .nil pass0 (by rfl))))
      (pss_cons (ps_if (pt_cmpR op_gt (pe_callB call_len_seq (by rfl) T.z_len (by decide +kernel) (pa_cons (pv 2) pa_nil)) (pe_glob (v := .int 6) (by rfl) T.c_MOST_BARS.choose_spec ⟨_, rfl⟩) (nomark _)) (pss_one (ps_raise rfl (takes_of rfl rfl rfl rfl) (pmk_own PySem.F.excBase_ValueError T.x_TooMany T.g_TooMany T.k_TooMany (raises_own T.b_TooMany T.t_TooMany) (by rfl)))) pss_nil)
      (pss_one (ps_ret (pe_make T.mkC (ok_m_Sieve_init T) (hr.mono (by decide)) (by rfl) T.g_Sieve T.b_m_Sieve_init .nil pass0 (pa_cons (pv 2) pa_nil)))))), ?_⟩
    have six := S.ok.six
    have six2 := S2.ok.six
    refine ⟨_, rfl, p, _, _, rfl, S.ob.choose_spec, p, v, t, bs, rfl, S, _, rfl, p2, _, _, rfl, S2.ob.choose_spec, p2, v2, t2, cs, rfl, S2, catBars S.bars S2.bars (by omega) fun y H1 s1 B1 => ?_⟩
    obtain ⟨a, xs, rfl, ta, nx, hx⟩ := B1.ex
    refine ⟨_, rfl, a, _, rfl, .inr ta, _, _, rfl, rfl, _, rfl, ?_⟩
    rw [nx, List.length_append]
    rcases h with ⟨h, q⟩ | ⟨h, q⟩
    · rw [decide_eq_true (show (6 : Int) < ((bs.length + cs.length : Nat) : Int) by omega)]
      exact iteT (q _ s1)
    · have h6 := h.six
      rw [List.length_append] at h6
      rw [decide_eq_false (show ¬ (6 : Int) < ((bs.length + cs.length : Nat) : Int) by omega)]
      exact iteF ⟨_, rfl, fun z dz nz ndz _ => make_sieve B1 h nz ndz fun t' H' s' A => ⟨rfl, q _ _ _ _ (s1.trans s') A⟩⟩
end

end R
namespace R
open PySem PySem.Spec PyProof.Rows L2
/-! ## marks on a ring -/
structure IsDist (g : Int) (A B : List Int) (m : Int) : Prop where
  ex : ∃ a ∈ A, ∃ b ∈ B, m = (a - b) % g ∨ m = (b - a) % g
  le : ∀ a ∈ A, ∀ b ∈ B, m ≤ (a - b) % g ∧ m ≤ (b - a) % g
theorem IsDist.one {g : Int} {A B : List Int} {m n : Int} (h : IsDist g A B m) (k : IsDist g A B n) : m = n := by
  obtain ⟨a, ha, b, hb, e⟩ := h.ex
  obtain ⟨c, hc, d, hd, f⟩ := k.ex
  have h1 := h.le c hc d hd
  have h2 := k.le a ha b hb
  omega
theorem changes (f : Nat → Int × Int) : ∀ (d i : Nat), (f i).2 ≠ (f (i + d)).2 → ∃ k, i ≤ k ∧ k < i + d ∧ (f k).2 ≠ (f (k + 1)).2 := by
  intro d
  induction d with
  | zero => exact fun i h => absurd rfl h
  | succ d ih =>
    intro i h
    by_cases e : (f i).2 = (f (i + 1)).2
    · obtain ⟨k, k1, k2, k3⟩ := ih (i + 1) (by rw [← e, show i + 1 + d = i + (d + 1) by omega]; exact h)
      exact ⟨k, by omega, by omega, k3⟩
    · exact ⟨i, Nat.le_refl _, by omega, e⟩
theorem changesTo {f : Nat → Int × Int} {i j : Nat} (l : i ≤ j) (h : (f i).2 ≠ (f j).2) : ∃ k, i ≤ k ∧ k < j ∧ (f k).2 ≠ (f (k + 1)).2 := by
  obtain ⟨k, k1, k2, k3⟩ := changes f (j - i) i (by rw [show i + (j - i) = j by omega]; exact h)
  exact ⟨k, k1, by omega, k3⟩
theorem ring {n : Nat} {g : Int} (f : Nat → Int × Int) (up : ∀ i j, i ≤ j → j < n → (f i).1 ≤ (f j).1) (rng : ∀ i, i < n → 0 ≤ (f i).1 ∧ (f i).1 < g) {i j : Nat} (hi : i < n) (hj : j < n) (ne : (f i).2 ≠ (f j).2) :
    ∃ k, k < n ∧ (f k).2 ≠ (f ((k + 1) % n)).2 ∧ ((f ((k + 1) % n)).1 - (f k).1) % g ≤ ((f j).1 - (f i).1) % g := by
  have ri := rng i hi
  have rj := rng j hj
  -- a change between two places gives a gap that is no wider
  have fwd : ∀ u v, u ≤ v → v < n → (f u).2 ≠ (f v).2 → ∃ k, k < n ∧ (f k).2 ≠ (f ((k + 1) % n)).2 ∧ ((f ((k + 1) % n)).1 - (f k).1) % g ≤ (f v).1 - (f u).1 := by
    intro u v uv hv h
    obtain ⟨k, k1, k2, k3⟩ := changesTo uv h
    have e : (k + 1) % n = k + 1 := Nat.mod_eq_of_lt (by omega)
    refine ⟨k, by omega, by rw [e]; exact k3, ?_⟩
    rw [e]
    have a1 := up u k k1 (by omega)
    have a2 := up k (k + 1) (Nat.le_succ _) (by omega)
    have a3 := up (k + 1) v (by omega) hv
    have r1 := rng k (by omega)
    have r2 := rng (k + 1) (by omega)
    rw [Int.emod_eq_of_lt (by omega) (by omega)]
    omega
  by_cases l : i ≤ j
  · obtain ⟨k, k1, k2, k3⟩ := fwd i j l hj ne
    refine ⟨k, k1, k2, ?_⟩
    have := up i j l hj
    rw [Int.emod_eq_of_lt (a := (f j).1 - (f i).1) (by omega) (by omega)]
    exact k3
  · have ji := up j i (by omega) hi
    by_cases e : (f j).1 = (f i).1
    · obtain ⟨k, k1, k2, k3⟩ := fwd j i (by omega) hi (Ne.symm ne)
      refine ⟨k, k1, k2, ?_⟩
      rw [e, Int.sub_self] at *
      rw [Int.zero_emod]
      exact k3
    · have er : ((f j).1 - (f i).1) % g = (f j).1 - (f i).1 + g := by
        rw [← Int.add_emod_right, Int.emod_eq_of_lt (by omega) (by omega)]
      rw [er]
      have rl := rng (n - 1) (by omega)
      have r0 := rng 0 (by omega)
      have u1 := up i (n - 1) (by omega) (by omega)
      have u2 := up 0 j (by omega) hj
      have u3 := up 0 (n - 1) (by omega) (by omega)
      by_cases c1 : (f i).2 = (f (n - 1)).2
      · by_cases c2 : (f (n - 1)).2 = (f 0).2
        · obtain ⟨k, k1, k2, k3⟩ := fwd 0 j (by omega) hj (by rw [← c2, ← c1]; exact ne)
          exact ⟨k, k1, k2, by omega⟩
        · have en : (n - 1 + 1) % n = 0 := by rw [show n - 1 + 1 = n by omega, Nat.mod_self]
          refine ⟨n - 1, by omega, by rw [en]; exact c2, ?_⟩
          rw [en]
          by_cases c3 : (f 0).1 = (f (n - 1)).1
          · rw [c3, Int.sub_self, Int.zero_emod]
            omega
          · rw [← Int.add_emod_right, Int.emod_eq_of_lt (by omega) (by omega)]
            omega
      · obtain ⟨k, k1, k2, k3⟩ := fwd i (n - 1) (by omega) (by omega) c1
        exact ⟨k, k1, k2, by omega⟩
def marksL (g : Int) (A B : List Int) : List (Int × Int) := (A.map fun a => (a % g, 0)) ++ B.map fun b => (b % g, 1)
def rotL {α : Type} (M : List α) : List α := M.drop 1 ++ M.take 1
theorem rot_get {α : Type} {M : List α} {k : Nat} (h : k < M.length) : (rotL M)[k]? = M[(k + 1) % M.length]? := by
  unfold rotL
  by_cases l : k + 1 < M.length
  · rw [List.getElem?_append_left (by rw [List.length_drop]; omega), List.getElem?_drop, Nat.mod_eq_of_lt l, Nat.add_comm]
  · have e : k + 1 = M.length := by omega
    rw [List.getElem?_append_right (by rw [List.length_drop]; omega), List.length_drop, e, Nat.mod_self, show k - (M.length - 1) = 0 by omega, List.getElem?_take, if_pos (by decide)]
theorem rot_len {α : Type} (M : List α) : (rotL M).length = M.length := by
  unfold rotL
  rw [List.length_append, List.length_drop, List.length_take]
  omega
def gapOk (z : (Int × Int) × (Int × Int)) : Bool := !decide (z.1.2 = z.2.2)
def gapIn (g : Int) (z : (Int × Int) × (Int × Int)) : Int := (z.2.1 - z.1.1) % g
def gapsTo (g : Int) (M : List (Int × Int)) (n : Nat) : List Int := (((M.zip (rotL M)).take n).filter gapOk).map (gapIn g)
theorem gaps_succ {g : Int} {M : List (Int × Int)} {n : Nat} {x y : Int × Int} (hx : M[n]? = some x) (hy : (rotL M)[n]? = some y) : gapsTo g M (n + 1) = gapsTo g M n ++ (if gapOk (x, y) = true then [gapIn g (x, y)] else []) := by
  have e : (M.zip (rotL M))[n]? = some (x, y) := by
    rw [List.getElem?_zip_eq_some]
    exact ⟨hx, hy⟩
  unfold gapsTo
  rw [takeSucc e, List.filter_append, List.map_append]
  by_cases h : gapOk (x, y) = true
  · rw [if_pos h, List.filter_cons_of_pos h]
    rfl
  · rw [if_neg h, List.filter_cons_of_neg h]
    rfl
theorem gaps_len (g : Int) (M : List (Int × Int)) (n : Nat) : (gapsTo g M n).length ≤ M.length := by
  unfold gapsTo
  rw [List.length_map]
  refine Nat.le_trans (List.length_filter_le _ _) ?_
  rw [List.length_take, List.length_zip, rot_len]
  omega
theorem gaps_mem {g : Int} {M : List (Int × Int)} {m : Int} : m ∈ gapsTo g M M.length ↔ ∃ (k : Nat) (x y : Int × Int), M[k]? = some x ∧ M[(k + 1) % M.length]? = some y ∧ x.2 ≠ y.2 ∧ m = (y.1 - x.1) % g := by
  unfold gapsTo
  rw [List.take_of_length_le (by rw [List.length_zip, rot_len]; omega), List.mem_map]
  constructor
  · rintro ⟨⟨x, y⟩, hz, rfl⟩
    obtain ⟨h1, h2⟩ := List.mem_filter.mp hz
    obtain ⟨k, hk⟩ := List.getElem?_of_mem h1
    obtain ⟨h3, h4⟩ := List.getElem?_zip_eq_some.mp hk
    have kl := (List.getElem?_eq_some_iff.mp h3).1
    rw [rot_get kl] at h4
    refine ⟨k, x, y, h3, h4, ?_, rfl⟩
    unfold gapOk at h2
    simpa using h2
  · rintro ⟨k, x, y, h1, h2, h3, rfl⟩
    have kl := (List.getElem?_eq_some_iff.mp h1).1
    refine ⟨(x, y), List.mem_filter.mpr ⟨List.mem_of_getElem? (i := k) (List.getElem?_zip_eq_some.mpr ⟨h1, by rw [rot_get kl]; exact h2⟩), ?_⟩, rfl⟩
    unfold gapOk
    simpa using h3
theorem marks_side {g : Int} {A B : List Int} {x : Int × Int} (h : x ∈ marksL g A B) : (∃ a ∈ A, x = (a % g, 0)) ∨ ∃ b ∈ B, x = (b % g, 1) := by
  unfold marksL at h
  rcases List.mem_append.mp h with h | h
  · obtain ⟨a, ha, e⟩ := List.mem_map.mp h
    exact .inl ⟨a, ha, e.symm⟩
  · obtain ⟨b, hb, e⟩ := List.mem_map.mp h
    exact .inr ⟨b, hb, e.symm⟩
theorem dist_of {g : Int} {A B : List Int} {M : List (Int × Int)} (hg : 0 < g) (hA : A ≠ []) (hB : B ≠ []) (pm : M.Perm (marksL g A B)) (up : M.Pairwise fun p q => p.1 ≤ q.1) :
    0 < (gapsTo g M M.length).length ∧ ∀ m ∈ gapsTo g M M.length, (∀ y ∈ gapsTo g M M.length, m ≤ y) → IsDist g A B m := by
  have mem : ∀ x, x ∈ M ↔ x ∈ marksL g A B := fun x => pm.mem_iff
  have rng : ∀ x ∈ M, 0 ≤ x.1 ∧ x.1 < g := fun x hx => by
    rcases marks_side ((mem x).mp hx) with ⟨a, _, rfl⟩ | ⟨a, _, rfl⟩
    · exact ⟨Int.emod_nonneg _ (by omega), Int.emod_lt_of_pos _ hg⟩
    · exact ⟨Int.emod_nonneg _ (by omega), Int.emod_lt_of_pos _ hg⟩
  -- each two marks of both sides have a gap that is no wider
  have near : ∀ x y, x ∈ M → y ∈ M → x.2 ≠ y.2 → ∃ m ∈ gapsTo g M M.length, m ≤ (y.1 - x.1) % g := by
    intro x y hx hy ne
    obtain ⟨i, hi⟩ := List.getElem?_of_mem hx
    obtain ⟨j, hj⟩ := List.getElem?_of_mem hy
    obtain ⟨il, ei⟩ := List.getElem?_eq_some_iff.mp hi
    obtain ⟨jl, ej⟩ := List.getElem?_eq_some_iff.mp hj
    have fd : ∀ k (h : k < M.length), M.getD k (0, 0) = M[k] := fun k h => by rw [List.getD_eq_getElem?_getD, List.getElem?_eq_getElem h]; rfl
    obtain ⟨k, k1, k2, k3⟩ := ring (n := M.length) (g := g) (fun k => M.getD k (0, 0)) (fun u v uv hv => by
      show (M.getD u (0, 0)).1 ≤ (M.getD v (0, 0)).1
      rw [fd u (by omega), fd v hv]
      by_cases e : u = v
      · subst e
        exact Int.le_refl _
      · exact List.pairwise_iff_getElem.mp up u v (by omega) hv (by omega)) (fun u hu => by
      show 0 ≤ (M.getD u (0, 0)).1 ∧ (M.getD u (0, 0)).1 < g
      rw [fd u hu]
      exact rng _ (List.getElem_mem hu)) il jl (by
      show (M.getD i (0, 0)).2 ≠ (M.getD j (0, 0)).2
      rw [fd i il, fd j jl, ei, ej]
      exact ne)
    have k4 : (k + 1) % M.length < M.length := Nat.mod_lt _ (by omega)
    have k2' : (M.getD k (0, 0)).2 ≠ (M.getD ((k + 1) % M.length) (0, 0)).2 := k2
    have k3' : ((M.getD ((k + 1) % M.length) (0, 0)).1 - (M.getD k (0, 0)).1) % g ≤ ((M.getD j (0, 0)).1 - (M.getD i (0, 0)).1) % g := k3
    rw [fd _ k1, fd _ k4] at k2' k3'
    rw [fd i il, fd j jl, ei, ej] at k3'
    exact ⟨_, gaps_mem.mpr ⟨k, _, _, List.getElem?_eq_getElem k1, List.getElem?_eq_getElem k4, k2', rfl⟩, k3'⟩
  have inA : ∀ a ∈ A, (a % g, (0 : Int)) ∈ M := fun a ha => (mem _).mpr (List.mem_append_left _ (List.mem_map.mpr ⟨a, ha, rfl⟩))
  have inB : ∀ b ∈ B, (b % g, (1 : Int)) ∈ M := fun b hb => (mem _).mpr (List.mem_append_right _ (List.mem_map.mpr ⟨b, hb, rfl⟩))
  constructor
  · obtain ⟨a, ha⟩ := List.exists_mem_of_ne_nil _ hA
    obtain ⟨b, hb⟩ := List.exists_mem_of_ne_nil _ hB
    obtain ⟨m, hm, _⟩ := near _ _ (inA a ha) (inB b hb) (by show (0 : Int) ≠ 1; decide)
    exact List.length_pos_of_mem hm
  · intro m hm least
    refine ⟨?_, fun a ha b hb => ⟨?_, ?_⟩⟩
    · obtain ⟨k, x, y, h1, h2, h3, rfl⟩ := gaps_mem.mp hm
      rcases marks_side ((mem _).mp (List.mem_of_getElem? h1)) with ⟨a, ha, rfl⟩ | ⟨a, ha, rfl⟩
      · rcases marks_side ((mem _).mp (List.mem_of_getElem? h2)) with ⟨b, hb, rfl⟩ | ⟨b, hb, rfl⟩
        · exact absurd rfl h3
        · exact ⟨a, ha, b, hb, .inr (Int.sub_emod b a g).symm⟩
      · rcases marks_side ((mem _).mp (List.mem_of_getElem? h2)) with ⟨b, hb, rfl⟩ | ⟨b, hb, rfl⟩
        · exact ⟨b, hb, a, ha, .inl (Int.sub_emod b a g).symm⟩
        · exact absurd rfl h3
    · obtain ⟨n, hn, le⟩ := near _ _ (inB b hb) (inA a ha) (by show (1 : Int) ≠ 0; decide)
      have := least n hn
      have e : (a % g - b % g) % g = (a - b) % g := (Int.sub_emod a b g).symm
      rw [← e]
      exact Int.le_trans this le
    · obtain ⟨n, hn, le⟩ := near _ _ (inA a ha) (inB b hb) (by show (0 : Int) ≠ 1; decide)
      have := least n hn
      have e : (b % g - a % g) % g = (b - a) % g := (Int.sub_emod b a g).symm
      rw [← e]
      exact Int.le_trans this le
theorem PrAt.cut {H : Hp} {xs : List V} {ms : List (Int × Int)} (h : PrAt H xs ms) : PrAt H (rotL xs) (rotL ms) := by
  refine ⟨by rw [rot_len, rot_len, h.len], fun i x m a b => ?_⟩
  have l : i < xs.length := by
    have := (List.getElem?_eq_some_iff.mp a).1
    rwa [rot_len] at this
  rw [rot_get l] at a
  rw [rot_get (by rw [← h.len]; exact l), ← h.len] at b
  exact h.at_ _ x m a b
/-- such a list sorted -/
theorem PrAt.sorted {H : Hp} {xs ys : List V} {ms : List (Int × Int)} (h : PrAt H xs ms) (s : SrtO.Srtd (ltP (prOf H)) ys) (st : SrtO.Stb (ltP (prOf H)) ys xs) :
    PrAt H ys (ys.map (prOf H)) ∧ (ys.map (prOf H)).Perm ms ∧ (ys.map (prOf H)).Pairwise fun p q => p.1 ≤ q.1 := by
  refine ⟨PrAt.of fun x hx => h.all x (st.perm.mem_iff.mp hx), ?_, ?_⟩
  · have := st.perm.map (prOf H)
    rw [h.map] at this
    exact this
  · rw [List.pairwise_map]
    refine s.imp fun {a b} e => ?_
    have e' : SrtO.lexB (prOf H b) (prOf H a) = false := e
    rcases Int.lt_or_le (prOf H b).1 (prOf H a).1 with l | l
    · rw [SrtO.lexB_iff.mpr (.inl l)] at e'
      cases e'
    · exact l

end R
namespace R
open PySem PySem.Spec PyProof.Rows L2
/-! ## the distance of two sieves -/
def gapL (g a b : Int) : Int := if (b - a) % g < (a - b) % g then (b - a) % g else (a - b) % g
def gg (bs cs : List Bar) : Int := ((Nat.gcd (wh bs) (wh cs) : Nat) : Int)
def sp_p_distance (K : PySem.W.Frag) (C N : Addr) : Sp := fun vs H Q E => ∃ (p : Addr) (v : V) (t : Addr) (bs : List Bar) (p2 : Addr) (v2 : V) (t2 : Addr) (cs : List Bar), vs = [.ref p, .ref p2] ∧ SvAt K C H p v t bs ∧ SvAt K C H p2 v2 t2 cs ∧
  (((cls bs = [] ∨ cls cs = []) ∧ ∀ H', Same H H' → E (.ref N) none H') ∨ (cls bs ≠ [] ∧ cls cs ≠ [] ∧ ∀ m H', Same H H' → IsDist (gg bs cs) (cls bs) (cls cs) m → Q (.int m) H'))
section
variable {P : Program} {w : World} {K : PySem.W.Frag} {mg : Str → Option Value} {base : Heap}
theorem ok_p_distance (T : Txt K mg) : FnOk P w K mg base (L2.CX P w) 5 T.f_p_distance T.fd_p_distance ["one", "other"] (sp_p_distance K T.C T.C_Nothing) := by
  refine T.F_p_distance.okX sc_p_distance (fun vs H Q E h => ?_) (fun cdv A outer s H vs Q E hr h => ?_)
  · obtain ⟨p, v, t, bs, p2, v2, t2, cs, rfl, _⟩ := h
    rfl
  · obtain ⟨p, v, t, bs, p2, v2, t2, cs, rfl, S, S2, h⟩ := h
    refine ⟨_, (pss_cons (ps_expr (pe_call (ok_p_check_some T) (hr.mono (by decide)) (by rfl) T.g_p_check_some T.F_p_check_some.kp T.b_p_check_some .nil (passes_call (takes_of rfl rfl rfl rfl) (fun _ _ _ _ h => h)) (pa_cons (pv 0) pa_nil)))
      (pss_cons (ps_expr (pe_call (ok_p_check_some T) (hr.mono (by decide)) (by rfl) T.g_p_check_some T.F_p_check_some.kp T.b_p_check_some .nil (passes_call (takes_of rfl rfl rfl rfl) (fun _ _ _ _ h => h)) (pa_cons (pv 1) pa_nil)))
      (pss_cons (ps_set (i := 2) sc_p_distance.nd rfl (by first | exact .inl rfl | exact .inr rfl) (pe_callBfun cr_gcd (by rfl) T.g_gcd (pa_cons (pe_prop (pv 0) T.cl T.pp_whole (ok_m_Sieve_whole T) (hr.mono (by decide)) T.b_m_Sieve_whole .nil pass0 (by rfl)) (pa_cons (pe_prop (pv 1) T.cl T.pp_whole (ok_m_Sieve_whole T) (hr.mono (by decide)) T.b_m_Sieve_whole .nil pass0 (by rfl)) pa_nil))))
      (pss_cons (ps_setLc (i := 3) (own := [("number", 5)]) rfl sc_p_distance.nd rfl rfl (sw_true rfl rfl rfl (by decide +kernel)) (pi_tup (pe_prop (pv 0) T.cl T.pp_classes (ok_m_Sieve_classes T) (hr.mono (by decide)) T.b_m_Sieve_classes .nil pass0 (by rfl))) (blkOk_by (N := ["one", "other", "common", "marks_of_one", "marks", "number", "place", "side", "after", "next_side"]) (sc := defScope s_p_distance) (by decide +kernel)) (fun _ _ _ _ _ => (pg_name (i := 5) sc_p_distance.nd rfl (by first | exact .inl rfl | exact .inr rfl))) (fun _ _ _ _ _ => pts_nil) (fun _ _ _ _ _ => (pe_tup (pa_cons (pe_op op_mod (pv 5) (pv 2)) (pa_cons pe_int pa_nil)))))
      (pss_cons (ps_set (i := 4) sc_p_distance.nd rfl (by first | exact .inl rfl | exact .inr rfl) (pe_callB cr_sortedPO (by rfl) T.z_sorted (by decide +kernel) (pa_cons (pe_op op_cat (pv 3) (pe_lc (own := [("number", 5)]) rfl sc_p_distance.nd (pi_tup (pe_prop (pv 1) T.cl T.pp_classes (ok_m_Sieve_classes T) (hr.mono (by decide)) T.b_m_Sieve_classes .nil pass0 (by rfl))) (blkOk_by (N := ["one", "other", "common", "marks_of_one", "marks", "number", "place", "side", "after", "next_side"]) (sc := defScope s_p_distance) (by decide +kernel)) (fun _ _ _ _ _ => (pg_name (i := 5) sc_p_distance.nd rfl (by first | exact .inl rfl | exact .inr rfl))) (fun _ _ _ _ _ => pts_nil) (fun _ _ _ _ _ => (pe_tup (pa_cons (pe_op op_mod (pv 5) (pv 2)) (pa_cons pe_int pa_nil)))))) pa_nil)))
      (pss_one (ps_ret (pe_callB (cr_min rfl) (by rfl) T.z_min (by decide +kernel) (pa_cons (pe_lc (own := [("place", 6), ("side", 7), ("after", 8), ("next_side", 9)]) (g := gTup K 2 (gCons (gTup K 2 (gCons (gName 6) (gCons (gName 7) (gNil)))) (gCons (gTup K 2 (gCons (gName 8) (gCons (gName 9) (gNil)))) (gNil)))) rfl sc_p_distance.nd (pi_zip (by rfl) T.z_zip (pa_cons (pv 4) (pa_cons (pe_op op_cat (pe_slice sl_list (pv 4) (po_some pe_int) po_none) (pe_slice sl_list (pv 4) po_none (po_some pe_int))) pa_nil))) (blkOk_by (N := ["one", "other", "common", "marks_of_one", "marks", "number", "place", "side", "after", "next_side"]) (sc := defScope s_p_distance) (by decide +kernel)) (fun _ _ _ _ _ => (pg_tup (by rfl) (pgs_cons (pg_tup (by rfl) (pgs_cons (pg_name (i := 6) sc_p_distance.nd rfl (by first | exact .inl rfl | exact .inr rfl)) (pgs_cons (pg_name (i := 7) sc_p_distance.nd rfl (by first | exact .inl rfl | exact .inr rfl)) pgs_nil))) (pgs_cons (pg_tup (by rfl) (pgs_cons (pg_name (i := 8) sc_p_distance.nd rfl (by first | exact .inl rfl | exact .inr rfl)) (pgs_cons (pg_name (i := 9) sc_p_distance.nd rfl (by first | exact .inl rfl | exact .inr rfl)) pgs_nil))) pgs_nil)))) (fun _ _ _ _ _ => (pts_one (pt_cmpR op_ne (pv 7) (pv 9) (nomark _)))) (fun _ _ _ _ _ => (pe_op op_mod (pe_op op_sub (pv 8) (pv 6)) (pv 2)))) pa_nil))))))))), ?_⟩
    refine ⟨_, rfl, p, v, t, bs, rfl, S, ?_⟩
    by_cases hA : cls bs = []
    · rcases h with ⟨_, q⟩ | ⟨h, _⟩
      · exact .inr ⟨hA, fun H' s' => q H' s'⟩
      · exact absurd hA h
    refine .inl ⟨hA, fun H1 s1 => ?_⟩
    have S1 := S.stay s1
    have T1 := S2.stay s1
    refine ⟨_, rfl, p2, v2, t2, cs, rfl, T1, ?_⟩
    by_cases hB : cls cs = []
    · rcases h with ⟨_, q⟩ | ⟨_, h, _⟩
      · exact .inr ⟨hB, fun H' s' => q H' (s1.trans s')⟩
      · exact absurd hB h
    refine .inl ⟨hB, fun H2 s2 => ?_⟩
    rcases h with ⟨h, _⟩ | ⟨_, _, q⟩
    · rcases h with h | h
      · exact absurd h hA
      · exact absurd h hB
    have s12 := s1.trans s2
    have SA := S.stay s12
    have SB := S2.stay s12
    have hp := S.ok.mods.pos
    have hp2 := S2.ok.mods.pos
    have few := choices_cls S.ok
    have few2 := choices_cls S2.ok
    refine ⟨_, rfl, p, _, _, rfl, SA.ob.choose_spec, p, v, t, bs, rfl, SA, _, rfl, p2, _, _, rfl, SB.ob.choose_spec, p2, v2, t2, cs, rfl, SB, _, _, rfl, ?_⟩
    rw [Int.natAbs_natCast, Int.natAbs_natCast]
    have g0 : 0 < gg bs cs := by
      have := Nat.gcd_pos_of_pos_left (wh cs) hp
      unfold gg
      omega
    show _
    refine ⟨_, rfl, p, _, _, rfl, SA.ob.choose_spec, p, v, t, bs, rfl, SA, t, rfl, ⟨_, SA.cls⟩, fun F nF => ?_⟩
    refine lc_tup (K := K) (a := t) (xs := (cls bs).map V.int) (fun k Hk => MarksTo H2 F (((cls bs).take k).map fun a => (a % gg bs cs, 0)) Hk) (MarksTo.start nF) (fun k Hk _ ⟨_, e, _, kp⟩ => ?_) ?_ ?_
    · have sk : Same H2 Hk := fun b o q => kp b o (ne_of_none q nF) q
      exact (SA.stay sk).cls
    · rintro k y Hk hk ⟨xs, e, pr, kp⟩
      obtain ⟨a, ha, rfl⟩ := getMapInt' hk
      have lx : xs.length ≤ 2000 := by
        rw [pr.len, List.length_map, List.length_take]
        omega
      refine ⟨rfl, _, rfl, _, rfl, _, _, rfl, rfl, g0, sizeOk (by show (2 : Nat) ≤ 100000; decide), fun u nu => ?_⟩
      obtain ⟨e2, m2⟩ := MarksTo.add (m := (a % gg bs cs, 0)) e pr kp nu
      refine ⟨_, e2, sizeLt (by omega), ?_⟩
      rw [takeSucc ha, List.map_append]
      exact m2
    · rintro Hk ⟨xs, e, pr, kp⟩
      rw [List.length_map, List.take_length] at pr
      have lx : xs.length ≤ 2000 := by
        rw [pr.len, List.length_map]
        omega
      have sk : Same H2 Hk := fun b o q => kp b o (ne_of_none q nF) q
      have SAk := SA.stay sk
      have SBk := SB.stay sk
      refine ⟨_, rfl, _, rfl, p2, _, _, rfl, SBk.ob.choose_spec, p2, v2, t2, cs, rfl, SBk, t2, rfl, ⟨_, SBk.cls⟩, fun G nG => ?_⟩
      refine lc_tup (K := K) (a := t2) (xs := (cls cs).map V.int) (fun k Hj => MarksTo Hk G (((cls cs).take k).map fun a => (a % gg bs cs, 1)) Hj) (MarksTo.start nG) (fun k Hj _ ⟨_, e, _, kp⟩ => ?_) ?_ ?_
      · have sj : Same Hk Hj := fun b o q => kp b o (ne_of_none q nG) q
        exact (SBk.stay sj).cls
      · rintro k y Hj hk ⟨zs, e3, pr3, kp3⟩
        obtain ⟨a, ha, rfl⟩ := getMapInt' hk
        have lz : zs.length ≤ 2000 := by
          rw [pr3.len, List.length_map, List.length_take]
          omega
        refine ⟨rfl, _, rfl, _, rfl, _, _, rfl, rfl, g0, sizeOk (by show (2 : Nat) ≤ 100000; decide), fun u nu => ?_⟩
        obtain ⟨e2, m2⟩ := MarksTo.add (m := (a % gg bs cs, 1)) e3 pr3 kp3 nu
        refine ⟨_, e2, sizeLt (by omega), ?_⟩
        rw [takeSucc ha, List.map_append]
        exact m2
      · rintro Hj ⟨zs, e3, pr3, kp3⟩
        rw [List.length_map, List.take_length] at pr3
        have lz : zs.length ≤ 2000 := by
          rw [pr3.len, List.length_map]
          omega
        have sj : Same Hk Hj := fun b o q => kp3 b o (ne_of_none q nG) q
        have eF := sj _ _ e
        refine ⟨F, G, xs, zs, rfl, rfl, eF, e3, sizeOk (by omega), fun D nD => ?_⟩
        have sD := same_upd nD (o := .lst (xs ++ zs))
        have prD : PrAt (upd Hj D (.lst (xs ++ zs))) (xs ++ zs) (marksL (gg bs cs) (cls bs) (cls cs)) := PrAt.app (pr.stay fun a u q => sD _ _ (sj _ _ q)) (pr3.stay fun a u q => sD _ _ q)
        refine ⟨D, xs ++ zs, prOf (upd Hj D (.lst (xs ++ zs))), rfl, lstOf upd_same, prD.all, fun ys M s st nM => ?_⟩
        obtain ⟨pr4, pm, up⟩ := prD.sorted s st
        have sM := same_upd nM (o := .lst ys)
        have eM := upd_same (H := upd Hj D (.lst (xs ++ zs))) (a := M) (o := .lst ys)
        have pr5 := pr4.stay (H' := upd (upd Hj D (.lst (xs ++ zs))) M (.lst ys)) fun a u q => sM _ _ q
        have sall := s12.trans (sk.trans (sj.trans (sD.trans sM)))
        have ly : ys.length ≤ 4000 := by
          rw [pr5.len, pm.length_eq]
          unfold marksL
          rw [List.length_append, List.length_map, List.length_map]
          omega
        generalize ys.map (prOf (upd Hj D (.lst (xs ++ zs)))) = MM at pr5 pm up
        generalize upd (upd Hj D (.lst (xs ++ zs))) M (.lst ys) = H5 at eM pr5 sall ⊢
        have fin := dist_of g0 hA hB pm up
        -- marks[1:] + marks[:1]
        refine ⟨_, rfl, _, rfl, ((1 : Nat) : Int), rfl, ?_⟩
        simp only [tNoPart]
        refine ⟨M, ys, rfl, lstOf eM, fun a1 n1 => ⟨_, rfl, ((1 : Nat) : Int), rfl, M, ys, rfl, lstOf (same_upd n1 _ _ eM), fun a2 n2 => ?_⟩⟩
        have yl : 1 ≤ ys.length := by
          rw [pr5.len]
          rcases Nat.eq_zero_or_pos MM.length with z | z
          · have := gaps_len (gg bs cs) MM MM.length
            omega
          · exact z
        have c1 : cutV ys (some ((1 : Nat) : Int)) none = ys.drop 1 := cutDrop ys yl
        have c2 : cutV ys none (some ((1 : Nat) : Int)) = ys.take 1 := cutTake' ys 1
        rw [c1] at n2 ⊢
        rw [c2]
        have q1 := same_upd n1 (o := .lst (ys.drop 1))
        have q2 := same_upd n2 (o := .lst (ys.take 1))
        refine ⟨a1, a2, _, _, rfl, rfl, q2 _ _ upd_same, upd_same, ?_, fun R nR => ?_⟩
        · rw [List.length_drop, List.length_take]
          exact sizeOk (by omega)
        have q3 := same_upd nR (o := .lst (ys.drop 1 ++ ys.take 1))
        have q123 := q1.trans (q2.trans q3)
        have eM6 := q123 _ _ eM
        have eR6 := upd_same (H := upd (upd H5 a1 (.lst (ys.drop 1))) a2 (.lst (ys.take 1))) (a := R) (o := .lst (ys.drop 1 ++ ys.take 1))
        have pr6 := pr5.stay (H' := upd (upd (upd H5 a1 (.lst (ys.drop 1))) a2 (.lst (ys.take 1))) R (.lst (ys.drop 1 ++ ys.take 1))) fun a u q => q123 _ _ q
        have sall6 := sall.trans q123
        generalize upd (upd (upd H5 a1 (.lst (ys.drop 1))) a2 (.lst (ys.take 1))) R (.lst (ys.drop 1 ++ ys.take 1)) = H6 at eM6 eR6 pr6 sall6 ⊢
        have pr7 : PrAt H6 (rotL ys) (rotL MM) := pr6.cut
        refine ⟨M, R, ys, rotL ys, rfl, lstOf eM6, lstOf eR6, fun Z nZ => ?_⟩
        have lm : ys.length = MM.length := pr6.len
        refine lc_it (walk_zip (K := K) (a := M) (b := R) (xs := ys) (ys := rotL ys) (n := ys.length) (by rw [rot_len]; omega)) (fun k Hk => Hk Z = some (.lst ((gapsTo (gg bs cs) MM k).map V.int)) ∧ Same H6 Hk) ⟨upd_same, same_upd nZ⟩ (fun k Hk _ ⟨_, sk⟩ => ⟨lstOf (sk _ _ eM6), lstOf (sk _ _ eR6)⟩) ?_ ?_
        · rintro k y Hk H8 kl ⟨ek, sk⟩ ⟨T0, x, z, rfl, nT, rfl, hx, hz⟩
          have hm : MM[k]? = some (MM[k]'(by omega)) := List.getElem?_eq_getElem _
          have hr : (rotL MM)[k]? = some ((rotL MM)[k]'(by rw [rot_len]; omega)) := List.getElem?_eq_getElem _
          obtain ⟨t3, rfl, f3⟩ := pr6.at_ k x _ hx hm
          obtain ⟨t4, rfl, f4⟩ := pr7.at_ k z _ hz hr
          generalize MM[k]'(by omega) = m3 at hm f3
          generalize (rotL MM)[k]'(by rw [rot_len]; omega) = m4 at hr f4
          have sT := same_upd nT (o := .tup [.ref t3, .ref t4])
          have f3' := sT _ _ (sk _ _ f3)
          have f4' := sT _ _ (sk _ _ f4)
          have ek' := sT _ _ ek
          refine ⟨T0, _, rfl, tupOf upd_same, rfl, ?_⟩
          generalize upd Hk T0 (.tup [.ref t3, .ref t4]) = H8 at sT f3' f4' ek' ⊢
          refine ⟨_, _, rfl, ⟨t3, _, rfl, tupOf f3', rfl, _, _, rfl, _, _, rfl, rfl, ?_⟩⟩
          refine ⟨_, _, rfl, ⟨t4, _, rfl, tupOf f4', rfl, _, _, rfl, _, _, rfl, rfl, rfl, rfl, ?_⟩⟩
          refine ⟨_, rfl, _, rfl, rfl, _, rfl, ?_⟩
          have gs := gaps_succ (g := gg bs cs) hm hr
          have ge : (!decide (V.int m3.2 = V.int m4.2)) = gapOk (m3, m4) := by
            unfold gapOk
            congr 1
            by_cases z : m3.2 = m4.2
            · rw [decide_eq_true z, decide_eq_true (congrArg V.int z)]
            · rw [decide_eq_false z, decide_eq_false fun y => z (V.int.inj y)]
          rw [ge]
          refine ite2 (fun e => ?_) (fun e => ?_)
          · refine ⟨_, rfl, _, rfl, _, _, rfl, rfl, _, rfl, _, _, rfl, rfl, g0, _, ek', ?_, ?_, samePut (sk.trans sT) nZ⟩
            · rw [List.length_map]
              have := gaps_len (gg bs cs) MM k
              exact sizeLt (by omega)
            · rw [upd_same, gs, if_pos e, List.map_append]
              rfl
          · refine ⟨?_, sk.trans sT⟩
            rw [ek', gs, if_neg e, List.append_nil]
        · rintro Hk ⟨ek, sk⟩
          rw [lm] at ek
          obtain ⟨f1, f2⟩ := fin
          refine ⟨Z, _, rfl, lstOf ek, f1, fun m hm hl => ?_⟩
          exact q m _ (sall6.trans sk) (f2 m hm hl)
end

end R
namespace R
open PySem PySem.Spec PyProof.Rows L2
/-! ## runs of places -/
/-- m numbers stand one behind the other from the place j on -/
def RunTo (bs : List Bar) (j : Int) (m : Nat) : Prop := ∀ i : Nat, i < m → st bs (j + (i : Int)) = st bs j + (i : Int)

end R
namespace R
open PySem PySem.Spec PyProof.Rows L2
/-! ## the steps -/
def stepsTo (bs : List Bar) (m : Nat) : List Int := (List.range m).map fun j : Nat => st bs ((j : Int) + 1) - st bs (j : Int)
theorem stepsTo_len (bs : List Bar) (m : Nat) : (stepsTo bs m).length = m := by
  unfold stepsTo
  rw [List.length_map, List.length_range]
theorem stepsTo_succ (bs : List Bar) (m : Nat) : stepsTo bs (m + 1) = stepsTo bs m ++ [st bs ((m : Int) + 1) - st bs (m : Int)] := by
  unfold stepsTo
  rw [List.range_succ, List.map_append]
  rfl
def sp_p_steps_in_order (K : PySem.W.Frag) (C : Addr) : Sp := fun vs H Q _ => ∃ (p : Addr) (v : V) (t : Addr) (bs : List Bar), vs = [.ref p] ∧ SvAt K C H p v t bs ∧ 0 < (cls bs).length ∧
  ∀ D H', Same H H' → H D = none → H' D = some (.lst ((stepsTo bs (cls bs).length).map V.int)) → Q (.ref D) H'
section
variable {P : Program} {w : World} {K : PySem.W.Frag} {mg : Str → Option Value} {base : Heap}
theorem ok_p_steps_in_order (T : Txt K mg) : FnOk P w K mg base CX0 5 T.f_p_steps_in_order T.fd_p_steps_in_order ["sieve"] (sp_p_steps_in_order K T.C) := by
  refine T.F_p_steps_in_order.ok sc_p_steps_in_order (fun vs H Q E h => ?_) (fun cdv A outer s H vs Q E hr h => ?_)
  · obtain ⟨p, v, t, bs, rfl, _⟩ := h
    rfl
  · obtain ⟨p, v, t, bs, rfl, S, hn, q⟩ := h
    refine ⟨_, (pss_one (ps_ret (pe_lc (own := [("place", 1)]) rfl sc_p_steps_in_order.nd (pi_range1 (by rfl) T.z_range (pa_cons (pe_callB (r := rLenK K) call_len_seq (by rfl) T.z_len (by decide +kernel) (pa_cons (pe_prop (pv 0) T.cl T.pp_classes (ok_m_Sieve_classes T) (hr.mono (by decide)) T.b_m_Sieve_classes .nil pass0 (by rfl)) pa_nil)) pa_nil)) (blkOk_by (N := ["sieve", "place"]) (sc := defScope s_p_steps_in_order) (by decide +kernel)) (fun _ _ _ _ _ => (pg_name (i := 1) sc_p_steps_in_order.nd rfl (by first | exact .inl rfl | exact .inr rfl))) (fun _ _ _ _ _ => pts_nil) (fun _ _ _ _ _ => (pe_op op_sub (pe_call (ok_p_standing_at T) (hr.mono (by decide)) (by rfl) T.g_p_standing_at T.F_p_standing_at.kp T.b_p_standing_at .nil pass0 (pa_cons (pv 0) (pa_cons (pe_op op_add (pv 1) pe_int) pa_nil))) (pe_call (ok_p_standing_at T) (hr.mono (by decide)) (by rfl) T.g_p_standing_at T.F_p_standing_at.kp T.b_p_standing_at .nil pass0 (pa_cons (pv 0) (pa_cons (pv 1) pa_nil)))))))), ?_⟩
    have few := choices_cls S.ok
    refine ⟨_, rfl, p, _, _, rfl, S.ob.choose_spec, p, v, t, bs, rfl, S, t, _, rfl, .inr S.cls, ?_⟩
    rw [List.length_map]
    refine ⟨_, rfl, by omega, by omega, fun D nD => ?_⟩
    rw [Int.toNat_natCast]
    refine lc_range (lo := 0) (n := (cls bs).length) (fun m Hm => Hm D = some (.lst ((stepsTo bs m).map V.int)) ∧ Same H Hm) ⟨upd_same, same_upd nD⟩ ?_ ?_
    · rintro m Hm hm ⟨em, sm⟩
      have e0 : (0 : Int) + (m : Int) = (m : Int) := Int.zero_add _
      have e3 : (3000 : Nat) < 2 ^ 300 := by decide
      refine ⟨rfl, _, rfl, _, rfl, _, _, rfl, rfl, p, v, t, bs, _, rfl, S.stay sm, hn, by omega, fun H4 s4 => ?_⟩
      refine ⟨_, rfl, _, rfl, p, v, t, bs, _, rfl, (S.stay sm).stay s4, hn, by omega, fun H5 s5 => ⟨_, _, rfl, rfl, _, s5 _ _ (s4 _ _ em), ?_, ?_, samePut ((sm.trans s4).trans s5) nD⟩⟩
      · rw [List.length_map, stepsTo_len]
        exact sizeLt (by omega)
      · rw [upd_same, stepsTo_succ, List.map_append]
        show some (HO.lst (_ ++ [V.int (st bs (0 + (m : Int) + 1) - st bs (0 + (m : Int)))])) = _
        rw [e0]
        rfl
    · rintro Hm ⟨em, sm⟩
      exact q D Hm sm nD em
end

end R
namespace R
open PySem PySem.Spec PyProof.Rows L2
/-! ## the run from a place on -/
def sp_p_run_from (K : PySem.W.Frag) (C : Addr) : Sp := fun vs H Q _ => ∃ (p : Addr) (v : V) (t : Addr) (bs : List Bar) (j : Int) (m : Nat), vs = [.ref p, .int j] ∧ SvAt K C H p v t bs ∧ 0 < (cls bs).length ∧ j.natAbs < 2 ^ 200 ∧
  1 ≤ m ∧ m ≤ 2000 ∧ RunTo bs j m ∧ st bs (j + (m : Int)) ≠ st bs j + (m : Int) ∧ ∀ H', Same H H' → Q (.int m) H'
section
variable {P : Program} {w : World} {K : PySem.W.Frag} {mg : Str → Option Value} {base : Heap}
theorem ok_p_run_from (T : Txt K mg) : FnOk P w K mg base CX0 5 T.f_p_run_from T.fd_p_run_from ["sieve", "place"] (sp_p_run_from K T.C) := by
  refine T.F_p_run_from.ok sc_p_run_from (fun vs H Q E h => ?_) (fun cdv A outer s H vs Q E hr h => ?_)
  · obtain ⟨p, v, t, bs, j, m, rfl, _⟩ := h
    rfl
  · obtain ⟨p, v, t, bs, j, m, rfl, S, hn, hj, m1, m2, run, off, q⟩ := h
    refine ⟨_, (pss_cons (ps_set (i := 2) sc_p_run_from.nd rfl (by first | exact .inl rfl | exact .inr rfl) (pe_call (ok_p_standing_at T) (hr.mono (by decide)) (by rfl) T.g_p_standing_at T.F_p_standing_at.kp T.b_p_standing_at .nil pass0 (pa_cons (pv 0) (pa_cons (pv 1) pa_nil))))
      (pss_cons (ps_set (i := 3) sc_p_run_from.nd rfl (by first | exact .inl rfl | exact .inr rfl) pe_int)
      (pss_cons (ps_while PassesOwn.never (pt_cmpR op_eq (pe_call (ok_p_standing_at T) (hr.mono (by decide)) (by rfl) T.g_p_standing_at T.F_p_standing_at.kp T.b_p_standing_at .nil pass0 (pa_cons (pv 0) (pa_cons (pe_op op_add (pv 1) (pv 3)) pa_nil))) (pe_op op_add (pv 2) (pv 3)) (nomark _)) (pss_one (ps_aug (i := 3) sc_p_run_from.nd rfl (.inl rfl) pe_int ip_add)))
      (pss_one (ps_ret (pv 3)))))), ?_⟩
    have e3 : (2 : Nat) ^ 200 + 3000 < 2 ^ 300 := by decide
    refine ⟨_, rfl, _, rfl, p, v, t, bs, j, rfl, S, hn, by omega, fun H1 s1 => ?_⟩
    refine while_by (fun σ H2 => ∃ k : Nat, σ = [some (.ref p), some (.int j), some (.int (st bs j)), some (.int (k : Nat))] ∧ 1 ≤ k ∧ k ≤ m ∧ Same H H2)
      (fun σ _ => match σ with | [_, _, _, some (.int k)] => m - k.toNat | _ => 0) ⟨1, rfl, Nat.le_refl _, m1, s1⟩ ?_ ?_
    · rintro σ H2 ⟨k, rfl, k1, km, s2⟩
      refine ⟨_, rfl, _, rfl, _, rfl, _, _, rfl, rfl, p, v, t, bs, _, rfl, S.stay s2, hn, by omega, fun H3 s3 => ?_⟩
      refine ⟨_, rfl, _, rfl, _, _, rfl, rfl, rfl, _, rfl, ite2 (fun e => ?_) (fun e => ?_)⟩
      · have e' : st bs (j + (k : Int)) = st bs j + (k : Int) := V.int.inj (of_decide_eq_true e)
        have lt : k < m := by
          by_cases z : k < m
          · exact z
          · obtain rfl : k = m := by omega
            exact absurd e' off
        refine ⟨_, rfl, _, _, rfl, rfl, ⟨k + 1, rfl, by omega, by omega, s2.trans s3⟩, ?_⟩
        show m - ((k : Int) + 1).toNat < m - (k : Int).toNat
        omega
      · have e' : ¬ st bs (j + (k : Int)) = st bs j + (k : Int) := fun z => e (decide_eq_true (congrArg V.int z))
        obtain rfl : k = m := by
          by_cases z : k < m
          · exact absurd (run k z) e'
          · omega
        exact ⟨_, rfl, q _ (s2.trans s3)⟩
    · intro σ H2 Q1 Q2 hQ h
      obtain ⟨v1, h1, v2, h2, v3, h3, i1, i2, h4, h5, p', v', t', bs', x', h6, S', hn', hx', h7⟩ := h
      refine ⟨v1, h1, v2, h2, v3, h3, i1, i2, h4, h5, p', v', t', bs', x', h6, S', hn', hx', fun H3 s3 => ?_⟩
      obtain ⟨v4, h8, v5, h9, i3, i4, h10, h11, h12, b, hb, hq⟩ := h7 H3 s3
      exact ⟨v4, h8, v5, h9, i3, i4, h10, h11, h12, b, hb, hQ _ _ hq⟩
end

end R
namespace R
open PySem PySem.Spec PyProof.Rows L2
/-! ## a lambda as a value: its function stands in the abstract heap, its promise is told by its body -/
open LamX hiding takes0
open NdefX
/-- the object at f is a lambda's function: the words of F, the expression b -/
def LamO (f : Addr) (F : NF) (b : Expr) : HO := .ext fun h => ∃ pm ctv : Value, h.get? f = some (PySem.W.kla_obj "<lambda>" F.qual F.params b F.scope F.cl pm F.c ctv)
theorem lamO_tbl {f : Addr} {F : NF} {b : Expr} (ps : Array Value) : LamO f F b ≠ .tbl ps := fun z => by
  unfold LamO at z
  cases z
theorem lamO_get {P : Program} {w : World} {H : Hp} {h : Heap} {f : Addr} {F : NF} {b : Expr} (k : HOk P w H h) (e : H f = some (LamO f F b)) : ∃ pm ctv : Value, h.get? f = some (PySem.W.kla_obj "<lambda>" F.qual F.params b F.scope F.cl pm F.c ctv) := (k f _ e).1
/-- what the maker's frame gives it -/
abbrev lamF (env : Env) (params : Arguments) (scope : Scope) (c : Addr) : NF := ⟨"<lambda>", env.qual ++ "<lambda>", params, [], scope, cloFrom env.cells scope.names [], c⟩
/-- all but the tables of code objects stays, nothing that was told is gone -/
structure StN (H H' : Hp) : Prop where
  ext : ExtN H H'
  free : ∀ b, H' b = Option.none → H b = Option.none
theorem StN.of {H H' : Hp} (s : Same H H') : StN H H' := ⟨fun b o e _ => s b o e, fun _ => s.free⟩
theorem StN.refl (H : Hp) : StN H H := .of (.refl H)
theorem StN.trans {H H1 H2 : Hp} (a : StN H H1) (b : StN H1 H2) : StN H H2 := ⟨a.ext.trans b.ext, fun c e => a.free c (b.free c e)⟩
section
variable {X : Cx} {pins : List (Addr × Obj)} {σ : L2.St} {H : Hp} {s : Shared}
theorem lam_put {F : NF} {b : Expr} {t : Nat} {pm ctv : Value} (I : Inv X pins σ H s) :
    Inv X pins σ (upd H s.heap.objs.size (LamO s.heap.objs.size F b)) { s with heap := s.heap.push (PySem.W.kla_obj "<lambda>" F.qual F.params b F.scope F.cl pm F.c ctv), toks := t } := by
  have e : (s.heap.push (PySem.W.kla_obj "<lambda>" F.qual F.params b F.scope F.cl pm F.c ctv)).get? s.heap.objs.size = some (PySem.W.kla_obj "<lambda>" F.qual F.params b F.scope F.cl pm F.c ctv) := Heap.get?_push_size _ rfl
  exact I.laid (a := s.heap.objs.size) (fun _ _ q => Heap.get?_push_of_some _ q) (Nat.le_refl _) ⟨⟨pm, ctv, e⟩, ⟨_, e⟩, fun _ _ ⟨p, c, z⟩ st => ⟨p, c, st _ z⟩⟩
theorem upd_gone {H : Hp} {a b : Addr} {o : HO} (e : upd H a o b = Option.none) : H b = Option.none := by
  unfold upd at e
  split at e
  · cases e
  · exact e
/-- a lambda is made: its code object is new, or told by the table -/
theorem lam_mk {T : List (Addr × Str)} {c P : Addr} {params : Arguments} {b : Expr} {scope : Scope} {pos : Pos} {E Q : Value → Shared → Prop} (I : Inv X pins σ H s) (B : TabB X.base X.mg c P) (hcode : X.env.code = .ref c) (hm : (P, X.env.qual ++ "<lambda>") ∈ T)
    (one : ∀ p ∈ T, p.1 = P → p.2 = X.env.qual ++ "<lambda>") (tabs : Tabs T H) (hdef : defaultsOf params X.env = ([], [])) (fr : ∀ y ∈ scope.names, y.2 = .free → ∃ c, X.env.cells.lookup y.1 = some c)
    (fin : ∀ (f c' : Addr) (H1 : Hp) (s1 : Shared), Inv X pins σ H1 s1 → StN H H1 → Tabs T H1 → H f = Option.none → H1 f = some (LamO f (lamF X.env params scope c') b) → H1 c' = some (CodeO c' (X.env.qual ++ "<lambda>")) → Q (.ref f) s1) :
    wpAny (model X.prog X.w) X.A (eval (.Lambda params b scope pos) X.env) Q E s := by
  obtain ⟨ps, tP, ok3, told⟩ := tabs _ hm
  refine PySem.W.kla_eval hdef ?_
  have bat : s.heap.BuiltinsAt X.mg P := B.bm.keeps I.bk
  have rawP : s.heap.get? P = some { cls := .none, data := .fields ps } := I.hok P _ tP
  cases look : codeAmong pos ps.toList with
  | some cv =>
    obtain ⟨c', rfl, known⟩ := told pos cv look
    refine PySem.W.kla_makeFunctionHit (mg := X.mg) (c := c) (P := P) (ps := ps) (closure_ok fr) I.ok.glob (I.mod.glob.keeps I.bk) hcode (B.code.keeps I.bk) rawP ok3 look bat fun ctv h1 tk old big => ?_
    have J : Inv X pins σ H { s with heap := h1, toks := tk } := I.kept old
    have nf : H h1.objs.size = Option.none := J.hok.fresh (Nat.le_refl _)
    have J2 := lam_put (t := tk) (pm := (X.mg "__name__").getD .none) (ctv := ctv) (F := lamF X.env params scope c') (b := b) J
    have sm : Same H (upd H h1.objs.size (LamO h1.objs.size (lamF X.env params scope c') b)) := fun d o e => (upd_ne (ne_of_none e nf)).trans e
    exact fin h1.objs.size c' _ _ J2 (.of sm) (tabs.ext sm) nf upd_same (sm _ _ known)
  | none =>
    refine PySem.W.kla_makeFunction (mg := X.mg) (c := c) (P := P) (ps := ps) (closure_ok fr) I.ok.glob (I.mod.glob.keeps I.bk) hcode (B.code.keeps I.bk) rawP ok3 look B.gP bat fun c' ctv h1 tk old ge lt rec_ tab => ?_
    obtain ⟨c2, oc, vs, t, e2, g1, g2, g3⟩ := rec_
    cases e2
    have nc : H c' = Option.none := I.hok.fresh ge
    have J := inv_table (t' := tk) (more := #[rawInt pos.line, rawInt pos.col, .ref c']) (h' := h1) I tP (fun d o hd e => old d o hd e) tab ge ⟨oc, vs, t, g1, g2, g3⟩
    generalize hH1 : upd (upd H P (.tbl (ps ++ #[rawInt pos.line, rawInt pos.col, .ref c']))) c' (CodeO c' (X.env.qual ++ "<lambda>")) = H1 at J
    have x1 : ExtN H H1 := fun d o e n => by
      rw [← hH1, upd_ne (ne_of_none e nc), upd_ne (fun z => n ps (Option.some.inj (e.symm.trans (by rw [z]; exact tP))))]
      exact e
    have f1 : ∀ d, H1 d = Option.none → H d = Option.none := fun d e => by
      rw [← hH1] at e
      exact upd_gone (upd_gone e)
    have atc : H1 c' = some (CodeO c' (X.env.qual ++ "<lambda>")) := by rw [← hH1]; exact upd_same
    have row : (ps ++ #[rawInt pos.line, rawInt pos.col, .ref c']).toList = ps.toList ++ [rawInt pos.line, rawInt pos.col, .ref c'] := by simp
    have T1 : Tabs T H1 := fun p hp => by
      by_cases hb : p.1 = P
      · rw [one p hp hb, hb]
        refine ⟨ps ++ #[rawInt pos.line, rawInt pos.col, .ref c'], by rw [← hH1, upd_ne (ne_of_none tP nc), upd_same], by rw [row]; exact PySem.TriplesOk_snoc _ _ _ _ ok3, fun p' cv q => ?_⟩
        rw [row] at q
        rcases among_app _ ok3 q with z | z
        · obtain ⟨c0, e1, e2⟩ := told p' cv z
          exact ⟨c0, e1, x1 _ _ e2 codeO_ne⟩
        · exact ⟨c', z, atc⟩
      · obtain ⟨qs, a1, a2, a3⟩ := tabs p hp
        refine ⟨qs, by rw [← hH1, upd_ne (ne_of_none a1 nc), upd_ne hb]; exact a1, a2, fun p' cv q => ?_⟩
        obtain ⟨c0, e1, e2⟩ := a3 p' cv q
        exact ⟨c0, e1, x1 _ _ e2 codeO_ne⟩
    have nf : H1 h1.objs.size = Option.none := J.hok.fresh (Nat.le_refl _)
    have J2 := lam_put (t := tk) (pm := (X.mg "__name__").getD .none) (ctv := ctv) (F := lamF X.env params scope c') (b := b) J
    have sm : Same H1 (upd H1 h1.objs.size (LamO h1.objs.size (lamF X.env params scope c') b)) := fun d o e => (upd_ne (ne_of_none e nf)).trans e
    exact fin h1.objs.size c' _ _ J2 ⟨fun d o e n => sm d o (x1 d o e n), fun d e => f1 d (sm.free e)⟩ (T1.ext sm) (f1 _ nf) upd_same (sm _ _ atc)
end
/-- a call of f with these values goes well and ends in Q -/
def Gives (P : Program) (w : World) (K : PySem.W.Frag) (mg : Str → Option Value) (base : Heap) (k : Nat) (f : Addr) (vs : List V) (H : Hp) (Q : VK) : Prop :=
  ∀ (A : Around) (outer : List Env) (s : Shared) (us : List Value), Room k A → Env0 P w K mg base A outer s H → Vals vs us → codeAny (model P w) A (.call (.ref f) ⟨us, []⟩) (CR C8.CX0 outer P w H s Q C8.E0) s
section
variable {P : Program} {w : World} {K : PySem.W.Frag} {mg : Str → Option Value} {base : Heap} {N ps fr : List Str} {F : NF} {b : Expr} {f : Addr} {k : Nat} {H : Hp} {vs : List V} {ws : List (Option V)} {Q : VK}
/-- a lambda by its body -/
theorem lam_run (S : NScope N ps fr F.scope) (hb : ∀ (pm ctv : Value) (us : List Value), us.length = ps.length → bindArgs (PySem.W.kla_fn "<lambda>" F.qual F.params b F.scope F.cl pm (.ref F.c) ctv) ⟨us, []⟩ = pure (ps.zip us)) {A : Around} {outer : List Env} {s : Shared} {us : List Value}
    (hr : Room (k + 1) A) (e0 : Env0 P w K mg base A outer s H) (hf : H f = some (LamO f F b)) (hc : H F.c = some (CodeO F.c F.qual)) (C : CellsAt F.cl fr ws s.heap H) (hl : vs.length = ps.length) (r : Vals vs us)
    (hbody : Room k (A.deeper (envF F f s.heap.objs.size)) → ∃ t, PE (ncx C8.CX0 P w K mg base N F f A outer s H C8.E0) b t ∧ t (startF N vs ws) H Q) : codeAny (model P w) A (.call (.ref f) ⟨us, []⟩) (CR C8.CX0 outer P w H s Q C8.E0) s := by
  obtain ⟨pm, ctv, ho⟩ := lamO_get e0.hok hf
  have lim : s.heap.NoLimit := e0.mod.nolimit.keeps fun d o e => (e0.bs d o e).1
  refine PySem.W.kla_callFunE hr.depth ho rfl S.co S.gen rfl (codeO_at e0.hok hc) ?_
  rw [hb pm ctv us (by rw [← r.length]; exact hl)]
  refine wpAny_pure (wpAny_newFunctionEnv S.nocell (fun ⟨n, _⟩ hy => S.par n (List.of_mem_zip hy).1) (fun h1 hns sb => ⟨lim.fresh _ sb, ?_⟩) S.kind)
  show codeAny _ _ (.expr b (envF F f s.heap.objs.size)) _ _
  have kp : ∀ d o, s.heap.get? d = some o → h1.get? d = some o := fun d o e => sb.extBut d o (Nat.ne_of_lt (Heap.lt_size e)) (Heap.get?_push_of_some _ e)
  obtain ⟨t, ht, hq⟩ := hbody (hr.deeper _)
  have I : Inv (ncx C8.CX0 P w K mg base N F f A outer s H C8.E0) [] (startF N vs ws) H { s with heap := h1, toks := s.toks + (ps.zip us).length } := inv_startN S hr.hd e0 hl r C hns kp
  refine PySem.W.kla_codeExpr (wpAny_mono (ht.run [] _ _ H Q I hq) (fun u s2 hs => ?_) fun e s2 hs => hs)
  obtain ⟨v, H2, J, rv, q⟩ := hs
  exact ⟨v, H2, J.os, J.bare, J.base, J.hok, rv, q⟩
/-- one that captures nothing -/
theorem lam_gives (S : NScope N ps [] F.scope) (hcl : F.cl = []) (hb : ∀ (pm ctv : Value) (us : List Value), us.length = ps.length → bindArgs (PySem.W.kla_fn "<lambda>" F.qual F.params b F.scope F.cl pm (.ref F.c) ctv) ⟨us, []⟩ = pure (ps.zip us)) (hf : H f = some (LamO f F b)) (hc : H F.c = some (CodeO F.c F.qual))
    (hl : vs.length = ps.length) (hbody : ∀ (A : Around) (outer : List Env) (s : Shared), Room k (A.deeper (envF F f s.heap.objs.size)) → ∃ t, PE (ncx C8.CX0 P w K mg base N F f A outer s H C8.E0) b t ∧ t (startF N vs []) H Q) : Gives P w K mg base (k + 1) f vs H Q := fun A outer s us hr e0 r =>
  lam_run (ws := []) S hb hr e0 hf hc ⟨rfl, fun y c e => (nomatch (hcl ▸ e : ([] : List (Str × Addr)).lookup y = some c)), fun x y c e => (nomatch (hcl ▸ e : ([] : List (Str × Addr)).lookup x = some c)), fun i y e => (nomatch (e : ([] : List Str)[i]? = some y))⟩ hl r (hbody A outer s)
end
/-- the lambda's making, read -/
def tLam2 (T : List (Addr × Str)) (G : Addr → Addr → Hp → Prop) : TE := fun _ H Q => Tabs T H ∧ ∀ (f c' : Addr) (H1 : Hp), StN H H1 → Tabs T H1 → H f = Option.none → G f c' H1 → Q (.ref f) H1
theorem pe_lamO {X : Cx} {T : List (Addr × Str)} {c P : Addr} {params : Arguments} {b : Expr} {scope : Scope} {pos : Pos} (B : TabB X.base X.mg c P) (hcode : X.env.code = .ref c) (hm : (P, X.env.qual ++ "<lambda>") ∈ T) (one : ∀ p ∈ T, p.1 = P → p.2 = X.env.qual ++ "<lambda>")
    (hdef : defaultsOf params X.env = ([], [])) (fr : ∀ y ∈ scope.names, y.2 = .free → X.env.scope.names.lookup y.1 = some .cell ∨ X.env.scope.names.lookup y.1 = some .free) :
    PE X (.Lambda params b scope pos) (tLam2 T fun f c' H1 => H1 f = some (LamO f (lamF X.env params scope c') b) ∧ H1 c' = some (CodeO c' (X.env.qual ++ "<lambda>"))) :=
  ⟨fun pins s σ H Q I ⟨tabs, h⟩ => lam_mk I B hcode hm one tabs hdef (fun y hy e => (fr y hy e).elim (fun z => I.ok.has _ (.inl z)) fun z => I.ok.has _ (.inr z)) fun f c' H1 s1 J st T1 nf e1 e2 => ⟨.ref f, H1, J, rfl, h f c' H1 st T1 nf ⟨e1, e2⟩⟩⟩
section
variable {P : Program} {w : World} {K : PySem.W.Frag} {mg : Str → Option Value} {base : Heap}
/-- a def whose code object is known, by its body -/
theorem okC {x qual : Str} {st : Stmt} {f c : Addr} {fd : FuncData} {N ps : List Str} {k : Nat} {sp : Sp} (F : Fun K x qual st f fd) (hcd : fd.code = .ref c) (S : FnScope N ps (defScope st)) (len : ∀ vs H Q E, sp vs H Q E → vs.length = ps.length)
    (body : ∀ (A : Around) (outer : List Env) (s : Shared) (H : Hp) (vs : List V) (Q : VK) (E : XK), Room k (A.deeper (envOfC qual (defScope st) s.heap.objs.size f (.ref c))) → sp vs H Q E →
      ∃ t, PSs (cxOf CX0 P w K mg base N qual (defScope st) f (.ref c) A outer s H E).nox (defBody st) t ∧ t { nx := fun _ H' => Q .non H', rt := Q } (start N vs) H) : FnOk P w K mg base CX0 (k + 1) f fd ps sp := by
  obtain ⟨oc, od, kV, doc, pm, an, cdv, ct, osl, rfl, lk, code⟩ := F.ex
  obtain rfl : cdv = Value.ref c := hcd
  refine fn_of lk code S len fun A outer s H vs Q E hr hsp => ?_
  obtain ⟨t, h, q⟩ := body A outer s H vs Q E hr hsp
  exact ⟨t, h.nox, q⟩
end
/-- the end of a law whose program makes lambdas: the tables of the defs at names are empty at first -/
theorem walk_tabs {l : PySem.W.OpenLaw} {n k : Nat} {q : Program} {loose : List Str} {XP : (Str → Option Value) → Heap → Prop} {YP : World → Heap → Prop} {d : DefRec} {K : Params → PySem.W.Frag} {CX : World → CXT} {x : Str} (names : List Str)
    (hn : l.most = some n) (hn2 : n ≤ sizeLine) (hdf : d.params.defaults = []) (hr : Room k callerA) (there : ∀ y ∈ names, ((recsOf q).any fun e => e.name == y) = true) (hY : ∀ (w : World) (h : Heap), YP w h → (K w.params).In h)
    (F : ∀ (w : World) (mg : Str → Option Value) (fa : Addr) (h : Heap), YP w h → (K w.params).In h → h.Ns mainGlobals mg → mg d.name = some (.ref fa) → (∀ y ∈ names, ∀ f, mg y = some (.ref f) → OwnTab (K w.params) f h) → LawAtS l w (K w.params) (CX w) k n x mg fa h)
    (hCX : ∀ (w : World) (H : Hp) (s : Shared) (e : Value) (s' : Shared), CX w [] H s (fun _ _ _ => False) e s' → False) :
    PySem.W.WalkO q loose XP YP l.row.toRowW d [] (fun f vs => PySem.call f vs) := by
  refine Att.attach_callB hn hdf fun w s₀ s₁ mg mb fa o pm cd doc a vs ns G Y ho hd hcd hmg hobj hints hlen hbits hg => ?_
  have KX := hY w _ Y
  have own : ∀ y ∈ names, ∀ f, mg y = some (.ref f) → OwnTab (K w.params) f s₁.heap := fun y hy f hf c P o1 fd1 e dd vs1 sl k1 k2 k3 k4 k5 => by
    obtain ⟨dL, m1, m2⟩ := List.any_eq_true.mp (there y hy)
    have m3 : dL.name = y := beq_iff_eq.mp m2
    obtain ⟨a', o', fd', c', P', h1, h2, h3, h4, h5, h6⟩ := G.T.tab dL m1
    rw [m3, hf] at h1
    cases h1
    have g1 := KX _ _ k1
    rw [g1] at h2
    cases h2
    rw [k2] at h3
    cases h3
    rw [k3] at h4
    cases h4
    obtain ⟨⟨oc, vc, e1, _, e3, e4⟩, hP⟩ := h6
    have g2 := KX _ _ k4
    rw [g2] at e1
    cases e1
    cases e3
    rw [k5] at e4
    cases e4
    exact hP
  obtain ⟨fd, cs, sp, hT, nT, C, hb, hsp, hF⟩ := F w mg fa _ Y KX G.T.g hmg own
  exact law_callTs KX G.T.g G.T.b G.T.builtins G.T.nolimit hg hT nT C G.T.bmain hobj hints (Nat.le_trans hlen hn2) hr hF hb (fun H hH hS => hsp H a ns hlen hbits hH hS) fun H e s' => hCX w H s₁ e s'

end R
namespace R
open PySem PySem.Spec PyProof.Rows L2
/-! ## min of a list with a key that is a function of the program's own: the keys are tuples of ints -/
open LamX hiding takes0
open NdefX
theorem minK_args (x d : Value) : argsOk "min" ⟨[x], [(Str.ofString "key", d)]⟩ := by
  unfold argsOk
  kernel_rfl
theorem refs_one : ∀ {xs : List V} {us vs : List Value}, (∀ x ∈ xs, ∃ t, x = V.ref t) → Vals xs us → Vals xs vs → us = vs
  | [], _, _, _, .nil, .nil => rfl
  | x :: r, _, _, h, .cons a b, .cons c d => by
    obtain ⟨t, rfl⟩ := h x List.mem_cons_self
    have e1 := a
    have e2 := c
    cases e1
    cases e2
    rw [refs_one (fun y hy => h y (List.mem_cons_of_mem _ hy)) b d]
theorem lex_keep {a b c : List Int} (h1 : HT.lexLt b a = true) (h2 : HT.lexLt c a = false) : HT.lexLt c b = false := NtL.lex_tr b a c (NtL.lex_asym b a h1) h2
section
variable {X : Cx} {pins : List (Addr × Obj)} {σ : L2.St} {k : Nat} {l It B f : Addr} {xs : List V} {items : List Value} {kf : Nat → List Int} {H0 : Hp} {R : Result → Shared → Prop}
/-- what the key tells at each place -/
abbrev KeyAt (X : Cx) (k : Nat) (f : Addr) (xs : List V) (kf : Nat → List Int) (H0 : Hp) : Prop := ∀ (i : Nat) (x : V) (H' : Hp), xs[i]? = some x → Same H0 H' → Gives X.prog X.w X.K X.mg X.base k f [x] H' fun v H2 => ∃ p, v = .ref p ∧ Same H' H2 ∧ H2 p = some (.tup ((kf i).map V.int))
/-- one item's key is asked -/
theorem minK_ask (hr : Room k X.A.in1) (nB : B ≠ It) {i : Nat} {x : V} {u : Value} {H : Hp} {s : Shared} {Q E : Value → Shared → Prop} (key : KeyAt X k f xs kf H0) (I : Inv X pins σ H s) (s0 : Same H0 H) (hx : xs[i]? = some x) (ru : RelV x u) (fI : FpOk X pins H It) (fB : FpOk X pins H B)
    {oI oB : Obj} (gI : s.heap.get? It = some oI) (gB : s.heap.get? B = some oB)
    (go : ∀ (p : Addr) (H2 : Hp) (s2 : Shared), Inv X pins σ H2 s2 → Same H H2 → H2 p = some (.tup ((kf i).map V.int)) → FpOk X pins H2 It → FpOk X pins H2 B → s2.heap.get? It = some oI → s2.heap.get? B = some oB → Q (.ref p) s2) :
    wpAny (model X.prog X.w) X.A.in1 (call (.ref f) [u]) Q E s := by
  refine wpAny_call (codeAny_mono (key i x H hx s0 X.A.in1 X.stack s [u] hr I.env0.in1 (.cons ru .nil)) fun r s2 hq => ?_)
  cases r with
  | error e => exact (show False from hq).elim
  | ok fl =>
    cases fl with
    | next => exact False.elim hq
    | brk => exact False.elim hq
    | cont => exact False.elim hq
    | ret y =>
      obtain ⟨v, H2, os, bare, un, hok, rv, p, rfl, sm, e⟩ := hq
      obtain rfl : y = Value.ref p := rv
      have out : ∀ b, FpOk X pins H b → b ∉ frs X.stack := fun b fb hb => (List.mem_cons.mp (I.stkSub b hb)).elim fb.2.1 fb.2.2.1
      obtain ⟨hh, g, d, t, os'⟩ := s2
      obtain rfl : os' = s.os := os
      have J := I.call (h' := hh) (g' := g) (d' := d) (t' := t) (ch := []) un hok bare (fun b z => absurd z (by simp))
      have kI := un.keep It _ gI fI.1 (out _ fI) (by simp)
      have kB := un.keep B _ gB fB.1 (out _ fB) (by simp)
      exact go p H2 _ J sm e ⟨un.free It _ gI fI.1 (by simp), fI.2⟩ ⟨un.free B _ gB fB.1 (by simp), fB.2⟩ kI kB
theorem minK_turned {H : Hp} {s : Shared} {b : Addr} {h' : Heap} {t : Nat} (I : Inv X pins σ H s) (fb : FpOk X pins H b) (k : ∀ c o, c ≠ b → s.heap.get? c = some o → h'.get? c = some o) : Inv X pins σ H { s with heap := h', toks := t } :=
  I.turned k fb.1 fb.2.1 fb.2.2.2.1 fb.2.2.2.2.1 fb.2.2.2.2.2
theorem minK_loop (hc : X.calm = true) (hr : Room k X.A.in1) (nB : B ≠ It) (refs : ∀ x ∈ xs, ∃ t, x = V.ref t) (hi : Vals xs items) (hl : SqL X.K H0 l xs) (key : KeyAt X k f xs kf H0) (hu : X.A.in1.units < cLine)
    (fin : ∀ (i : Nat) (v : Value) (H' : Hp) (s' : Shared), items[i]? = some v → (∀ j, j < items.length → HT.lexLt (kf j) (kf i) = false) → Inv X pins σ H' s' → Same H0 H' → R (.ok (.ret v)) s') :
    ∀ (r j i : Nat) (H : Hp) (s : Shared) (vb : Value) (p : Addr) (c : Nat), items.length - (j + 1) = r → j + 1 ≤ items.length → Inv X pins σ H s → Same H0 H → FpOk X pins H It → FpOk X pins H B → s.heap.IsListIter It l (j + 1) →
      s.heap.get? B = some { cls := .type "list", dict := none, data := .seq #[vb, .ref p] c, slots := #[] } → H p = some (.tup ((kf i).map V.int)) → items[i]? = some vb → (∀ j', j' ≤ j → HT.lexLt (kf j') (kf i) = false) →
      codeAny (model X.prog X.w) X.A (.builtin "min.loop" ⟨[.ref It, .ref f, .ref B], []⟩) R s := by
  have nm : (toString "min" ++ toString ".loop" : String) = "min.loop" := by decide
  have lst : ∀ {H : Hp} {s : Shared}, Inv X pins σ H s → Same H0 H → s.heap.IsList l items.toArray := fun I sm => by
    obtain ⟨its, rv, pl, _⟩ := I.list (sm.seq hl)
    rw [refs_one refs hi rv]
    exact pl.isList
  intro r
  induction r with
  | zero =>
    intro j i H s vb p c hr0 hj I s0 fI fB hit gB hp hv best
    have last : j + 1 = items.length := by omega
    have hl1 := lst I s0
    have hne : l ≠ It := fun z => by
      obtain ⟨o1, g1, c1, _⟩ := hl1
      obtain ⟨o2, g2, c2, _⟩ := id hit
      rw [z, g2] at g1
      cases g1
      rw [c1] at c2
      exact absurd c2 (by decide)
    have W := Walks.list (prog := X.prog) (w := X.w) (A := X.A.in1) (I.ok.hd hc) It l hne items.toArray
    refine codeAny_builtin F.entry_min_loop ?_
    rw [Around.under_plainId F.plain_min_loop _]
    show wpAny _ X.A.in1 (seqItems? (.ref B) >>= _) _ _ s
    refine wpAny_bind (wpAny_seqItems gB rfl ?_)
    show wpAny _ X.A.in1 (tryCatch (pyNext (.ref It)) _ >>= _) _ _ s
    refine wpAny_bind (wpAny_tryCatch (W.done s _ _ ⟨by rw [List.size_toArray, ← last]; exact hit, hl1⟩ fun h1 tk kp => ?_))
    have J := minK_turned (t := tk) I fI fun b o n e => kp b o (by simpa using n) e
    have gB1 := kp B _ (by simpa using nB) gB
    show wpAny _ X.A.in1 (updateSeq B (fun _ => #[]) >>= _) _ _ _
    refine wpAny_bind ?_
    refine wpAny_updateSeq gB1 rfl (wpAny_bind (wpAny_letGo (wpAny_pure ?_)))
    exact fin i vb H _ hv (fun j' h => best j' (by omega)) (minK_turned (t := tk) J fB fun b o n e => (Heap.get?_update_other _ _ (Ne.symm n)).trans e) s0
  | succ r ih =>
    intro j i H s vb p c hr0 hj I s0 fI fB hit gB hp hv best
    have more : j + 1 < items.length := by omega
    have hl1 := lst I s0
    have hne : l ≠ It := fun z => by
      obtain ⟨o1, g1, c1, _⟩ := hl1
      obtain ⟨o2, g2, c2, _⟩ := id hit
      rw [z, g2] at g1
      cases g1
      rw [c1] at c2
      exact absurd c2 (by decide)
    have W := Walks.list (prog := X.prog) (w := X.w) (A := X.A.in1) (I.ok.hd hc) It l hne items.toArray
    refine codeAny_builtin F.entry_min_loop ?_
    rw [Around.under_plainId F.plain_min_loop _]
    show wpAny _ X.A.in1 (seqItems? (.ref B) >>= _) _ _ s
    refine wpAny_bind (wpAny_seqItems gB rfl ?_)
    show wpAny _ X.A.in1 (tryCatch (pyNext (.ref It)) _ >>= _) _ _ s
    refine wpAny_bind (wpAny_tryCatch (W.item (j + 1) s _ _ (by rw [List.size_toArray]; exact more) ⟨hit, hl1⟩ fun y h1 tk Py st1 kp => ?_))
    have J := minK_turned (t := tk) I fI fun b o n e => kp b o (by simpa using n) e
    have gB1 := kp B _ (by simpa using nB) gB
    have hy : items[j + 1]? = some y := by simpa using Py
    obtain ⟨oI, gI, cI, dI⟩ := id st1.1
    obtain ⟨x, hx⟩ : ∃ x, xs[j + 1]? = some x := ⟨_, List.getElem?_eq_getElem (by rw [hi.length]; exact more)⟩
    obtain ⟨y', hy', ry⟩ := hi.get hx
    rw [hy] at hy'
    cases hy'
    show wpAny _ X.A.in1 (tryCatch (holding [y] (call (.ref f) [y])) _ >>= _) _ _ _
    refine wpAny_bind (wpAny_tryCatch (wpAny_holding (minK_ask hr nB key J s0 hx ry fI fB gI gB1 fun p2 H2 s2 J2 sm e2 fI2 fB2 gI2 gB2 => ?_)))
    have s02 := s0.trans sm
    have ep := sm _ _ hp
    obtain ⟨it1, r1, t1, _⟩ := J2.tuple (.inl (.inl e2) : SqT X.K H2 p2 _)
    obtain ⟨it2, r2, t2, _⟩ := J2.tuple (.inl (.inl ep) : SqT X.K H2 p _)
    show wpAny _ X.A.in1 (tryCatch (holding [y, .ref p2] (compareOp .Lt (.ref p2) (.ref p) >>= _)) _ >>= _) _ _ _
    refine wpAny_bind (wpAny_tryCatch (wpAny_holding (wpAny_bind (HT.lt_tupInts t1 t2 (intsAre_of r1) (intsAre_of r2) hu ?_))))
    refine wpAny_bind (wpAny_holding (wpAny_truthy_bool ?_))
    refine wpAny_bind (wpAny_letGo (wpAny_pure ?_))
    cases lt : HT.lexLt (kf (j + 1)) (kf i) with
    | true =>
      simp only [if_true]
      refine wpAny_bind ?_
      refine wpAny_updateSeq gB2 rfl (wpAny_bind (wpAny_letGo ?_))
      rw [nm]
      have J3 := minK_turned (t := s2.toks) (h' := s2.heap.update B (Obj.mapSeq fun _ => #[y, .ref p2])) J2 fB2 fun b o n e => (Heap.get?_update_other _ _ (Ne.symm n)).trans e
      refine wpAny_pure ⟨plainId_quiet F.plain_min_loop _, ih (j + 1) (j + 1) H2 _ y p2 _ (by omega) more J3 s02 fI2 fB2 ⟨oI, (Heap.get?_update_other _ _ nB).trans gI2, cI, dI⟩ (Heap.get?_update_self _ gB2 rfl) e2 hy fun j' hj' => ?_⟩
      by_cases z : j' = j + 1
      · rw [z]
        exact Bool.eq_false_iff.mpr fun q => by
          have := NtL.lex_asym _ _ q
          rw [q] at this
          cases this
      · exact lex_keep lt (best j' (by omega))
    | false =>
      simp only [Bool.false_eq_true, if_false]
      refine wpAny_bind (wpAny_letGo ?_)
      rw [nm]
      refine wpAny_pure ⟨plainId_quiet F.plain_min_loop _, ih (j + 1) i H2 _ vb p c (by omega) more J2 s02 fI2 fB2 ⟨oI, gI2, cI, dI⟩ gB2 ep hv fun j' hj' => ?_⟩
      by_cases z : j' = j + 1
      · rw [z]
        exact lt
      · exact best j' (by omega)
end
def rMinK (X : Cx) (k : Nat) : List V → List V → Hp → VK → Prop := fun vs zs H Q => ∃ (l f : Addr) (xs : List V) (kf : Nat → List Int), vs = [.ref l] ∧ zs = [.ref f] ∧ SqL X.K H l xs ∧ xs ≠ [] ∧ (∀ x ∈ xs, ∃ t, x = V.ref t) ∧ KeyAt X k f xs kf H ∧
  ∀ (i : Nat) (x : V) (H' : Hp), xs[i]? = some x → (∀ j, j < xs.length → HT.lexLt (kf j) (kf i) = false) → Same H H' → Q x H'
theorem cr_minK {X : Cx} {k : Nat} (hc : X.calm = true) (hr : Room (k + 1) X.A) : CallRK X (.builtin "min") [Str.ofString "key"] (rMinK X k) := by
  intro pins s σ H vs zs us ws Q I r rz h
  obtain ⟨l, f, xs, kf, rfl, rfl, hs, ne, refs, key, q⟩ := h
  have nm : (toString "min" ++ toString ".loop" : String) = "min.loop" := by decide
  obtain ⟨items, hi, pl, _⟩ := I.list hs
  have hl := pl.isList
  obtain rfl := Vals.ref1 r
  obtain ⟨w1, rfl, e1⟩ := vals1 rz
  obtain rfl : w1 = Value.ref f := e1
  have pos : 0 < items.length := by
    rw [← hi.length]
    exact List.length_pos_iff.mpr ne
  refine kmk_tree PySem.F.kind_min PySem.F.plain_min PySem.F.entry_min (minK_args _ _) ?_
  show wpAny _ X.A.in1 (Builtin.Builtins.bindParams "min" ["key", "default"] 0 ⟨[], [(Str.ofString "key", .ref f)]⟩ >>= _) _ _ s
  refine wpAny_bind (wpAny_of_eq (show Builtin.Builtins.bindParams "min" ["key", "default"] 0 ⟨[], [(Str.ofString "key", .ref f)]⟩ = pure [some (.ref f), none] from rfl) ?_)
  refine wpAny_bind (wpAny_pure ?_)
  refine wpAny_bind (wpAny_pyIter_list hl ?_)
  generalize hI : ({ cls := .type "list_iterator", data := .fields #[.ref l, .int 0 0] } : Obj) = oI0
  refine wpAny_bind (wpAny_newObj_type ?_ (by show (0 : Nat) ≤ sizeLine; exact Nat.zero_le _))
  rw [nm]
  have szI : (s.heap.push oI0).objs.size = s.heap.objs.size + 1 := Heap.size_push ..
  have nB : (s.heap.push oI0).objs.size ≠ s.heap.objs.size := by omega
  have kp1 : ∀ b o, s.heap.get? b = some o → ((s.heap.push oI0).push { cls := .type "list", data := .seq ([] : List Value).toArray }).get? b = some o := fun b o e => Heap.get?_push_of_some _ (Heap.get?_push_of_some _ e)
  have I1 : Inv X pins σ H { s with heap := (s.heap.push oI0).push { cls := .type "list", data := .seq ([] : List Value).toArray } } := I.kept (t' := s.toks) kp1
  have fI : FpOk X pins H s.heap.objs.size := I.fpOk (Nat.le_refl _) (I.hok.fresh (Nat.le_refl _))
  have fB : FpOk X pins H (s.heap.push oI0).objs.size := I.fpOk (by omega) (I.hok.fresh (by omega))
  have gI : ((s.heap.push oI0).push { cls := .type "list", data := .seq ([] : List Value).toArray }).get? s.heap.objs.size = some oI0 := Heap.get?_push_of_some _ (Heap.get?_push_size _ (by rw [← hI] <;> rfl))
  have gB : ((s.heap.push oI0).push { cls := .type "list", data := .seq ([] : List Value).toArray }).get? (s.heap.push oI0).objs.size = some { cls := .type "list", data := .seq ([] : List Value).toArray } := Heap.get?_push_size _ rfl
  have hne : l ≠ s.heap.objs.size := by
    obtain ⟨o, e, _⟩ := hl
    exact Nat.ne_of_lt (Heap.lt_size e)
  have hl1 : ((s.heap.push oI0).push { cls := .type "list", data := .seq ([] : List Value).toArray }).IsList l items.toArray := by
    obtain ⟨o, e, r⟩ := hl
    exact ⟨o, kp1 _ _ e, r⟩
  have W := Walks.list (prog := X.prog) (w := X.w) (A := X.A.in1) (I.ok.hd hc) s.heap.objs.size l hne items.toArray
  refine wpAny_pure ⟨plainId_quiet PySem.F.plain_min_loop _, ?_⟩
  refine codeAny_builtin F.entry_min_loop ?_
  rw [Around.under_plainId F.plain_min_loop _]
  show wpAny _ X.A.in1 (seqItems? (.ref (s.heap.push oI0).objs.size) >>= _) _ _ _
  refine wpAny_bind (wpAny_seqItems gB rfl ?_)
  show wpAny _ X.A.in1 (tryCatch (pyNext (.ref s.heap.objs.size)) _ >>= _) _ _ _
  refine wpAny_bind (wpAny_tryCatch (W.item 0 _ _ _ (by rw [List.size_toArray]; exact pos) ⟨⟨_, gI, by rw [← hI] <;> rfl, by rw [← hI] <;> rfl⟩, hl1⟩ fun y h1 tk Py st1 kp => ?_))
  have J := minK_turned (t := tk) I1 fI fun b o n e => kp b o (by simpa using n) e
  have gB1 := kp _ _ (by simpa using nB) gB
  have hy : items[0]? = some y := by simpa using Py
  obtain ⟨oI, gI1, cI, dI⟩ := id st1.1
  obtain ⟨x, hx⟩ : ∃ x, xs[0]? = some x := ⟨_, List.getElem?_eq_getElem (by rw [hi.length]; exact pos)⟩
  obtain ⟨y', hy', ry⟩ := hi.get hx
  rw [hy] at hy'
  cases hy'
  show wpAny _ X.A.in1 (tryCatch (holding [y] (call (.ref f) [y])) _ >>= _) _ _ _
  refine wpAny_bind (wpAny_tryCatch (wpAny_holding (minK_ask hr.in1 nB key J (Same.refl H) hx ry fI fB gI1 gB1 fun p2 H2 s2 J2 sm e2 fI2 fB2 gI2 gB2 => ?_)))
  show wpAny _ X.A.in1 (updateSeq (s.heap.push oI0).objs.size (fun _ => #[y, .ref p2]) >>= _) _ _ _
  refine wpAny_bind ?_
  refine wpAny_updateSeq gB2 rfl ?_
  rw [nm]
  have J3 := minK_turned (t := s2.toks) (h' := s2.heap.update (s.heap.push oI0).objs.size (Obj.mapSeq fun _ => #[y, .ref p2])) J2 fB2 fun b o n e => (Heap.get?_update_other _ _ (Ne.symm n)).trans e
  refine wpAny_pure ⟨plainId_quiet F.plain_min_loop _, minK_loop hc hr.in1 nB refs hi hs key ?_ (fun i v H' s' hv best I' sm' => ?_) _ 0 0 H2 _ y p2 _ rfl pos J3 sm fI2 fB2 ⟨oI, (Heap.get?_update_other _ _ nB).trans gI2, cI, dI⟩ (Heap.get?_update_self _ gB2 rfl) e2 hy fun j' hj' => ?_⟩
  · have := hr.in1.un
    omega
  · obtain ⟨x, hx⟩ : ∃ x, xs[i]? = some x := ⟨_, List.getElem?_eq_getElem (by rw [hi.length]; exact (List.getElem?_eq_some_iff.mp hv).1)⟩
    obtain ⟨v', hv', rv⟩ := hi.get hx
    rw [hv] at hv'
    cases hv'
    exact ⟨x, H', I', rv, q i x H' hx (fun j hj => best j (by rw [← hi.length]; exact hj)) sm'⟩
  · obtain rfl : j' = 0 := by omega
    exact Bool.eq_false_iff.mpr fun q => by
      have := NtL.lex_asym _ _ q
      rw [q] at this
      cases this

end R
namespace R
open PySem PySem.Spec PyProof.Rows L2
/-! ## laws whose program makes lambdas -/
open LamX hiding takes0
open NdefX
def sp_lawT {K : PySem.W.Frag} {mg : Str → Option Value} (T : Txt K mg) : Sp := fun vs H Q _ => ∃ (a : Addr) (ns : List Int), vs = [.ref a] ∧ SqL K H a (ns.map V.int) ∧ ns.length ≤ 63 ∧ Tabs (tabs T) H ∧ ∀ H', Q (.bl true) H'
theorem sameTabs {T : List (Addr × Str)} {H H' : Hp} (s : Same H H') (t : Tabs T H) : Tabs T H' := t.ext s
theorem StN.tups {K : PySem.W.Frag} {H H' : Hp} (f : StN H H') : TupsStay K H H' := fun a xs h => by
  rcases h with (h | ⟨o, h⟩) | h
  · exact .inl (.inl (f.ext _ _ h (by intro k z; cases z)))
  · exact .inl (.inr ⟨o, f.ext _ _ h (by intro k z; cases z)⟩)
  · exact .inr h
theorem StN.tup {H H' : Hp} (f : StN H H') {t : Addr} {xs : List V} (h : H t = some (.tup xs)) : H' t = some (.tup xs) := f.ext _ _ h (by intro k z; cases z)
theorem StN.lst {H H' : Hp} (f : StN H H') {t : Addr} {xs : List V} (h : H t = some (.lst xs)) : H' t = some (.lst xs) := f.ext _ _ h (by intro k z; cases z)
theorem StN.seq {K : PySem.W.Frag} {H H' : Hp} {a : Addr} {xs : List V} (f : StN H H') (h : SqL K H a xs) : SqL K H' a xs := by
  rcases h with (h | ⟨o, h⟩) | h
  · exact .inl (.inl (f.ext _ _ h (by intro k z; cases z)))
  · exact .inl (.inr ⟨o, f.ext _ _ h (by intro k z; cases z)⟩)
  · exact .inr h
theorem SvAt.stn {K : PySem.W.Frag} {C : Addr} {H H' : Hp} {p : Addr} {v : V} {t : Addr} {bs : List Bar} (h : SvAt K C H p v t bs) (f : StN H H') : SvAt K C H' p v t bs := by
  obtain ⟨dx, eo⟩ := h.ob
  exact ⟨⟨dx, f.ext _ _ eo (by intro k z; cases z)⟩, h.bars.stay f.tups, f.tups _ _ h.cls, h.ok⟩
theorem RowAt.stn {H H' : Hp} {r L : Addr} (h : RowAt H r L) (f : StN H H') : RowAt H' r L := by
  obtain ⟨ns, i, b, z, e, q, n⟩ := h.ex
  exact ⟨⟨ns, i, b, z, f.ext _ _ e (by intro k z; cases z), f.ext _ _ q (by intro k z; cases z), n⟩, h.ne⟩
theorem BarsAt.stn {K : PySem.W.Frag} {H H' : Hp} {v : V} {bs : List Bar} (h : BarsAt K H v bs) (f : StN H H') : BarsAt K H' v bs := h.stay f.tups
theorem tabsKp {T : List (Addr × Str)} {H H' : Hp} {r L : Addr} (t : Tabs T H) (R : RowAt H r L) (k : Kp r H H') : Tabs T H' := fun p hp => by
  obtain ⟨ps, h1, h2, h3⟩ := t p hp
  obtain ⟨ns, i, b, z, e, q, n⟩ := R.ex
  have ne : ∀ b o, H b = some o → (∀ xs, o ≠ .lst xs) → b ≠ r := fun b o e1 n z => by
    rw [z, e] at e1
    exact n _ (Option.some.inj e1).symm
  refine ⟨ps, k _ _ (ne _ _ h1 (fun xs z => by cases z)) h1, h2, fun pos cv hc => ?_⟩
  obtain ⟨c, e1, e2⟩ := h3 pos cv hc
  exact ⟨c, e1, k _ _ (ne _ _ e2 (fun xs z => by unfold CodeO at z; cases z)) e2⟩

end R
namespace R
open PySem PySem.Spec PyProof.Rows L2
/-! ## combinations(range(n), r), n at most 6 -/
open LamX hiding takes0
open NdefX
abbrev cbN : String := "itertools.combinations"
theorem cb_init : Slot "itertools.combinations" "__init__" "object.__init__" :=
  .of (owner := "object") (n := "__init__") (by rw [typeLookup_type, builtinLookup_eq_fast]; kernel_rfl) (by decide +kernel) (by decide +kernel) (by decide +kernel)
    (by first | exact .inl (by decide +kernel) | exact .inr (by decide +kernel)) (by rw [isSubtype_type]; kernel_rfl)
theorem cb_mro : mroOf (.type "itertools.combinations") = pure [.type "itertools.combinations", .type "object"] := by rw [mroOf_type]; kernel_rfl
theorem cb_new_at : typeLookup (.type "itertools.combinations") "__new__" = pure (some (.builtin "itertools.combinations.__new__")) := by rw [typeLookup_type, builtinLookup_eq_fast]; kernel_rfl
theorem cb_called : TypeCalled "itertools.combinations" "itertools.combinations.__new__" "object.__init__" :=
  ⟨by decide +kernel, by decide +kernel, ⟨_, _, cb_mro⟩, madeBy_type cb_mro cb_new_at (by decide +kernel), by decide +kernel, by rw [isSubtype_type]; kernel_rfl, cb_init⟩
theorem cb_typeCall (a b : Value) : checkTypeCall "itertools.combinations" ⟨[a, b], []⟩ = pure () := by kernel_rfl
theorem cb_newCall (a b : Value) : checkBuiltinCall "itertools.combinations.__new__" ⟨[.type "itertools.combinations", a, b], []⟩ = pure () := by kernel_rfl
theorem cb_entry_new : entryFor table "itertools.combinations.__new__" = some Builtin.«itertools.combinations.__new__» := entryFor_of_tree (by kernel_rfl)
theorem cb_entry_next : entryFor table "itertools.combinations.__next__" = some Builtin.«itertools.combinations.__next__» := entryFor_of_tree (by kernel_rfl)
theorem cb_next : Slot "itertools.combinations" "__next__" "itertools.combinations.__next__" :=
  .of (owner := "itertools.combinations") (n := "__next__") (by rw [typeLookup_type, builtinLookup_eq_fast]; kernel_rfl) (by decide +kernel) (by decide +kernel) (by decide +kernel)
    (by first | exact .inl (by decide +kernel) | exact .inr (by decide +kernel)) (by rw [isSubtype_type]; kernel_rfl)
theorem cb_iter : Slot "itertools.combinations" "__iter__" "itertools.combinations.__iter__" :=
  .of (owner := "itertools.combinations") (n := "__iter__") (by rw [typeLookup_type, builtinLookup_eq_fast]; kernel_rfl) (by decide +kernel) (by decide +kernel) (by decide +kernel)
    (by first | exact .inl (by decide +kernel) | exact .inr (by decide +kernel)) (by rw [isSubtype_type]; kernel_rfl)
theorem cb_entry_iter : entryFor table "itertools.combinations.__iter__" = some Builtin.«dict_keyiterator.__iter__» :=
  entryFor_alias (id' := "dict_keyiterator.__iter__") (by kernel_rfl) (by first | rfl | decide +kernel | (unfold String.splitOn; simp +decide [String.splitOnAux])) (by decide +kernel) (by kernel_rfl)
theorem cb_sub : isSubtype (.type "itertools.combinations") (.type "itertools.combinations") = pure true := by rw [isSubtype_type]; kernel_rfl
theorem cb_isType : isType (.type "itertools.combinations") = pure true := by first | rfl | kernel_rfl | (unfold isType; rw [isSubtype_type]; kernel_rfl)
theorem cb_args_next (a : Value) : argsOk "itertools.combinations.__next__" ⟨[a], []⟩ := by
  unfold argsOk
  kernel_rfl
theorem cb_args_iter (a : Value) : argsOk "itertools.combinations.__iter__" ⟨[a], []⟩ := by
  unfold argsOk
  kernel_rfl
theorem cb_args_init (a b c : Value) : argsOk "object.__init__" ⟨[a, b, c], []⟩ := by
  unfold argsOk
  kernel_rfl
/-- the walk's record -/
abbrev cbObj (pool : Addr) (st : Nat) (last : Value) (idx : List Nat) : Obj := { cls := .type "itertools.combinations", data := .fields (.ref pool :: rawInt (st : Nat) :: last :: idx.map fun (i : Nat) => rawInt i).toArray }
theorem cb_class (a b : Value) : Builtin.Itertools.itClassAndRest "combinations" ⟨[.type "itertools.combinations", a, b], []⟩ = pure (.type "itertools.combinations", [a, b]) := by
  have e : ("itertools." ++ "combinations" : String) = "itertools.combinations" := by decide
  unfold Builtin.Itertools.itClassAndRest
  simp only [e, cb_isType, cb_sub, pure_bind]
  rfl
theorem cb_named (a b : Value) : Builtin.Itertools.itBindNamed "combinations" ["iterable", "r"] 2 2 [a, b] [] = pure [some a, some b] := by
  kernel_rfl
theorem cb_noDict : typeHasDict (.type "itertools.combinations") = false := by first | rfl | decide +kernel
theorem cb_meets_new (rg : Addr) (n r : Nat) (t a b c : Tok) : Meets (Builtin.«itertools.combinations.__new__» ⟨[.type "itertools.combinations", .ref rg, .int (r : Nat) t], []⟩)
    (fun A R s => A.handled = none ∧ IsRange s.heap rg 0 (n : Nat) 1 a b c ∧ n ≤ 1000 ∧ r ≤ 1000 ∧ ∀ (h' : Heap) (tk : Nat) (acc : Array Value), (∀ b o, s.heap.get? b = some o → h'.get? b = some o) → ItemsOf (fun i v => ∃ t, v = .int (0 + i * 1) t) acc n →
      R (.ok (.ret (.ref (h'.objs.size + 1)))) { s with heap := (h'.push { cls := .type "tuple", data := .seq acc }).push (cbObj h'.objs.size (if r > n then 2 else 0) .none (List.range r)), toks := tk }) := by
  refine .of_wp fun prog w A R s ⟨hh, hr, hn, hr2, h⟩ => ?_
  unfold Builtin.«itertools.combinations.__new__»
  simp only []
  refine wpAny_bind ?_
  show wpAny _ _ (Builtin.Itertools.itClassAndRest "combinations" _ >>= _) _ _ _
  refine wpAny_bind (wpAny_of_eq (cb_class _ _) ?_)
  show wpAny _ _ (Builtin.Itertools.itBindNamed "combinations" ["iterable", "r"] 2 2 _ _ >>= _) _ _ _
  refine wpAny_bind (wpAny_of_eq (cb_named _ _) ?_)
  show wpAny _ _ (Builtin.Itertools.itSsizeArg (.int (r : Nat) t) >>= _) _ _ _
  refine wpAny_bind ?_
  show wpAny _ _ (if (decide ((r : Int) < -(2 ^ 63 : Int)) || decide ((r : Int) ≥ 2 ^ 63)) = true then _ else pure (r : Int)) _ _ _
  have e1 : (decide ((r : Int) < -(2 ^ 63 : Int)) || decide ((r : Int) ≥ 2 ^ 63)) = false := by
    rw [Bool.or_eq_false_iff, decide_eq_false_iff_not, decide_eq_false_iff_not]
    omega
  rw [e1, if_neg (by decide)]
  refine wpAny_pure ?_
  refine wpAny_bind (collect_range (n := n) hh hr ?_ ?_ ?_ fun h' tk acc kp it => ?_)
  · exact small_one (by omega) (by omega) (by omega) (by omega)
  · exact (rangeSize_nat 0 (n : Int)).trans (by omega)
  · omega
  have la : acc.toList.length = n := by rw [Array.length_toList]; exact it.1
  have e2 : Builtin.Itertools.itTooMany (r : Int) = false := by
    unfold Builtin.Itertools.itTooMany
    exact decide_eq_false (by omega)
  simp only [show ¬ ((r : Int) < 0) from by omega, if_false, e2, Bool.false_eq_true]
  refine wpAny_bind (wpAny_newTuple ?_ (by rw [la]; exact Nat.le_trans hn (by decide)))
  refine wpAny_pure ?_
  refine wpAny_bind ?_
  unfold Builtin.Itertools.itNewRecord
  simp only [cb_noDict, Bool.not_false, if_true]
  refine wpAny_newObj_type ?_ (by
    show (([Value.ref h'.objs.size, rawInt (if ((r : Nat) : Int).toNat > acc.toList.length then 2 else 0), Value.none] ++ List.map (fun (i : Nat) => rawInt i) (List.range ((r : Nat) : Int).toNat)).toArray).size ≤ sizeLine + 2
    rw [List.size_toArray, List.length_append, List.length_map, List.length_range, Int.toNat_natCast]
    exact Nat.le_trans (show 3 + r ≤ 1003 by omega) (by decide))
  refine wpAny_pure ⟨_, rfl, ?_⟩
  have e3 : ([Value.ref h'.objs.size, rawInt (if ((r : Nat) : Int).toNat > acc.toList.length then 2 else 0), Value.none] ++ List.map (fun (i : Nat) => rawInt i) (List.range ((r : Nat) : Int).toNat)).toArray = (.ref h'.objs.size :: rawInt ((if r > n then 2 else 0 : Nat) : Nat) :: .none :: (List.range r).map fun (i : Nat) => rawInt i).toArray := by
    rw [Int.toNat_natCast, la]
    by_cases g : r > n
    · simp [if_pos g]
    · simp [if_neg g]
  have e4 := h h' tk acc kp it
  have e5 : (h'.push { cls := Value.type "tuple", data := Data.seq acc.toList.toArray }).objs.size = h'.objs.size + 1 := Heap.size_push ..
  rw [e3]
  show R (.ok (.ret (.ref (h'.push { cls := Value.type "tuple", data := Data.seq acc.toList.toArray }).objs.size))) _
  rw [e5, Array.toArray_toList]
  exact e4
section
variable {prog : Program} {w : World} {A : Around} {E : Value → Shared → Prop} {s : Shared}
/-- a choice is handed out -/
theorem cb_hand {it pool : Addr} {acc : Array Value} {n st : Nat} {last : Value} {idx : List Nat} {op : Obj} {Q : Fin → Shared → Prop} (ho : s.heap.get? it = some (cbObj pool st last idx)) (hp : s.heap.get? pool = some op) (hd : op.data = .seq acc n) (few : idx.length ≤ 1000) (ne : it ≠ pool)
    (fin : ∀ h' : Heap, h'.get? it = some (cbObj pool st (.ref s.heap.objs.size) idx) → h'.get? s.heap.objs.size = some { cls := .type "tuple", data := .seq (idx.map fun i => acc.getD i .none).toArray } → (∀ b o, b ≠ it → s.heap.get? b = some o → h'.get? b = some o) → Q (.done (.ret (.ref s.heap.objs.size))) { s with heap := h' }) :
    wpAny (model prog w) A ((Builtin.Itertools.itPoolItems (.ref pool) >>= fun items => newTuple (idx.map fun i => items.getD i .none)) >>= fun result => field (.ref it) 2 >>= fun before => setField (.ref it) 2 result >>= fun _ => letGo [before] [result] >>= fun _ => ret result) Q E s := by
  refine wpAny_bind (wpAny_bind ?_)
  unfold Builtin.Itertools.itPoolItems
  refine wpAny_bind (wpAny_seqItems hp hd ?_)
  refine wpAny_pure ?_
  refine wpAny_newTuple ?_ (by rw [List.length_map]; exact Nat.le_trans few (by decide))
  have ho1 := Heap.get?_push_of_some { cls := .type "tuple", data := .seq (idx.map fun i => acc.getD i .none).toArray } ho
  have lt := Heap.lt_size ho
  refine wpAny_bind (wpAny_field ho1 rfl (x := last) (by simp) ?_)
  refine wpAny_bind (wpAny_setField ho1 rfl (by simp) ?_)
  refine wpAny_bind (wpAny_letGo ?_)
  refine wpAny_pure ?_
  refine fin _ ((Heap.get?_update_self _ ho1 ?_).trans ?_) ((Heap.get?_update_other _ _ (Nat.ne_of_lt lt)).trans (Heap.get?_push_size _ rfl)) fun b o nb e => (Heap.get?_update_other _ _ (Ne.symm nb)).trans (Heap.get?_push_of_some _ e)
  · rfl
  · rfl
/-- the first one -/
theorem cb_first {it pool : Addr} {acc : Array Value} {n : Nat} {last : Value} {idx : List Nat} {op : Obj} {Q : Option Value → Shared → Prop} (ho : s.heap.get? it = some (cbObj pool 0 last idx)) (hp : s.heap.get? pool = some op) (hd : op.data = .seq acc n) (few : idx.length ≤ 1000) (ne : it ≠ pool)
    (fin : ∀ h' : Heap, h'.get? it = some (cbObj pool 1 (.ref s.heap.objs.size) idx) → h'.get? s.heap.objs.size = some { cls := .type "tuple", data := .seq (idx.map fun i => acc.getD i .none).toArray } → (∀ b o, b ≠ it → s.heap.get? b = some o → h'.get? b = some o) → Q (some (.ref s.heap.objs.size)) { s with heap := h' }) :
    wpAny (model prog w) A (pyNext (.ref it)) Q E s := by
  have hT : s.TypeIs (.ref it) "itertools.combinations" := ⟨_, ho, rfl⟩
  unfold pyNext
  refine wpAny_bind (wpAny_attempt (wpAny_callSpecial?_slot (name := Str.ofString "__next__") hT cb_next (wpAny_call_entry cb_next hT cb_entry_next ?_ (cb_args_next _))))
  show wpAny _ _ (field (.ref it) 0 >>= _) _ _ s
  refine wpAny_bind (wpAny_field ho rfl (x := .ref pool) (by simp) ?_)
  show wpAny _ _ (Builtin.Itertools.itNumbersFrom (.ref it) 3 >>= _) _ _ s
  refine wpAny_bind ?_
  unfold Builtin.Itertools.itNumbersFrom
  show wpAny _ _ (load it >>= _) _ _ s
  refine wpAny_bind (wpAny_load ho ?_)
  show wpAny _ _ (pure _) _ _ s
  refine wpAny_pure ?_
  generalize hX : List.map _ (List.drop 3 _) = X
  have eX : X = idx := by
    rw [← hX]
    simp only [List.drop_succ_cons, List.drop_zero, List.map_map]
    exact (List.map_congr_left fun _ _ => rfl).trans (List.map_id idx)
  subst eX
  clear hX
  show wpAny _ _ (Builtin.Itertools.itIntField (.ref it) 1 >>= _) _ _ s
  refine wpAny_bind ?_
  show wpAny _ _ (field (.ref it) 1 >>= _) _ _ s
  refine wpAny_bind (wpAny_field ho rfl (x := rawInt ((0 : Nat) : Int)) (by simp) (wpAny_pure ?_))
  show wpAny _ _ (setField (.ref it) 1 (rawInt 1) >>= _) _ _ s
  refine wpAny_bind (wpAny_setField ho rfl (by simp) ?_)
  have sz : (s.heap.update it (Obj.mapFields fun x => x.setIfInBounds 1 (rawInt 1))).objs.size = s.heap.objs.size := by simp [Heap.update]
  refine cb_hand (st := 1) (last := last) (idx := X) ((Heap.get?_update_self _ ho rfl).trans rfl) ((Heap.get?_update_other _ _ ne).trans hp) hd few ne fun h' e1 e2 kp => ?_
  rw [sz] at e1 e2 ⊢
  refine ⟨_, rfl, wpAny_pure ?_⟩
  exact fin h' e1 e2 fun b o nb e => kp b o nb ((Heap.get?_update_other _ _ (Ne.symm nb)).trans e)
end
/-- the choice behind this one: the last index that may grow grows, those behind it follow -/
def cbNext (n : Nat) (idx : List Nat) : Option (List Nat) :=
  match ((List.range idx.length).reverse.find? fun i =>
      idx.getD i 0 != i + n - idx.length) with
  | none => none
  | some i => some (idx.take i ++
      (List.range (idx.length - i)).map (idx.getD i 0 + 1 + ·))
section
variable {prog : Program} {w : World} {A : Around} {E : Value → Shared → Prop} {s : Shared}
theorem cb_read {it pool : Addr} {st : Nat} {last : Value} {idx : List Nat} {Q : List Nat → Shared → Prop} (ho : s.heap.get? it = some (cbObj pool st last idx)) (q : Q idx s) : wpAny (model prog w) A (Builtin.Itertools.itNumbersFrom (.ref it) 3) Q E s := by
  unfold Builtin.Itertools.itNumbersFrom
  show wpAny _ _ (load it >>= _) _ _ s
  refine wpAny_bind (wpAny_load ho ?_)
  show wpAny _ _ (pure _) _ _ s
  refine wpAny_pure ?_
  generalize hX : List.map _ (List.drop 3 _) = X
  have eX : X = idx := by
    rw [← hX]
    simp only [List.drop_succ_cons, List.drop_zero, List.map_map]
    exact (List.map_congr_left fun _ _ => rfl).trans (List.map_id idx)
  rw [eX]
  exact q
/-- the next one -/
theorem cb_more {it pool : Addr} {acc : Array Value} {n : Nat} {last : Value} {idx jdx : List Nat} {op : Obj} {Q : Option Value → Shared → Prop} (ho : s.heap.get? it = some (cbObj pool 1 last idx)) (hp : s.heap.get? pool = some op) (hd : op.data = .seq acc n) (few : jdx.length ≤ 1000) (ne : it ≠ pool) (nx : cbNext acc.size idx = some jdx)
    (fin : ∀ h' : Heap, h'.get? it = some (cbObj pool 1 (.ref s.heap.objs.size) jdx) → h'.get? s.heap.objs.size = some { cls := .type "tuple", data := .seq (jdx.map fun i => acc.getD i .none).toArray } → (∀ b o, b ≠ it → s.heap.get? b = some o → h'.get? b = some o) → Q (some (.ref s.heap.objs.size)) { s with heap := h' }) :
    wpAny (model prog w) A (pyNext (.ref it)) Q E s := by
  have hT : s.TypeIs (.ref it) "itertools.combinations" := ⟨_, ho, rfl⟩
  unfold pyNext
  refine wpAny_bind (wpAny_attempt (wpAny_callSpecial?_slot (name := Str.ofString "__next__") hT cb_next (wpAny_call_entry cb_next hT cb_entry_next ?_ (cb_args_next _))))
  show wpAny _ _ (field (.ref it) 0 >>= _) _ _ s
  refine wpAny_bind (wpAny_field ho rfl (x := .ref pool) (by simp) ?_)
  show wpAny _ _ (Builtin.Itertools.itNumbersFrom (.ref it) 3 >>= _) _ _ s
  refine wpAny_bind (cb_read ho ?_)
  show wpAny _ _ (Builtin.Itertools.itIntField (.ref it) 1 >>= _) _ _ s
  refine wpAny_bind ?_
  show wpAny _ _ (field (.ref it) 1 >>= _) _ _ s
  refine wpAny_bind (wpAny_field ho rfl (x := rawInt ((1 : Nat) : Int)) (by simp) (wpAny_pure ?_))
  show wpAny _ _ (Builtin.Itertools.itPoolItems (.ref pool) >>= _) _ _ s
  refine wpAny_bind ?_
  unfold Builtin.Itertools.itPoolItems
  refine wpAny_bind (wpAny_seqItems hp hd (wpAny_pure ?_))
  split
  case h_2 heq =>
    have h2 : cbNext acc.size idx = none := heq
    rw [nx] at h2
    cases h2
  rename_i next heq
  have h2 : cbNext acc.size idx = some next := heq
  rw [nx] at h2
  cases h2
  show wpAny _ _ (Builtin.Itertools.itSetNumbersFrom (.ref it) 3 jdx >>= _) _ _ s
  refine wpAny_bind ?_
  show wpAny _ _ (updateFields it _) _ _ s
  have line : 1000 ≤ sizeLine := by decide
  refine wpAny_updateFields ho rfl ?_ (hz := by
    rw [Array.size_append, Array.size_extract, List.size_toArray, List.size_toArray, List.length_map]
    omega)
  have sz : (s.heap.update it (Obj.mapFields fun fs => fs.extract 0 3 ++ (jdx.map fun (n : Nat) => rawInt n).toArray)).objs.size = s.heap.objs.size := by simp [Heap.update]
  have e0 : Obj.mapFields (fun fs => fs.extract 0 3 ++ (jdx.map fun (n : Nat) => rawInt n).toArray) (cbObj pool 1 last idx) = cbObj pool 1 last jdx := by
    unfold Obj.mapFields
    simp
  refine cb_hand (st := 1) (last := last) (idx := jdx) ((Heap.get?_update_self _ ho (by rw [e0]; rfl)).trans (by rw [e0])) ((Heap.get?_update_other _ _ ne).trans hp) hd few ne fun h' e1 e2 kp => ?_
  rw [sz] at e1 e2 ⊢
  refine ⟨_, rfl, wpAny_pure ?_⟩
  exact fin h' e1 e2 fun b o nb e => kp b o nb ((Heap.get?_update_other _ _ (Ne.symm nb)).trans e)
/-- behind the last one -/
theorem cb_end {it pool : Addr} {acc : Array Value} {n : Nat} {last : Value} {idx : List Nat} {op : Obj} {Q : Option Value → Shared → Prop} (hh : A.handled = none) (ho : s.heap.get? it = some (cbObj pool 1 last idx)) (hp : s.heap.get? pool = some op) (hd : op.data = .seq acc n) (nx : cbNext acc.size idx = none)
    (fin : ∀ h' : Heap, (∀ b o, b ≠ it → s.heap.get? b = some o → h'.get? b = some o) → Q none { s with heap := h' }) :
    wpAny (model prog w) A (pyNext (.ref it)) Q E s := by
  have hT : s.TypeIs (.ref it) "itertools.combinations" := ⟨_, ho, rfl⟩
  unfold pyNext
  refine wpAny_bind (wpAny_attempt (wpAny_callSpecial?_slot (name := Str.ofString "__next__") hT cb_next (wpAny_call_entry cb_next hT cb_entry_next ?_ (cb_args_next _))))
  show wpAny _ _ (field (.ref it) 0 >>= _) _ _ s
  refine wpAny_bind (wpAny_field ho rfl (x := .ref pool) (by simp) ?_)
  show wpAny _ _ (Builtin.Itertools.itNumbersFrom (.ref it) 3 >>= _) _ _ s
  refine wpAny_bind (cb_read ho ?_)
  show wpAny _ _ (Builtin.Itertools.itIntField (.ref it) 1 >>= _) _ _ s
  refine wpAny_bind ?_
  show wpAny _ _ (field (.ref it) 1 >>= _) _ _ s
  refine wpAny_bind (wpAny_field ho rfl (x := rawInt ((1 : Nat) : Int)) (by simp) (wpAny_pure ?_))
  show wpAny _ _ (Builtin.Itertools.itPoolItems (.ref pool) >>= _) _ _ s
  refine wpAny_bind ?_
  unfold Builtin.Itertools.itPoolItems
  refine wpAny_bind (wpAny_seqItems hp hd (wpAny_pure ?_))
  split
  case h_1 next heq =>
    have h2 : cbNext acc.size idx = some next := heq
    rw [nx] at h2
    cases h2
  show wpAny _ _ (setField (.ref it) 1 (rawInt 2) >>= fun _ => Builtin.Itertools.itStop) _ _ s
  refine wpAny_bind (wpAny_setField ho rfl (by simp) ?_)
  show wpAny _ _ (newExc (.type "StopIteration") [] >>= _) _ _ _
  refine wpAny_bind ?_
  simp only [newExc, newTuple]
  refine wpAny_bind (wpAny_newObj_type ?_ (by size_fits))
  refine wpAny_bind (m := firstArgMember _ _) (wpAny_of_eq (a := Value.none) (by first | rfl | (simp only [firstArgMember]; rfl)) ?_)
  refine wpAny_newObj_type ?_ (by size_fits)
  simp only [raiseNew]
  refine wpAny_bind (wpAny_handled ?_)
  rw [show A.in1.handled = none from hh]
  refine wpAny_bind (wpAny_pure (wpAny_throw ?_))
  refine wpAny_bind (wpAny_isInstance (T := "StopIteration") (b := true) ⟨_, Heap.get?_push_size _ rfl, rfl⟩ isSubtype_stop ?_)
  exact wpAny_pure (fin _ fun b o nb e => Heap.get?_push_of_some _ (Heap.get?_push_of_some _ ((Heap.get?_update_other _ _ (Ne.symm nb)).trans e)))
theorem cb_self {it pool : Addr} {st : Nat} {last : Value} {idx : List Nat} {Q : Value → Shared → Prop} (ho : s.heap.get? it = some (cbObj pool st last idx)) (q : Q (.ref it) s) : wpAny (model prog w) A (pyIter (.ref it)) Q E s := by
  have hT : s.TypeIs (.ref it) "itertools.combinations" := ⟨_, ho, rfl⟩
  refine wpAny_pyIter_slot hT cb_iter (wpAny_call_entry cb_iter hT cb_entry_iter ?_ (cb_args_iter _))
  show wpAny _ _ (ret (.ref it)) _ _ s
  exact wpAny_pure ⟨_, rfl, "itertools.combinations", _, hT, cb_next.lookup, q⟩
end
/-! all choices of r of the numbers below n, in order -/
def cbFrom (n : Nat) : Nat → List Nat → List (List Nat)
  | 0, idx => [idx]
  | k + 1, idx => idx :: match cbNext n idx with
    | none => []
    | some j => cbFrom n k j
def cbAll (n r : Nat) : List (List Nat) := cbFrom n 63 (List.range r)
theorem cbFrom_head (n : Nat) : ∀ (k : Nat) (idx : List Nat), (cbFrom n k idx)[0]? = some idx
  | 0, _ => rfl
  | _ + 1, _ => rfl
theorem cbFrom_next (n : Nat) : ∀ (k : Nat) (idx : List Nat) (i : Nat) (a b : List Nat), (cbFrom n k idx)[i]? = some a → (cbFrom n k idx)[i + 1]? = some b → cbNext n a = some b
  | 0, idx, i, a, b, _, h => by
    unfold cbFrom at h
    simp at h
  | k + 1, idx, i, a, b, h1, h2 => by
    unfold cbFrom at h1 h2
    cases e : cbNext n idx with
    | none =>
      rw [e] at h2
      simp at h2
    | some j =>
      rw [e] at h1 h2
      rw [List.getElem?_cons_succ] at h2
      cases i with
      | zero =>
        have h3 := cbFrom_head n k j
        simp only at h2
        rw [h3] at h2
        cases h2
        simp at h1
        rw [← h1]
        exact e
      | succ i =>
        rw [List.getElem?_cons_succ] at h1
        exact cbFrom_next n k j i a b h1 h2
theorem cbAll_ok : ∀ n ∈ List.range 7, ∀ r ∈ List.range (n + 1), 0 < (cbAll n r).length ∧ ((cbAll n r).getLast?.bind (cbNext n)) = none ∧ ∀ idx ∈ cbAll n r, idx.length = r ∧ ∀ j ∈ idx, j < n := by decide +kernel
theorem cbAll_end {n r : Nat} (hn : n ≤ 6) (hr : r ≤ n) {idx : List Nat} (h : (cbAll n r)[(cbAll n r).length - 1]? = some idx) : cbNext n idx = none := by
  obtain ⟨_, e, _⟩ := cbAll_ok n (List.mem_range.mpr (by omega)) r (List.mem_range.mpr (by omega))
  rw [List.getLast?_eq_getElem?, h] at e
  exact e
theorem cbAll_in {n r : Nat} (hn : n ≤ 6) (hr : r ≤ n) {idx : List Nat} (h : idx ∈ cbAll n r) : idx.length = r ∧ ∀ j ∈ idx, j < n := (cbAll_ok n (List.mem_range.mpr (by omega)) r (List.mem_range.mpr (by omega))).2.2 idx h
theorem cbAll_pos {n r : Nat} (hn : n ≤ 6) (hr : r ≤ n) : 0 < (cbAll n r).length := (cbAll_ok n (List.mem_range.mpr (by omega)) r (List.mem_range.mpr (by omega))).1
/-! the walk -/
def ItC (n r : Nat) : It :=
  ⟨fun i _ => i < (cbAll n r).length, fun i H v H' => ∃ (T : Addr) (idx : List Nat), v = .ref T ∧ H T = none ∧ H' = upd H T (.tup (idx.map fun j => V.int (j : Nat))) ∧ (cbAll n r)[i]? = some idx, fun i _ => (cbAll n r).length ≤ i⟩
/-- the pool: the numbers below n -/
structure PoolAt (h : Heap) (pool : Addr) (n : Nat) (acc : Array Value) : Prop where
  ob : h.get? pool = some { cls := .type "tuple", data := .seq acc }
  sz : acc.size = n
  at_ : ∀ j, j < n → ∃ t, acc.getD j .none = .int (j : Nat) t
def CbSt (it pool : Addr) (n r i : Nat) (h : Heap) : Prop := it ≠ pool ∧ (∃ acc, PoolAt h pool n acc) ∧ ((i = 0 ∧ h.get? it = some (cbObj pool 0 .none (List.range r))) ∨ ∃ j last idx, i = j + 1 ∧ (cbAll n r)[j]? = some idx ∧ h.get? it = some (cbObj pool 1 last idx))
theorem pool_vals {acc : Array Value} {n : Nat} (h : ∀ j, j < n → ∃ t, acc.getD j .none = .int (j : Nat) t) : ∀ idx : List Nat, (∀ j ∈ idx, j < n) → Vals (idx.map fun j => V.int (j : Nat)) (idx.map fun i => acc.getD i .none)
  | [], _ => .nil
  | j :: r, m => by
    obtain ⟨t, e⟩ := h j (m j List.mem_cons_self)
    exact .cons ⟨t, e⟩ (pool_vals h r fun k hk => m k (List.mem_cons_of_mem _ hk))
theorem turn_comb {P : Program} {w : World} {K : PySem.W.Frag} {tg : Expr} (it pool : Addr) {n r : Nat} (hn : n ≤ 6) (hr : r ≤ n) : Turn P w K tg (ItC n r) [it, pool] it (fun i h => CbSt it pool n r i h) where
  mem := List.mem_cons_self ..
  obj := fun i h ⟨ne, ⟨acc, p⟩, st⟩ b hb => by
    rcases List.mem_cons.mp hb with rfl | hb
    · rcases st with ⟨_, e⟩ | ⟨j, last, idx, _, _, e⟩
      · exact ⟨_, e, fun v q => nomatch q⟩
      · exact ⟨_, e, fun v q => nomatch q⟩
    · rw [List.mem_singleton.mp hb]
      exact ⟨_, p.ob, fun v q => nomatch q⟩
  keep := fun i h h' ⟨ne, ⟨acc, p⟩, st⟩ k => by
    refine ⟨ne, ⟨acc, k pool (by simp) _ p.ob, p.sz, p.at_⟩, ?_⟩
    rcases st with ⟨z, e⟩ | ⟨j, last, idx, z, y, e⟩
    · exact .inl ⟨z, k it (by simp) _ e⟩
    · exact .inr ⟨j, last, idx, z, y, k it (by simp) _ e⟩
  item := by
    intro X hP hw hK hc i pins s σ H E I hf ⟨ne, ⟨acc, p⟩, st⟩ lt
    subst hP hw hK
    have lt : i < (cbAll n r).length := lt
    obtain ⟨idx, hx⟩ : ∃ idx, (cbAll n r)[i]? = some idx := ⟨_, List.getElem?_eq_getElem lt⟩
    obtain ⟨il, ij⟩ := cbAll_in hn hr (List.mem_of_getElem? hx)
    have few : idx.length ≤ 1000 := by omega
    have ptl : pool < s.heap.objs.size := Heap.lt_size p.ob
    have go : ∀ h' : Heap, h'.get? it = some (cbObj pool 1 (.ref s.heap.objs.size) idx) → h'.get? s.heap.objs.size = some { cls := .type "tuple", data := .seq (idx.map fun i => acc.getD i .none).toArray } → (∀ b o, b ≠ it → s.heap.get? b = some o → h'.get? b = some o) →
        ∃ u, (some (Value.ref s.heap.objs.size)) = some u ∧ wpAny (model X.prog X.w) X.A (letOwnedTupleGo tg (.ref it) u) (fun _ s2 => ∃ x H', Inv X pins σ H' s2 ∧ RelV x u ∧ (ItC n r).yld i H x H' ∧ CbSt it pool n r (i + 1) s2.heap ∧ ∀ b ∈ [it, pool], H' b = none) E { s with heap := h' } := by
      intro h' e1 e2 kp
      have new : ObjOk X.prog X.w (upd H s.heap.objs.size (.tup (idx.map fun j => V.int (j : Nat)))) h' s.heap.objs.size (.tup (idx.map fun j => V.int (j : Nat))) :=
        ⟨by rw [List.length_map]; exact Nat.le_trans few (by decide), idx.map (fun i => acc.getD i .none), pool_vals p.at_ idx ij, _, e2, rfl, _, rfl⟩
      have I1 : Inv X pins σ (upd H s.heap.objs.size (.tup (idx.map fun j => V.int (j : Nat)))) { s with heap := h' } := by
        refine I.turnedNew (ch := [it, pool]) (t' := s.toks) (fun b ob hb q => ?_) hf (Nat.le_refl _) new
        exact kp b ob (fun z => hb (by simp [z])) q
      refine ⟨_, rfl, go_of (s := { s with heap := h' }) e1 rfl rfl (by decide) ⟨.ref s.heap.objs.size, _, I1, rfl, ⟨_, idx, rfl, I.hok.fresh (Nat.le_refl _), rfl, hx⟩, ⟨ne, ⟨acc, kp _ _ (Ne.symm ne) p.ob, p.sz, p.at_⟩, .inr ⟨i, _, idx, rfl, hx, e1⟩⟩, fun b hb => ?_⟩⟩
      have hbl : b < s.heap.objs.size := by
        rcases List.mem_cons.mp hb with rfl | hb
        · rcases st with ⟨_, e⟩ | ⟨j, last, idx', _, _, e⟩ <;> exact Heap.lt_size e
        · rw [List.mem_singleton.mp hb]
          exact ptl
      rw [upd_ne (Nat.ne_of_lt hbl)]
      exact (hf b hb).1
    rcases st with ⟨z, e⟩ | ⟨j, last, jdx, z, y, e⟩
    · subst z
      have h0 := cbFrom_head n 63 (List.range r)
      have h1 : (cbAll n r)[0]? = some (List.range r) := h0
      rw [hx] at h1
      cases h1
      exact cb_first e p.ob rfl few ne go
    · subst z
      exact cb_more e p.ob rfl few ne (by rw [p.sz]; exact cbFrom_next n 63 _ j jdx idx y hx) go
  done := by
    intro X hP hw hK hc i pins s σ H E I hf ⟨ne, ⟨acc, p⟩, st⟩ le
    subst hP hw hK
    have le : (cbAll n r).length ≤ i := le
    have pos := cbAll_pos hn hr
    rcases st with ⟨z, e⟩ | ⟨j, last, jdx, z, y, e⟩
    · omega
    · have jl := (List.getElem?_eq_some_iff.mp y).1
      obtain ⟨f0, f1, f2, f3, f4, f5⟩ := hf it (by simp)
      refine cb_end (I.ok.hd hc) e p.ob rfl (by rw [p.sz]; exact cbAll_end hn hr (by rw [show (cbAll n r).length - 1 = j by omega]; exact y)) fun h' kp => ⟨rfl, I.turned (t' := s.toks) (fun b o hb q => kp b o hb q) f0 f1 f3 f4 f5⟩
  self := fun A i s Q E ⟨ne, _, st⟩ h => by
    rcases st with ⟨_, e⟩ | ⟨j, last, idx, _, _, e⟩
    · exact cb_self e h
    · exact cb_self e h
/-! a range as a value, and the choices from it -/
def RngO (rg : Addr) (n : Int) : HO := .ext fun h => ∃ t u v : Tok, IsRange h rg 0 n 1 t u v
theorem rng_get {P : Program} {w : World} {H : Hp} {h : Heap} {rg : Addr} {n : Int} (k : HOk P w H h) (e : H rg = some (RngO rg n)) : ∃ t u v : Tok, IsRange h rg 0 n 1 t u v := (k rg _ e).1
def tRngO (ta : TE) : TE := fun σ H Q => ta σ H fun x H1 => ∃ n : Nat, x = .int (n : Nat) ∧ ∀ rg, H1 rg = Option.none → Q (.ref rg) (upd H1 rg (RngO rg (n : Nat)))
theorem pe_rangeO {X : Cx} {a : Expr} {ta : TE} {p pos : Pos} (hg : Gl X "range") (hm : X.mg "range" = Option.none) (ha : PE X a ta) (na : starEach [a] X.env = (false, eval a X.env) :: starEach [] X.env := by rfl) : PE X (.Call (.Name "range" p) [a] [] pos) (tRngO ta) := by
  refine ⟨fun pins s σ H Q I h => ?_⟩
  refine Call_ (ld_blt I hg hm boot_range (PyProof.Rows.callWith_type1 (one_arg ha I h (fun v s2 x H2 I2 r q => ?_) na) na))
  obtain ⟨n, rfl, q⟩ := q
  obtain ⟨t, rfl⟩ := r
  refine call_range_1 ⟨.ref s2.heap.objs.size, upd H2 s2.heap.objs.size (RngO s2.heap.objs.size (n : Nat)), I2.laid (t' := s2.toks + 1 + 1) (fun b u e => Heap.get?_push_of_some _ e) (Nat.le_refl _) ?_, rfl, q _ (I2.hok.fresh (Nat.le_refl _))⟩
  exact ⟨⟨_, _, _, IsRange.new _ _ _ _ _ _ _⟩, ⟨_, IsRange.new _ _ _ _ _ _ _⟩, fun _ _ ⟨a, b, c, z⟩ st => ⟨a, b, c, st _ z⟩⟩
def iComb (ta : TA) : TI := fun σ H R => ta σ H fun vs H1 => ∃ (rg : Addr) (n r : Nat), vs = [.ref rg, .int (r : Nat)] ∧ H1 rg = some (RngO rg (n : Nat)) ∧ n ≤ 6 ∧ r ≤ n ∧ R (ItC n r) H1
theorem pi_comb {X : Cx} {e e2 tg : Expr} {ta : TA} {p pos : Pos} (hc : X.calm = true) (hg : Gl X "combinations") (hm : X.mg "combinations" = some (.type "itertools.combinations")) (ha : PA X [e, e2] ta)
    (st : starEach [e, e2] X.env = (false, eval e X.env) :: starEach [e2] X.env := by rfl) (pl : (backTo pos (starEach [e2] X.env)).any (·.1) = false := by rfl) (hdb : (Str.ofString "combinations" == ("__debug__" : Str)) = false := by decide) : PI X tg (.Call (.Name "combinations" p) [e, e2] [] pos) (iComb ta) := by
  constructor
  intro pn s σ H R I h
  refine wpAny_Call_Name_kw (ld_glob I hg hm (PyProof.Rows.callWith_type1 (thn (ha.run pos pn s σ H _ I h) fun us s1 ⟨vs, H1, I1, rv, q⟩ => ?_) st pl) hdb)
  obtain ⟨rg, n, r, rfl, er, hn, hr, q⟩ := q
  obtain ⟨ta, tb, tc, ir⟩ := rng_get I1.hok er
  cases rv with
  | cons ra rv =>
    cases rv with
    | cons rb rv =>
      cases rv
      cases ra
      obtain ⟨t, rfl⟩ := rb
      refine callType_new cb_called (by decide) (cb_typeCall _ _) (cb_newCall _ _) (fun obj => cb_args_init obj _ _) cb_entry_new (cb_meets_new rg n r t ta tb tc) ⟨I1.ok.hd hc, ir, by omega, by omega, fun h' tk acc kp it => ?_⟩
      have J : Inv X pn σ H1 { s1 with heap := h', toks := tk } := I1.kept (t' := tk) kp
      have z : (if r > n then 2 else 0 : Nat) = 0 := if_neg (by omega)
      have g1 : ((h'.push { cls := .type "tuple", data := .seq acc }).push (cbObj h'.objs.size (if r > n then 2 else 0) .none (List.range r))).get? h'.objs.size = some { cls := .type "tuple", data := .seq acc } := Heap.get?_push_of_some _ (Heap.get?_push_size _ rfl)
      have sz : (h'.push { cls := .type "tuple", data := .seq acc }).objs.size = h'.objs.size + 1 := Heap.size_push ..
      have g2 : ((h'.push { cls := .type "tuple", data := .seq acc }).push (cbObj h'.objs.size (if r > n then 2 else 0) .none (List.range r))).get? (h'.objs.size + 1) = some (cbObj h'.objs.size 0 .none (List.range r)) := by
        rw [← sz, z]
        exact Heap.get?_push_size _ rfl
      show _ ∧ _
      refine ⟨⟨_, g2, rfl⟩, ?_⟩
      have I2 : Inv X pn σ H1 { s1 with heap := (h'.push { cls := .type "tuple", data := .seq acc }).push (cbObj h'.objs.size (if r > n then 2 else 0) .none (List.range r)), toks := tk } :=
        J.kept (t' := tk) fun b o e => Heap.get?_push_of_some _ (Heap.get?_push_of_some _ e)
      refine cb_self g2 ⟨h'.objs.size + 1, [h'.objs.size + 1, h'.objs.size], _, _, H1, rfl, I2, turn_comb (h'.objs.size + 1) h'.objs.size hn hr, ⟨Nat.succ_ne_self _, ⟨acc, g1, it.1, fun j hj => ?_⟩, .inl ⟨rfl, g2⟩⟩, fun b hb => ?_, q⟩
      · have jl : j < acc.size := by rw [it.1]; exact hj
        obtain ⟨u, e⟩ := it.2 j acc[j] (Array.getElem?_eq_getElem jl)
        refine ⟨u, ?_⟩
        rw [Array.getD_eq_getD_getElem?, Array.getElem?_eq_getElem jl, Option.getD_some, e]
        rw [Int.mul_one, Int.zero_add]
      · have le : h'.objs.size ≤ b := by
          rcases List.mem_cons.mp hb with rfl | hb
          · omega
          · rw [List.mem_singleton.mp hb]
            exact Nat.le_refl _
        exact J.fpOk le (J.hok.fresh le)

end R
namespace R
open PySem PySem.Spec PyProof.Rows L2
/-! ## a cell that a lambda holds, told to the one that is called -/
open LamX hiding takes0
open NdefX
def CellO (c : Addr) (o : Obj) : HO := .ext fun h => h.get? c = some o
theorem cellO_get {P : Program} {w : World} {H : Hp} {h : Heap} {c : Addr} {o : Obj} (k : HOk P w H h) (e : H c = some (CellO c o)) : h.get? c = some o := (k c _ e).1
theorem cellO_ok {P : Program} {w : World} {H : Hp} {h : Heap} {c : Addr} {o : Obj} (e : h.get? c = some o) : ObjOk P w H h c (CellO c o) := ⟨e, ⟨_, e⟩, fun _ _ z st => st _ z⟩
/-- H with nothing told of c -/
def offC (H : Hp) (c : Addr) : Hp := fun b => if b = c then Option.none else H b
theorem offC_same {H : Hp} {c : Addr} : offC H c c = Option.none := if_pos rfl
theorem offC_ne {H : Hp} {b c : Addr} (n : b ≠ c) : offC H c b = H b := if_neg n
/-- H told of c -/
abbrev withC (H : Hp) (c : Addr) (o : Obj) : Hp := upd H c (CellO c o)
section
variable {X : Cx} {pins : List (Addr × Obj)} {σ : L2.St} {H : Hp} {s : Shared} {x : Str} {c : Addr} {o : Obj}
theorem cell_above (I : Inv X pins σ H s) (fn : X.fn x = true) (hx : X.env.cells.lookup x = some c) : X.s_0.heap.objs.size ≤ c := I.ok.cab x c fn hx
theorem hok_with {P : Program} {w : World} {h : Heap} (k : HOk P w H h) (n : H c = Option.none) (e : h.get? c = some o) : HOk P w (withC H c o) h := fun a u q => by
  by_cases z : a = c
  · subst z
    have q : upd H a (CellO a o) a = some u := q
    rw [upd_same] at q
    cases q
    exact cellO_ok e
  · have q : upd H c (CellO c o) a = some u := q
    rw [upd_ne z] at q
    exact (k a u q).stay (fun b v _ g => g) (fun b g => (upd_ne (ne_of_none g n)).trans g) fun b xs g => (upd_ne (ne_of_none g n)).trans g
theorem frs_ne (I : Inv X pins σ H s) (fn : X.fn x = true) (hx : X.env.cells.lookup x = some c) : ∀ b ∈ frs X.stack, b ≠ c := fun b hb z => by
  rcases List.mem_cons.mp (I.stkSub b hb) with e | e
  · obtain ⟨m, ⟨ol, es, ep, g, d, _⟩, _⟩ := I.loc
    obtain ⟨v, oc, g2, d2⟩ := I.cell x c hx
    rw [← z, e, g] at g2
    cases g2
    rw [d] at d2
    cases d2
  · obtain ⟨_, ob, g, _⟩ := I.ok.funs.mem e
    have lt := Nat.lt_of_lt_of_le (Heap.lt_size g) (cell_above I fn hx)
    rw [z] at lt
    exact Nat.lt_irrefl _ lt
theorem env0_with (I : Inv X pins σ H s) (fn : X.fn x = true) (hx : X.env.cells.lookup x = some c) (e : s.heap.get? c = some o): Env0 X.prog X.w X.K X.mg X.base X.A X.stack s (withC H c o) := by
  have e0 := I.env0
  have up := cell_above I fn hx
  refine ⟨e0.frames, e0.mod, fun b ob q => ?_, e0.bsz, e0.funs, fun b hb => ?_, hok_with I.hok (I.freeC x c hx) e, e0.bare⟩
  · have lt := Nat.lt_of_lt_of_le (Nat.lt_of_lt_of_le (Heap.lt_size q) I.ok.bsz) up
    obtain ⟨q1, q2⟩ := e0.bs b ob q
    exact ⟨q1, (upd_ne (Nat.ne_of_lt lt)).trans q2⟩
  · exact (upd_ne (frs_ne I fn hx b hb)).trans (e0.frf b hb)
theorem un_out {fs : List Addr} {H2 : Hp} {h h' : Heap} (u : Un fs [] (withC H c o) H2 h h') (n : H c = Option.none) (e : h.get? c = some o) (e' : h'.get? c = some o) : Un fs [] H (offC H2 c) h h' where
  keep := fun b ob q nb hf hx => by
    by_cases z : b = c
    · subst z
      rw [e] at q
      cases q
      exact e'
    · exact u.keep b ob q ((upd_ne z).trans nb) hf hx
  slot := fun b ob q nb hf hx => by
    by_cases z : b = c
    · subst z
      rw [e] at q
      cases q
      exact ⟨o.slots, e'⟩
    · exact u.slot b ob q ((upd_ne z).trans nb) hf hx
  free := fun b ob q nb hx => by
    by_cases z : b = c
    · subst z
      exact offC_same
    · rw [offC_ne z]
      exact u.free b ob q ((upd_ne z).trans nb) hx
  there := fun b ob q hx => u.there b ob q hx
  tups := fun b xs q => by
    have z : b ≠ c := ne_of_none q n
    rw [offC_ne z]
    exact u.tups b xs ((upd_ne z).trans q)
  frzs := fun b ob v q => by
    have z : b ≠ c := ne_of_none q n
    rw [offC_ne z]
    exact u.frzs b ob v ((upd_ne z).trans q)
  tbls := fun b ps q => by
    have z : b ≠ c := ne_of_none q n
    obtain ⟨more, m⟩ := u.tbls b ps ((upd_ne z).trans q)
    exact ⟨more, (offC_ne z).trans m⟩
theorem hok_out {P : Program} {w : World} {H2 : Hp} {h : Heap} (k : HOk P w H2 h) (e : H2 c = some (CellO c o)) : HOk P w (offC H2 c) h := fun a u q => by
  have z : a ≠ c := fun z => by
    subst z
    rw [offC_same] at q
    cases q
  rw [offC_ne z] at q
  refine (k a u q).stay (fun b v _ g => g) (fun b g => ?_) fun b xs g => ?_
  · have y : b ≠ c := fun y => by
      subst y
      rw [e] at g
      cases g
    exact (offC_ne y).trans g
  · have y : b ≠ c := fun y => by
      subst y
      rw [e] at g
      cases g
    exact (offC_ne y).trans g
end
/-- f(e, ..), a lambda among the values: what the cell of x holds is told to the one that is called -/
def tCallC (X : Cx) (x : Str) (i : Nat) (sp : Sp) (t : TA) : TE := fun σ H Q => t σ H fun vs H1 => ∃ v, σ[i]? = some (some v) ∧
  ∀ (c : Addr) (o : Obj) (u : Value), X.env.cells.lookup x = some c → H1 c = Option.none → RelV v u → o.data = .cell (some u) → sp vs (withC H1 c o) (fun y H2 => H2 c = some (CellO c o) ∧ Q y (offC H2 c)) C8.E0
section
variable {X : Cx} {k i : Nat} {f : Addr} {fd : FuncData} {ps : List Str} {sp : Sp} {x y : Str} {p pos : Pos} {e : Expr} {es : List Expr} {t : TA}
theorem pe_callC (F : FnOk X.prog X.w X.K X.mg X.base C8.CX0 k f fd ps sp) (hr : Room k X.A) (hg : Gl X x) (hm : X.mg x = some (.ref f)) (hk : PySem.W.keepIn X.K (.ref f) = true) (hb : Binds X.K fd ps []) (hN : X.N[i]? = some y) (ky : X.env.scope.names.lookup y = some .cell) (fn : X.fn y = true)
    (ha : PA X (e :: es) t) (hdb : (x == ("__debug__" : Str)) = false := by decide) (he : starEach (e :: es) X.env = (false, eval e X.env) :: starEach es X.env := by rfl) (hpl : (backTo pos (starEach es X.env)).any (·.1) = false := by rfl) :
    PE X (.Call (.Name x p) (e :: es) [] pos) (tCallC X y i sp t) := by
  refine ⟨fun pins s σ H Q I h => ?_⟩
  refine wpAny_Call_Name_kw (ld_glob I hg hm ?_ hdb)
  refine PySem.W.callWith_K (h₀ := X.base) I.ok.mod.kin hk (thn (ha.run pos pins s σ H _ I h) fun us s1 ⟨vs, H1, I1, r, q⟩ => ⟨I1.kIn, ?_⟩) he hpl
  obtain ⟨v, hv, q⟩ := q
  have C := cells_of (fr := [y]) (js := [i]) I1 (cl := X.env.cells) ⟨fun _ _ z => z, fun z hz => by rw [List.mem_singleton.mp hz]; exact .inl ky, fun _ _ _ z => z, by show [X.N[i]?] = [some y]; rw [hN]⟩
  obtain ⟨c, hc, C⟩ := C.has 0 y rfl
  obtain ⟨u, ru, oc, gc, dc⟩ := C v (by show some (NdefX.slotAt σ i) = some (some v); unfold NdefX.slotAt; rw [hv])
  have q := q c oc u hc (I1.freeC y c hc) ru dc
  have r2 : Vals (vs ++ []) (us ++ []) := by rw [List.append_nil, List.append_nil]; exact r
  have hl : (us ++ []).length = ps.length := by rw [← r2.length, List.append_nil]; exact F.len _ _ _ _ q
  refine wpAny_call (codeAny_mono (F.run X.A X.stack s1 (withC H1 c oc) ⟨us, []⟩ (us ++ []) (vs ++ []) _ C8.E0 hr (env0_with I1 fn hc gc) (hb s1 us I1.kIn hl) r2 (by rw [List.append_nil]; exact q)) fun r s2 hq => ?_)
  cases r with
  | error e => exact (show False from hq).elim
  | ok fl =>
    cases fl with
    | next => exact False.elim hq
    | brk => exact False.elim hq
    | cont => exact False.elim hq
    | ret z =>
      obtain ⟨w, H2, os, bare, un, hok, rw_, kc, qq⟩ := hq
      exact I1.after ⟨w, offC H2 c, os, bare, un_out un (I1.freeC y c hc) gc (cellO_get hok kc), hok_out hok kc, rw_, qq⟩
end
/-- a lambda that holds one name of its maker's -/
theorem lam_cell {P : Program} {w : World} {K : PySem.W.Frag} {mg : Str → Option Value} {base : Heap} {N ps : List Str} {x : Str} {F : NF} {b : Expr} {f c : Addr} {o : Obj} {u : Value} {v : V} {k : Nat} {H : Hp} {vs : List V} {Q : VK}
    (S : NScope N ps [x] F.scope) (hcl : F.cl = [(x, c)]) (hb : ∀ (pm ctv : Value) (us : List Value), us.length = ps.length → bindArgs (PySem.W.kla_fn "<lambda>" F.qual F.params b F.scope F.cl pm (.ref F.c) ctv) ⟨us, []⟩ = pure (ps.zip us)) (hf : H f = some (LamO f F b)) (hc : H F.c = some (CodeO F.c F.qual))
    (nf : f ≠ c) (nc : F.c ≠ c) (hC : H c = some (CellO c o)) (ho : o.data = .cell (some u)) (rv : RelV v u) (hl : vs.length = ps.length)
    (hbody : ∀ (A : Around) (outer : List Env) (s : Shared), Room k (A.deeper (envF F f s.heap.objs.size)) → ∃ t, PE (ncx C8.CX0 P w K mg base N F f A outer s (offC H c) C8.E0) b t ∧ t (startF N vs [some v]) (offC H c) fun y H2 => Q y (withC H2 c o)) : Gives P w K mg base (k + 1) f vs H Q := fun A outer s us hr e0 r => by
  have get := cellO_get e0.hok hC
  have nfr : c ∉ frs outer := fun z => by
    rw [e0.frf c z] at hC
    cases hC
  have none_ : ∀ b, H b = Option.none → offC H c b = Option.none := fun b n => by
    by_cases z : b = c
    · rw [z]
      exact offC_same
    · exact (offC_ne z).trans n
  have e1 : Env0 P w K mg base A outer s (offC H c) := ⟨e0.frames, e0.mod, fun b o q => let ⟨q1, q2⟩ := e0.bs b o q; ⟨q1, none_ b q2⟩, e0.bsz, e0.funs, fun b hb => none_ b (e0.frf b hb), hok_out e0.hok hC, e0.bare⟩
  have one : ∀ y a, F.cl.lookup y = some a → y = x ∧ a = c := fun y a q => by
    rw [hcl] at q
    have q : (match y == x with | true => some c | false => ([] : List (Str × Addr)).lookup y) = some a := q
    by_cases z : y = x
    · subst z
      rw [show (y == y) = true from beq_self_eq_true y] at q
      exact ⟨rfl, (Option.some.inj q).symm⟩
    · rw [show (y == x) = false from beq_false_of_ne z] at q
      cases q
  have lk : F.cl.lookup x = some c := by
    rw [hcl]
    show (match x == x with | true => some c | false => ([] : List (Str × Addr)).lookup x) = some c
    rw [show (x == x) = true from beq_self_eq_true x]
  refine codeAny_mono (lam_run (ws := [some v]) S hb hr e1 ((offC_ne nf).trans hf) ((offC_ne nc).trans hc) ⟨rfl, fun y a q => ?_, fun y z a q1 q2 => ?_, fun i y q => ?_⟩ hl r (hbody A outer s)) fun rs s2 hq => ?_
  · rw [(one y a q).2]
    exact ⟨offC_same, some u, o, get, ho⟩
  · rw [(one y a q1).1, (one z a q2).1]
  · cases i with
    | zero =>
      cases q
      exact ⟨c, lk, fun v' q => by cases q; exact ⟨u, rv, o, get, ho⟩⟩
    | succ i => simp at q
  · cases rs with
    | error e => exact (show False from hq).elim
    | ok fl =>
      cases fl with
      | next => exact False.elim hq
      | brk => exact False.elim hq
      | cont => exact False.elim hq
      | ret y =>
        obtain ⟨z, H2, os, bare, un, hok, rz, q⟩ := hq
        have n2 : H2 c = Option.none := un.free c o get offC_same (by simp)
        have g2 := un.keep c o get offC_same nfr (by simp)
        have ne : ∀ {b : Addr}, H b = Option.none → b ≠ c := fun n z => by
          rw [z, hC] at n
          cases n
        refine ⟨z, withC H2 c o, os, bare, ⟨fun b ob q n hf hx => ?_, fun b ob q n hf hx => ?_, fun b ob q n hx => ?_, fun b ob q hx => un.there b ob q hx, fun b xs q => ?_, fun b ob y q => ?_, fun b ps q => ?_⟩, hok_with hok n2 g2, rz, q⟩
        · exact un.keep b ob q (none_ b n) hf hx
        · exact un.slot b ob q (none_ b n) hf hx
        · exact (upd_ne (ne n)).trans (un.free b ob q (none_ b n) hx)
        · have y : b ≠ c := fun y => by
            rw [y, hC] at q
            cases q
          exact (upd_ne y).trans (un.tups b xs ((offC_ne y).trans q))
        · have y : b ≠ c := fun y => by
            rw [y, hC] at q
            cases q
          exact (upd_ne y).trans (un.frzs b ob _ ((offC_ne y).trans q))
        · have y : b ≠ c := fun y => by
            rw [y, hC] at q
            cases q
          obtain ⟨more, m⟩ := un.tbls b ps ((offC_ne y).trans q)
          exact ⟨more, (upd_ne y).trans m⟩
/-- f(e, ..), f a name that holds a lambda -/
def tCallG (P : Program) (w : World) (K : PySem.W.Frag) (mg : Str → Option Value) (base : Heap) (k i : Nat) (t : TA) : TE := fun σ H Q => ∃ (f : Addr) (F : NF) (b : Expr), σ[i]? = some (some (.ref f)) ∧ H f = some (LamO f F b) ∧ t σ H fun vs H1 => H1 f = some (LamO f F b) ∧ Gives P w K mg base k f vs H1 Q
section
variable {X : Cx} {k i : Nat} {x : Str} {p pos : Pos} {e : Expr} {es : List Expr} {t : TA}
theorem pe_callG {P : Program} {w : World} {K : PySem.W.Frag} {mg : Str → Option Value} {base : Heap} (eX : X.prog = P ∧ X.w = w ∧ X.K = K ∧ X.mg = mg ∧ X.base = base) (hr : Room k X.A) (hN : X.N[i]? = some x) (hv : Vis X.env.scope x) (ha : PA X (e :: es) t) (hd : (x == ("__debug__" : Str)) = false := by decide) (hcd : (x == ("__classdict__" : Str)) = false := by decide)
    (he : starEach (e :: es) X.env = (false, eval e X.env) :: starEach es X.env := by rfl) (hpl : (backTo pos (starEach es X.env)).any (·.1) = false := by rfl) : PE X (.Call (.Name x p) (e :: es) [] pos) (tCallG P w K mg base k i t) := by
  obtain ⟨rfl, rfl, rfl, rfl, rfl⟩ := eX
  refine ⟨fun pins s σ H Q I h => ?_⟩
  obtain ⟨f, F, b, hs, hf, ht⟩ := h
  refine wpAny_Call_Name_kw (thn ((pe_var (pos := p) hN hv hd hcd).run pins s σ H (fun v H1 => v = .ref f ∧ H1 = H) I ⟨.ref f, hs, rfl, rfl⟩) fun u s1 ⟨v, H1, I1, r1, q1⟩ => ?_)
  obtain ⟨ev, eH⟩ := q1
  subst ev
  rw [eH] at I1
  obtain rfl : u = Value.ref f := r1
  have fnAt : ∀ {H' : Hp} {s' : Shared}, Inv X pins σ H' s' → H' f = some (LamO f F b) → PySem.W.FnAt f s'.heap := fun J q => by
    obtain ⟨pm, ctv, g⟩ := lamO_get J.hok q
    exact ⟨_, _, _, _, g⟩
  refine PySem.W.callWith_F (first := []) (fnAt I1 hf) (thn (ha.run pos pins s1 σ H _ I1 ht) fun us s2 ⟨vs, H2, I2, r, h1, g⟩ => ⟨fnAt I2 h1, ?_⟩) he hpl
  show wpAny _ _ (call (.ref f) us) _ _ _
  refine wpAny_call (codeAny_mono (g X.A X.stack s2 us hr I2.env0 r) fun r s3 hq => ?_)
  cases r with
  | error e => exact (show False from hq).elim
  | ok fl =>
    cases fl with
    | next => exact False.elim hq
    | brk => exact False.elim hq
    | cont => exact False.elim hq
    | ret z => exact I2.after hq
end

end R
namespace R
open PySem PySem.Spec PyProof.Rows L2
/-! ## the smallest sets of bars -/
open LamX hiding takes0
open NdefX
def natL (idx : List Nat) : List Int := idx.map fun j => ((j : Nat) : Int)
theorem natL_V (idx : List Nat) : (idx.map fun j => V.int (j : Nat)) = (natL idx).map V.int := by
  unfold natL
  rw [List.map_map]
  rfl
theorem cbAll_up' : ∀ n ∈ List.range 7, ∀ r ∈ List.range (n + 1), (cbAll n r).length ≤ 20 ∧ ∀ idx ∈ cbAll n r, idx.Pairwise (· < ·) := by decide +kernel
theorem cbAll_up {n r : Nat} (hn : n ≤ 6) (hr : r ≤ n) : (cbAll n r).length ≤ 20 ∧ ∀ idx ∈ cbAll n r, idx.Pairwise (· < ·) := cbAll_up' n (List.mem_range.mpr (by omega)) r (List.mem_range.mpr (by omega))
/-- what the lambda at f tells of each choice -/
def SuitsAt (P : Program) (w : World) (K : PySem.W.Frag) (mg : Str → Option Value) (base : Heap) (f : Addr) (n : Nat) (suits : List Nat → Bool) (H0 : Hp) : Prop :=
  ∀ (idx : List Nat) (T : Addr) (H' : Hp), Same H0 H' → H' T = some (.tup ((natL idx).map V.int)) → idx.length ≤ n → (∀ j ∈ idx, j < n) → idx.Pairwise (· < ·) → Gives P w K mg base 14 f [.ref T] H' fun v H2 => v = .bl (suits idx) ∧ Same H' H2
/-- the first rows of one length that suit -/
def Smallest (n : Nat) (suits : List Nat → Bool) (rows : List (List Nat)) : Prop :=
  (∃ r, r ≤ n ∧ rows = (cbAll n r).filter suits ∧ rows ≠ [] ∧ ∀ q, q < r → (cbAll n q).filter suits = []) ∨ (rows = [] ∧ ∀ q, q ≤ n → (cbAll n q).filter suits = [])
theorem Smallest.one {n : Nat} {suits : List Nat → Bool} {a b : List (List Nat)} (h : Smallest n suits a) (k : Smallest n suits b) : a = b := by
  rcases h with ⟨r, r1, rfl, r2, r3⟩ | ⟨rfl, h⟩
  · rcases k with ⟨q, q1, rfl, q2, q3⟩ | ⟨rfl, k⟩
    · rcases Nat.lt_trichotomy r q with z | z | z
      · exact absurd (q3 r z) r2
      · rw [z]
      · exact absurd (r3 q z) q2
    · exact absurd (k r r1) r2
  · rcases k with ⟨q, q1, rfl, q2, q3⟩ | ⟨rfl, k⟩
    · exact absurd (h q q1) q2
    · rfl
theorem okTupsS (LL : List (List Int)) : SeqAt.shaped (.list (LL.map fun l => PyData.tuple (l.map PyData.int))) = true := (okTups LL).shaped (by decide)
theorem eqvTupsNil (LL : List (List Int)) : PyData.eqv (.list (LL.map fun l => PyData.tuple (l.map PyData.int))) (.list []) = decide (LL = []) := by
  cases LL with
  | nil => rfl
  | cons a r =>
    rw [decide_eq_false (List.cons_ne_nil _ _)]
    show PyData.eqv (.list (_ :: _)) (.list []) = false
    rw [PyData.eqv, PyData.eqvAll] <;> first | rfl | simp
theorem Gives.mono {P : Program} {w : World} {K : PySem.W.Frag} {mg : Str → Option Value} {base : Heap} {k : Nat} {f : Addr} {vs : List V} {H : Hp} {Q Q' : VK} (h : Gives P w K mg base k f vs H Q) (m : ∀ v H2, Q v H2 → Q' v H2) : Gives P w K mg base k f vs H Q' := fun A outer s us hr e0 r =>
  codeAny_mono (h A outer s us hr e0 r) fun rs s2 hq => by
    cases rs with
    | error e => exact (show False from hq).elim
    | ok fl =>
      cases fl with
      | next => exact False.elim hq
      | brk => exact False.elim hq
      | cont => exact False.elim hq
      | ret y =>
        obtain ⟨z, H2, os, bare, un, hok, rz, q⟩ := hq
        exact ⟨z, H2, os, bare, un, hok, rz, m z H2 q⟩
theorem walk_comb {n r : Nat} : Walk (ItC n r) (cbAll n r).length (fun _ => True) (fun i H v H' => ∃ (T : Addr) (idx : List Nat), v = .ref T ∧ H T = none ∧ H' = upd H T (.tup (idx.map fun j => V.int (j : Nat))) ∧ (cbAll n r)[i]? = some idx) :=
  ⟨fun _ _ hi _ => hi, fun _ _ => Nat.le_refl _, fun _ _ _ _ _ _ y => y⟩
def sp_p_smallest_sets (P : Program) (w : World) (K : PySem.W.Frag) (mg : Str → Option Value) (base : Heap) (C : Addr) : Sp := fun vs H Q _ => ∃ (p : Addr) (v : V) (t : Addr) (bs : List Bar) (f : Addr) (F : NF) (b : Expr) (suits : List Nat → Bool), vs = [.ref p, .ref f] ∧ SvAt K C H p v t bs ∧
  H f = some (LamO f F b) ∧ SuitsAt P w K mg base f bs.length suits H ∧ ∀ (D : Addr) (rows : List (List Nat)) (H' : Hp), Same H H' → TupsAt K H' D (rows.map natL) → Smallest bs.length suits rows → Q (.ref D) H'
section
variable {P : Program} {w : World} {K : PySem.W.Frag} {mg : Str → Option Value} {base : Heap}
theorem ok_p_smallest_sets (T : Txt K mg) : FnOk P w K mg base CX0 16 T.f_p_smallest_sets T.fd_p_smallest_sets ["sieve", "suits"] (sp_p_smallest_sets P w K mg base T.C) := by
  refine T.F_p_smallest_sets.ok sc_p_smallest_sets (fun vs H Q E h => ?_) (fun cdv A outer s H vs Q E hr h => ?_)
  · obtain ⟨p, v, t, bs, f, F, b, suits, rfl, _⟩ := h
    rfl
  · obtain ⟨p, v, t, bs, f, F, b, suits, rfl, S, hf, st, q⟩ := h
    refine ⟨_, (pss_cons (ps_for PassesOwn.never rfl (pi_range1 (by rfl) T.z_range (pa_cons (pe_op op_add (pe_callB call_len_seq (by rfl) T.z_len (by decide +kernel) (pa_cons (pe_prop (pv 0) T.cl T.pp_bars (ok_m_Sieve_bars T) (hr.mono (by decide)) T.b_m_Sieve_bars .nil pass0 (by rfl)) pa_nil)) pe_int) pa_nil)) (pg_name (i := 2) sc_p_smallest_sets.nd rfl (by first | exact .inl rfl | exact .inr rfl)) (pss_cons (ps_setLc (i := 3) (own := [("indexes", 4)]) rfl sc_p_smallest_sets.nd rfl rfl (sw_true rfl rfl rfl (by decide +kernel)) (pi_comb rfl (by rfl) T.g_combinations (pa_cons (pe_rangeO (by rfl) T.z_range (pe_callB (r := rLenK K) call_len_seq (by rfl) T.z_len (by decide +kernel) (pa_cons (pe_prop (pv 0) T.cl T.pp_bars (ok_m_Sieve_bars T) (hr.mono (by decide)) T.b_m_Sieve_bars .nil pass0 (by rfl)) pa_nil))) (pa_cons (pv 2) pa_nil))) (blkOk_by (N := ["sieve", "suits", "many", "found", "indexes"]) (sc := defScope s_p_smallest_sets) (by decide +kernel)) (fun _ _ _ _ _ => (pg_name (i := 4) sc_p_smallest_sets.nd rfl (by first | exact .inl rfl | exact .inr rfl))) (fun _ _ _ _ _ => (pts_one (pt_val (pe_callG (P := P) (w := w) (K := K) (mg := mg) (base := base) (i := 1) (k := 14) ⟨rfl, rfl, rfl, rfl, rfl⟩ (hr.mono (by decide)) rfl (by first | exact .inl rfl | exact .inr rfl | exact .inr (.inl rfl)) (pa_cons (pv 4) pa_nil))))) (fun _ _ _ _ _ => (pv 4)))
      (pss_one (ps_if (pt_cmpR (op_neD hr.units) (pv 3) (pe_lst pa_nil) (nomark _)) (pss_one (ps_ret (pv 3))) pss_nil))))
      (pss_one (ps_ret (pe_lst pa_nil)))), ?_⟩
    obtain ⟨ba, xs, rfl, tb, nb, hb⟩ := S.bars.ex
    have six := S.ok.six
    refine ⟨_, rfl, p, _, _, rfl, S.ob.choose_spec, p, _, t, bs, rfl, S, ba, _, rfl, .inr tb, ?_⟩
    rw [nb]
    refine ⟨_, _, rfl, rfl, (bs.length : Int) + 1, rfl, by omega, by omega, ?_⟩
    rw [show ((bs.length : Int) + 1).toNat = bs.length + 1 by omega]
    refine for_range (lo := 0) (n := bs.length + 1) (fun k σ Hk => ∃ x2 x3 x4 : Option V, σ = [some (.ref p), some (.ref f), x2, x3, x4] ∧ Same H Hk ∧ ∀ r, r < k → (cbAll bs.length r).filter suits = [])
      ⟨none, none, none, rfl, Same.refl _, fun r h => absurd h (Nat.not_lt_zero _)⟩ ?_ ?_
    · rintro k σ Hk hk ⟨x2, x3, x4, rfl, sk, none_⟩
      rw [Int.zero_add]
      have Sk := S.stay sk
      refine ⟨_, rfl, p, _, _, rfl, Sk.ob.choose_spec, p, _, t, bs, rfl, Sk, ba, _, rfl, .inr (Same.seqTT sk tb), ?_⟩
      rw [nb]
      refine ⟨_, rfl, fun rg nrg => ⟨_, rfl, rg, bs.length, k, rfl, upd_same, six, by omega, fun F0 nF => ?_⟩⟩
      have srg := same_upd nrg (o := RngO rg (bs.length : Nat))
      generalize upd Hk rg (RngO rg (bs.length : Nat)) = H1 at srg nF
      have s1 := sk.trans srg
      obtain ⟨cl, cu⟩ := cbAll_up six (show k ≤ bs.length by omega)
      refine lc_it (walk_comb (n := bs.length) (r := k)) (fun i Hi => (∃ ts : List Addr, Hi F0 = some (.lst (ts.map V.ref)) ∧ ts.length = (((cbAll bs.length k).take i).filter suits).length ∧ ∀ (j : Nat) t l, ts[j]? = some t → ((((cbAll bs.length k).take i).filter suits).map natL)[j]? = some l → SqT K Hi t (l.map V.int)) ∧ Same H1 Hi)
        ⟨⟨[], upd_same, rfl, fun j t l h => by simp at h⟩, same_upd nF⟩ (fun _ _ _ _ => trivial) ?_ ?_
      · rintro i x Hi H' hi ⟨⟨ts, eF, lt, at_⟩, si⟩ ⟨T0, idx, rfl, nT, rfl, hx⟩
        rw [natL_V]
        have sT := same_upd nT (o := .tup ((natL idx).map V.int))
        have eT := upd_same (H := Hi) (a := T0) (o := .tup ((natL idx).map V.int))
        generalize upd Hi T0 (.tup ((natL idx).map V.int)) = H2 at sT eT
        have s2 := (s1.trans si).trans sT
        have mem := List.mem_of_getElem? hx
        obtain ⟨il, ij⟩ := cbAll_in six (show k ≤ bs.length by omega) mem
        refine ⟨rfl, f, F, b, rfl, s2 _ _ hf, _, rfl, s2 _ _ hf, ?_⟩
        refine (st idx T0 H2 s2 eT (by omega) ij (cu idx mem)).mono fun v H3 ⟨ev, s3⟩ => ?_
        subst ev
        refine ⟨_, rfl, ?_⟩
        have e3 := s3 _ _ (sT _ _ eF)
        have fl : (((cbAll bs.length k).take i).filter suits).length ≤ 20 := by
          refine Nat.le_trans (List.length_filter_le _ _) ?_
          rw [List.length_take]
          omega
        refine ite2 (fun es => ?_) (fun es => ?_)
        · refine ⟨_, rfl, _, e3, ?_, ?_⟩
          · rw [List.length_map, lt]
            exact sizeLt (by omega)
          · have up := lstTups (K := K) (zs := ts.map V.ref ++ [V.ref T0]) e3
            have A := TupsAt.add (K := K) (H := upd H3 F0 (.lst (ts.map V.ref ++ [V.ref T0]))) (D := F0) (t := T0) (ts := ts) (LL := (((cbAll bs.length k).take i).filter suits).map natL) (l := natL idx) upd_same (by rw [List.length_map]; exact lt) (fun j t l h1 h2 => up _ _ (Same.seqTT (sT.trans s3) (at_ j t l h1 h2))) (up _ _ (tupOf (s3 _ _ eT)))
            have er : ((cbAll bs.length k).take (i + 1)).filter suits = ((cbAll bs.length k).take i).filter suits ++ [idx] := by
              rw [takeSucc hx, List.filter_append, show List.filter suits [idx] = [idx] from List.filter_cons_of_pos es]
            rw [er]
            obtain ⟨us, u1, u2, u3⟩ := A.ex
            rw [List.length_append, List.length_map] at u2
            refine ⟨⟨us, u1, by rw [List.length_append]; exact u2, fun j t l h1 h2 => u3 j t l h1 ?_⟩, samePut ((si.trans sT).trans s3) nF⟩
            rw [List.map_append] at h2
            exact h2
        · have er : ((cbAll bs.length k).take (i + 1)).filter suits = ((cbAll bs.length k).take i).filter suits := by
            rw [takeSucc hx, List.filter_append, show List.filter suits [idx] = [] from List.filter_cons_of_neg es, List.append_nil]
          rw [er]
          exact ⟨⟨ts, e3, lt, fun j t l h1 h2 => Same.seqTT (sT.trans s3) (at_ j t l h1 h2)⟩, (si.trans sT).trans s3⟩
      · rintro Hi ⟨⟨ts, eF, lt, at_⟩, si⟩
        rw [List.take_length] at lt at_
        have TA : TupsAt K Hi F0 (((cbAll bs.length k).filter suits).map natL) := ⟨ts, eF, by rw [List.length_map]; exact lt, at_⟩
        have s2 := s1.trans si
        refine ⟨_, rfl, Nat.zero_le _, fun e0 ne0 => ?_⟩
        have s3 := same_upd ne0 (o := .lst [])
        refine ⟨_, _, (TA.stay s3).dp, .lst (lstOf upd_same) .nil, okTupsS _, by decide, _, rfl, ?_⟩
        rw [eqvTupsNil]
        refine ite2 (fun e => ?_) (fun e => ?_)
        · refine ⟨_, rfl, q F0 _ _ (s2.trans s3) (TA.stay s3) (.inl ⟨k, by omega, rfl, fun z => ?_, none_⟩)⟩
          rw [z] at e
          cases e
        · refine ⟨_, _, _, rfl, s2.trans s3, fun r hr2 => ?_⟩
          by_cases z : r = k
          · rw [z]
            by_cases y : (cbAll bs.length k).filter suits = []
            · exact y
            · exact absurd (show (!decide (((cbAll bs.length k).filter suits).map natL = [])) = true by rw [decide_eq_false (fun w => y (List.map_eq_nil_iff.mp w))]; rfl) e
          · exact none_ r (by omega)
    · rintro σ Hk ⟨x2, x3, x4, rfl, sk, none_⟩
      refine ⟨Nat.zero_le _, fun D nD => ?_⟩
      exact q D [] _ (sk.trans (same_upd nD)) (TupsAt.nil upd_same) (.inr ⟨rfl, fun r h => none_ r (by omega)⟩)
end

end R
namespace R
open PySem PySem.Spec PyProof.Rows L2
/-! ## sorted of tuples of ints -/
open LamX hiding takes0
open NdefX
/-! ## sorted(xs), xs a list of tuples of ints: none is empty, or the first one is -/
def IsTi (h : Heap) (v : Value) (ns : List Int) : Prop := ∃ (a : Addr) (o : Obj) (items : Array Value) (n : Nat), v = .ref a ∧ h.get? a = some o ∧ o.cls = .type "tuple" ∧ o.data = .seq items n ∧ IntsAre items.toList ns
section
variable {prog : Program} {w : World} {A : Around} {s : Shared} {E : Value → Shared → Prop}
theorem ti_lt {v u : Value} {ns ms : List Int} {Q : Bool → Shared → Prop} (hu : A.units < cLine) (hv : IsTi s.heap v ns) (hw : IsTi s.heap u ms) (h : Q (HT.lexLt ns ms) s) : wpAny (model prog w) A (PyProof.Rows.keyLt' oneType' v u) Q E s := by
  obtain ⟨a, o, items, n, rfl, ga, ca, da, ia⟩ := hv
  obtain ⟨b, o2, items2, n2, rfl, gb, cb, db, ib⟩ := hw
  rw [keyLt'_oneType, oneLt'_eq]
  simp only [if_true]
  refine wpAny_bind (wpAny_cRoomFor hu ?_)
  obtain ⟨cls, dd, data, sl⟩ := o
  obtain ⟨cls2, dd2, data2, sl2⟩ := o2
  simp only at ca da cb db
  subst ca da cb db
  have tv : PySem.W.Looks (model prog w) s.heap (typeOf (.ref a)) (.type "tuple") := (PySem.W.Looks.ld ga).andThen .now
  have sp : PySem.W.Looks (model prog w) s.heap (specialOf (.ref a) "__lt__") (some (.builtin "tuple.__lt__")) := tv.andThen (PySem.W.Looks.of_pure PySem.F.slot_tuple_lt.lookup)
  have cl : wpAny (model prog w) A (call (.builtin "tuple.__lt__") [.ref a, .ref b]) (fun v s' => v = .bool (HT.lexLt ns ms) ∧ s' = s) E s := by
    have iv : PySem.W.Looks (model prog w) s.heap (isInstance (.ref a) (.type "tuple")) true := tv.andThen (PySem.W.Looks.of_pure sub_tuple_tuple)
    refine wpAny_call (codeAny_call_builtin PySem.F.slot_tuple_lt.plain PySem.F.entry_tuple_lt (@PySem.W.check_slot (model prog w) _ _ _ "tuple.__lt__" "tuple" "__lt__" (.ref a) [.ref b] [] _ (by decide +kernel) (by decide +kernel) iv (PySem.F.args_tuple_lt_2 _ _) ?_))
    refine wpAny_mono (HT.tuple_lt_ints a b items items2 n n2 dd dd2 sl sl2 ns ms ia ib prog w _ (wants (fun v s' => v = .bool (HT.lexLt ns ms) ∧ s' = s) E) s ⟨ga, gb, ⟨rfl, rfl⟩⟩) (fun fin s' q => ?_) fun _ _ z => z
    cases fin with
    | done f => exact q
    | again c => exact q
  refine wpAny_bind (NtL.csib (E := E) sp (PySem.F.slot_tuple_lt.bind _) (wpAny_mono cl (fun v s' ⟨e1, e2⟩ => ?_) fun _ _ z => z))
  subst e1 e2
  exact wpAny_truthy_bool h
theorem ti_firsts {M : Model} : ∀ (vs : List Value) {Q : List (Option Value) → Shared → Prop}, (∀ v ∈ vs, ∃ ns, IsTi s.heap v ns) → (∀ fs, (∀ v0 r, vs = v0 :: r → IsTi s.heap v0 [] → ∃ fr, fs = Option.none :: fr) → Q fs s) → wpAny M A (vs.mapM PyProof.Rows.firstOfTuple') Q E s
  | [], _, _, h => by rw [List.mapM_nil]; exact wpAny_pure (h [] fun _ _ z => nomatch z)
  | v :: vs, Q, t, h => by
    obtain ⟨ns, a, o, items, n, rfl, ho, hc, hd, ia⟩ := t v List.mem_cons_self
    rw [List.mapM_cons]
    refine wpAny_bind ?_
    rw [PySem.W.kas_first_eq]
    refine wpAny_bind (PySem.W.Looks.here (show PySem.W.Looks M s.heap (typeOf (.ref a)) o.cls from (PySem.W.Looks.ld ho).andThen .now) ?_)
    rw [hc, if_neg (by first | decide | simp)]
    refine wpAny_bind (listItems_at ho hd (wpAny_pure ?_))
    refine wpAny_bind (ti_firsts vs (fun v hv => t v (List.mem_cons_of_mem _ hv)) fun fs _ => wpAny_pure (h _ fun v0 r e z => ?_))
    obtain ⟨rfl, rfl⟩ := List.cons.inj e
    obtain ⟨a2, o2, items2, n2, e2, ho2, _, hd2, ia2⟩ := z
    cases e2
    rw [ho] at ho2
    cases ho2
    rw [hd] at hd2
    cases hd2
    have e0 : items.toList = [] := by
      cases q : items.toList with
      | nil => rfl
      | cons x y =>
        rw [q] at ia2
        cases ia2
    have : items[0]? = Option.none := by
      rw [← Array.getElem?_toList, e0]
      rfl
    exact ⟨fs, by rw [this]⟩
theorem ti_kind {M : Model} {vs : List Value} {Q : SortKind → Shared → Prop} (t : ∀ v ∈ vs, ∃ ns, IsTi s.heap v ns) {v0 : Value} {r : List Value} (e : vs = v0 :: r) (z : IsTi s.heap v0 []) (h : Q oneType' s) : wpAny M A (PyProof.Rows.keyKind' vs.toArray) Q E s := by
  rw [kat_kind_eq, List.mapM_toArray, map_eq_pure_bind]
  refine wpAny_bind (wpAny_bind (ti_firsts vs t fun fs hf => wpAny_pure ?_))
  obtain ⟨fr, rfl⟩ := hf v0 r e z
  have hall : (((Option.none : Option Value) :: fr).toArray.all fun x => x.isSome) = false := by simp
  rw [hall, if_neg (by decide)]
  have h0 : ((((Option.none : Option Value) :: fr).toArray[0]?).bind id).isSome = false := by simp
  rw [h0]
  simp only [Bool.false_eq_true, if_false]
  rw [oneTypeOnly'_eq, List.mapM_toArray, map_eq_pure_bind]
  refine wpAny_bind (wpAny_bind (wpAny_bind (PySem.W.kas_mapM (r := Value.type "tuple") _ (fun v hv Q' hq => ?_) (wpAny_pure ?_))))
  · obtain ⟨ns, a, o, items, n, rfl, ho, hc, _⟩ := t v hv
    refine PySem.W.Looks.here (show PySem.W.Looks M s.heap (typeOf (.ref a)) o.cls from (PySem.W.Looks.ld ho).andThen .now) ?_
    rw [hc]
    exact hq
  · subst e
    have hall2 : ((List.map (fun _ => Value.type "tuple") (v0 :: r)).toArray.all fun x => x == Value.type "tuple") = true := by
      simp only [List.all_toArray, List.all_map, List.all_eq_true]
      intro _ _
      rfl
    have h0 : (List.map (fun _ => Value.type "tuple") (v0 :: r)).toArray[0]? = some (Value.type "tuple") := by simp
    rw [h0]
    simp only [hall2, if_true]
    exact wpAny_pure (wpAny_pure h)
theorem ti_lex {fin : Bool} {Q : Bool → Shared → Prop} : ∀ (xs ys : List Value) (ns ms : List Int) (i : Nat), IntsAre xs ns → IntsAre ys ms → fin = decide (xs.length < ys.length) → Q (HT.lexLt ns ms) s → PySem.W.KatLex prog w A true fin Q (xs.zip ys) i s
  | [], ys, ns, ms, i, hx, hy, hf, h => by
    cases hx
    have e : fin = HT.lexLt [] ms := by
      cases hy with
      | nil => rw [hf]; rfl
      | cons n t r => rw [hf]; exact decide_eq_true (Nat.succ_pos _)
    refine PySem.W.kat_nil ?_
    rw [e]
    exact h
  | x :: xs, [], ns, ms, i, hx, hy, hf, h => by
    cases hy
    cases hx with
    | cons n t r =>
      refine PySem.W.kat_nil ?_
      rw [hf]
      exact h
  | x :: xs, y :: ys, ns, ms, i, hx, hy, hf, h => by
    cases hx with
    | cons n t r =>
      cases hy with
      | cons m u q =>
        rw [HT.lexLt_cons] at h
        refine PySem.W.kat_cons (SeqAt.EqAt.int_int n t m u prog w _ _ ?_)
        refine PySem.W.kat_go (fun e1 => ?_) (fun e1 => ?_)
        · have ex : n = m := by simpa using e1
          rw [if_pos ex] at h
          refine PySem.W.kat_yes (ti_lex xs ys _ _ (i + 1) r q ?_ h)
          rw [hf]
          exact decide_eq_decide.mpr (by rw [List.length_cons, List.length_cons]; omega)
        · have ex : ¬ n = m := by simpa using e1
          rw [if_neg ex] at h
          cases i with
          | zero => exact PySem.W.kat_no (oneLt_int h)
          | succ i => exact PySem.W.kat_no (PySem.W.kat_one _ _ (PyProof.Rows.lt_int h))
theorem ti_ltA {v u : Value} {ns ms : List Int} {Q : Bool → Shared → Prop} (hv : IsTi s.heap v ns) (hw : IsTi s.heap u ms) (h : Q (HT.lexLt ns ms) s) : wpAny (model prog w) A (PyProof.Rows.keyLt' (tuples' true) v u) Q E s := by
  obtain ⟨a, o, items, n, rfl, ga, ca, da, ia⟩ := hv
  obtain ⟨b, o2, items2, n2, rfl, gb, cb, db, ib⟩ := hw
  exact PySem.W.kat_lt ga da gb db (ti_lex _ _ _ _ 0 ia ib (by rw [Array.length_toList, Array.length_toList]) h)
theorem IsTi.keeps {h h' : Heap} {v : Value} {ns : List Int} (t : IsTi h v ns) (k : ∀ b o, h.get? b = some o → o.cls = .type "tuple" → h'.get? b = some o) : IsTi h' v ns :=
  let ⟨a, o, items, n, e, ho, hc, hd, ia⟩ := t
  ⟨a, o, items, n, e, k a o ho hc, hc, hd, ia⟩
/-- nothing is empty, or the first one is -/
def FitT (vs : List Value) (k : Value → List Int) : Prop := (∀ v ∈ vs, k v ≠ []) ∨ ∃ v0 r, vs = v0 :: r ∧ k v0 = []
theorem ti_sortable {a : Addr} {vs : List Value} {k : Value → List Int} (hu : A.units < cLine) (h2 : 0 < vs.length) (hv : ∀ v ∈ vs, IsTi s.heap v (k v)) (ft : FitT vs k) (ha : ∀ o, s.heap.get? a = some o → o.cls ≠ .type "tuple") : SrtO.SortableO prog w A s a vs fun v u => HT.lexLt (k v) (k u) := by
  intro h' keep
  have hv' : ∀ v ∈ vs, IsTi h' v (k v) := fun v hm => (hv v hm).keeps fun b o e c => keep b o (fun z => by subst z; exact ha o e c) e
  rcases ft with ft | ⟨v0, r, e, z⟩
  · refine ⟨tuples' true, fun Q E hq => ?_, fun p q hp hq => ti_ltA (s := { s with heap := h' }) (Q := fun r s' => s' = { s with heap := h' } ∧ r = HT.lexLt (k p.1) (k q.1)) (E := fun _ _ => False) (hv' p.1 hp) (hv' q.1 hq) ⟨rfl, rfl⟩⟩
    have go : ∀ us : List Value, (∀ v ∈ us, v ∈ vs) → ∃ fs : List Value, PySem.W.KatTups h' us fs ∧ fs.length = us.length ∧ ∀ f ∈ fs, ∃ n t, f = .int n t := by
      intro us
      induction us with
      | nil => exact fun _ => ⟨[], PySem.W.KatTups.nil, rfl, fun f hf => (nomatch hf)⟩
      | cons v us ih =>
        intro sub
        obtain ⟨fs, t, l, g⟩ := ih fun x hx => sub x (List.mem_cons_of_mem _ hx)
        have ne := ft v (sub v List.mem_cons_self)
        obtain ⟨b, o, items, n, rfl, ho, hc, hd, ia⟩ := hv' v (sub v List.mem_cons_self)
        generalize k (.ref b) = ks at ne ia
        generalize hi : items.toList = il at ia
        cases ia with
        | nil => exact absurd rfl ne
        | cons m t' rr =>
          have h0 : items[0]? = some (.int m t') := by
            rw [← Array.getElem?_toList, hi]
            rfl
          refine ⟨.int m t' :: fs, PySem.W.KatTups.cons ho hc hd h0 t, congrArg (· + 1) l, fun f hf => ?_⟩
          rcases List.mem_cons.mp hf with rfl | hf
          · exact ⟨m, t', rfl⟩
          · exact g f hf
    obtain ⟨fs, t, l, g⟩ := go vs fun v hv => hv
    refine PySem.W.kat_kind (s := { s with heap := h' }) (T := .type "int") t (by omega) (fun f hm => ?_) (by rfl) ?_
    · obtain ⟨n, t, rfl⟩ := g f hm
      exact PySem.W.Looks.now
    · have e : (Value.type "int" != Value.type "tuple") = true := by first | decide +kernel | rfl | decide
      rw [e]
      exact hq
  · refine ⟨oneType', fun Q E hq => ti_kind (s := { s with heap := h' }) (fun v hm => ⟨_, hv' v hm⟩) e (by rw [← z]; exact hv' v0 (by rw [e]; exact List.mem_cons_self)) hq, fun p q hp hq => ?_⟩
    exact ti_lt (s := { s with heap := h' }) (Q := fun r s' => s' = { s with heap := h' } ∧ r = HT.lexLt (k p.1) (k q.1)) (E := fun _ _ => False) hu (hv' p.1 hp) (hv' q.1 hq) ⟨rfl, rfl⟩
end
theorem ints_one {vs : List Value} {ns ms : List Int} (a : IntsAre vs ns) : IntsAre vs ms → ns = ms := by
  induction a generalizing ms with
  | nil =>
    intro b
    cases b
    rfl
  | cons n t r ih =>
    intro b
    cases b with
    | cons _ _ q => rw [ih q]
theorem IsTi.one {h : Heap} {v : Value} {ns ms : List Int} (a : IsTi h v ns) (b : IsTi h v ms) : ns = ms := by
  obtain ⟨x, o, items, n, rfl, ho, hc, hd, ia⟩ := a
  obtain ⟨y, o2, items2, n2, e, ho2, hc2, hd2, ib⟩ := b
  cases e
  rw [ho] at ho2
  cases ho2
  rw [hd] at hd2
  cases hd2
  exact ints_one ia ib
theorem in2u {k : Nat} {A : Around} (hr : Room k A) : A.in1.in1.units < cLine := by
  have := hr.un
  show A.units + 1 + 1 < cLine
  omega
def rSortedTL (K : PySem.W.Frag) : List V → Hp → VK → Prop := fun vs H Q => ∃ (a : Addr) (LL : List (List Int)), vs = [V.ref a] ∧ TupsAt K H a LL ∧ ((∀ l ∈ LL, l ≠ []) ∨ ∃ r, LL = [] :: r) ∧
  ∀ (p : Addr) (MM : List (List Int)) (H' : Hp), Same H H' → H p = Option.none → TupsAt K H' p MM → MM.Perm LL → MM.Pairwise (fun x y => HT.lexLt y x = false) → Q (.ref p) H'
theorem cr_sortedTL {X : Cx} (hu : X.A.in1.in1.units < cLine) : CallR X (.builtin "sorted") (rSortedTL X.K) := by
  intro pins s σ H vs us Q I r h
  obtain ⟨a, LL, rfl, ta, fit, q⟩ := h
  obtain ⟨ts, e, n, f⟩ := ta.ex
  obtain ⟨its, rv, hl, hz⟩ := I.list (lstOf (K := X.K) e)
  obtain ⟨u, rfl, ru⟩ := vals1 r
  obtain rfl : u = Value.ref a := ru
  obtain rfl := nts_of rv
  have ti : ∀ (j : Nat) t l, ts[j]? = some t → LL[j]? = some l → IsTi s.heap (.ref t) l := fun j t l h1 h2 => by
    obtain ⟨its, r2, ⟨o, ho, hc, m, hd⟩, _⟩ := I.tuple (f j t l h1 h2)
    exact ⟨t, o, _, m, rfl, ho, hc, hd, intsAre_of r2⟩
  obtain ⟨k, hk⟩ : ∃ k : Value → List Int, ∀ v l, IsTi s.heap v l → k v = l := by
    refine ⟨fun v => @dite _ (∃ l, IsTi s.heap v l) (Classical.propDecidable _) (fun h => Classical.choose h) (fun _ => []), fun v l t => ?_⟩
    have h : ∃ l, IsTi s.heap v l := ⟨l, t⟩
    show @dite _ (∃ l, IsTi s.heap v l) (Classical.propDecidable _) (fun h => Classical.choose h) (fun _ => []) = l
    rw [dif_pos h]
    exact (Classical.choose_spec h).one t
  have at_ : ∀ t ∈ ts, ∃ (j : Nat) (l : List Int), ts[j]? = some t ∧ LL[j]? = some l := fun t ht => by
    obtain ⟨j, hj⟩ := List.mem_iff_getElem?.mp ht
    have := (List.getElem?_eq_some_iff.mp hj).1
    exact ⟨j, _, hj, List.getElem?_eq_getElem (by omega)⟩
  have km : (ts.map Value.ref).map k = LL := by
    refine List.ext_getElem? fun j => ?_
    rw [List.map_map, List.getElem?_map]
    cases hj : ts[j]? with
    | none =>
      rw [List.getElem?_eq_none_iff] at hj
      rw [List.getElem?_eq_none (by omega)]
      rfl
    | some t =>
      have h1 := (List.getElem?_eq_some_iff.mp hj).1
      have he : LL[j]? = some LL[j] := List.getElem?_eq_getElem (by omega)
      rw [he]
      exact congrArg some (hk _ _ (ti j t _ hj he))
  have hv : ∀ v ∈ ts.map Value.ref, IsTi s.heap v (k v) := fun v hv => by
    obtain ⟨t, ht, rfl⟩ := List.mem_map.mp hv
    obtain ⟨j, l, h1, h2⟩ := at_ t ht
    rw [hk _ _ (ti j t l h1 h2)]
    exact ti j t l h1 h2
  have ft : FitT (ts.map Value.ref) k := by
    rcases fit with fit | ⟨r0, e0⟩
    · exact .inl fun v hv => fit _ (by rw [← km]; exact List.mem_map.mpr ⟨v, hv, rfl⟩)
    · refine .inr ?_
      rw [e0] at km
      cases ts with
      | nil => cases km
      | cons t0 tr => exact ⟨_, _, rfl, (List.cons.inj km).1⟩
  refine SrtO.sorted_ord (NtL.swo_lexL k) hl.isList (by rw [← rv.length]; exact hz) (fun h2 h₁ b hb kk => ?_) fun out o1 o2 => ?_
  · refine ti_sortable (s := { s with heap := h₁ }) hu (by omega) (fun v hm => (hv v hm).keeps fun c o g _ => (kk c o g).2) ft fun o g => ?_
    have g' : some o = some (seqObj "list" (ts.map Value.ref).toArray 0) := g.symm.trans hb
    cases g'
    intro c
    exact absurd (Value.type.inj c) (by decide)
  · have re : ∀ v ∈ out, ∃ t, t ∈ ts ∧ v = Value.ref t := fun v hv => by
      obtain ⟨t, ht, e⟩ := List.mem_map.mp (o2.perm.mem_iff.mp hv)
      exact ⟨t, ht, e.symm⟩
    have eo : out = (out.map adO).map Value.ref := by
      rw [List.map_map]
      refine (List.map_id out).symm.trans (List.map_congr_left fun v hv => ?_)
      obtain ⟨t, _, rfl⟩ := re v hv
      rfl
    obtain ⟨c, hn⟩ := sortedAll_at s.heap (ts.map Value.ref) out.toArray
    have ho : out.length = ts.length := by rw [o2.perm.length_eq, List.length_map]
    have I1 := I.laid (o := .lst ((out.map adO).map V.ref)) (t' := s.toks) (fun b o g => sortedAll_old g) (Nat.le_succ _) (a := s.heap.objs.size + 1) (h' := sortedAll s.heap (ts.map Value.ref) out.toArray)
      ⟨by rw [List.length_map, List.length_map, ho, ← List.length_map (f := V.ref)]; exact hz, out, c, by rw [eo]; simp only [ad_map]; exact of_nts _, hn⟩
    have hf : H (s.heap.objs.size + 1) = Option.none := I.hok.fresh (Nat.le_succ _)
    refine ⟨.ref (s.heap.objs.size + 1), _, I1, rfl, q _ (out.map k) _ (same_upd hf) hf ⟨out.map adO, upd_same, by rw [List.length_map, List.length_map], fun i t l h1 h2 => ?_⟩ (by rw [← km]; exact o2.perm.map k) (SrtO.srtd_map o1)⟩
    rw [List.getElem?_map] at h1 h2
    cases ei : out[i]? with
    | none =>
      rw [ei] at h1
      cases h1
    | some v =>
      rw [ei] at h1 h2
      obtain ⟨t', ht', rfl⟩ := re v (List.mem_of_getElem? ei)
      cases h1
      cases h2
      obtain ⟨j, l, g1, g2⟩ := at_ t' ht'
      rw [hk _ _ (ti j t' l g1 g2)]
      exact Same.seqTT (same_upd hf) (f j t' l g1 g2)

end R
namespace R
open PySem PySem.Spec PyProof.Rows L2
/-! ## some bars of a sieve, a cell dropped -/
open LamX hiding takes0
open NdefX
theorem natL_in {idx : List Nat} {n : Nat} (h : ∀ j ∈ idx, j < n) : ∀ j ∈ natL idx, 0 ≤ j ∧ j < (n : Int) := fun j hj => by
  obtain ⟨k, hk, rfl⟩ := List.mem_map.mp hj
  have := h k hk
  omega
theorem natL_len (idx : List Nat) : (natL idx).length = idx.length := List.length_map ..
/-- some bars, in order -/
theorem pick_sub {bs : List Bar} {idx : List Nat} (up : idx.Pairwise (· < ·)) (lt : ∀ j ∈ idx, j < bs.length) : (pickB bs (natL idx)).Sublist bs := by
  have go : ∀ (k : Nat) (idx : List Nat), idx.Pairwise (· < ·) → (∀ j ∈ idx, k ≤ j ∧ j < bs.length) → (pickB bs (natL idx)).Sublist (bs.drop k) := by
    intro k idx
    induction idx generalizing k with
    | nil =>
      intro _ _
      exact List.nil_sublist _
    | cons i r ih =>
      intro up lt
      obtain ⟨u1, u2⟩ := List.pairwise_cons.mp up
      obtain ⟨i0, i1⟩ := lt i List.mem_cons_self
      have rest := ih (i + 1) u2 fun j hj => ⟨u1 j hj, (lt j (List.mem_cons_of_mem _ hj)).2⟩
      have hb : bs[i]? = some bs[i] := List.getElem?_eq_getElem i1
      have e : pickB bs (natL (i :: r)) = bs[i] :: pickB bs (natL r) := by
        show bs.getD ((i : Int)).toNat (1, []) :: _ = _
        rw [Int.toNat_natCast, List.getD_eq_getElem?_getD, hb]
        rfl
      rw [e]
      have d : (bs[i] :: bs.drop (i + 1)).Sublist (bs.drop k) := by
        rw [← List.drop_eq_getElem_cons i1, show bs.drop i = (bs.drop k).drop (i - k) by rw [List.drop_drop, show k + (i - k) = i by omega]]
        exact List.drop_sublist _ _
      exact (List.Sublist.cons₂ _ rest).trans d
  have := go 0 idx up fun j hj => ⟨Nat.zero_le _, lt j hj⟩
  rwa [List.drop_zero] at this
theorem SvOk.sub {cs bs : List Bar} (h : cs.Sublist bs) : ∀ pre : List Bar, SvOk (pre ++ bs) → SvOk (pre ++ cs) := by
  induction h with
  | slnil => exact fun _ S => S
  | cons a _ ih => exact fun pre S => ih pre (SvOk.less (xs := pre) (b := a) (by rw [List.append_assoc]; exact S))
  | cons_cons a _ ih =>
    intro pre S
    have := ih (pre ++ [a]) (by rw [List.append_assoc]; exact S)
    rw [List.append_assoc] at this
    exact this
theorem pick_ok {bs : List Bar} {idx : List Nat} (S : SvOk bs) (up : idx.Pairwise (· < ·)) (lt : ∀ j ∈ idx, j < bs.length) : SvOk (pickB bs (natL idx)) := SvOk.sub (pick_sub up lt) [] S
/-- what is told of a sieve stays where nothing is told of a cell any more -/
theorem off_keep {H : Hp} {c : Addr} {o : Obj} (e : H c = some (CellO c o)) {b : Addr} {u : HO} (q : H b = some u) (n : ∀ φ, u ≠ .ext φ) : R.offC H c b = some u := by
  refine (offC_ne fun z => ?_).trans q
  rw [z, e] at q
  exact n _ (Option.some.inj q).symm
theorem off_tups {K : PySem.W.Frag} {H : Hp} {c : Addr} {o : Obj} (e : H c = some (CellO c o)) : TupsStay K H (R.offC H c) := fun a xs q => by
  rcases q with (q | ⟨ob, q⟩) | q
  · exact .inl (.inl (off_keep e q (by intro φ z; cases z)))
  · exact .inl (.inr ⟨ob, off_keep e q (by intro φ z; cases z)⟩)
  · exact .inr q
/-- what is told of a sieve stays where nothing is told of a cell any more -/
theorem SvAt.offC {K : PySem.W.Frag} {C c : Addr} {H : Hp} {o : Obj} {p : Addr} {v : V} {t : Addr} {bs : List Bar} (h : SvAt K C H p v t bs) (e : H c = some (CellO c o)) : SvAt K C (R.offC H c) p v t bs := by
  obtain ⟨dx, eo⟩ := h.ob
  exact ⟨⟨dx, off_keep e eo (by intro φ z; cases z)⟩, h.bars.stay (off_tups e), off_tups e _ _ h.cls, h.ok⟩
theorem TupsAt.offC {K : PySem.W.Frag} {c D : Addr} {H : Hp} {o : Obj} {LL : List (List Int)} (h : TupsAt K H D LL) (e : H c = some (CellO c o)) : TupsAt K (R.offC H c) D LL :=
  let ⟨ts, e1, n, f⟩ := h.ex
  ⟨ts, off_keep e e1 (by intro φ z; cases z), n, fun i t l a b => off_tups e _ _ (f i t l a b)⟩
theorem same_off {H H' : Hp} {c : Addr} {o : Obj} (n : H c = none) (s : Same (withC H c o) H') : Same H (R.offC H' c) := fun b u q => (offC_ne (ne_of_none q n)).trans (s b u ((upd_ne (ne_of_none q n)).trans q))
theorem same_on {H H2 : Hp} {c : Addr} {o : Obj} (e : H c = some (CellO c o)) (s : Same (R.offC H c) H2) : Same H (withC H2 c o) := fun b u q => by
  by_cases z : b = c
  · rw [z] at q ⊢
    rw [e] at q
    rw [← q]
    exact upd_same
  · exact (upd_ne z).trans (s b u ((offC_ne z).trans q))

end R
namespace R
open PySem PySem.Spec PyProof.Rows L2
/-! ## smallest_kept -/
open LamX hiding takes0
open NdefX
def sp_p_smallest_kept {K : PySem.W.Frag} {mg : Str → Option Value} (T : Txt K mg) : Sp := fun vs H Q _ => ∃ (p : Addr) (v : V) (t : Addr) (bs : List Bar), vs = [.ref p] ∧ SvAt K T.C H p v t bs ∧ Tabs (tabs T) H ∧
  ∀ (D : Addr) (rows : List (List Nat)) (H' : Hp), StN H H' → Tabs (tabs T) H' → TupsAt K H' D (rows.map natL) → Smallest bs.length (fun idx => decide (shL (pickB bs (natL idx)) = shL bs)) rows → Q (.ref D) H'
section
variable {P : Program} {w : World} {K : PySem.W.Frag} {mg : Str → Option Value} {base : Heap}
theorem ok_p_smallest_kept (T : Txt K mg) (TB : Tbs base T) : FnOk P w K mg base CX0 18 T.f_p_smallest_kept T.fd_p_smallest_kept ["sieve"] (sp_p_smallest_kept T) := by
  refine okC T.F_p_smallest_kept T.cc_p_smallest_kept sc_p_smallest_kept (fun vs H Q E h => ?_) (fun A outer s H vs Q E hr h => ?_)
  · obtain ⟨p, v, t, bs, rfl, _⟩ := h
    rfl
  · obtain ⟨p, v, t, bs, rfl, S, tb, q⟩ := h
    refine ⟨_, (pss_one (ps_ret (pe_callC (i := 0) (ok_p_smallest_sets T) (hr.mono (by decide)) (by rfl) T.g_p_smallest_sets T.F_p_smallest_sets.kp T.b_p_smallest_sets rfl rfl rfl (pa_cons (pv 0) (pa_cons (pe_lamO TB.b_p_smallest_kept rfl (in_p_smallest_kept T) (one_p_smallest_kept T) rfl (ndef_free (fr := ["sieve"]) (by kernel_rfl))) pa_nil))))), ?_⟩
    refine ⟨_, rfl, tb, fun f c' H1 st1 tb1 nf ⟨e1, e2⟩ => ?_⟩
    refine ⟨_, rfl, fun c o u lk nc ru ho => ?_⟩
    obtain rfl : s.heap.objs.size + 1 = c := Option.some.inj lk
    have sC := same_upd nc (o := CellO (s.heap.objs.size + 1) o)
    have S1 := S.stn st1
    refine ⟨p, v, t, bs, f, _, _, fun idx => decide (shL (pickB bs (natL idx)) = shL bs), rfl, S1.stay sC, sC _ _ e1, fun idx T0 H' s' eT il ij up => ?_, fun D rows H' s' TA sm => ⟨s' _ _ upd_same, ?_⟩⟩
    · have hC := s' _ _ (upd_same (H := H1) (a := s.heap.objs.size + 1) (o := CellO (s.heap.objs.size + 1) o))
      refine lam_cell (N := ["indexes", "sieve"]) (ps := ["indexes"]) (x := "sieve") (v := .ref p) (u := u) (nscope_by (by kernel_rfl)) rfl (fun pm ctv us hl => match us, hl with | [_], _ => rfl) (s' _ _ (sC _ _ e1)) (s' _ _ (sC _ _ e2)) (ne_of_none e1 nc) (ne_of_none e2 nc) hC ho ru rfl fun A outer s hr => ⟨_, (pe_call (ok_p_is_enough T) (hr.mono (by decide)) (by rfl) T.g_p_is_enough T.F_p_is_enough.kp T.b_p_is_enough .nil pass0 (pa_cons (pv 1) (pa_cons (pv 0) pa_nil))), ?_⟩
      have So := ((S1.stay sC).stay s').offC hC
      have six := S.ok.six
      refine ⟨_, rfl, _, rfl, p, v, t, bs, T0, natL idx, rfl, So, .inr (off_tups hC _ _ (tupOf eT)), natL_in ij, by rw [natL_len]; omega, pick_ok S.ok up ij, fun H2 s2 => ⟨rfl, same_on hC s2⟩⟩
    · have sa := same_off nc s'
      exact q D rows _ (st1.trans (.of sa)) (tb1.ext sa) (TA.offC (s' _ _ upd_same)) sm
end

end R
namespace R
open PySem PySem.Spec PyProof.Rows L2
/-! ## smallest_barring -/
open LamX hiding takes0
open NdefX
def sp_p_smallest_barring {K : PySem.W.Frag} {mg : Str → Option Value} (T : Txt K mg) : Sp := fun vs H Q _ => ∃ (p : Addr) (v : V) (t : Addr) (bs : List Bar), vs = [.ref p] ∧ SvAt K T.C H p v t bs ∧ Tabs (tabs T) H ∧
  ∀ (D : Addr) (rows : List (List Nat)) (H' : Hp), StN H H' → Tabs (tabs T) H' → TupsAt K H' D (rows.map natL) → Smallest bs.length (fun idx => decide (cls (pickB bs (natL idx)) = [])) rows → Q (.ref D) H'
section
variable {P : Program} {w : World} {K : PySem.W.Frag} {mg : Str → Option Value} {base : Heap}
theorem ok_p_smallest_barring (T : Txt K mg) (TB : Tbs base T) : FnOk P w K mg base CX0 18 T.f_p_smallest_barring T.fd_p_smallest_barring ["sieve"] (sp_p_smallest_barring T) := by
  refine okC T.F_p_smallest_barring T.cc_p_smallest_barring sc_p_smallest_barring (fun vs H Q E h => ?_) (fun A outer s H vs Q E hr h => ?_)
  · obtain ⟨p, v, t, bs, rfl, _⟩ := h
    rfl
  · obtain ⟨p, v, t, bs, rfl, S, tb, q⟩ := h
    refine ⟨_, (pss_one (ps_ret (pe_callC (i := 0) (ok_p_smallest_sets T) (hr.mono (by decide)) (by rfl) T.g_p_smallest_sets T.F_p_smallest_sets.kp T.b_p_smallest_sets rfl rfl rfl (pa_cons (pv 0) (pa_cons (pe_lamO TB.b_p_smallest_barring rfl (in_p_smallest_barring T) (one_p_smallest_barring T) rfl (ndef_free (fr := ["sieve"]) (by kernel_rfl))) pa_nil))))), ?_⟩
    refine ⟨_, rfl, tb, fun f c' H1 st1 tb1 nf ⟨e1, e2⟩ => ?_⟩
    refine ⟨_, rfl, fun c o u lk nc ru ho => ?_⟩
    obtain rfl : s.heap.objs.size + 1 = c := Option.some.inj lk
    have sC := same_upd nc (o := CellO (s.heap.objs.size + 1) o)
    have S1 := S.stn st1
    refine ⟨p, v, t, bs, f, _, _, fun idx => decide (cls (pickB bs (natL idx)) = []), rfl, S1.stay sC, sC _ _ e1, fun idx T0 H' s' eT il ij up => ?_, fun D rows H' s' TA sm => ⟨s' _ _ upd_same, ?_⟩⟩
    · have hC := s' _ _ (upd_same (H := H1) (a := s.heap.objs.size + 1) (o := CellO (s.heap.objs.size + 1) o))
      refine lam_cell (N := ["indexes", "sieve"]) (ps := ["indexes"]) (x := "sieve") (v := .ref p) (u := u) (nscope_by (by kernel_rfl)) rfl (fun pm ctv us hl => match us, hl with | [_], _ => rfl) (s' _ _ (sC _ _ e1)) (s' _ _ (sC _ _ e2)) (ne_of_none e1 nc) (ne_of_none e2 nc) hC ho ru rfl fun A outer s hr => ⟨_, (pe_cmpR (op_eqD hr.units) (pe_prop (pe_call (ok_p_only T) (hr.mono (by decide)) (by rfl) T.g_p_only T.F_p_only.kp T.b_p_only .nil pass0 (pa_cons (pv 1) (pa_cons (pv 0) pa_nil))) T.cl T.pp_classes (ok_m_Sieve_classes T) (hr.mono (by decide)) T.b_m_Sieve_classes .nil pass0 (by rfl)) (pe_tup pa_nil) (nomark _)), ?_⟩
      have So := ((S1.stay sC).stay s').offC hC
      have six := S.ok.six
      refine ⟨_, rfl, _, rfl, p, v, t, bs, T0, natL idx, rfl, So, .inr (off_tups hC _ _ (tupOf eT)), natL_in ij, by rw [natL_len]; omega, pick_ok S.ok up ij, fun p' v' t' H2 s2 A2 => ⟨p', _, _, rfl, A2.ob.choose_spec, p', v', t', _, rfl, A2, Nat.zero_le _, fun e0 ne0 => ?_⟩⟩
      have s3 := same_upd ne0 (o := .tup [])
      refine ⟨_, _, dpTup (l := cls (pickB bs (natL idx))) (A2.stay s3).cls, .tup (tupOf upd_same) .nil, (okD.tup (okInts _)).shaped (by decide), by decide, ?_⟩
      rw [eqvNilT]
      exact ⟨rfl, same_on hC (s2.trans s3)⟩
    · have sa := same_off nc s'
      exact q D rows _ (st1.trans (.of sa)) (tb1.ext sa) (TA.offC (s' _ _ upd_same)) sm
end

end R
namespace R
open PySem PySem.Spec PyProof.Rows L2
/-! ## the longest of several -/
open LamX hiding takes0
open NdefX
theorem lex2 {a b c d : Int} : HT.lexLt [a, b] [c, d] = false → c < a ∨ (c = a ∧ d ≤ b) := by
  intro h
  rw [HT.lexLt_cons] at h
  by_cases e : a = c
  · rw [if_pos e, HT.lexLt_cons] at h
    by_cases e2 : b = d
    · exact .inr ⟨e.symm, by omega⟩
    · rw [if_neg e2] at h
      have := of_decide_eq_false h
      exact .inr ⟨e.symm, by omega⟩
  · rw [if_neg e] at h
    have := of_decide_eq_false h
    omega
def sp_p_longest {K : PySem.W.Frag} {mg : Str → Option Value} (T : Txt K mg) : Sp := fun vs H Q _ => ∃ (l : Addr) (xs : List V) (ps : List (Int × Int)), vs = [.ref l] ∧ SqL K H l xs ∧ PrAt H xs ps ∧ ps ≠ [] ∧ Tabs (tabs T) H ∧
  ∀ (p : Addr) (m : Int × Int) (H' : Hp), StN H H' → Tabs (tabs T) H' → m ∈ ps → (∀ q ∈ ps, q.1 < m.1 ∨ (q.1 = m.1 ∧ m.2 ≤ q.2)) → H' p = some (.tup [.int m.1, .int m.2]) → Q (.ref p) H'
section
variable {P : Program} {w : World} {K : PySem.W.Frag} {mg : Str → Option Value} {base : Heap}
theorem ok_p_longest (T : Txt K mg) (TB : Tbs base T) : FnOk P w K mg base CX0 3 T.f_p_longest T.fd_p_longest ["found"] (sp_p_longest T) := by
  refine okC T.F_p_longest T.cc_p_longest sc_p_longest (fun vs H Q E h => ?_) (fun A outer s H vs Q E hr h => ?_)
  · obtain ⟨l, xs, ps, rfl, _⟩ := h
    rfl
  · obtain ⟨l, xs, ps, rfl, hl, pr, ne, tb, q⟩ := h
    refine ⟨_, (pss_one (ps_ret (pe_callBK (cr_minK (k := 1) rfl (hr.mono (by decide))) (by rfl) T.z_min (by decide +kernel) (pa_cons (pv 0) pa_nil) (pk_cons (pe_lamO TB.b_p_longest rfl (in_p_longest T) (one_p_longest T) rfl (ndef_free (fr := []) (by kernel_rfl))) pk_nil)))), ?_⟩
    refine ⟨_, rfl, tb, fun f c' H1 st1 tb1 nf ⟨e1, e2⟩ => ?_⟩
    have pr1 : PrAt H1 xs ps := pr.stay fun t u e => st1.tup e
    have hlen := pr.len
    refine ⟨l, f, xs, fun i => [-(ps.getD i (0, 0)).1, (ps.getD i (0, 0)).2], rfl, rfl, st1.seq hl, fun z => ?_, fun x hx => ?_, fun i x H2 hx s2 => ?_, fun i x H2 hx best s2 => ?_⟩
    · rw [z] at hlen
      exact ne (List.length_eq_zero_iff.mp hlen.symm)
    · obtain ⟨t, e, _⟩ := pr1.all x hx
      exact ⟨t, e⟩
    · have il := (List.getElem?_eq_some_iff.mp hx).1
      obtain ⟨m, em⟩ : ∃ m, ps[i]? = some m := ⟨_, List.getElem?_eq_getElem (by omega)⟩
      obtain ⟨t, rfl, et⟩ := pr1.at_ i x m hx em
      refine lam_gives (N := ["one"]) (ps := ["one"]) (nscope_by (by kernel_rfl)) rfl (fun pm ctv us hl => match us, hl with | [_], _ => rfl) (s2 _ _ e1) (s2 _ _ e2) rfl fun A outer s hr => ⟨_, (pe_tup (pa_cons (pe_un un_neg (pe_ix ix_tup (pv 0) pe_int (fun _ _ => rfl))) (pa_cons (pe_ix ix_tup (pv 0) pe_int (fun _ _ => rfl)) pa_nil))), ?_⟩
      have eg : ps.getD i (0, 0) = m := by rw [List.getD_eq_getElem?_getD, em]; rfl
      refine ⟨_, rfl, t, _, _, _, rfl, rfl, tupOf (s2 _ _ et), atI_nat (j := 0) rfl, _, rfl, ?_⟩
      refine ⟨_, rfl, t, _, _, _, rfl, rfl, tupOf (s2 _ _ et), atI_nat (j := 1) rfl, sizeOk (by show (2 : Nat) ≤ 100000; decide), fun p np => ⟨p, rfl, same_upd np, ?_⟩⟩
      show _ = some (HO.tup (List.map V.int [-(ps.getD i (0, 0)).1, (ps.getD i (0, 0)).2]))
      rw [eg]
      exact upd_same
    · have il := (List.getElem?_eq_some_iff.mp hx).1
      obtain ⟨m, em⟩ : ∃ m, ps[i]? = some m := ⟨_, List.getElem?_eq_getElem (by omega)⟩
      obtain ⟨t, rfl, et⟩ := pr1.at_ i x m hx em
      have eg : ps.getD i (0, 0) = m := by rw [List.getD_eq_getElem?_getD, em]; rfl
      refine q t m H2 (st1.trans (.of s2)) (tb1.ext s2) (List.mem_of_getElem? em) (fun y hy => ?_) (s2 _ _ et)
      obtain ⟨j, jl, ej⟩ := List.mem_iff_getElem.mp hy
      have ey : ps.getD j (0, 0) = y := by rw [List.getD_eq_getElem?_getD, List.getElem?_eq_getElem jl, ej]; rfl
      have b := best j (by omega)
      simp only [eg, ey] at b
      have := lex2 b
      omega
end

end R
namespace R
open PySem PySem.Spec PyProof.Rows L2
/-! ## sorted(d.items()): keys and values ints -/
def rItemsK : V → List V → Hp → VK → Prop := fun x xs H Q => ∃ (a : Addr) (kvs : List (L2.Key × V)), x = .ref a ∧ xs = [] ∧ H a = some (.dK kvs) ∧ ∀ p, H p = none → Q (.ref p) (upd H p (DX.itemsO p a))
theorem mt_itemsK {X : Cx} : MtR X "dict.items" rItemsK := by
  intro pn st σ H x xs v us Q I rx rxs h
  obtain ⟨a, kvs, rfl, rfl, ha, q⟩ := h
  cases rx
  cases rxs
  obtain ⟨_, hs, vs, _, o, es, ep, ho, hx, hdat, _⟩ := dk_of I.hok ha
  refine DT.callItems (es := es) (ep := ep) hs ⟨o, ho, hx, hdat⟩ ?_
  have hf : H st.heap.objs.size = none := I.hok.fresh (Nat.le_refl _)
  have J := I.laid (t' := st.toks) (h' := st.heap.push { cls := .type "dict_items", data := .fields #[.ref a] }) (fun b u e => Heap.get?_push_of_some _ e) (Nat.le_refl _) (DX.itemsO_ok (Heap.get?_push_size _ rfl))
  exact ⟨.ref st.heap.objs.size, upd H st.heap.objs.size (DX.itemsO st.heap.objs.size a), J, rfl, q _ hf⟩
abbrev entI (e : Int × Int) : L2.Key × V := (Sum.inl e.1, V.int e.2)
/-- keys and values ints: a new list of new pairs, by the keys -/
def rSortDI : List V → Hp → VK → Prop := fun vs H Q => ∃ (p a : Addr) (ks : List (Int × Int)), vs = [.ref p] ∧ H p = some (DX.itemsO p a) ∧ H a = some (.dK (ks.map entI)) ∧
  ∀ (H' : Hp) (l : Addr) (ps : List (Addr × Int × Int)), Same H H' → H l = none → (ps.map (·.2)).Perm ks → SrtO.Srtd SrtO.lexB (ps.map (·.2)) → H' l = some (.lst (ps.map fun z => V.ref z.1)) →
    (∀ z ∈ ps, H' z.1 = some (.tup [.int z.2.1, .int z.2.2])) → Q (.ref l) H'
theorem pairs_get {prog : Program} {w : World} {K : Type} [DecidableEq K] {knd : PySem.KeyKind prog w K} : ∀ {es : List DictEntry} {kvs : List (K × Value)}, Pairs knd es kvs → es.length = kvs.length ∧ ∀ {j : Nat} {e : DictEntry}, es[j]? = some e → ∃ kv, kvs[j]? = some kv ∧ knd.is kv.1 e.key = true ∧ e.val = kv.2
  | _, _, .nil => ⟨rfl, fun h => by simp at h⟩
  | _, _, .cons a b r => ⟨congrArg (· + 1) (pairs_get r).1, fun {j e} h => by
    cases j with
    | zero =>
      cases Option.some.inj h
      exact ⟨_, rfl, a, b⟩
    | succ j => exact (pairs_get r).2 h⟩
def keyAt (as : List Addr) (ks : List (Int × Int)) : Value → Int × Int
  | .ref b => ks.getD (as.idxOf b) (0, 0)
  | _ => (0, 0)
theorem keyAt_is {as : List Addr} {ks : List (Int × Int)} (nd : as.Nodup) {j : Nat} {b : Addr} {e : Int × Int} (hj : as[j]? = some b) (he : ks[j]? = some e) : keyAt as ks (.ref b) = e := by
  obtain ⟨h1, h2⟩ := List.getElem?_eq_some_iff.mp hj
  have e1 : as.idxOf b = j := by
    rw [← h2]
    exact List.Nodup.idxOf_getElem nd j h1
  show ks.getD (as.idxOf b) (0, 0) = e
  rw [e1, List.getD_eq_getElem?_getD, he]
  rfl
theorem keyAt_map {as : List Addr} {ks : List (Int × Int)} (nd : as.Nodup) (hl : as.length = ks.length) : (as.map Value.ref).map (keyAt as ks) = ks := by
  refine List.ext_getElem? fun j => ?_
  rw [List.map_map, List.getElem?_map]
  cases hj : as[j]? with
  | none =>
    rw [List.getElem?_eq_none_iff] at hj
    rw [List.getElem?_eq_none (by omega)]
    rfl
  | some b =>
    have h1 := (List.getElem?_eq_some_iff.mp hj).1
    have he : ks[j]? = some ks[j] := List.getElem?_eq_getElem (by omega)
    rw [he]
    show some (keyAt as ks (.ref b)) = _
    rw [keyAt_is nd hj he]
theorem cr_sortedDI {X : Cx} (hc : X.calm = true) : CallR X (.builtin "sorted") rSortDI := by
  intro pn st σ H xs us Q I r h
  obtain ⟨p, a, ks, rfl, hp, ha, q⟩ := h
  obtain rfl := Vals.ref1 r
  have view : st.heap.IsItemsView p a := (show ObjOk X.prog X.w H st.heap p (DX.itemsO p a) from I.hok p _ hp).1
  obtain ⟨z, hs, vs, rel, o, es, ep, ho, hx, hdat, _, prs, _⟩ := dk_of I.hok ha
  have l1 : (ks.map entI).length = vs.length := Paired.length rel
  rw [List.length_map] at l1 z
  have l2 : es.size = vs.length := by
    rw [← Array.length_toList]
    exact (pairs_get prs).1
  refine DT.sortedI (es := es) (ep := ep) (I.ok.hd hc) view ⟨o, ho, hx, hdat⟩ (by omega) fun h' tk as hk hlt hl hG => ?_
  have lak : as.length = ks.length := by omega
  have nd : as.Nodup := hG.rise.imp fun h => Nat.ne_of_lt h
  -- the pairs
  have pr : ∀ (j : Nat) (b : Addr), as[j]? = some b → ∃ e : Int × Int, ks[j]? = some e ∧ ∃ t u, h'.get? b = some { cls := .type "tuple", data := .seq #[Value.int e.1 t, Value.int e.2 u] } := by
    intro j b hj
    obtain ⟨en, he, hg⟩ := hG.pairs j b hj
    rw [← Array.getElem?_toList] at he
    obtain ⟨kv, h1, h2, h3⟩ := (pairs_get prs).2 he
    obtain ⟨e0, g1, g2, g3⟩ := DX.pget rel h1
    rw [List.getElem?_map] at g1
    obtain ⟨e, ke, rfl⟩ := Option.map_eq_some_iff.mp g1
    refine ⟨e, ke, ?_⟩
    rw [← g2] at h2
    obtain ⟨t, ht⟩ := (show ∃ t, en.key = Value.int e.1 t from relV_key (k := Sum.inl e.1) h2)
    obtain ⟨u, hu⟩ := (show ∃ u, kv.2 = Value.int e.2 u from g3)
    rw [hg, ht, h3, hu]
    exact ⟨t, u, rfl⟩
  have hob : (h'.push { cls := .type "list", data := .seq (as.map Value.ref).toArray }).get? h'.objs.size = some (seqObj "list" (as.map Value.ref).toArray 0) := Heap.get?_push_size _ rfl
  have ka : ∀ b ob, h'.get? b = some ob → (h'.push { cls := .type "list", data := .seq (as.map Value.ref).toArray }).get? b = some ob := fun b ob e => Heap.get?_push_of_some _ e
  have ne0 : ∀ b ob, h'.get? b = some ob → b ≠ h'.objs.size := fun b ob e => Nat.ne_of_lt (Heap.lt_size e)
  generalize hh2 : h'.push { cls := .type "list", data := .seq (as.map Value.ref).toArray } = h2 at hob ka ⊢
  have ip : ∀ v ∈ as.map Value.ref, Srt.IsPair h2 v (keyAt as ks v).1 (keyAt as ks v).2 := fun v hv => by
    obtain ⟨b, hb, rfl⟩ := List.mem_map.mp hv
    obtain ⟨j, hj⟩ := List.mem_iff_getElem?.mp hb
    obtain ⟨e, ke, t, u, g⟩ := pr j b hj
    rw [keyAt_is nd hj ke]
    exact ⟨b, _, t, u, 0, rfl, ka _ _ g, rfl, rfl⟩
  refine wpAny_call_entry PyProof.Rows.slot_list_sort ⟨_, hob, rfl⟩ PyProof.Rows.entry_list_sort
    (SrtO.list_sort_ord (s := { st with heap := h2, toks := tk }) (SrtO.swo_lex (keyAt as ks)) hob (by rw [List.length_map]; omega) (fun h2' => SrtO.pairs_sortableO (by omega) ip fun ob e => ?_) fun out o1 o2 => ⟨.none, rfl, ?_⟩) (PyProof.Rows.args_list_sort _)
  · have e' : some ob = some (seqObj "list" (as.map Value.ref).toArray 0) := e.symm.trans hob
    cases e'
    intro c
    exact absurd (Value.type.inj c) (by decide)
  · show EP X pn σ Q (.ref h'.objs.size) { st with heap := sortedHeap h2 h'.objs.size (as.map Value.ref) out.toArray, toks := tk }
    have re : ∀ v ∈ out, ∃ b, v = Value.ref b := fun v hv => by
      obtain ⟨b, _, e⟩ := List.mem_map.mp (o2.perm.mem_iff.mp hv)
      exact ⟨b, e.symm⟩
    have kF : ∀ b ob, b ≠ h'.objs.size → h2.get? b = some ob → (sortedHeap h2 h'.objs.size (as.map Value.ref) out.toArray).get? b = some ob := fun b ob hb e => (PyProof.Rows.sortedHeap_old hb (Heap.lt_size e)).trans e
    have kS : ∀ b ob, st.heap.get? b = some ob → (sortedHeap h2 h'.objs.size (as.map Value.ref) out.toArray).get? b = some ob := fun b ob e => kF b ob (ne0 _ _ (hk b ob e)) (ka _ _ (hk b ob e))
    obtain ⟨eF, heF⟩ := PyProof.Rows.sortedHeap_at (vs := as.map Value.ref) (out := out.toArray) hob
    have I1 : Inv X pn σ H { st with heap := sortedHeap h2 h'.objs.size (as.map Value.ref) out.toArray, toks := tk } := I.kept (t' := tk) kS
    have hn0 : H h'.objs.size = none := I.hok.fresh (Nat.le_of_lt hlt)
    have eo : out = (out.map adO).map Value.ref := ref_map re
    have pm : (out.map (keyAt as ks)).Perm ks := by
      have e := o2.perm.map (keyAt as ks)
      rw [keyAt_map nd lak] at e
      exact e
    have so : SrtO.Srtd SrtO.lexB (out.map (keyAt as ks)) := SrtO.srtd_map o1
    have lo : out.length = ks.length := by rw [← pm.length_eq, List.length_map]
    let ps : List (Addr × Int × Int) := out.map fun v => (adO v, keyAt as ks v)
    have p1 : ps.map (fun z => V.ref z.1) = (out.map adO).map V.ref := by
      rw [List.map_map, List.map_map]
      rfl
    have p2 : ps.map (·.2) = out.map (keyAt as ks) := by
      rw [List.map_map]
      rfl
    have rv : Vals (ps.map fun z => V.ref z.1) out.toArray.toList := by
      rw [p1]
      have z := of_nts (out.map adO)
      rw [← eo] at z
      exact z
    have I2 : Inv X pn σ (upd H h'.objs.size (.lst (ps.map fun z => V.ref z.1))) { st with heap := sortedHeap h2 h'.objs.size (as.map Value.ref) out.toArray, toks := tk } :=
      I1.take (h' := sortedHeap h2 h'.objs.size (as.map Value.ref) out.toArray) (t' := tk) (fun b ob _ e => e) (I.fpOk (Nat.le_of_lt hlt) hn0) ⟨by rw [List.length_map, List.length_map]; omega, out.toArray.toList, eF, rv, heF⟩
    obtain ⟨H2, I3, g, qt⟩ := DX.takeT (P := fun b vs => ∃ (j : Nat) (e : Int × Int), as[j]? = some b ∧ ks[j]? = some e ∧ vs = [.int e.1, .int e.2]) I as _ I2 nd fun b hb => by
      obtain ⟨j, hj⟩ := List.mem_iff_getElem?.mp hb
      obtain ⟨e, ke, t, u, hg⟩ := pr j b hj
      have hbl : st.heap.objs.size ≤ b := Nat.le_of_lt (hG.above b hb)
      refine ⟨hbl, ?_, [.int e.1, .int e.2], ⟨j, e, hj, ke, rfl⟩, fun H3 => ⟨(by show 2 ≤ sizeLine; decide), [Value.int e.1 t, Value.int e.2 u], .cons ⟨t, rfl⟩ (.cons ⟨u, rfl⟩ .nil), ⟨_, kF _ _ (ne0 _ _ hg) (ka _ _ hg), rfl, 0, rfl⟩⟩⟩
      rw [upd_ne (ne0 _ _ hg)]
      exact I.hok.fresh hbl
    refine ⟨.ref h'.objs.size, H2, I3, rfl, q H2 h'.objs.size ps (fun b ob e => g b ob (by rw [upd_ne (ne_of_none e hn0)]; exact e)) hn0 (by rw [p2]; exact pm) (by rw [p2]; exact so) (g _ _ upd_same) fun z' hz' => ?_⟩
    obtain ⟨v, hv, rfl⟩ := List.mem_map.mp hz'
    obtain ⟨b, hb, e⟩ := List.mem_map.mp (o2.perm.mem_iff.mp hv)
    subst e
    obtain ⟨vs', ⟨j, e, hj, ke, ev⟩, hH⟩ := qt b hb
    show H2 b = some (.tup [.int (keyAt as ks (.ref b)).1, .int (keyAt as ks (.ref b)).2])
    rw [keyAt_is nd hj ke, hH, ev]

end R
namespace R
open PySem PySem.Spec PyProof.Rows L2
/-! ## sorted of a dict whose keys are ints, any number of them -/
def rSortedDN : List V → Hp → VK → Prop := fun vs H Q => ∃ (a : Addr) (kvs : List (L2.Key × V)) (ks : List Int), vs = [.ref a] ∧ H a = some (.dK kvs) ∧ kvs.map (·.1) = ks.map Sum.inl ∧
  ∀ (ys : List Int) (p : Addr), ys.Perm ks → ys.Pairwise (· ≤ ·) → H p = none → Q (.ref p) (upd H p (.lst (ys.map V.int)))
theorem cr_sortedDN {X : Cx} (hc : X.calm = true) : CallR X (.builtin "sorted") rSortedDN := by
  intro pn st σ H xs us Q I r q
  obtain ⟨a, kvs, ks, rfl, hd, hks, q⟩ := q
  rw [Vals.ref1 r]
  obtain ⟨z, lo, vs, rel, dd⟩ := dk_rd I.hok (.inl hd)
  obtain ⟨ep, hat⟩ := dd.dictAt
  have hkeys : vs.map (·.1) = ks.map Sum.inl := rel.keys.symm.trans hks
  have hl : vs.length = ks.length := by
    have e := congrArg List.length hkeys
    rw [List.length_map, List.length_map] at e
    exact e
  have few : vs.length ≤ sizeLine := by
    have e := Paired.length rel
    omega
  refine Calls.call_function_entry PyProof.Rows.kind_sorted PyProof.Rows.plain_sorted PyProof.Rows.entry_sorted (PyProof.Rows.args_sorted1 _) ?_
  unfold Builtin.«sorted»
  refine wpAny_bind (m := checkCount "sorted" 1 1 _) (wpAny_pure ?_)
  refine wpAny_bind (PySem.W.kdu_collect (A := X.A.in1) (PySem.W.kdl_dict (knd := mixKind X.prog X.w) (kvs := vs) (ep := ep) lo) (I.ok.hd hc) hat few fun h1 tk acc kp got => ?_)
  have la : acc.toList.length = ks.length := by
    rw [Array.length_toList, got.1, hl]
  have iv : IntsAre acc.toList ks := ints_each la fun j v e => by
    obtain ⟨k, x, e1, e2⟩ := got.2 j v (by rw [← Array.getElem?_toList]; exact e)
    have e3 : (vs.map (·.1))[j]? = some k := by
      rw [List.getElem?_map, e1]
      rfl
    rw [hkeys, List.getElem?_map] at e3
    obtain ⟨y, ey, rfl⟩ := Option.map_eq_some_iff.mp e3
    rcases keyIs_shape (show keyIs (Sum.inl y) v = true from e2) with ⟨i, t, ek, ev⟩ | ⟨z, t, ek, ev⟩
    · cases ek
      exact ⟨y, t, ey, ev⟩
    · cases ek
  have I1 : Inv X pn σ H { st with heap := h1, toks := tk } := I.kept kp
  have small : acc.toList.length ≤ sizeLine := by omega
  refine wpAny_bind (wpAny_newList ?_ small)
  have at1 : (h1.push (seqObj "list" acc.toList.toArray 0)).get? h1.objs.size = some (seqObj "list" acc.toList.toArray 0) := Heap.get?_push_size _ rfl
  show wpAny _ _ _ _ _ { st with heap := h1.push (seqObj "list" acc.toList.toArray 0), toks := tk }
  refine wpAny_bind (wpAny_holding (wpAny_call_entry PyProof.Rows.slot_list_sort ⟨_, at1, rfl⟩ PyProof.Rows.entry_list_sort
    (SrtO.list_sort_ord (s := { st with heap := h1.push (seqObj "list" acc.toList.toArray 0), toks := tk }) SrtO.swo_int at1 small (fun two => SrtO.ints_sortable iv two) fun out o1 o2 => ⟨_, rfl, ?_⟩) (PyProof.Rows.args_list_sort _)))
  obtain ⟨c, hcc⟩ := PyProof.Rows.sortedHeap_at (vs := acc.toList) (out := out.toArray) at1
  obtain ⟨k1, k2, k3⟩ := SrtO.ints_out iv o1 o2
  have hlen : ((out.map SrtO.iv).map V.int).length ≤ sizeLine := by
    rw [List.length_map, k2.length_eq]
    omega
  refine wpAny_pure ⟨_, rfl, .ref h1.objs.size, upd H h1.objs.size (.lst ((out.map SrtO.iv).map V.int)), I1.laid (t' := tk) (fun b u e => ?_) (Nat.le_refl _)
    (show ObjOk X.prog X.w _ _ _ (.lst _) from ⟨hlen, out.toArray.toList, c, vals_of_ints k1, by rw [Array.toArray_toList]; exact hcc⟩), rfl, q _ _ k2 k3 (I1.hok.fresh (Nat.le_refl _))⟩
  have hb : b < h1.objs.size := Heap.lt_size e
  rw [PyProof.Rows.sortedHeap_old (Nat.ne_of_lt hb) (by rw [size_push']; exact Nat.lt_succ_of_lt hb)]
  exact Heap.get?_push_of_some _ e

end R
namespace R
open PySem PySem.Spec PyProof.Rows L2
/-! ## a dict that counts -/
structure Tally (kvs : List (L2.Key × V)) (S : List Int) : Prop where
  ex : ∃ ks : List Int, ks.Nodup ∧ (∀ k, k ∈ ks ↔ k ∈ S) ∧ kvs = ks.map fun k => ((Sum.inl k : L2.Key), V.int (S.count k : Nat))
theorem Tally.nil : Tally [] [] := ⟨[], List.nodup_nil, fun _ => Iff.rfl, rfl⟩
theorem talVal (S : List Int) (x : Int) : ∀ ks : List Int, valV (ks.map fun k => ((Sum.inl k : L2.Key), V.int (S.count k : Nat))) (Sum.inl x) = if x ∈ ks then some (V.int (S.count x : Nat)) else none
  | [] => rfl
  | k :: r => by
    by_cases e : k = x
    · subst e
      rw [List.map_cons, valV_pos rfl, if_pos List.mem_cons_self]
    · rw [List.map_cons, valV_neg (fun z => e (Sum.inl.inj z)), talVal S x r]
      by_cases m : x ∈ r
      · rw [if_pos m, if_pos (List.mem_cons_of_mem _ m)]
      · rw [if_neg m, if_neg (fun z => (List.mem_cons.mp z).elim (fun q => e q.symm) m)]
theorem Tally.val {kvs : List (L2.Key × V)} {S : List Int} (h : Tally kvs S) {x : Int} (m : x ∈ S) : valV kvs (Sum.inl x) = some (V.int (S.count x : Nat)) := by
  obtain ⟨ks, nd, mem, rfl⟩ := h.ex
  rw [talVal, if_pos ((mem x).mpr m)]
theorem Tally.get {kvs : List (L2.Key × V)} {S : List Int} (h : Tally kvs S) (x : Int) : (valV kvs (Sum.inl x)).getD (V.int 0) = V.int (S.count x : Nat) := by
  by_cases m : x ∈ S
  · rw [h.val m]
    rfl
  · obtain ⟨ks, nd, mem, rfl⟩ := h.ex
    rw [talVal, if_neg (fun z => m ((mem x).mp z)), List.count_eq_zero.mpr m]
    rfl
theorem countAdd (S : List Int) (x k : Int) : (S ++ [x]).count k = S.count k + if k = x then 1 else 0 := by
  rw [List.count_append]
  congr 1
  by_cases e : k = x
  · subst e
    rw [if_pos rfl]
    simp
  · rw [if_neg e]
    exact List.count_eq_zero.mpr fun z => e (List.mem_singleton.mp z)
theorem Tally.add {kvs : List (L2.Key × V)} {S : List Int} (h : Tally kvs S) (x : Int) : Tally (putK kvs (Sum.inl x) (V.int ((S.count x : Nat) + 1))) (S ++ [x]) := by
  obtain ⟨ks, nd, mem, rfl⟩ := h.ex
  have one : ∀ k, k ≠ x → (S ++ [x]).count k = S.count k := fun k e => by
    rw [countAdd, if_neg e]
    omega
  have two : ((((S ++ [x]).count x : Nat)) : Int) = (S.count x : Nat) + 1 := by
    rw [countAdd, if_pos rfl]
    omega
  by_cases m : x ∈ ks
  · refine ⟨ks, nd, fun k => ?_, ?_⟩
    · rw [List.mem_append, List.mem_singleton, mem k]
      exact ⟨.inl, fun z => z.elim id fun e => (mem k).mp (e ▸ m)⟩
    · unfold putK
      have hc : ((ks.map fun k => ((Sum.inl k : L2.Key), V.int (S.count k : Nat))).any fun kv => decide (kv.1 = Sum.inl x)) = true := List.any_eq_true.mpr ⟨_, List.mem_map.mpr ⟨x, m, rfl⟩, decide_eq_true rfl⟩
      rw [if_pos hc, List.map_map]
      refine List.map_congr_left fun k _ => ?_
      show (if (Sum.inl k : L2.Key) = Sum.inl x then ((Sum.inl k : L2.Key), V.int ((S.count x : Nat) + 1)) else ((Sum.inl k : L2.Key), V.int (S.count k : Nat))) = _
      by_cases e : k = x
      · subst e
        rw [if_pos rfl, two]
      · rw [if_neg (fun z => e (Sum.inl.inj z)), one k e]
  · refine ⟨ks ++ [x], List.nodup_append.mpr ⟨nd, by simp, fun a ha b hb z => m (by rw [← List.mem_singleton.mp hb, ← z]; exact ha)⟩, fun k => ?_, ?_⟩
    · rw [List.mem_append, List.mem_append, mem k]
    · unfold putK
      rw [if_neg, List.map_append, List.map_cons, List.map_nil, two]
      · congr 1
        refine List.map_congr_left fun k hk => ?_
        rw [one k fun e => m (e ▸ hk)]
      · intro q
        obtain ⟨kv, q1, q2⟩ := List.any_eq_true.mp q
        obtain ⟨k, hk, rfl⟩ := List.mem_map.mp q1
        exact m (Sum.inl.inj (of_decide_eq_true q2) ▸ hk)
theorem Tally.len {kvs : List (L2.Key × V)} {S : List Int} (h : Tally kvs S) : kvs.length ≤ S.length := by
  obtain ⟨ks, nd, mem, rfl⟩ := h.ex
  rw [List.length_map]
  exact nodup_len nd fun x hx => (mem x).mp hx
theorem upOf' {l : List Int} (up : l.Pairwise (· ≤ ·)) (nd : l.Nodup) : l.Pairwise (· < ·) := (List.pairwise_and_iff.mpr ⟨up, nd⟩).imp fun ⟨a, b⟩ => by omega
/-- the tally, in order -/
structure IsTal (S : List Int) (l : List (Int × Int)) : Prop where
  ex : ∃ ys : List Int, ys.Pairwise (· < ·) ∧ (∀ k, k ∈ ys ↔ k ∈ S) ∧ l = ys.map fun k => (k, ((S.count k : Nat) : Int))
theorem IsTal.one {S : List Int} {l k : List (Int × Int)} (a : IsTal S l) (b : IsTal S k) : l = k := by
  obtain ⟨ys, u, m, rfl⟩ := a.ex
  obtain ⟨zs, v, n, rfl⟩ := b.ex
  rw [sorted_unique u v fun k => (m k).trans (n k).symm]
theorem IsTal.of {kvs : List (L2.Key × V)} {S : List Int} (h : Tally kvs S) {ms : List (Int × Int)} {ks : List (Int × Int)} (e : kvs = ks.map entI) (pm : ms.Perm ks) (so : SrtO.Srtd SrtO.lexB ms) : IsTal S ms := by
  obtain ⟨qs, nd, mem, e2⟩ := h.ex
  have ek : ks = qs.map fun k => (k, ((S.count k : Nat) : Int)) := by
    have e3 : ks.map entI = (qs.map fun k => (k, ((S.count k : Nat) : Int))).map entI := by
      rw [← e, e2, List.map_map]
      rfl
    refine List.ext_getElem? fun i => ?_
    have e4 := congrArg (fun l => l[i]?) e3
    simp only [List.getElem?_map] at e4
    rw [List.getElem?_map]
    cases a : ks[i]? with
    | none =>
      rw [a] at e4
      cases b : qs[i]? with
      | none => rfl
      | some q =>
        rw [b] at e4
        cases e4
    | some x =>
      rw [a] at e4
      cases b : qs[i]? with
      | none =>
        rw [b] at e4
        cases e4
      | some q =>
        rw [b] at e4
        have e5 := Option.some.inj e4
        obtain ⟨x1, x2⟩ := x
        have e6 : (Sum.inl x1 : L2.Key) = Sum.inl q := congrArg Prod.fst e5
        have e7 : V.int x2 = V.int ((S.count q : Nat) : Int) := congrArg Prod.snd e5
        rw [Sum.inl.inj e6, V.int.inj e7]
        rfl
  subst ek
  have all : ∀ m ∈ ms, m.2 = ((S.count m.1 : Nat) : Int) ∧ m.1 ∈ qs := fun m hm => by
    obtain ⟨k, hk, rfl⟩ := List.mem_map.mp (pm.mem_iff.mp hm)
    exact ⟨rfl, hk⟩
  have pf := pm.map (·.1)
  rw [List.map_map, show (qs.map ((fun m : Int × Int => m.1) ∘ fun k => (k, ((S.count k : Nat) : Int)))) = qs from List.map_id' _] at pf
  have ndf : (ms.map (·.1)).Nodup := pf.nodup_iff.mpr nd
  refine ⟨ms.map (·.1), ?_, fun k => ?_, ?_⟩
  · have le : (ms.map (·.1)).Pairwise (· ≤ ·) := by
      rw [List.pairwise_map]
      refine so.imp fun {a b} q => ?_
      have := mt SrtO.lexB_iff.mpr (by rw [q]; simp)
      omega
    exact upOf' le ndf
  · rw [pf.mem_iff, mem]
  · rw [List.map_map]
    have : ms.map id = ms.map ((fun k => (k, ((S.count k : Nat) : Int))) ∘ fun m : Int × Int => m.1) := List.map_congr_left fun m hm => by
      obtain ⟨m1, m2⟩ := m
      have q := (all _ hm).1
      simp only at q
      show (m1, m2) = (m1, ((S.count m1 : Nat) : Int))
      rw [q]
    rw [List.map_id] at this
    exact this
theorem IsTal.sorted {S ys : List Int} {kvs : List (L2.Key × V)} {ks : List Int} (h : Tally kvs S) (e : kvs.map (·.1) = ks.map Sum.inl) (pm : ys.Perm ks) (up : ys.Pairwise (· ≤ ·)) : ys.Pairwise (· < ·) ∧ ∀ k, k ∈ ys ↔ k ∈ S := by
  obtain ⟨qs, nd, mem, rfl⟩ := h.ex
  rw [List.map_map] at e
  have e2 : ks = qs := by
    refine List.ext_getElem? fun i => ?_
    have e4 := congrArg (fun l => l[i]?) e
    simp only [List.getElem?_map] at e4
    cases a : ks[i]? <;> cases b : qs[i]? <;> rw [a, b] at e4
    · cases e4
    · cases e4
    · rw [Sum.inl.inj (Option.some.inj e4)]
  subst e2
  exact ⟨upOf' up (pm.nodup_iff.mpr nd), fun k => by rw [pm.mem_iff, mem]⟩

end R
namespace R
open PySem PySem.Spec PyProof.Rows L2
/-! ## lists of pairs, compared -/
theorem dpPrL {K : PySem.W.Frag} {H : Hp} {D : Addr} {xs : List V} {ms : List (Int × Int)} (e : H D = some (.lst xs)) (h : PrAt H xs ms) : Dp K H (.ref D) (.list (ms.map prD)) := .lst (lstOf e) (dpPr h)
theorem okPrL (ms : List (Int × Int)) : okD 2 (.list (ms.map prD)) := okD.lst (okPr ms)
theorem dpPr1 {K : PySem.W.Frag} {H : Hp} {t : Addr} {m : Int × Int} (h : H t = some (.tup [.int m.1, .int m.2])) : Dp K H (.ref t) (prD m) := .tup (tupOf h) (.cons (.int _) (.cons (.int _) .nil))
theorem okPr1 (m : Int × Int) : okD 1 (prD m) := okPr [m] _ (List.mem_singleton.mpr rfl)

end R
namespace R
open PySem PySem.Spec PyProof.Rows L2
/-! ## runs of numbers that fit, or do not -/
theorem fits_shift {bs : List Bar} (x i : Int) : fitsB bs (x % (wh bs : Int) + i) = fitsB bs (x + i) := by
  rw [← fitsB_mod bs (x % (wh bs : Int) + i), ← fitsB_mod bs (x + i), Int.emod_add_emod]
theorem st_lt {bs : List Bar} (hw : 0 < wh bs) (hn : 0 < (cls bs).length) {a b : Int} (h : a < b) : st bs a < st bs b := by
  by_cases l : st bs a < st bs b
  · exact l
  · have := pl_mono hw (show st bs b ≤ st bs a by omega)
    rw [pl_st hw hn, pl_st hw hn] at this
    omega
theorem st_gap {bs : List Bar} (hw : 0 < wh bs) (hn : 0 < (cls bs).length) {j x : Int} (h1 : st bs j < x) (h2 : x < st bs (j + 1)) : fitsB bs x = false := by
  cases f : fitsB bs x with
  | false => rfl
  | true =>
    have a := pl_fit hw (fits_st hw hn (q := j)) h1
    have b := pl_fit hw f h2
    rw [pl_st hw hn] at a b
    omega
theorem st_at {bs : List Bar} (hw : 0 < wh bs) {j : Nat} {c : Int} (h : (cls bs)[j]? = some c) : st bs (j : Int) = c := by
  have jl := (List.getElem?_eq_some_iff.mp h).1
  have hm := cls_mem.mp (List.mem_of_getElem? h)
  have e : pl bs c = (j : Int) := by
    unfold pl
    rw [Int.emod_eq_of_lt hm.1 hm.2.1, Int.ediv_eq_zero_of_lt hm.1 hm.2.1, below_at (cls_up bs) h]
    omega
  rw [← e]
  exact st_pl hw hm.2.2
/-- the next fitting number behind c -/
theorem st_next {bs : List Bar} (hw : 0 < wh bs) (hn : 0 < (cls bs).length) {j : Int} {y : Int} (h1 : st bs j < y) (f : fitsB bs y = true) (no : ∀ x, st bs j < x → x < y → fitsB bs x = false) : st bs (j + 1) = y := by
  have a := pl_fit hw (fits_st hw hn (q := j)) h1
  rw [pl_st hw hn] at a
  have ey := st_pl hw f
  by_cases e : pl bs y = j + 1
  · rw [← e]
    exact ey
  · have lt := st_lt hw hn (show j + 1 < pl bs y by omega)
    have lt2 := st_lt hw hn (show j < j + 1 by omega)
    rw [ey] at lt
    have := no _ lt2 lt
    rw [fits_st hw hn] at this
    cases this
/-- from b on, s numbers are so, those at both ends not -/
structure MaxRun (bs : List Bar) (d : Bool) (s b : Int) : Prop where
  b0 : 0 ≤ b
  b1 : b < (wh bs : Int)
  s1 : 1 ≤ s
  in_ : ∀ i, 0 ≤ i → i < s → fitsB bs (b + i) = d
  pre : fitsB bs (b - 1) ≠ d
  end_ : fitsB bs (b + s) ≠ d
/-- the longest of them, of several such the first -/
structure BestRun (bs : List Bar) (d : Bool) (m : Int × Int) : Prop where
  run : MaxRun bs d m.1 m.2
  top : ∀ s b, MaxRun bs d s b → s < m.1 ∨ (s = m.1 ∧ m.2 ≤ b)
theorem BestRun.one {bs : List Bar} {d : Bool} {m n : Int × Int} (a : BestRun bs d m) (b : BestRun bs d n) : m = n := by
  have h1 := a.top _ _ b.run
  have h2 := b.top _ _ a.run
  obtain ⟨m1, m2⟩ := m
  obtain ⟨n1, n2⟩ := n
  have e1 : m1 = n1 := by
    simp only at h1 h2
    omega
  have e2 : m2 = n2 := by
    simp only at h1 h2
    omega
  rw [e1, e2]
theorem boolNe {a b : Bool} (h : a ≠ b) : a = !b := by
  cases a <;> cases b <;> first | rfl | exact absurd rfl h
/-- the gaps -/
def gapAt (bs : List Bar) (j : Nat) : Int × Int := (st bs ((j : Int) + 1) - st bs (j : Int) - 1, (st bs (j : Int) + 1) % (wh bs : Int))
theorem gap_run {bs : List Bar} (hw : 0 < wh bs) (hn : 0 < (cls bs).length) {j : Nat} (h : 1 ≤ (gapAt bs j).1) : MaxRun bs false (gapAt bs j).1 (gapAt bs j).2 := by
  unfold gapAt at h ⊢
  simp only at h ⊢
  refine ⟨Int.emod_nonneg _ (by omega), Int.emod_lt_of_pos _ (by omega), h, fun i i0 i1 => ?_, ?_, ?_⟩
  · rw [fits_shift]
    exact st_gap hw hn (j := (j : Int)) (by omega) (by omega)
  · rw [show ∀ x : Int, x - 1 = x + -1 from fun x => rfl, fits_shift, show st bs (j : Int) + 1 + -1 = st bs (j : Int) by omega, fits_st hw hn]
    simp
  · rw [fits_shift, show st bs (j : Int) + 1 + (st bs ((j : Int) + 1) - st bs (j : Int) - 1) = st bs ((j : Int) + 1) by omega, fits_st hw hn]
    simp
theorem run_gap {bs : List Bar} (hw : 0 < wh bs) (hn : 0 < (cls bs).length) {s b : Int} (M : MaxRun bs false s b) : ∃ j : Nat, j < (cls bs).length ∧ gapAt bs j = (s, b) := by
  have pre := boolNe M.pre
  have c0 := Int.emod_nonneg (b - 1) (show (wh bs : Int) ≠ 0 by omega)
  have c1 := Int.emod_lt_of_pos (b - 1) (show (0 : Int) < (wh bs : Int) by omega)
  have fc : fitsB bs ((b - 1) % (wh bs : Int)) = true := by
    rw [fitsB_mod]
    exact pre
  obtain ⟨j, hj⟩ := List.mem_iff_getElem?.mp (cls_mem.mpr ⟨c0, c1, fc⟩)
  have es := st_at hw hj
  have sh : ∀ i : Int, fitsB bs ((b - 1) % (wh bs : Int) + i) = fitsB bs (b - 1 + i) := fun i => fits_shift _ i
  refine ⟨j, (List.getElem?_eq_some_iff.mp hj).1, ?_⟩
  have s1 := M.s1
  have nx : st bs ((j : Int) + 1) = (b - 1) % (wh bs : Int) + (s + 1) := by
    refine st_next hw hn (by rw [es]; omega) ?_ fun x x1 x2 => ?_
    · rw [sh, show b - 1 + (s + 1) = b + s by omega]
      exact boolNe M.end_
    · rw [es] at x1
      have e := sh (x - (b - 1) % (wh bs : Int))
      rw [show (b - 1) % (wh bs : Int) + (x - (b - 1) % (wh bs : Int)) = x by omega] at e
      rw [e]
      have := M.in_ (x - (b - 1) % (wh bs : Int) - 1) (by omega) (by omega)
      rw [show b + (x - (b - 1) % (wh bs : Int) - 1) = b - 1 + (x - (b - 1) % (wh bs : Int)) by omega] at this
      exact this
  unfold gapAt
  rw [nx, es, Int.emod_add_emod, show b - 1 + 1 = b by omega, Int.emod_eq_of_lt M.b0 M.b1]
  refine congrArg (fun z => (z, b)) ?_
  omega
/-- what is told of the longest: the best, or (0, 0) if there is none -/
def TopRun (bs : List Bar) (d : Bool) (m : Int × Int) : Prop := (m = (0, 0) ∧ ∀ s b, ¬ MaxRun bs d s b) ∨ BestRun bs d m
theorem TopRun.one {bs : List Bar} {d : Bool} {m n : Int × Int} (a : TopRun bs d m) (b : TopRun bs d n) : m = n := by
  rcases a with ⟨rfl, a⟩ | a
  · rcases b with ⟨rfl, _⟩ | b
    · rfl
    · exact absurd b.run (a _ _)
  · rcases b with ⟨rfl, b⟩ | b
    · exact absurd a.run (b _ _)
    · exact a.one b
theorem st_whole {bs : List Bar} (hn : 0 < (cls bs).length) (j : Int) : st bs (j + ((cls bs).length : Int)) = st bs j + (wh bs : Int) := by
  have := st_add hn j 1
  rw [Int.one_mul, Int.one_mul] at this
  exact this
theorem gaps_top {bs : List Bar} (hw : 0 < wh bs) (hn : 0 < (cls bs).length) {m : Int × Int} (hm : m ∈ (List.range (cls bs).length).map (gapAt bs)) (top : ∀ q ∈ (List.range (cls bs).length).map (gapAt bs), q.1 < m.1 ∨ (q.1 = m.1 ∧ m.2 ≤ q.2)) : TopRun bs false m := by
  obtain ⟨j, hj, ej⟩ := List.mem_map.mp hm
  have all : ∀ s b, MaxRun bs false s b → s < m.1 ∨ (s = m.1 ∧ m.2 ≤ b) := fun s b M => by
    obtain ⟨i, hi, ei⟩ := run_gap hw hn M
    exact top (s, b) (List.mem_map.mpr ⟨i, List.mem_range.mpr hi, ei⟩)
  by_cases h : 1 ≤ m.1
  · rw [← ej] at h ⊢
    rw [← ej] at all
    exact .inr ⟨gap_run hw hn h, all⟩
  · have none_ : ∀ s b, ¬ MaxRun bs false s b := fun s b M => by
      have := all s b M
      have := M.s1
      omega
    refine .inl ⟨?_, none_⟩
    have step : ∀ i : Nat, i < (cls bs).length → st bs ((i : Int) + 1) = st bs (i : Int) + 1 := fun i hi => by
      have a := top (gapAt bs i) (List.mem_map.mpr ⟨i, List.mem_range.mpr hi, rfl⟩)
      have b := st_lt hw hn (show (i : Int) < (i : Int) + 1 by omega)
      unfold gapAt at a
      simp only at a
      omega
    have m0 : m.1 = 0 := by
      have := step j (List.mem_range.mp hj)
      rw [← ej]
      unfold gapAt
      simp only
      omega
    have c0 : (cls bs)[0]? = some ((cls bs)[0]'hn) := List.getElem?_eq_getElem hn
    generalize (cls bs)[0]'hn = c at c0
    have s0 := st_at hw c0
    have cm := cls_mem.mp (List.mem_of_getElem? c0)
    have sn := st_whole (bs := bs) hn 0
    rw [Int.zero_add] at sn
    have last := step ((cls bs).length - 1) (by omega)
    rw [show (((cls bs).length - 1 : Nat) : Int) + 1 = ((cls bs).length : Int) by omega, sn] at last
    have s00 : st bs 0 = c := s0
    have lf := fits_st hw hn (q := (((cls bs).length - 1 : Nat) : Int))
    have cz : c = 0 := by
      by_cases z : c = 0
      · exact z
      · have f : fitsB bs (c - 1) = true := by
          have e : st bs (((cls bs).length - 1 : Nat) : Int) = c - 1 + 1 * (wh bs : Int) := by omega
          rw [e, ← fitsB_mod, Int.add_mul_emod_self_right, fitsB_mod] at lf
          exact lf
        have mem := cls_mem.mpr ⟨by omega, by omega, f⟩
        obtain ⟨i, hi⟩ := List.mem_iff_getElem?.mp mem
        have := ups (cls_up bs) c0 hi (Nat.zero_le _)
        omega
    have z2 := top (gapAt bs ((cls bs).length - 1)) (List.mem_map.mpr ⟨_, List.mem_range.mpr (by omega), rfl⟩)
    have e2 : (gapAt bs ((cls bs).length - 1)).2 = 0 := by
      unfold gapAt
      simp only
      rw [show st bs (((cls bs).length - 1 : Nat) : Int) + 1 = (wh bs : Int) by omega, Int.emod_self]
    have e1 : (gapAt bs ((cls bs).length - 1)).1 = 0 := by
      have := step ((cls bs).length - 1) (by omega)
      unfold gapAt
      simp only
      omega
    have nn : 0 ≤ m.2 := by
      rw [← ej]
      exact Int.emod_nonneg _ (by omega)
    obtain ⟨m1, m2⟩ := m
    simp only at m0 nn z2
    rw [m0, show m2 = 0 by omega]
/-- the first place at which it is not so -/
theorem firstNot (p : Nat → Prop) : ∀ k : Nat, (∀ i, i ≤ k → p i) ∨ ∃ m, m ≤ k ∧ ¬ p m ∧ ∀ i, i < m → p i
  | 0 => by
    by_cases h : p 0
    · exact .inl fun i hi => by rw [Nat.le_zero.mp hi]; exact h
    · exact .inr ⟨0, Nat.le_refl _, h, fun i hi => absurd hi (Nat.not_lt_zero _)⟩
  | k + 1 => by
    rcases firstNot p k with h | ⟨m, h1, h2⟩
    · by_cases g : p (k + 1)
      · exact .inl fun i hi => by
          rcases Nat.lt_or_eq_of_le hi with z | z
          · exact h i (by omega)
          · rw [z]; exact g
      · exact .inr ⟨k + 1, Nat.le_refl _, g, fun i hi => h i (by omega)⟩
    · exact .inr ⟨m, by omega, h2⟩
theorem run_ex {bs : List Bar} (hn : 0 < (cls bs).length) (ne : (cls bs).length ≠ wh bs) (j : Int) : ∃ m : Nat, 1 ≤ m ∧ m ≤ (cls bs).length ∧ RunTo bs j m ∧ st bs (j + (m : Int)) ≠ st bs j + (m : Int) := by
  rcases firstNot (fun i : Nat => st bs (j + (i : Int)) = st bs j + (i : Int)) (cls bs).length with h | ⟨m, h1, h2, h3⟩
  · have := h _ (Nat.le_refl _)
    rw [st_whole hn] at this
    omega
  · refine ⟨m, ?_, h1, h3, h2⟩
    rcases Nat.eq_zero_or_pos m with z | z
    · rw [z] at h2
      exact absurd (by simp) h2
    · exact z
theorem run_max {bs : List Bar} (hw : 0 < wh bs) (hn : 0 < (cls bs).length) {j : Int} {m : Nat} (m1 : 1 ≤ m) (r : RunTo bs j m) (off : st bs (j + (m : Int)) ≠ st bs j + (m : Int)) (pre : st bs (j - 1) < st bs j - 1) : MaxRun bs true (m : Int) (st bs j % (wh bs : Int)) := by
  refine ⟨Int.emod_nonneg _ (by omega), Int.emod_lt_of_pos _ (by omega), by omega, fun i i0 i1 => ?_, ?_, ?_⟩
  · rw [fits_shift]
    have := r i.toNat (by omega)
    rw [Int.toNat_of_nonneg i0] at this
    rw [← this]
    exact fits_st hw hn
  · rw [show ∀ x : Int, x - 1 = x + -1 from fun x => rfl, fits_shift, st_gap hw hn (j := j - 1) (by omega) (by rw [show j - 1 + 1 = j by omega]; omega)]
    simp
  · rw [fits_shift]
    have l := r (m - 1) (by omega)
    have lt := st_lt hw hn (show j + ((m - 1 : Nat) : Int) < j + (m : Int) by omega)
    rw [st_gap hw hn (j := j + ((m - 1 : Nat) : Int)) (by omega) (by rw [show j + ((m - 1 : Nat) : Int) + 1 = j + (m : Int) by omega]; omega)]
    simp
theorem run_size {bs : List Bar} {d : Bool} {s t b : Int} (M : MaxRun bs d s b) (N : MaxRun bs d t b) : s = t := by
  have := M.s1
  have := N.s1
  by_cases h : s < t
  · exact absurd (N.in_ s (by omega) h) M.end_
  · by_cases h2 : t < s
    · exact absurd (M.in_ t (by omega) h2) N.end_
    · omega
theorem run_place {bs : List Bar} (hw : 0 < wh bs) (hn : 0 < (cls bs).length) {s b : Int} (M : MaxRun bs true s b) : ∃ j : Nat, (cls bs)[j]? = some b ∧ st bs ((j : Int) - 1) < b - 1 := by
  have f : fitsB bs b = true := by
    have := M.in_ 0 (Int.le_refl _) (by have := M.s1; omega)
    rw [Int.add_zero] at this
    exact this
  obtain ⟨j, hj⟩ := List.mem_iff_getElem?.mp (cls_mem.mpr ⟨M.b0, M.b1, f⟩)
  refine ⟨j, hj, ?_⟩
  have e := st_at hw hj
  have lt := st_lt hw hn (show (j : Int) - 1 < (j : Int) by omega)
  rw [e] at lt
  have ne : st bs ((j : Int) - 1) ≠ b - 1 := fun z => by
    have := fits_st hw hn (q := (j : Int) - 1)
    rw [z] at this
    exact absurd this M.pre
  omega
theorem run_some {bs : List Bar} (hw : 0 < wh bs) (hn : 0 < (cls bs).length) (ne : (cls bs).length ≠ wh bs) : ∃ s b, MaxRun bs true s b := by
  obtain ⟨m, m1, _, r, off⟩ := run_ex hn ne 0
  rw [Int.zero_add] at off
  have l := r (m - 1) (by omega)
  rw [Int.zero_add] at l
  have lt := st_lt hw hn (show ((m - 1 : Nat) : Int) < (m : Int) by omega)
  obtain ⟨k, k1, _, r2, off2⟩ := run_ex hn ne (m : Int)
  exact ⟨_, _, run_max hw hn k1 r2 off2 (by rw [show (m : Int) - 1 = ((m - 1 : Nat) : Int) by omega]; omega)⟩

end R
namespace R
open PySem PySem.Spec PyProof.Rows L2
/-! ## the steps, counted -/
def sp_p_steps (K : PySem.W.Frag) (C B : Addr) : Sp := fun vs H Q E => ∃ (p : Addr) (v : V) (t : Addr) (bs : List Bar), vs = [.ref p] ∧ SvAt K C H p v t bs ∧
  ((cls bs ≠ [] ∧ ∀ (D : Addr) (H' : Hp) (xs : List V) (l : List (Int × Int)), Same H H' → H D = none → H' D = some (.lst xs) → PrAt H' xs l → IsTal (stepsTo bs (cls bs).length) l → Q (.ref D) H') ∨ (cls bs = [] ∧ ∀ H', Same H H' → E (.ref B) none H'))
theorem talSteps {bs : List Bar} {n j : Nat} (h : j < n) {x : Int} (hx : (stepsTo bs n)[j]? = some x) : (stepsTo bs n).take (j + 1) = (stepsTo bs n).take j ++ [x] := takeSucc hx
section
variable {P : Program} {w : World} {K : PySem.W.Frag} {mg : Str → Option Value} {base : Heap}
theorem ok_p_steps (T : Txt K mg) : FnOk P w K mg base (L2.CX P w) 6 T.f_p_steps T.fd_p_steps ["sieve"] (sp_p_steps K T.C T.C_Nothing) := by
  refine T.F_p_steps.okX sc_p_steps (fun vs H Q E h => ?_) (fun cdv A outer s H vs Q E hr h => ?_)
  · obtain ⟨p, v, t, bs, rfl, _⟩ := h
    rfl
  · obtain ⟨p, v, t, bs, rfl, S, h⟩ := h
    refine ⟨_, (pss_cons (ps_expr (pe_call (ok_p_check_some T) (hr.mono (by decide)) (by rfl) T.g_p_check_some T.F_p_check_some.kp T.b_p_check_some .nil (passes_call (takes_of rfl rfl rfl rfl) (fun _ _ _ _ h => h)) (pa_cons (pv 0) pa_nil)))
      (pss_cons (ps_set (i := 1) sc_p_steps.nd rfl (by first | exact .inl rfl | exact .inr rfl) pe_dnewK)
      (pss_cons (ps_for (passes_of rfl) rfl (pi_list (pe_call (ok_p_steps_in_order T) (hr.mono (by decide)) (by rfl) T.g_p_steps_in_order T.F_p_steps_in_order.kp T.b_p_steps_in_order .nil pass0 (pa_cons (pv 0) pa_nil))) (pg_name (i := 2) sc_p_steps.nd rfl (by first | exact .inl rfl | exact .inr rfl)) (pss_one (ps_dput (hu_of hr) (pv 1) (pv 2) (pe_op op_add (pe_dget2 (hu_of hr) (pv 1) (pv 2) pe_int ⟨by rfl, by rfl, by rfl, by rfl⟩) pe_int) (by rfl))))
      (pss_one (ps_ret (pe_callB (cr_sortedDI rfl) (by rfl) T.z_sorted (by decide +kernel) (pa_cons (pe_bm0 PySem.F.plainAttrs_dict PySem.F.slot_dict_items PySem.F.type_dict_items mt_itemsK (pv 1)) pa_nil))))))), ?_⟩
    refine ⟨_, rfl, p, v, t, bs, rfl, S, ?_⟩
    rcases h with ⟨h, q⟩ | ⟨h, q⟩
    · refine .inl ⟨h, fun H1 s1 => ?_⟩
      have hn : 0 < (cls bs).length := List.length_pos_iff.mpr h
      have few := choices_cls S.ok
      refine fun d nd => ?_
      have s2 := s1.trans (same_upd nd (o := .dK []))
      refine ⟨_, rfl, p, v, t, bs, rfl, S.stay s2, hn, fun F H3 s3 nF eF => ⟨F, rfl, ⟨_, lstOf eF⟩, ?_⟩⟩
      have nd0 : H d = none := s1.free nd
      have ed := s3 _ _ (upd_same (H := H1) (a := d) (o := .dK []))
      have nFd : F ≠ d := fun z => by
        rw [z, upd_same] at nF
        cases nF
      have s03 := s2.trans s3
      refine for_list (K := K) (a := F) (xs := (stepsTo bs (cls bs).length).map V.int) (fun i σ Hi => ∃ (x2 : Option V) (kvs : List (L2.Key × V)), σ = [some (.ref p), some (.ref d), x2] ∧ Hi d = some (.dK kvs) ∧ Tally kvs ((stepsTo bs (cls bs).length).take i) ∧ (∀ b o, b ≠ d → H3 b = some o → Hi b = some o))
        ⟨none, [], rfl, ed, Tally.nil, fun b o _ e => e⟩ (fun i σ Hi _ ⟨_, _, _, _, _, si⟩ => lstOf (si _ _ nFd eF)) ?_ ?_
      · rintro i y σ Hi hi ⟨x2, kvs, rfl, ei, ti, si⟩
        obtain ⟨x, hx, rfl⟩ := getMapInt' hi
        have il := (List.getElem?_eq_some_iff.mp hx).1
        have kl := ti.len
        rw [List.length_take, stepsTo_len] at kl
        refine ⟨_, rfl, d, rfl, .inl ⟨kvs, .inl ei⟩, _, rfl, _, DGet.k (k := Sum.inl x) ei, ?_⟩
        rw [ti.get x]
        refine ⟨_, _, rfl, rfl, _, rfl, _, rfl, d, _, rfl, DPut.k (k := Sum.inl x) ei (sizeLt (by omega)), ?_⟩
        exact ⟨_, _, rfl, upd_same, by rw [takeSucc hx]; exact ti.add x, fun b o n e => by rw [upd_ne n]; exact si b o n e⟩
      · rintro σ H4 ⟨x2, kvs, rfl, e4, t4, s4⟩
        rw [List.length_map, List.take_length] at t4
        obtain ⟨ks, nk, mk, ek⟩ := id t4.ex
        have ek' : kvs = (ks.map fun k => (k, (((stepsTo bs (cls bs).length).count k : Nat) : Int))).map entI := by
          rw [ek, List.map_map]
          rfl
        have s04 : Same H H4 := fun b o e => s4 b o (ne_of_none e nd0) (s03 b o e)
        refine ⟨_, rfl, .inr (.inr (.inl ⟨rfl, .inl ⟨_, e4⟩⟩)), d, kvs, rfl, rfl, e4, fun q5 n5 => ?_⟩
        have s5 := same_upd n5 (o := DX.itemsO q5 d)
        refine ⟨q5, d, _, rfl, upd_same, by rw [upd_ne (ne_of_none e4 n5), e4, ek'], fun H6 D ps s6 nD pm so eD pr => ?_⟩
        have s06 := s04.trans (s5.trans s6)
        refine q D H6 _ (ps.map (·.2)) s06 (s04.free (s5.free nD)) eD ⟨by rw [List.length_map, List.length_map], fun i x m a b => ?_⟩ (IsTal.of t4 ek' pm so)
        rw [List.getElem?_map] at a b
        cases z : ps[i]? with
        | none =>
          rw [z] at a
          cases a
        | some w =>
          rw [z] at a b
          cases a
          cases b
          exact ⟨_, rfl, pr w (List.mem_of_getElem? z)⟩
    · exact .inr ⟨h, fun H1 s1 => q H1 s1⟩
end

end R
namespace R
open PySem PySem.Spec PyProof.Rows L2
/-! ## zip of a tuple and a list -/
def ItzM (K : PySem.W.Frag) (a b : Addr) : It :=
  ⟨fun i H => ∃ (xs ys : List V) (x y : V), SqT K H a xs ∧ SqL K H b ys ∧ xs[i]? = some x ∧ ys[i]? = some y,
   fun i H v H' => ∃ T x y, v = .ref T ∧ H T = none ∧ H' = upd H T (.tup [x, y]) ∧ (∀ xs, SqT K H a xs → xs[i]? = some x) ∧ ∀ ys, SqL K H b ys → ys[i]? = some y,
   fun i H => ∃ xs ys : List V, SqT K H a xs ∧ SqL K H b ys ∧ i ≤ xs.length ∧ i ≤ ys.length ∧ (i = xs.length ∨ i = ys.length)⟩
def ZipM (a b z TI TO i1 i2 : Addr) (i : Nat) (h : Heap) : Prop :=
  IsZip h z TI TO .none ∧ IsTupOf2 h TI (.ref i1) (.ref i2) ∧ (∃ x y, IsTupOf2 h TO x y) ∧ h.IsTupleIter i1 a i ∧ h.IsListIter i2 b i
theorem five {c z TI TO i1 i2 : Addr} (h : c ∈ [z, TI, TO, i1, i2]) : c = z ∨ c = TI ∨ c = TO ∨ c = i1 ∨ c = i2 := by simpa using h
theorem turn_zipM {P : Program} {w : World} {K : PySem.W.Frag} {elts : List Expr} {kk : Nat} {tpos : Pos} {a b z TI TO i1 i2 : Addr} (S : ZipSep2 z TI TO i1 i2 [i1, a] [i2, b]) (d1 : a ≠ i1) (d2 : b ≠ i2) :
    Turn P w K (.Tuple elts kk tpos) (ItzM K a b) [z, TI, TO, i1, i2] z (ZipM a b z TI TO i1 i2) where
  mem := by simp
  obj := fun i h st c hc => by
    obtain ⟨hz, hI, ⟨_, _, hO⟩, ⟨o1, e1, _, f1⟩, ⟨o2, e2, _, f2⟩⟩ := st
    rcases five hc with rfl | rfl | rfl | rfl | rfl
    · exact ⟨_, hz, fun v q => nomatch q⟩
    · exact ⟨_, hI, fun v q => nomatch q⟩
    · exact ⟨_, hO, fun v q => nomatch q⟩
    · exact ⟨o1, e1, fun v q => by rw [f1] at q; cases q⟩
    · exact ⟨o2, e2, fun v q => by rw [f2] at q; cases q⟩
  keep := fun i h h' st k => by
    obtain ⟨hz, hI, ⟨x, y, hO⟩, t1, t2⟩ := st
    exact ⟨k z (by simp) _ hz, k TI (by simp) _ hI, ⟨x, y, k TO (by simp) _ hO⟩, t1.at fun o q => k i1 (by simp) o q, t2.at fun o q => k i2 (by simp) o q⟩
  item := by
    intro X eP ew eK calm i pn st σ H E I sep zs go
    subst eP ew eK
    obtain ⟨hz, hI, ⟨x0, y0, hO⟩, t1, t2⟩ := zs
    obtain ⟨xs, ys, x, y, qx, qy, hx, hy⟩ := go
    obtain ⟨its, rv, p, _⟩ := I.tuple qx
    obtain ⟨its2, rv2, p2, _⟩ := I.list qy
    obtain ⟨u, hu, ru⟩ := rv.get hx
    obtain ⟨u2, hu2, ru2⟩ := rv2.get hy
    have zl : z < st.heap.objs.size := Heap.lt_size hz
    have l1 : i < its.toArray.size := by rw [List.size_toArray]; exact (List.getElem?_eq_some_iff.mp hu).1
    have l2 : i < its2.toArray.size := by rw [List.size_toArray]; exact (List.getElem?_eq_some_iff.mp hu2).1
    refine wpAny_pyNext_zipD2_item S (Draws.tuple (A := X.A.in1) (I.ok.hd calm) i1 a d1 its.toArray) (Draws.list (A := X.A.in1) (I.ok.hd calm) i2 b d2 its2.toArray) hz hI hO ⟨t1, p⟩ ⟨t2, p2.isList⟩ l1 l2 fun y1 y2 h' tk e1 e2 z' O' s1 s2 hT hs hk => ?_
    obtain rfl : u = y1 := by
      rw [List.getElem?_toArray] at e1
      exact Option.some.inj (hu.symm.trans e1)
    obtain rfl : u2 = y2 := by
      rw [List.getElem?_toArray] at e2
      exact Option.some.inj (hu2.symm.trans e2)
    refine ⟨_, rfl, wpAny_letOwnedTupleGo_zip (s := { st with heap := h', toks := tk }) z' fun h2 z2 sb => ?_⟩
    have g : h2.get? st.heap.objs.size = some { cls := .type "tuple", data := .seq #[u, u2] } := (sb.2 _ (Nat.ne_of_gt zl)).trans hT
    have new : ObjOk X.prog X.w (upd H st.heap.objs.size (.tup [x, y])) h2 st.heap.objs.size (.tup [x, y]) :=
      ⟨sizeOk (by show (2 : Nat) ≤ 100000; decide), [u, u2], .cons ru (.cons ru2 .nil), ⟨_, g, rfl, _, rfl⟩⟩
    have out : ∀ c o, c ∉ [z, TI, TO, i1, i2] → st.heap.get? c = some o → h2.get? c = some o := fun c o nc q =>
      (sb.2 c fun e => nc (by simp [e])).trans (hk c o (fun e => nc (by simp [e])) (fun e => nc (by simp [e])) (fun e => nc (by simp [e])) (fun e => nc (by simp [e])) q)
    have I1 : Inv X pn σ (upd H st.heap.objs.size (.tup [x, y])) { st with heap := h2, toks := tk } := I.turnedNew (ch := [z, TI, TO, i1, i2]) (fun c o nc q => out c o nc q) sep (Nat.le_refl _) new
    refine ⟨.ref st.heap.objs.size, _, I1, rfl, ⟨_, x, y, rfl, I.hok.fresh (Nat.le_refl _), rfl, fun l hl => by rw [I.tuple_inj hl qx]; exact hx, fun l hl => by rw [I.list_inj hl qy]; exact hy⟩, ⟨z2, ?_, ⟨u, u2, ?_⟩, ?_, ?_⟩, fun c hc => ?_⟩
    · exact (sb.2 _ S.TIz).trans (hk _ _ S.TIz S.TITO S.TIi1 S.TIi2 hI)
    · exact (sb.2 _ S.TOz).trans O'
    · exact s1.1.at fun o q => (sb.2 _ (Ne.symm S.zi1)).trans q
    · exact s2.1.at fun o q => (sb.2 _ (Ne.symm S.zi2)).trans q
    · have lt : c < st.heap.objs.size := by
        rcases five hc with rfl | rfl | rfl | rfl | rfl
        · exact zl
        · exact Heap.lt_size hI
        · exact Heap.lt_size hO
        · obtain ⟨_, e1, _⟩ := t1; exact Heap.lt_size e1
        · obtain ⟨_, e2, _⟩ := t2; exact Heap.lt_size e2
      rw [upd_ne (Nat.ne_of_lt lt)]
      exact (sep c hc).1
  done := by
    intro X eP ew eK calm i pn st σ H E I sep zs stop
    subst eP ew eK
    obtain ⟨hz, hI, ⟨x0, y0, hO⟩, t1, t2⟩ := zs
    obtain ⟨xs, ys, qx, qy, lx, ly, en⟩ := stop
    obtain ⟨its, rv, p, _⟩ := I.tuple qx
    obtain ⟨its2, rv2, p2, _⟩ := I.list qy
    have e1 : its.toArray.size = xs.length := by rw [List.size_toArray]; exact rv.length.symm
    have e2 : its2.toArray.size = ys.length := by rw [List.size_toArray]; exact rv2.length.symm
    refine wpAny_pyNext_zipD2_end S (Draws.tuple (A := X.A.in1) (I.ok.hd calm) i1 a d1 its.toArray) (Draws.list (A := X.A.in1) (I.ok.hd calm) i2 b d2 its2.toArray) hz hI hO ⟨t1, p⟩ ⟨t2, p2.isList⟩ (by omega) (by omega) (by omega) fun h' tk hk => ?_
    exact ⟨rfl, I.turnedL (fun c o nc q => hk c o (fun z => nc (by simp [z])) (fun z => nc (by simp [z])) (fun z => nc (by simp [z])) (fun z => nc (by simp [z])) q) sep⟩
  self := fun A i s Q E zs h => wpAny_pyIter_zip zs.1 h
/-! ### how such a zip is made -/
def itO (cls : String) (l : Addr) : Obj := { cls := .type cls, data := .fields #[.ref l, .int 0 0] }
def zm1 (h : Heap) (x : Addr) : Heap :=
  h.push (itO "tuple_iterator" x)
def zm2 (h : Heap) (x y : Addr) : Heap :=
  (zm1 h x).push (itO "list_iterator" y)
def zm3 (h : Heap) (x y : Addr) : Heap :=
  (zm2 h x y).push { cls := .type "tuple", data := .seq #[.ref h.objs.size, .ref (zm1 h x).objs.size] }
def zm4 (h : Heap) (x y : Addr) : Heap :=
  (zm3 h x y).push { cls := .type "tuple", data := .seq #[.none, .none] }
def zm5 (h : Heap) (x y : Addr) : Heap :=
  (zm4 h x y).push { cls := .type "zip", data := .fields #[.none, .bool false, .bool false, .ref (zm2 h x y).objs.size, .ref (zm3 h x y).objs.size] }
theorem meets_zipM (x y : Addr) (xs ys : Array Value) :
    Meets (Builtin.«zip.__new__» ⟨[.type "zip", .ref x, .ref y], []⟩) fun _ R s => s.heap.IsTuple x xs ∧ s.heap.IsList y ys ∧
      R (.ok (.ret (.ref (zm4 s.heap x y).objs.size))) { s with heap := zm5 s.heap x y } :=
  .of_wp fun prog w A R s hyp => by
    obtain ⟨hp, g, d, tk, os⟩ := s
    obtain ⟨px, py, fin⟩ := hyp
    have hsub := sub_zip
    have pX : Heap.IsTuple (Shared.heap ⟨hp, g, d, tk, os⟩) x xs := px
    have pY : Heap.IsList (Shared.heap ⟨hp.push { cls := .type "tuple_iterator", data := .fields #[.ref x, .int 0 0] }, g, d, tk, os⟩) y ys := Heap.IsList.push py _
    wp_walk using wpAny_pyIter_tuple pX, wpAny_pyIter_list pY
    exact ⟨_, rfl, fin⟩
theorem call_zipM {P : Program} {w : World} {A : Around} {E : Value → Shared → Prop} {s : Shared} {x y : Addr} {xs ys : Array Value} {Q : Value → Shared → Prop} (px : s.heap.IsTuple x xs) (py : s.heap.IsList y ys)
    (go : ∀ h', ZipM x y (s.heap.objs.size + 4) (s.heap.objs.size + 2) (s.heap.objs.size + 3) s.heap.objs.size (s.heap.objs.size + 1) 0 h' → (∀ c o, s.heap.get? c = some o → h'.get? c = some o) → Q (.ref (s.heap.objs.size + 4)) { s with heap := h' }) :
    wpAny (model P w) A (call (.type "zip") [.ref x, .ref y]) Q E s := by
  refine callType_new F.called_zip (by decide) (F.typeCall_zip_2 _ _) (F.newCall_zip_2 _ _) (fun obj => F.args_object_init_3 obj _ _) F.entry_zip_new (meets_zipM x y xs ys) ⟨px, py, ?_⟩
  have n1 : (zm1 s.heap x).objs.size = s.heap.objs.size + 1 := Heap.size_push ..
  have n2 : (zm2 s.heap x y).objs.size = s.heap.objs.size + 2 := (Heap.size_push ..).trans (by rw [n1])
  have n3 : (zm3 s.heap x y).objs.size = s.heap.objs.size + 3 := (Heap.size_push ..).trans (by rw [n2])
  have n4 : (zm4 s.heap x y).objs.size = s.heap.objs.size + 4 := (Heap.size_push ..).trans (by rw [n3])
  have keep : ∀ c o, s.heap.get? c = some o → (zm5 s.heap x y).get? c = some o := fun c o e =>
    Heap.get?_push_of_some _ (Heap.get?_push_of_some _ (Heap.get?_push_of_some _ (Heap.get?_push_of_some _ (Heap.get?_push_of_some _ e))))
  have f5 : (zm5 s.heap x y).get? (zm4 s.heap x y).objs.size = some _ := Heap.get?_push_size _ rfl
  have f4 : (zm5 s.heap x y).get? (zm3 s.heap x y).objs.size = some _ := Heap.get?_push_of_some _ (Heap.get?_push_size (zm3 s.heap x y) rfl)
  have f3 : (zm5 s.heap x y).get? (zm2 s.heap x y).objs.size = some _ := Heap.get?_push_of_some _ (Heap.get?_push_of_some _ (Heap.get?_push_size (zm2 s.heap x y) rfl))
  have f2 : (zm5 s.heap x y).get? (zm1 s.heap x).objs.size = some _ := Heap.get?_push_of_some _ (Heap.get?_push_of_some _ (Heap.get?_push_of_some _ (Heap.get?_push_size (zm1 s.heap x) rfl)))
  have f1 : (zm5 s.heap x y).get? s.heap.objs.size = some _ := Heap.get?_push_of_some _ (Heap.get?_push_of_some _ (Heap.get?_push_of_some _ (Heap.get?_push_of_some _ (Heap.get?_push_size (s.heap) rfl))))
  show _ ∧ _
  rw [n2, n3, n4] at f5
  rw [n1, n2] at f3
  rw [n3] at f4
  rw [n1] at f2
  rw [n4]
  exact ⟨⟨_, f5, rfl⟩, go _ ⟨f5, f3, ⟨_, _, f4⟩, ⟨_, f1, rfl, rfl⟩, ⟨_, f2, rfl, rfl⟩⟩ keep⟩
theorem sepM (n a b : Nat) (ha : a < n) (hb : b < n) : ZipSep2 (n + 4) (n + 2) (n + 3) n (n + 1) [n, a] [n + 1, b] := by
  have no : ∀ {u v : Nat} {l : List Nat}, u ≠ v → u ∉ l → u ∉ v :: l := fun h k m => by
    rcases List.mem_cons.mp m with e | e
    · exact h e
    · exact k e
  have nil : ∀ {u : Nat}, u ∉ ([] : List Nat) := fun h => by cases h
  have l : ∀ {u v : Nat}, u < v ∨ v < u → u ≠ v := fun h e => by omega
  exact ⟨l (by omega), l (by omega), l (by omega), l (by omega), List.mem_cons_self, no (l (by omega)) (no (l (by omega)) nil), no (l (by omega)) (no (l (by omega)) nil), l (by omega), List.mem_cons_self,
    no (l (by omega)) (no (l (by omega)) nil), no (l (by omega)) (no (l (by omega)) nil), no (l (by omega)) (no (l (by omega)) nil), no (l (by omega)) (no (l (by omega)) nil)⟩
def iZipM (K : PySem.W.Frag) (ta : TA) : TI := fun σ H R => ta σ H fun vs H1 => ∃ a b xs ys, vs = [.ref a, .ref b] ∧ SqT K H1 a xs ∧ SqL K H1 b ys ∧ R (ItzM K a b) H1
theorem pi_zipM {X : Cx} {e e2 : Expr} {ta : TA} {p pos tpos : Pos} {elts : List Expr} {kk : Nat} (hg : Gl X "zip") (hm : X.mg "zip" = none) (ha : PA X [e, e2] ta)
    (st : starEach [e, e2] X.env = (false, eval e X.env) :: starEach [e2] X.env := by rfl) (pl : (backTo pos (starEach [e2] X.env)).any (·.1) = false := by rfl) : PI X (.Tuple elts kk tpos) (.Call (.Name "zip" p) [e, e2] [] pos) (iZipM X.K ta) := by
  constructor
  intro pn s σ H R I h
  refine Call_ (ld_blt I hg hm PyProof.Rows.boot_zip (PyProof.Rows.callWith_type1 (thn (ha.run pos pn s σ H _ I h) fun us s1 ⟨vs, H1, I1, rv, q⟩ => ?_) st pl))
  obtain ⟨a, b, xs, ys, rfl, qx, qy, q⟩ := q
  cases rv with
  | cons ra rv =>
    cases rv with
    | cons rb rv =>
      cases rv
      cases ra
      cases rb
      obtain ⟨its, _, p1, _⟩ := I1.tuple qx
      obtain ⟨its2, _, p2, _⟩ := I1.list qy
      obtain ⟨o1, e1, _⟩ := id p1
      obtain ⟨o2, e2, _⟩ := id p2.isList
      have la := Heap.lt_size e1
      have lb := Heap.lt_size e2
      refine call_zipM (xs := its.toArray) (ys := its2.toArray) p1 p2.isList fun h' zs hk => wpAny_pyIter_zip zs.1 ?_
      have I2 : Inv X pn σ H1 { s1 with heap := h' } := I1.kept (t' := s1.toks) hk
      refine ⟨s1.heap.objs.size + 4, _, _, _, H1, rfl, I2, turn_zipM (sepM s1.heap.objs.size a b la lb) (Nat.ne_of_lt la) (Nat.ne_of_lt (Nat.lt_succ_of_lt lb)), zs, fun c hc => ?_, q⟩
      have le : s1.heap.objs.size ≤ c := by
        rcases five hc with rfl | rfl | rfl | rfl | rfl <;> first | exact Nat.le_refl _ | exact Nat.le_add_right _ _
      exact I1.fpOk le (I1.hok.fresh le)
/-- a loop over zip of a tuple and a list of one length -/
theorem for_zipM {K : PySem.W.Frag} {a b : Addr} {xs ys : List V} {g : TG} {tb : TS} {D : Ends} {σ : L2.St} {H : Hp} (one : xs.length = ys.length) (Pv : Nat → L2.St → Hp → Prop) (h0 : Pv 0 σ H) (rd : ∀ i σ H, Pv i σ H → SqT K H a xs ∧ SqL K H b ys)
    (step : ∀ (i : Nat) (x y : V) (T : Addr) (σ : L2.St) (H : Hp), xs[i]? = some x → ys[i]? = some y → Pv i σ H → H T = none → g (.ref T) σ (upd H T (.tup [x, y])) fun σ2 H2 => tb { D with nx := Pv (i + 1), ct := Pv (i + 1), bk := D.nx } σ2 H2) (fin : ∀ σ H, Pv xs.length σ H → D.nx σ H) :
    ∃ W : Nat → Nat → L2.St → Hp → Prop, (∃ m, W 0 m σ H) ∧ ∀ i m σ H, W i m σ H →
      ((ItzM K a b).stop i H ∧ D.nx σ H) ∨ ((ItzM K a b).go i H ∧ ∃ N : L2.St → Hp → Prop, (∀ σ' H', N σ' H' → ∃ m', m' < m ∧ W (i + 1) m' σ' H') ∧ ∀ v H', (ItzM K a b).yld i H v H' → g v σ H' fun σ2 H2 => tb { D with nx := N, ct := N, bk := D.nx } σ2 H2) := by
  refine ⟨fun i m σ H => m + i = xs.length ∧ Pv i σ H, ⟨xs.length, rfl, h0⟩, ?_⟩
  rintro i m σ H ⟨em, p⟩
  obtain ⟨qx, qy⟩ := rd i σ H p
  cases m with
  | zero =>
    obtain rfl : i = xs.length := by omega
    exact .inl ⟨⟨xs, ys, qx, qy, Nat.le_refl _, by omega, .inl rfl⟩, fin σ H p⟩
  | succ m =>
    obtain ⟨x, hx⟩ : ∃ x, xs[i]? = some x := ⟨_, List.getElem?_eq_getElem (show i < xs.length by omega)⟩
    obtain ⟨y, hy⟩ : ∃ y, ys[i]? = some y := ⟨_, List.getElem?_eq_getElem (show i < ys.length by omega)⟩
    refine .inr ⟨⟨xs, ys, x, y, qx, qy, hx, hy⟩, Pv (i + 1), fun σ' H' p' => ⟨m, Nat.lt_succ_self m, by omega, p'⟩, fun v H' yl => ?_⟩
    obtain ⟨T, x', y', rfl, nT, rfl, fx, fy⟩ := yl
    exact step i x' y' T σ H (fx xs qx) (fy ys qy) p nT

end R
namespace R
open PySem PySem.Spec PyProof.Rows L2
/-! ## the longest gap -/
open LamX hiding takes0
open NdefX
theorem walk_zipM {K : PySem.W.Frag} {a b : Addr} {xs ys : List V} (one : xs.length = ys.length) : Walk (ItzM K a b) xs.length (fun H => SqT K H a xs ∧ SqL K H b ys) (YPair (fun i => xs[i]?) (fun i => ys[i]?)) := by
  refine ⟨fun i H hi ⟨qx, qy⟩ => ⟨xs, ys, xs[i], ys[i]'(by omega), qx, qy, List.getElem?_eq_getElem _, List.getElem?_eq_getElem _⟩, fun H ⟨qx, qy⟩ => ⟨xs, ys, qx, qy, Nat.le_refl _, by omega, .inl rfl⟩, fun i H x H' hi ⟨qx, qy⟩ y => ?_⟩
  obtain ⟨T, x', y', rfl, nT, rfl, fx, fy⟩ := y
  exact ⟨T, x', y', rfl, nT, rfl, fx xs qx, fy ys qy⟩
def gapsL (bs : List Bar) (k : Nat) : List (Int × Int) := (List.range k).map (gapAt bs)
theorem gapsL_succ (bs : List Bar) (k : Nat) : gapsL bs (k + 1) = gapsL bs k ++ [gapAt bs k] := by
  unfold gapsL
  rw [List.range_succ, List.map_append]
  rfl
theorem gapsL_len (bs : List Bar) (k : Nat) : (gapsL bs k).length = k := by
  unfold gapsL
  rw [List.length_map, List.length_range]
theorem stepsTo_at {bs : List Bar} {n k : Nat} (h : k < n) : (stepsTo bs n)[k]? = some (st bs ((k : Int) + 1) - st bs (k : Int)) := by
  unfold stepsTo
  rw [List.getElem?_map, List.getElem?_range h]
  rfl
def sp_p_longest_gap {K : PySem.W.Frag} {mg : Str → Option Value} (T : Txt K mg) (B : Addr) : Sp := fun vs H Q E => ∃ (p : Addr) (v : V) (t : Addr) (bs : List Bar), vs = [.ref p] ∧ SvAt K T.C H p v t bs ∧ Tabs (tabs T) H ∧
  ((cls bs ≠ [] ∧ ∀ (q : Addr) (m : Int × Int) (H' : Hp), StN H H' → Tabs (tabs T) H' → H' q = some (.tup [.int m.1, .int m.2]) → TopRun bs false m → Q (.ref q) H') ∨ (cls bs = [] ∧ ∀ H', Same H H' → E (.ref B) none H'))
section
variable {P : Program} {w : World} {K : PySem.W.Frag} {mg : Str → Option Value} {base : Heap}
theorem ok_p_longest_gap (T : Txt K mg) (TB : Tbs base T) : FnOk P w K mg base (L2.CX P w) 6 T.f_p_longest_gap T.fd_p_longest_gap ["sieve"] (sp_p_longest_gap T T.C_Nothing) := by
  refine T.F_p_longest_gap.okX sc_p_longest_gap (fun vs H Q E h => ?_) (fun cdv A outer s H vs Q E hr h => ?_)
  · obtain ⟨p, v, t, bs, rfl, _⟩ := h
    rfl
  · obtain ⟨p, v, t, bs, rfl, S, tb, h⟩ := h
    refine ⟨_, (pss_cons (ps_expr (pe_call (ok_p_check_some T) (hr.mono (by decide)) (by rfl) T.g_p_check_some T.F_p_check_some.kp T.b_p_check_some .nil (passes_call (takes_of rfl rfl rfl rfl) (fun _ _ _ _ h => h)) (pa_cons (pv 0) pa_nil)))
      (pss_cons (ps_setLc (i := 1) (own := [("number", 2), ("step", 3)]) (g := gTup K 2 (gCons (gName 2) (gCons (gName 3) (gNil)))) rfl sc_p_longest_gap.nd rfl rfl (sw_true rfl rfl rfl (by decide +kernel)) (pi_zipM (by rfl) T.z_zip (pa_cons (pe_prop (pv 0) T.cl T.pp_classes (ok_m_Sieve_classes T) (hr.mono (by decide)) T.b_m_Sieve_classes .nil pass0 (by rfl)) (pa_cons (pe_call (ok_p_steps_in_order T) (hr.mono (by decide)) (by rfl) T.g_p_steps_in_order T.F_p_steps_in_order.kp T.b_p_steps_in_order .nil pass0 (pa_cons (pv 0) pa_nil)) pa_nil))) (blkOk_by (N := ["sieve", "gaps", "number", "step"]) (sc := defScope s_p_longest_gap) (by decide +kernel)) (fun _ _ _ _ _ => (pg_tup (by rfl) (pgs_cons (pg_name (i := 2) sc_p_longest_gap.nd rfl (by first | exact .inl rfl | exact .inr rfl)) (pgs_cons (pg_name (i := 3) sc_p_longest_gap.nd rfl (by first | exact .inl rfl | exact .inr rfl)) pgs_nil)))) (fun _ _ _ _ _ => pts_nil) (fun _ _ _ _ _ => (pe_tup (pa_cons (pe_op op_sub (pv 3) pe_int) (pa_cons (pe_op op_mod (pe_op op_add (pv 2) pe_int) (pe_prop (pv 0) T.cl T.pp_whole (ok_m_Sieve_whole T) (hr.mono (by decide)) T.b_m_Sieve_whole .nil pass0 (by rfl))) pa_nil)))))
      (pss_one (ps_ret (pe_call (ok_p_longest T TB) (hr.mono (by decide)) (by rfl) T.g_p_longest T.F_p_longest.kp T.b_p_longest .nil pass0 (pa_cons (pv 1) pa_nil)))))), ?_⟩
    refine ⟨_, rfl, p, v, t, bs, rfl, S, ?_⟩
    rcases h with ⟨h, q⟩ | ⟨h, q⟩
    · refine .inl ⟨h, fun H1 s1 => ?_⟩
      have hn : 0 < (cls bs).length := List.length_pos_iff.mpr h
      have few := choices_cls S.ok
      have hw := S.ok.mods.pos
      have S1 := S.stay s1
      refine ⟨_, rfl, p, _, _, rfl, S1.ob.choose_spec, p, v, t, bs, rfl, S1, _, rfl, p, v, t, bs, rfl, S1, hn, fun F H2 s2 nF eF => ?_⟩
      have S2 := S1.stay s2
      have len : ((cls bs).map V.int).length = ((stepsTo bs (cls bs).length).map V.int).length := by
        rw [List.length_map, List.length_map, stepsTo_len]
      refine ⟨t, F, _, _, rfl, S2.cls, lstOf eF, fun G nG => ?_⟩
      refine lc_it (walk_zipM (K := K) (a := t) (b := F) len) (fun k Hk => MarksTo H2 G (gapsL bs k) Hk) (MarksTo.start nG) (fun k Hk _ ⟨_, _, _, kp⟩ => ?_) ?_ ?_
      · have sk : Same H2 Hk := fun b o z => kp b o (ne_of_none z nG) z
        exact ⟨(S2.stay sk).cls, lstOf (sk _ _ eF)⟩
      · rintro k y Hk H8 kl ⟨xs, e, pr, kp⟩ ⟨T0, x, z, rfl, nT, rfl, hx, hz⟩
        rw [List.length_map] at kl
        obtain ⟨c, hc, rfl⟩ := getMapInt' hx
        obtain ⟨g, hg, rfl⟩ := getMapInt' hz
        rw [stepsTo_at kl] at hg
        cases hg
        have ec := st_at hw hc
        have sT := same_upd nT (o := .tup [.int c, .int (st bs ((k : Int) + 1) - st bs (k : Int))])
        have sk : Same H2 Hk := fun b o z => kp b o (ne_of_none z nG) z
        have S3 := (S2.stay sk).stay sT
        refine ⟨T0, _, rfl, tupOf upd_same, rfl, _, _, rfl, _, _, rfl, rfl, ?_⟩
        refine ⟨rfl, _, rfl, _, _, rfl, rfl, ?_⟩
        refine ⟨_, rfl, _, _, rfl, rfl, _, rfl, p, _, _, rfl, S3.ob.choose_spec, p, v, t, bs, rfl, S3, _, _, rfl, rfl, by show (0 : Int) < (wh bs : Int); omega, ?_⟩
        refine ⟨sizeOk (by show (2 : Nat) ≤ 100000; decide), fun u nu => ?_⟩
        have pr' : PrAt (upd Hk T0 (.tup [.int c, .int (st bs ((k : Int) + 1) - st bs (k : Int))])) xs (gapsL bs k) := pr.stay fun a b z => sT _ _ z
        obtain ⟨e2, m2⟩ := MarksTo.add (m := gapAt bs k) (sT _ _ e) pr' (fun b o n z => sT _ _ (kp b o n z)) nu
        have ge : gapAt bs k = (st bs ((k : Int) + 1) - st bs (k : Int) - 1, (c + 1) % (wh bs : Int)) := by
          unfold gapAt
          rw [ec]
        rw [← gapsL_succ] at m2
        rw [ge] at e2 m2
        have lx := pr.len
        rw [gapsL_len] at lx
        exact ⟨xs, e2, sizeLt (by omega), m2⟩
      · rintro Hk ⟨xs, e, pr, kp⟩
        rw [List.length_map] at pr
        have sk : Same H2 Hk := fun b o z => kp b o (ne_of_none z nG) z
        have s03 := s1.trans (s2.trans sk)
        refine ⟨_, rfl, G, xs, _, rfl, lstOf e, pr, fun z => ?_, tb.ext s03, fun r m H4 st4 tb4 hm top er => ?_⟩
        · have := gapsL_len bs (cls bs).length
          rw [z] at this
          have e0 : ([] : List (Int × Int)).length = 0 := rfl
          omega
        · exact q r m H4 ((StN.of s03).trans st4) tb4 er (gaps_top hw hn hm top)
    · exact .inr ⟨h, fun H1 s1 => q H1 s1⟩
end

end R
namespace R
open PySem PySem.Spec PyProof.Rows L2
/-! ## the longest run -/
open LamX hiding takes0
open NdefX
/-- the runs that begin at the first k classes -/
structure RunsTo (bs : List Bar) (k : Nat) (l : List (Int × Int)) : Prop where
  run : ∀ q ∈ l, MaxRun bs true q.1 q.2
  all : ∀ s b, MaxRun bs true s b → b ∈ (cls bs).take k → (s, b) ∈ l
  len : l.length ≤ k
theorem runs_top {bs : List Bar} (hw : 0 < wh bs) (hn : 0 < (cls bs).length) {l : List (Int × Int)} (r : RunsTo bs (cls bs).length l) {m : Int × Int} (hm : m ∈ l) (top : ∀ q ∈ l, q.1 < m.1 ∨ (q.1 = m.1 ∧ m.2 ≤ q.2)) : BestRun bs true m := by
  refine ⟨r.run m hm, fun s b M => top (s, b) (r.all s b M ?_)⟩
  obtain ⟨j, hj, _⟩ := run_place hw hn M
  rw [List.take_length]
  exact List.mem_of_getElem? hj
def sp_p_longest_run {K : PySem.W.Frag} {mg : Str → Option Value} (T : Txt K mg) (B : Addr) : Sp := fun vs H Q E => ∃ (p : Addr) (v : V) (t : Addr) (bs : List Bar), vs = [.ref p] ∧ SvAt K T.C H p v t bs ∧ Tabs (tabs T) H ∧
  ((cls bs ≠ [] ∧ (cls bs).length = wh bs ∧ ∀ (H' : Hp), Same H H' → Q .non H') ∨ (cls bs ≠ [] ∧ (cls bs).length ≠ wh bs ∧ ∀ (q : Addr) (m : Int × Int) (H' : Hp), StN H H' → Tabs (tabs T) H' → H' q = some (.tup [.int m.1, .int m.2]) → BestRun bs true m → Q (.ref q) H') ∨ (cls bs = [] ∧ ∀ H', Same H H' → E (.ref B) none H'))
section
variable {P : Program} {w : World} {K : PySem.W.Frag} {mg : Str → Option Value} {base : Heap}
theorem ok_p_longest_run (T : Txt K mg) (TB : Tbs base T) : FnOk P w K mg base (L2.CX P w) 6 T.f_p_longest_run T.fd_p_longest_run ["sieve"] (sp_p_longest_run T T.C_Nothing) := by
  refine T.F_p_longest_run.okX sc_p_longest_run (fun vs H Q E h => ?_) (fun cdv A outer s H vs Q E hr h => ?_)
  · obtain ⟨p, v, t, bs, rfl, _⟩ := h
    rfl
  · obtain ⟨p, v, t, bs, rfl, S, tb, h⟩ := h
    refine ⟨_, (pss_cons (ps_expr (pe_call (ok_p_check_some T) (hr.mono (by decide)) (by rfl) T.g_p_check_some T.F_p_check_some.kp T.b_p_check_some .nil (passes_call (takes_of rfl rfl rfl rfl) (fun _ _ _ _ h => h)) (pa_cons (pv 0) pa_nil)))
      (pss_cons (ps_if (pt_cmpR op_eq (pe_callB call_len_seq (by rfl) T.z_len (by decide +kernel) (pa_cons (pe_prop (pv 0) T.cl T.pp_classes (ok_m_Sieve_classes T) (hr.mono (by decide)) T.b_m_Sieve_classes .nil pass0 (by rfl)) pa_nil)) (pe_prop (pv 0) T.cl T.pp_whole (ok_m_Sieve_whole T) (hr.mono (by decide)) T.b_m_Sieve_whole .nil pass0 (by rfl)) (nomark _)) (pss_one (ps_ret pe_non)) pss_nil)
      (pss_cons (ps_set (i := 1) sc_p_longest_run.nd rfl (by first | exact .inl rfl | exact .inr rfl) (pe_lst pa_nil))
      (pss_cons (ps_for (passes_of rfl) rfl (pi_enT (by rfl) T.z_enumerate (pa_cons (pe_prop (pv 0) T.cl T.pp_classes (ok_m_Sieve_classes T) (hr.mono (by decide)) T.b_m_Sieve_classes .nil pass0 (by rfl)) pa_nil)) (pg_tup (by rfl) (pgs_cons (pg_name (i := 2) sc_p_longest_run.nd rfl (by first | exact .inl rfl | exact .inr rfl)) (pgs_cons (pg_name (i := 3) sc_p_longest_run.nd rfl (by first | exact .inl rfl | exact .inr rfl)) pgs_nil))) (pss_one (ps_if (pt_cmpR op_lt (pe_call (ok_p_standing_at T) (hr.mono (by decide)) (by rfl) T.g_p_standing_at T.F_p_standing_at.kp T.b_p_standing_at .nil pass0 (pa_cons (pv 0) (pa_cons (pe_op op_sub (pv 2) pe_int) pa_nil))) (pe_op op_sub (pv 3) pe_int) (nomark _)) (pss_one (ps_expr (pe_bm PySem.F.plainAttrs_list PySem.F.slot_list_append PySem.F.type_list_append mt_append (pv 1) (pa_cons (pe_tup (pa_cons (pe_call (ok_p_run_from T) (hr.mono (by decide)) (by rfl) T.g_p_run_from T.F_p_run_from.kp T.b_p_run_from .nil pass0 (pa_cons (pv 0) (pa_cons (pv 2) pa_nil))) (pa_cons (pv 3) pa_nil))) pa_nil)))) pss_nil)))
      (pss_one (ps_ret (pe_call (ok_p_longest T TB) (hr.mono (by decide)) (by rfl) T.g_p_longest T.F_p_longest.kp T.b_p_longest .nil pass0 (pa_cons (pv 1) pa_nil)))))))), ?_⟩
    have few := choices_cls S.ok
    have hw := S.ok.mods.pos
    by_cases h0 : cls bs = []
    · refine ⟨_, rfl, p, v, t, bs, rfl, S, .inr ⟨h0, fun H1 s1 => ?_⟩⟩
      rcases h with ⟨h, _⟩ | ⟨h, _⟩ | ⟨_, q⟩
      · exact absurd h0 h
      · exact absurd h0 h
      · exact q H1 s1
    refine ⟨_, rfl, p, v, t, bs, rfl, S, .inl ⟨h0, fun H1 s1 => ?_⟩⟩
    have hn : 0 < (cls bs).length := List.length_pos_iff.mpr h0
    have S1 := S.stay s1
    refine ⟨_, rfl, p, _, _, rfl, S1.ob.choose_spec, p, v, t, bs, rfl, S1, t, _, rfl, .inr S1.cls, _, rfl, p, _, _, rfl, S1.ob.choose_spec, p, v, t, bs, rfl, S1, ?_⟩
    rw [List.length_map]
    refine ⟨rfl, _, rfl, ite2 (fun e => ?_) (fun e => ?_)⟩
    · have e' := V.int.inj (of_decide_eq_true e)
      rcases h with ⟨_, _, q⟩ | ⟨_, h, _⟩ | ⟨h, _⟩
      · exact q H1 s1
      · omega
      · exact absurd h h0
    have ne : (cls bs).length ≠ wh bs := fun z => e (decide_eq_true (by rw [z]))
    have q : ∀ (q : Addr) (m : Int × Int) (H' : Hp), StN H H' → Tabs (tabs T) H' → H' q = some (.tup [.int m.1, .int m.2]) → BestRun bs true m → Q (.ref q) H' := by
      rcases h with ⟨_, h, _⟩ | ⟨_, _, q⟩ | ⟨h, _⟩
      · exact absurd h ne
      · exact q
      · exact absurd h h0
    clear h
    refine ⟨Nat.zero_le _, fun G nG => ?_⟩
    refine ⟨_, rfl, p, _, _, rfl, (S1.stay (same_upd nG)).ob.choose_spec, p, v, t, bs, rfl, S1.stay (same_upd nG), t, _, rfl, (S1.stay (same_upd nG)).cls, ?_⟩
    refine for_it (walk_enT (K := K) (a := t) (xs := (cls bs).map V.int)) (fun k σ Hk => ∃ (x2 x3 : Option V) (l : List (Int × Int)), σ = [some (.ref p), some (.ref G), x2, x3] ∧ RunsTo bs k l ∧ MarksTo H1 G l Hk)
      ⟨none, none, [], rfl, ⟨fun q hq => (nomatch hq), fun s b M hb => (by rw [List.take_zero] at hb; cases hb), Nat.le_refl _⟩, MarksTo.start nG⟩ (fun k σ Hk _ ⟨_, _, _, _, _, _, _, _, kp⟩ => ?_) ?_ ?_
    · have sk : Same H1 Hk := fun b o z => kp b o (ne_of_none z nG) z
      exact (S1.stay sk).cls
    · rintro k y σ Hk H8 kl ⟨x2, x3, l, rfl, rl, xs, ex, pr, kp⟩ ⟨T0, x, z, rfl, nT, rfl, hx, hz⟩
      rw [List.length_map] at kl
      cases hx
      obtain ⟨c, hc, rfl⟩ := getMapInt' hz
      have ec := st_at hw hc
      have sT := same_upd nT (o := .tup [.int (k : Nat), .int c])
      have sk : Same H1 Hk := fun b o z => kp b o (ne_of_none z nG) z
      have S3 := (S1.stay sk).stay sT
      refine ⟨T0, _, rfl, tupOf upd_same, rfl, _, _, rfl, _, _, rfl, rfl, ?_⟩
      generalize upd Hk T0 (.tup [.int (k : Nat), .int c]) = H3 at sT S3
      have e3 : (3000 : Nat) < 2 ^ 300 := by decide
      refine ⟨_, rfl, _, rfl, _, _, rfl, rfl, p, v, t, bs, _, rfl, S3, hn, by omega, fun H4 s4 => ?_⟩
      refine ⟨_, rfl, _, _, rfl, rfl, _, _, rfl, rfl, _, rfl, ite2 (fun e => ?_) (fun e => ?_)⟩
      · have e' := of_decide_eq_true e
        obtain ⟨m, m1, m2, rt, off⟩ := run_ex hn ne (k : Int)
        have M := run_max hw hn m1 rt off (by rw [ec]; exact e')
        have cm := cls_mem.mp (List.mem_of_getElem? hc)
        rw [ec, Int.emod_eq_of_lt cm.1 cm.2.1] at M
        have s34 := sT.trans s4
        refine ⟨_, rfl, .inl ⟨rfl, _, lstOf (s34 _ _ ex)⟩, ?_⟩
        have e2 : (2000 : Nat) < 2 ^ 200 := by decide
        refine ⟨_, rfl, _, rfl, p, v, t, bs, _, m, rfl, S3.stay s4, hn, by omega, m1, by omega, rt, off, fun H5 s5 => ?_⟩
        refine ⟨_, rfl, sizeOk (by show (2 : Nat) ≤ 100000; decide), fun u nu => ?_⟩
        have s35 := s34.trans s5
        have pr' : PrAt H5 xs l := pr.stay fun a b z => s35 _ _ z
        obtain ⟨e5, m5⟩ := MarksTo.add (m := ((m : Int), c)) (s35 _ _ ex) pr' (fun b o n z => s35 _ _ (kp b o n z)) nu
        have lx := pr.len
        have ll := rl.len
        refine ⟨G, _, _, rfl, rfl, e5, sizeLt (by omega), ?_⟩
        refine ⟨_, _, _, rfl, ⟨fun q hq => ?_, fun s b N hb => ?_, ?_⟩, m5⟩
        · rcases List.mem_append.mp hq with hq | hq
          · exact rl.run q hq
          · rw [List.mem_singleton.mp hq]
            exact M
        · rw [takeSucc hc] at hb
          rcases List.mem_append.mp hb with hb | hb
          · exact List.mem_append_left _ (rl.all s b N hb)
          · rw [List.mem_singleton.mp hb] at N ⊢
            rw [run_size N M]
            exact List.mem_append_right _ (List.mem_singleton.mpr rfl)
        · rw [List.length_append]
          show l.length + 1 ≤ k + 1
          omega
      · have s34 := sT.trans s4
        refine ⟨_, _, l, rfl, ⟨rl.run, fun s b N hb => ?_, by have := rl.len; omega⟩, xs, s34 _ _ ex, pr.stay fun a b z => s34 _ _ z, fun b o n z => s34 _ _ (kp b o n z)⟩
        rw [takeSucc hc] at hb
        rcases List.mem_append.mp hb with hb | hb
        · exact rl.all s b N hb
        · rw [List.mem_singleton.mp hb] at N
          obtain ⟨j, hj, lt⟩ := run_place hw hn N
          have ej : st bs (j : Int) = c := st_at hw hj
          have : (j : Int) = (k : Int) := by
            have a := pl_st hw hn (q := (j : Int))
            have b := pl_st hw hn (q := (k : Int))
            rw [ej] at a
            rw [ec] at b
            omega
          rw [this] at lt
          exact absurd (decide_eq_true lt) e
    · rintro σ Hk ⟨x2, x3, l, rfl, rl, xs, ex, pr, kp⟩
      rw [List.length_map] at rl
      have sk : Same H1 Hk := fun b o z => kp b o (ne_of_none z nG) z
      have s03 := s1.trans sk
      refine ⟨_, rfl, G, xs, l, rfl, lstOf ex, pr, fun z => ?_, tb.ext s03, fun r m H4 st4 tb4 hm top er => ?_⟩
      · obtain ⟨s, b, M⟩ := run_some hw hn ne
        obtain ⟨j, hj, _⟩ := run_place hw hn M
        have := rl.all s b M (by rw [List.take_length]; exact List.mem_of_getElem? hj)
        rw [z] at this
        cases this
      · exact q r m H4 ((StN.of s03).trans st4) tb4 er (runs_top hw hn rl hm top)
end

end R
namespace R
open PySem PySem.Spec PyProof.Rows L2
/-- what is no index -/
def OddI (K : PySem.W.Frag) (H : Hp) (x : V) : Prop := kOdd K H x ∨ ∃ i, x = .int i ∧ ¬ (0 ≤ i ∧ i ≤ 1000000000000000000000000000000)
theorem OddV.ix {K : PySem.W.Frag} {H : Hp} {x : V} (h : OddV K H x) : OddI K H x := by
  rcases h with h | rfl | rfl
  · exact .inl h
  · exact .inr ⟨_, rfl, by omega⟩
  · exact .inr ⟨_, rfl, by omega⟩
theorem OddI.same {K : PySem.W.Frag} {H H' : Hp} {x : V} (h : OddI K H x) (s : Same H H') : OddI K H' x := by
  rcases h with (h | ⟨t, h1, h2⟩) | h
  · exact .inl (.inl h)
  · exact .inl (.inr ⟨t, tySame h1 s, h2⟩)
  · exact .inr h
theorem pl_small {bs : List Bar} (S : SvOk bs) {x : Int} (hx : IsNum x) : (pl bs x).natAbs < 2 ^ 200 := by
  have h1 := pl_size S.mods.pos (x := x) (N := 1000000000000000000000000000000) (by unfold IsNum at hx; omega)
  have h2 := choices_cls S
  have h3 : 1000000000000000000000000000000 * (cls bs).length ≤ 1000000000000000000000000000000 * 2000 := Nat.mul_le_mul_left _ h2
  have : (pl bs x).natAbs ≤ 1000000000000000000000000000000 * 2000 + 2000 := by omega
  exact Nat.lt_of_le_of_lt this (by decide)
def sp_p_numbered (K : PySem.W.Frag) (C B N : Addr) : Sp := fun vs H Q E => ∃ (p : Addr) (v : V) (t : Addr) (bs : List Bar) (x y : V), vs = [.ref p, x, y] ∧ SvAt K C H p v t bs ∧
  ((OddV K H x ∧ E (.ref B) none H) ∨ ∃ i, x = .int i ∧ IsNum i ∧ ((OddI K H y ∧ E (.ref B) none H) ∨ ∃ j, y = .int j ∧ 0 ≤ j ∧ j ≤ 1000000000000000000000000000000 ∧
    ((cls bs = [] ∧ ∀ H', Same H H' → E (.ref N) none H') ∨ (cls bs ≠ [] ∧ ∀ H', Same H H' → Q (.int (st bs (pl bs i + j))) H'))))
section
variable {P : Program} {w : World} {K : PySem.W.Frag} {mg : Str → Option Value} {base : Heap}
theorem ok_p_numbered (T : Txt K mg) : FnOk P w K mg base (L2.CX P w) 6 T.f_p_numbered T.fd_p_numbered ["sieve", "begin", "index"] (sp_p_numbered K T.C T.C_BadNumber T.C_Nothing) := by
  refine T.F_p_numbered.okX sc_p_numbered (fun vs H Q E h => ?_) (fun cdv A outer s H vs Q E hr h => ?_)
  · obtain ⟨p, v, t, bs, x, y, rfl, _⟩ := h
    rfl
  · obtain ⟨p, v, t, bs, x, y, rfl, S, h⟩ := h
    refine ⟨_, (pss_cons (ps_expr (pe_call (ok_p_check_number T) (hr.mono (by decide)) (by rfl) T.g_p_check_number T.F_p_check_number.kp T.b_p_check_number .nil (passes_call (takes_of rfl rfl rfl rfl) (fun _ _ _ _ h => h)) (pa_cons (pv 1) pa_nil)))
      (pss_cons (ps_if (pt_not (pt_val (pe_call (ok_p_integer_within T) (hr.mono (by decide)) (by rfl) T.g_p_integer_within T.F_p_integer_within.kp T.b_p_integer_within .nil pass0 (pa_cons (pv 2) (pa_cons pe_int (pa_cons (pe_glob (v := .int 1000000000000000000000000000000) (by rfl) T.c_GREATEST_INDEX.choose_spec ⟨_, rfl⟩) pa_nil)))))) (pss_one (ps_raise rfl (takes_of rfl rfl rfl rfl) (pmk_own PySem.F.excBase_ValueError T.x_BadNumber T.g_BadNumber T.k_BadNumber (raises_own T.b_BadNumber T.t_BadNumber) (by rfl)))) pss_nil)
      (pss_cons (ps_expr (pe_call (ok_p_check_some T) (hr.mono (by decide)) (by rfl) T.g_p_check_some T.F_p_check_some.kp T.b_p_check_some .nil (passes_call (takes_of rfl rfl rfl rfl) (fun _ _ _ _ h => h)) (pa_cons (pv 0) pa_nil)))
      (pss_one (ps_ret (pe_call (ok_p_standing_at T) (hr.mono (by decide)) (by rfl) T.g_p_standing_at T.F_p_standing_at.kp T.b_p_standing_at .nil pass0 (pa_cons (pv 0) (pa_cons (pe_op op_add (pe_call (ok_p_place_from T) (hr.mono (by decide)) (by rfl) T.g_p_place_from T.F_p_place_from.kp T.b_p_place_from .nil pass0 (pa_cons (pv 0) (pa_cons (pv 1) pa_nil))) (pv 2)) pa_nil)))))))), ?_⟩
    rcases h with ⟨o, q⟩ | ⟨i, rfl, hi, h⟩
    · exact ⟨_, rfl, _, rfl, .inr ⟨o, q⟩⟩
    · refine ⟨_, rfl, _, rfl, .inl ⟨i, rfl, hi, ?_⟩⟩
      rcases h with ⟨o | ⟨j, rfl, hj⟩, q⟩ | ⟨j, rfl, j0, j1, h⟩
      · exact ⟨_, rfl, _, _, _, rfl, .inr ⟨o, false, rfl, iteT q⟩⟩
      · refine ⟨_, rfl, _, _, _, rfl, .inl ⟨j, rfl, _, rfl, ?_⟩⟩
        have e : (decide ((0 : Int) ≤ j) && decide (j ≤ 1000000000000000000000000000000)) = false := by
          rw [← Bool.decide_and, decide_eq_false]
          exact hj
        rw [e]
        exact iteT q
      · refine ⟨_, rfl, _, _, _, rfl, .inl ⟨j, rfl, _, rfl, ?_⟩⟩
        rw [decide_eq_true j0, decide_eq_true j1]
        refine iteF ⟨_, rfl, p, v, t, bs, rfl, S, ?_⟩
        rcases h with ⟨h, q⟩ | ⟨h, q⟩
        · exact .inr ⟨h, fun H' s' => q H' s'⟩
        · refine .inl ⟨h, fun H1 s1 => ?_⟩
          have S1 := S.stay s1
          refine ⟨_, rfl, _, rfl, _, rfl, p, v, t, bs, i, rfl, S1, hi.size, fun H2 s2 => ⟨_, rfl, _, _, rfl, rfl, p, v, t, bs, _, rfl, S1.stay s2, List.length_pos_iff.mpr h, ?_, fun H3 s3 => q _ ((s1.trans s2).trans s3)⟩⟩
          have e1 := pl_small S.ok hi
          have e2 : (2 : Nat) ^ 200 + 2 ^ 200 ≤ 2 ^ 300 := by decide
          have e3 : (1000000000000000000000000000000 : Nat) < 2 ^ 200 := by decide
          omega
end

end R
namespace R
open PySem PySem.Spec PyProof.Rows L2
/-! ## sum(xs) of a tuple of ints -/
def rSumT (K : PySem.W.Frag) : List V → Hp → VK → Prop := fun vs H Q => ∃ (a : Addr) (ns : List Int), vs = [V.ref a] ∧ SqT K H a (ns.map V.int) ∧ Q (.int ns.sum) H
theorem cr_sumT {X : Cx} (hc : X.calm = true) : CallR X (.builtin "sum") (rSumT X.K) := by
  intro pn st σ H vs us Q I r h
  obtain ⟨a, ns, rfl, ha, q⟩ := h
  rw [Vals.ref1 r]
  obtain ⟨its, rv, p, _⟩ := I.tuple ha
  obtain ⟨o, ga, ec, n, ed⟩ := id p
  have hit : IntsAre its ns := ints_of_vals rv
  have size_ : its.length = ns.length := by
    have := rv.length
    rw [List.length_map] at this
    exact this.symm
  have lt : a < st.heap.objs.size := Heap.lt_size ga
  refine call_sum_walkG (wpAny_pyIter_tuple p ?_)
  have tp : ∀ it : Obj, (st.heap.push it).IsTuple a its.toArray := fun it => ⟨o, Heap.get?_push_of_some _ ga, ec, n, ed⟩
  refine ⟨_, _, _, _, _, _, fun i => ns.getD i 0, rfl, Walks.tuple (A := X.A.in1) (by have := I.ok.hd hc; simpa using this) _ a (Nat.ne_of_lt lt) its.toArray, ⟨⟨_, Heap.get?_push_size _ rfl, rfl, rfl⟩, tp _⟩, fun b hb => ?_, fun i v hv => ?_, fun h' tk t' keep => ?_⟩
  · rw [Heap.size_push]
    rcases List.mem_cons.mp hb with rfl | hb
    · exact Nat.lt_succ_self _
    · rw [List.mem_singleton.mp hb]
      exact Nat.lt_succ_of_lt lt
  · have hi : i < ns.length := by
      have := (Array.getElem?_eq_some_iff.mp hv).1
      rw [List.size_toArray] at this
      omega
    obtain ⟨t, e⟩ := PyProof.Rows.IntsAre.int_at hit i v (by rw [← List.getElem?_toArray]; exact hv)
    exact ⟨t, e⟩
  · have e : preSum (fun i => ns.getD i 0) its.toArray.size = ns.sum := by
      rw [preSum_getD, List.size_toArray, size_, List.take_length]
    refine ⟨.int ns.sum, H, I.kept (t' := tk) fun b u hb => ?_, ⟨t', by rw [e]⟩, q⟩
    have b0 := Heap.lt_size hb
    exact keep b u (by rw [List.mem_singleton]; exact Nat.ne_of_lt b0) (Heap.get?_push_of_some _ hb)
theorem un65 {k : Nat} {A : Around} (hr : Room k A) : A.units + 65 < cLine := by
  have := hr.un
  omega

end R
namespace R
open PySem PySem.Spec PyProof.Rows L2
/-! ## a set of tuples of ints, one added -/
theorem check_set_add {P : Program} {w : World} {A : Around} {s : Shared} {a : Addr} {o : Obj} {x : Value} (ga : s.heap.get? a = some o) (hc : o.cls = .type "set") (Q : Unit → Shared → Prop) (E : Value → Shared → Prop) (q : Q () s) :
    wpAny (model P w) A (checkBuiltinCall "set.add" { pos := [.ref a, x] }) Q E s := by
  have iv : PySem.W.Looks (model P w) s.heap (isInstance (.ref a) (.type "set")) true := (PySem.W.Looks.andThen ((PySem.W.Looks.ld ga).andThen .now) (PySem.W.Looks.of_pure (by rw [hc]; exact PySem.F.sub_set_set)))
  have bk : builtinKind "set.add" = some Manifest.AttrKind.method := by decide +kernel
  have bs : splitId "set.add" = some ("set", "add") := by decide +kernel
  have ao := PySem.F.args_set_add_2 (.ref a) x
  unfold argsOk at ao
  unfold checkBuiltinCall
  simp only [bk, bs]
  refine wpAny_bind (iv A _ _ s (fun b o e => e) ?_)
  simp only [Bool.not_true, Bool.false_eq_true, if_false]
  cases hs : Manifest.signature? "set.add" with
  | none => exact wpAny_pure q
  | some sig =>
    rw [hs] at ao
    have ao' : Bind.checkArgs "set.add" sig { pos := [.ref a, x] } = pure () := ao
    show wpAny (model P w) A (Bind.checkArgs "set.add" sig { pos := [.ref a, x] }) _ _ _
    rw [ao']
    exact wpAny_pure q
theorem addT_call {P : Program} {w : World} {A : Around} {E : Value → Shared → Prop} {s : Shared} {a : Addr} {L : List (Addr × List Int)} {es : Array (Int × Value)} {ep : Nat} {t : SetTable} {x : Addr} {k : List Int} {Q : Value → Shared → Prop}
    (R : SetTR P w s.heap a L es ep t) (hx : IsT P w s.heap k x) (hu : A.in1.units < cLine) (few : L.length + 1 < 64)
    (h : ∀ (h' : Heap) (tk : Nat) (L' : List (Addr × List Int)) (es' : Array (Int × Value)) (ep' : Nat) (t' : SetTable), Heap.SameBut a s.heap h' → SetTR P w h' a L' es' ep' t' → (k ∈ L.map (·.2) → L' = L) → (k ∉ L.map (·.2) → L'.Perm ((x, k) :: L)) →
      Q .none { heap := h', gens := s.gens, drawn := s.drawn, toks := tk, os := s.os }) :
    wpAny (model P w) A (call (.builtin "set.add") [.ref a, .ref x]) Q E s := by
  obtain ⟨o, ga, ex, eo⟩ := R.ob
  refine wpAny_call (codeAny_call_builtin (by decide +kernel) PySem.F.entry_set_add (check_set_add ga ex.1 _ _ ?_))
  unfold Builtin.«set.add» Builtin.Frozenset.oneOther Builtin.Frozenset.addrOf setAdd
  simp only [List.isEmpty_nil]
  refine wpAny_bind (wpAny_bind (wpAny_pure (wpAny_pure ?_)))
  refine wpAny_bind (wpAny_holding (wpAny_bind (wpAny_pyHash_tuple hu hx ?_)))
  refine add_at (s := { s with toks := s.toks + (k.length + 1) }) R hx hu few fun b h' L' es' ep' t' sb R' m1 m2 => ?_
  exact wpAny_pure (h h' _ L' es' ep' t' sb R' m1 m2)
theorem under_cl (A : Around) (elt : Expr) (gs : List Comprehension) (scope : Scope) (pos : Pos) (d : Nat) (it acc : Value) (env : Env) : A.under (Code.compLoop (.SetComp elt gs scope pos) d it acc env) = A := by
  cases A
  rfl
theorem under_cs (A : Around) (elt : Expr) (gs : List Comprehension) (scope : Scope) (pos : Pos) (d : Nat) (it acc : Value) (env : Env) : A.under (Code.compStart (.SetComp elt gs scope pos) d it acc env) = A := by
  cases A
  rfl
theorem clTurn {prog : Program} {w : World} {A : Around} {R : Result → Shared → Prop} {s : Shared} {elt : Expr} {gs : List Comprehension} {scope : Scope} {pos : Pos} {it acc : Value} {env : Env} {d : Nat}
    (h : wpAny (model prog w) A (compTurn (.SetComp elt gs scope pos) d it acc env) (fun fin s' => match fin with
      | Fin.done f => R (Except.ok f) s'
      | Fin.again c' => c'.quiet = true ∧ codeAny (model prog w) A c' R s') (notedBy (model prog w) A env fun x s' => R (Except.error x) s') s) : codeAny (model prog w) A (Code.compLoop (.SetComp elt gs scope pos) d it acc env) R s := by
  refine codeAny_of_tree ?_
  rw [under_cl]
  exact wpAny_noted h
theorem clTurn1 {prog : Program} {w : World} {A : Around} {R : Result → Shared → Prop} {s : Shared} {elt t0 i0 t1 i1 : Expr} {ifs0 ifs1 : List Expr} {scope : Scope} {pos : Pos} {it acc : Value} {env : Env}
    (h : wpAny (model prog w) A (pyNext it) (fun r s₁ => match r with
      | none => R (Except.ok Flow.next) s₁
      | some v => wpAny (model prog w) A (letOwnedTupleGo t1 it v) (fun x s₁' => wpAny (model prog w) A (assign t1 env v) (fun x s₂ =>
          wpAny (model prog w) A (forIn ifs1 true fun c r => if r = true then do
              let ok ← PySem.isTrue c env (eval c env)
              pure (ForInStep.yield ok)
            else pure (ForInStep.yield r)) (fun ok s₃ => if ok = true then wpAny (model prog w) A (eval elt env) (fun x s₄ => wpAny (model prog w) A (call (Value.builtin "set.add") [acc, x])
                  (fun x s₅ => codeAny (model prog w) A (Code.compLoop (.SetComp elt [⟨t0, i0, ifs0, 0⟩, ⟨t1, i1, ifs1, 0⟩] scope pos) 1 it acc env) R s₅)
                  (notedBy (model prog w) A env fun e s' => R (Except.error e) s') s₄) (notedBy (model prog w) A env fun e s' => R (Except.error e) s') s₃
              else codeAny (model prog w) A (Code.compLoop (.SetComp elt [⟨t0, i0, ifs0, 0⟩, ⟨t1, i1, ifs1, 0⟩] scope pos) 1 it acc env) R s₃)
            (notedBy (model prog w) A env fun e s' => R (Except.error e) s') s₂) (notedBy (model prog w) A env fun e s' => R (Except.error e) s') s₁') (notedBy (model prog w) A env fun e s' => R (Except.error e) s') s₁)
      (notedBy (model prog w) A env fun e s' => R (Except.error e) s') s) :
    codeAny (model prog w) A (Code.compLoop (.SetComp elt [⟨t0, i0, ifs0, 0⟩, ⟨t1, i1, ifs1, 0⟩] scope pos) 1 it acc env) R s := by
  refine clTurn ?_
  unfold compTurn
  refine wpAny_bind (wpAny_standAt ?_)
  refine wpAny_bind (thn h ?_)
  rintro r s1 hr
  cases r with
  | none => exact wpAny_pure hr
  | some v =>
    refine wpAny_bind (thn hr fun _ s2 h2 => ?_)
    refine wpAny_bind (thn h2 fun _ s3 h3 => ?_)
    refine wpAny_bind (thn h3 fun ok s4 h4 => ?_)
    cases ok with
    | false =>
      rw [if_neg Bool.false_ne_true] at h4
      exact wpAny_pure ⟨rfl, h4⟩
    | true =>
      rw [if_pos rfl] at h4
      refine wpAny_bind (wpAny_bind (thn h4 fun x s5 h5 => ?_))
      refine wpAny_bind (wpAny_standAt (wpAny_bind (thn h5 fun _ s6 h6 => wpAny_pure ?_)))
      exact wpAny_pure ⟨rfl, h6⟩
theorem markNone (A : Around) : A.mark none = A := by
  cases A
  rfl
theorem clTurn0 {prog : Program} {w : World} {A : Around} {R : Result → Shared → Prop} {s : Shared} {elt t0 i0 t1 i1 : Expr} {ifs0 ifs1 : List Expr} {scope : Scope} {pos : Pos} {it acc : Value} {env : Env} (hs : ∀ x, foldedSetIterable i1 env x = pure x)
    (h : wpAny (model prog w) A (pyNext it) (fun r s₁ => match r with
      | none => R (Except.ok Flow.next) s₁
      | some v => wpAny (model prog w) A (letOwnedTupleGo t0 it v) (fun _ s₁' => wpAny (model prog w) A (assign t0 env v) (fun _ s₂ =>
          wpAny (model prog w) A (forIn ifs0 true fun c r => if r = true then do
              let ok ← PySem.isTrue c env (eval c env)
              pure (ForInStep.yield ok)
            else pure (ForInStep.yield r)) (fun ok s₃ => if ok = true then wpAny (model prog w) A (eval i1 env) (fun x s₄ => wpAny (model prog w) A (pyIter x)
                  (fun it1 s₅ => codeAny (model prog w) A (Code.compStart (.SetComp elt [⟨t0, i0, ifs0, 0⟩, ⟨t1, i1, ifs1, 0⟩] scope pos) 1 it1 acc env) (fun r s' => match r with
                    | Except.ok _ => codeAny (model prog w) A (Code.compLoop (.SetComp elt [⟨t0, i0, ifs0, 0⟩, ⟨t1, i1, ifs1, 0⟩] scope pos) 0 it acc env) R s'
                    | Except.error _ => False) s₅)
                  (notedBy (model prog w) A env fun e s' => R (Except.error e) s') s₄) (notedBy (model prog w) A env fun e s' => R (Except.error e) s') s₃
              else codeAny (model prog w) A (Code.compLoop (.SetComp elt [⟨t0, i0, ifs0, 0⟩, ⟨t1, i1, ifs1, 0⟩] scope pos) 0 it acc env) R s₃)
            (notedBy (model prog w) A env fun e s' => R (Except.error e) s') s₂) (notedBy (model prog w) A env fun e s' => R (Except.error e) s') s₁') (notedBy (model prog w) A env fun e s' => R (Except.error e) s') s₁)
      (notedBy (model prog w) A env fun e s' => R (Except.error e) s') s) :
    codeAny (model prog w) A (Code.compLoop (.SetComp elt [⟨t0, i0, ifs0, 0⟩, ⟨t1, i1, ifs1, 0⟩] scope pos) 0 it acc env) R s := by
  refine clTurn ?_
  unfold compTurn
  refine wpAny_bind (wpAny_standAt ?_)
  refine wpAny_bind (thn h ?_)
  rintro r s1 hr
  cases r with
  | none => exact wpAny_pure hr
  | some v =>
    refine wpAny_bind (thn hr fun _ s2 h2 => ?_)
    refine wpAny_bind (thn h2 fun _ s3 h3 => ?_)
    refine wpAny_bind (thn h3 fun ok s4 h4 => ?_)
    cases ok with
    | false =>
      rw [if_neg Bool.false_ne_true] at h4
      exact wpAny_pure ⟨rfl, h4⟩
    | true =>
      rw [if_pos rfl] at h4
      refine wpAny_bind (thn h4 fun x s5 h5 => ?_)
      refine wpAny_bind (wpAny_standAt ?_)
      refine wpAny_bind ?_
      show wpAny (model prog w) A (foldedSetIterable i1 env x) _ _ _
      rw [hs x]
      refine wpAny_pure (wpAny_bind (wpAny_holding (thn h5 fun it1 s6 h6 => ?_)))
      refine wpAny_bind (wpAny_runOwn (h := none) ?_ (by intro z; cases z))
      rw [markNone]
      refine codeAny_mono h6 fun r s7 h7 => ?_
      cases r with
      | error e => exact h7.elim
      | ok fl => exact wpAny_pure ⟨rfl, h7⟩
theorem csStart1 {prog : Program} {w : World} {A : Around} {R : Result → Shared → Prop} {s : Shared} {elt t0 i0 t1 i1 : Expr} {ifs0 ifs1 : List Expr} {scope : Scope} {pos : Pos} {it acc : Value} {env : Env}
    (h : codeAny (model prog w) A (Code.compLoop (.SetComp elt [⟨t0, i0, ifs0, 0⟩, ⟨t1, i1, ifs1, 0⟩] scope pos) 1 it acc env) R s)
    (h2 : wpAny (model prog w) A (pyIter it) (fun it' s' => codeAny (model prog w) A (Code.compLoop (.SetComp elt [⟨t0, i0, ifs0, 0⟩, ⟨t1, i1, ifs1, 0⟩] scope pos) 1 it' acc env) R s') (notedBy (model prog w) A env fun x s' => R (Except.error x) s') s) :
    codeAny (model prog w) A (Code.compStart (.SetComp elt [⟨t0, i0, ifs0, 0⟩, ⟨t1, i1, ifs1, 0⟩] scope pos) 1 it acc env) R s := by
  refine codeAny_of_tree ?_
  rw [under_cs]
  refine wpAny_notedAt ?_
  unfold compStart
  rw [if_neg (show ¬ ((clausesOf (.SetComp elt [⟨t0, i0, ifs0, 0⟩, ⟨t1, i1, ifs1, 0⟩] scope pos))[1]?.elim false fun x => x.is_async != 0) = true from fun z => by
    have z' : ((0 : Int) != 0) = true := z
    exact absurd z' (by decide))]
  refine wpAny_bind (wpAny_askSetting ?_)
  split
  · exact wpAny_pure ⟨rfl, h⟩
  · refine wpAny_bind (wpAny_rule ?_)
    refine wpAny_bind (wpAny_standAt ?_)
    exact wpAny_bind (thn h2 fun it' s' h' => wpAny_pure ⟨rfl, h'⟩)
/-- such a set in a state -/
theorem setTR_of {X : Cx} {pins : List (Addr × Obj)} {σ : L2.St} {H : Hp} {s : Shared} {D : Addr} {L : List (Addr × List Int)} (I : Inv X pins σ H s) (hD : H D = some (SetTO X.prog X.w D L)) (tl : ∀ p ∈ L, SqT X.K H p.1 (p.2.map V.int)) :
    ∃ es ep t, SetTR X.prog X.w s.heap D L es ep t := by
  have z : SetT0 X.prog X.w s.heap D L := by
    have z := I.hok _ _ hD
    unfold SetTO at z
    rw [ObjOk] at z
    first | exact z | exact z.1 | exact z.2
  obtain ⟨es, ep, t, o, r, tb, nd, pl, led, room, few⟩ := z.ex
  exact ⟨es, ep, t, o, r, tb, nd, fun p hp => I.isT (tl p hp), pl, led, room, few⟩
theorem addT_ok {X : Cx} {pins : List (Addr × Obj)} {σ : L2.St} {H : Hp} {s : Shared} {E : Value → Shared → Prop} {D c : Addr} {L : List (Addr × List Int)} {k : List Int} {Q : Value → Shared → Prop} (I : Inv X pins σ H s) (hD : H D = some (SetTO X.prog X.w D L))
    (tl : ∀ p ∈ L, SqT X.K H p.1 (p.2.map V.int)) (tc : SqT X.K H c (k.map V.int)) (hu : X.A.in1.in1.units < cLine) (few : L.length + 1 < 64)
    (h : ∀ s' L', (k ∈ L.map (·.2) → L' = L) → (k ∉ L.map (·.2) → L'.Perm ((c, k) :: L)) → Inv X pins σ (upd H D (SetTO X.prog X.w D L')) s' → Q .none s') :
    wpAny (model X.prog X.w) X.A (call (.builtin "set.add") [.ref D, .ref c]) Q E s := by
  obtain ⟨es, ep, t, R⟩ := setTR_of I hD tl
  refine addT_call R (I.isT tc) (Nat.lt_of_succ_lt hu) few fun h' tk L' es' ep' t' sb R' m1 m2 => h _ L' m1 m2 ?_
  obtain ⟨o, ho, _⟩ := R'.ob
  exact I.write (e := D) (t' := tk) (by rw [hD]; trivial) (.inl rfl) (fun b u hb hu => (sb.2 b hb).trans hu) ⟨o, ho⟩ (setTO_new R'.t0)
theorem wipe_keep {i : Nat} {v : V} : ∀ {vs : List Nat} {σ : L2.St}, σ[i]? = some (some v) → i ∉ vs → (wipe σ vs)[i]? = some (some v)
  | [], _, h, _ => h
  | j :: vs, σ, h, n => by
    have ne : j ≠ i := fun z => n (z ▸ List.mem_cons_self)
    show ((wipe σ vs).set j none)[i]? = some (some v)
    rw [List.getElem?_set_ne ne]
    exact wipe_keep h fun z => n (List.mem_cons_of_mem _ z)
/-- D the new set; W by the turn and a measure; within a turn W1 -/
def tScT2 (P : Program) (w : World) (K : PySem.W.Frag) (wi : TI) (g : TG) (tt : TT) (wi1 : TI) (g1 : TG) (tt1 : TT) (te : TE) (vs vs1 : List Nat) : TE := fun σ H Q => wi σ H fun J H1 => ∀ D, H1 D = none →
  ∃ W : Nat → Nat → Hp → Prop, (∃ m, W 0 m (upd H1 D (SetTO P w D []))) ∧ ∀ i m H, W i m H → (J.stop i H ∧ Q (.ref D) H) ∨
    (J.go i H ∧ ∃ Nx : Hp → Prop, (∀ H', Nx H' → ∃ m', m' < m ∧ W (i + 1) m' H') ∧ ∀ x H', J.yld i H x H' → g x (wipe σ vs) H' fun σ2 H2 => wipe σ2 vs = wipe σ vs ∧ tt σ2 H2 fun b H3 =>
      if b = true then wi1 σ2 H3 fun J1 H4 => ∃ W1 : Nat → Nat → Hp → Prop, (∃ m, W1 0 m H4) ∧ ∀ j k H, W1 j k H → (J1.stop j H ∧ Nx H) ∨
        (J1.go j H ∧ ∃ Nx1 : Hp → Prop, (∀ H', Nx1 H' → ∃ k', k' < k ∧ W1 (j + 1) k' H') ∧ ∀ x H', J1.yld j H x H' → g1 x (wipe σ2 vs1) H' fun σ3 H5 => wipe σ3 vs1 = wipe σ2 vs1 ∧ tt1 σ3 H5 fun b H6 =>
          if b = true then te σ3 H6 fun y H7 => ∃ (c : Addr) (k : List Int) (L : List (Addr × List Int)), y = .ref c ∧ SqT K H7 c (k.map V.int) ∧ H7 D = some (SetTO P w D L) ∧ (∀ p ∈ L, SqT K H7 p.1 (p.2.map V.int)) ∧ L.length + 1 < 64 ∧
            ∀ L', (k ∈ L.map (·.2) → L' = L) → (k ∉ L.map (·.2) → L'.Perm ((c, k) :: L)) → Nx1 (upd H7 D (SetTO P w D L')) else Nx1 H6) else Nx H3)
open PpSet in
set_option maxHeartbeats 8000000 in
theorem sc2_core {X : Cx} {pins : List (Addr × Obj)} {s : Shared} {σ : L2.St} {H : Hp} {Q : VK} {elt tg iter tg1 iter1 : Expr} {ifs ifs1 : List Expr} {scope : Scope} {own : List (PySem.Str × Nat)} {vs1 : List Nat} {pos pos' : Pos} {wi wi1 : TI} {g g1 : TG} {tt tt1 : TT} {te : TE}
    {use : Option (Value → Sem Unit)} {Qf : Value → Shared → Prop} (hc : X.calm = true) (hu : X.A.in1.in1.units < cLine) (hN : X.N.Nodup) (I : Inv X pins σ H s) (hi : PI X tg iter wi) (ok : BlkOk X.N X.env.scope scope own) (sub : ∀ i ∈ vs1, i ∈ own.map (·.2))
    (hg : ∀ (s : Shared) (H : Hp) (C : Addr) (cl : List (PySem.Str × Addr)) (fp : List Addr), PG (X.blk s H scope (compEnvC scope cl C X.env) fp) tg g)
    (ht : ∀ (s : Shared) (H : Hp) (C : Addr) (cl : List (PySem.Str × Addr)) (fp : List Addr), PTs (X.blk s H scope (compEnvC scope cl C X.env) fp) ifs tt)
    (hi1 : ∀ (s : Shared) (H : Hp) (C : Addr) (cl : List (PySem.Str × Addr)) (fp : List Addr), PI (X.blk s H scope (compEnvC scope cl C X.env) fp) tg1 iter1 wi1)
    (hg1 : ∀ (s : Shared) (H : Hp) (C : Addr) (cl : List (PySem.Str × Addr)) (fp : List Addr), PG (X.blk s H scope (compEnvC scope cl C X.env) fp) tg1 g1)
    (ht1 : ∀ (s : Shared) (H : Hp) (C : Addr) (cl : List (PySem.Str × Addr)) (fp : List Addr), PTs (X.blk s H scope (compEnvC scope cl C X.env) fp) ifs1 tt1)
    (he : ∀ (s : Shared) (H : Hp) (C : Addr) (cl : List (PySem.Str × Addr)) (fp : List Addr), PE (X.blk s H scope (compEnvC scope cl C X.env) fp) elt te) (hs : ∀ x, foldedSetIterable iter X.env x = pure x) (hs1 : ∀ env x, foldedSetIterable iter1 env x = pure x)
    (h : tScT2 X.prog X.w X.K wi g tt wi1 g1 tt1 te (own.map (·.2)) vs1 σ H Q)
    (last : ∀ D C s' m H', Inv X pins σ H' s' → Q (.ref D) H' → s'.heap.Ns C m → FpOk X pins H' C → compPost (model X.prog X.w) X.A X.xe use Qf (.ref D) C (.ok .next) s') :
    wpAny (model X.prog X.w) X.A (comprehension (.SetComp elt [⟨tg, iter, ifs, 0⟩, ⟨tg1, iter1, ifs1, 0⟩] scope pos) scope X.env pos' (newSet (.type "set")) false (eval iter X.env) use) Qf X.xe s := by
  have cap : ∀ y ∈ scope.names, y.2 = .free → ∃ c, X.env.cells.lookup y.1 = some c := fun y hy e => I.ok.has _ (ok.free y hy e)
  refine wpAny_comprehension_free (use := use) rfl hs (closure_ok cap) ok.kind (fun y hy e => by rw [ok.uniq y hy, e]) (thn (hi.run pins s σ H _ I h) fun xv s1 hx => thn hx fun itv s2 h2 => ?_)
  obtain ⟨it, fp, tn, J, H2, e, I2, T, st2, f2, q⟩ := h2
  subst e
  refine newSet_ok (newEnv_comp ?_)
  generalize hD : s2.heap.objs.size = D
  have fresh := I2.hok.fresh (Nat.le_of_eq hD)
  obtain ⟨W, ⟨m0, w0⟩, turn⟩ := q D fresh
  generalize hs3 : ({ s2 with heap := s2.heap.push (noSet X.w) } : Shared) = s3
  have h3 : s3.heap = s2.heap.push (noSet X.w) := hs3 ▸ rfl
  have I3 : Inv X pins σ (upd H2 D (SetTO X.prog X.w D [])) s3 := by
    rw [← hs3]
    refine I2.laid (t' := s2.toks) (fun b o e => Heap.get?_push_of_some _ e) (Nat.le_of_eq hD) ?_
    subst hD
    exact setTO_new (setTR_fresh (Heap.get?_push_size _ rfl)).t0
  have old : ∀ b ∈ fp, b < s2.heap.objs.size := fun b hb => let ⟨_, e, _⟩ := T.obj _ _ st2 b hb; Heap.lt_size e
  have f3 : ∀ b ∈ fp, FpOk X pins (upd H2 D (SetTO X.prog X.w D [])) b ∧ b < s3.heap.objs.size := fun b hb => by
    have lt := old b hb
    refine ⟨⟨?_, (f2 b hb).2⟩, h3 ▸ (by rw [Heap.size_push]; exact Nat.lt_succ_of_lt lt)⟩
    rw [upd_ne (hD ▸ Nat.ne_of_lt lt)]
    exact (f2 b hb).1
  have st3 : tn 0 s3.heap := T.keep _ _ _ st2 fun b _ o e => h3 ▸ Heap.get?_push_of_some _ e
  have I4 := block_start I3 ok hN f3
  have pg := hg s3 (upd H2 D (SetTO X.prog X.w D [])) s3.heap.objs.size (cellsFrom (s3.heap.objs.size + 1) scope.names (cloFrom X.env.cells scope.names [])) fp
  have pt := ht s3 (upd H2 D (SetTO X.prog X.w D [])) s3.heap.objs.size (cellsFrom (s3.heap.objs.size + 1) scope.names (cloFrom X.env.cells scope.names [])) fp
  have pi1 := hi1 s3 (upd H2 D (SetTO X.prog X.w D [])) s3.heap.objs.size (cellsFrom (s3.heap.objs.size + 1) scope.names (cloFrom X.env.cells scope.names [])) fp
  have pg1 := hg1 s3 (upd H2 D (SetTO X.prog X.w D [])) s3.heap.objs.size (cellsFrom (s3.heap.objs.size + 1) scope.names (cloFrom X.env.cells scope.names [])) fp
  have pt1 := ht1 s3 (upd H2 D (SetTO X.prog X.w D [])) s3.heap.objs.size (cellsFrom (s3.heap.objs.size + 1) scope.names (cloFrom X.env.cells scope.names [])) fp
  have pe := he s3 (upd H2 D (SetTO X.prog X.w D [])) s3.heap.objs.size (cellsFrom (s3.heap.objs.size + 1) scope.names (cloFrom X.env.cells scope.names [])) fp
  show codeAny _ _ (.compStart (.SetComp elt [⟨tg, iter, ifs, 0⟩, ⟨tg1, iter1, ifs1, 0⟩] scope pos) 0 (.ref it) (.ref D) (compEnvC scope (cellsFrom (s3.heap.objs.size + 1) scope.names (cloFrom X.env.cells scope.names [])) s3.heap.objs.size X.env))
    (compPost (model X.prog X.w) X.A X.xe use Qf (.ref D) s3.heap.objs.size) { s3 with heap := pushCells (s3.heap.push { cls := .type "dict", data := .dict #[] }) scope.names }
  have none3 : ∀ b ∈ fp, (upd H2 D (SetTO X.prog X.w D [])) b = none := fun b hb => (f3 b hb).1.1
  generalize hce : compEnvC scope (cellsFrom (s3.heap.objs.size + 1) scope.names (cloFrom X.env.cells scope.names [])) s3.heap.objs.size X.env = ce at I4 pg pt pi1 pg1 pt1 pe ⊢
  have cL : ce.locals = s3.heap.objs.size := hce ▸ rfl
  generalize hH3 : upd H2 D (SetTO X.prog X.w D []) = H3 at I3 I4 pg pt pi1 pg1 pt1 pe w0 none3 f3
  generalize hs4 : ({ s3 with heap := pushCells (s3.heap.push { cls := .type "dict", data := .dict #[] }) scope.names } : Shared) = s4 at I4 ⊢
  have st4 : tn 0 s4.heap := T.keep _ _ _ st3 fun b _ o e => hs4 ▸ pushCells_keeps _ _ _ _ (Heap.get?_push_of_some _ e)
  have still : ∀ {σ' : L2.St} {H' : Hp} {s' : Shared}, Inv (X.blk s3 H3 scope ce fp) [] σ' H' s' → (∀ b ∈ fp, H' b = none) → ∀ b ∈ fp, FpOk (X.blk s3 H3 scope ce fp) [] H' b := by
    intro σ' H' s' I' hn b hb
    obtain ⟨x1, x2⟩ := I'.ok.exf b hb
    exact ⟨hn b hb, x1, I'.ok.exfs b hb, .inl hb, x2, fun p hp => absurd (show p ∈ ([] : List (Addr × Obj)) ++ [] from hp) (by simp)⟩
  have loop : ∀ n s', (∃ i H', Inv (X.blk s3 H3 scope ce fp) [] (wipe σ (own.map (·.2))) H' s' ∧ tn i s'.heap ∧ (∀ b ∈ fp, H' b = none) ∧ W i n H') →
      codeAny (model X.prog X.w) X.A (.compLoop (.SetComp elt [⟨tg, iter, ifs, 0⟩, ⟨tg1, iter1, ifs1, 0⟩] scope pos) 0 (.ref it) (.ref D) ce) (compPost (model X.prog X.w) X.A X.xe use Qf (.ref D) s3.heap.objs.size) s' := by
    intro n
    induction n using Nat.strongRecOn with
    | _ n ih =>
    rintro s5 ⟨i, H5, I5, st5, n5, w5⟩
    refine clTurn0 (hs1 _) ?_
    rcases turn i n H5 w5 with ⟨stop, done⟩ | ⟨go, Nx, hNx, step⟩
    · refine thnF (T.done (X.blk s3 H3 scope ce fp) rfl rfl rfl hc i [] s5 _ H5 (fun _ _ => False) I5 (still I5 n5) st5 stop) fun r s6 ⟨hr, I6⟩ => ?_
      subst hr
      have I7 : Inv X pins σ H5 s6 := I3.call' (ch := fp) I6.os I6.base I6.hok I6.bare fun b hb => let z := (f3 b hb).1.2; ⟨z.2.2.1, z.1, z.2.2.2.1, z.2.2.2.2⟩
      have gone : H5 s3.heap.objs.size = none := cL ▸ (show H5 ce.locals = none from I6.free)
      obtain ⟨m, hm, _⟩ := I6.loc
      have hm' : s6.heap.Ns ce.locals m := hm
      rw [cL] at hm'
      exact last D s3.heap.objs.size s6 m H5 I7 done hm' (I3.fpOk (Nat.le_refl _) gone)
    · refine thnF (T.item (X.blk s3 H3 scope ce fp) rfl rfl rfl hc i [] s5 _ H5 (fun _ _ => False) I5 (still I5 n5) st5 go) fun r s6 ⟨u, hr, h6⟩ => ?_
      subst hr
      refine thnF h6 fun _ s7 ⟨x, H7, I7, r7, y7, st7, n7⟩ => ?_
      have I7' := I7.pinned (still I7 n7) (T.obj _ _ st7)
      refine thnF (pg.run _ s7 _ H7 x u _ I7' r7 (step x H7 y7)) fun _ s8 ⟨σ8, H8, I8, hw8, q8⟩ => ?_
      refine thnF (pt.run _ s8 σ8 H8 _ I8 q8) fun b s9 ⟨H9, I9, q9⟩ => ?_
      have fin : ∀ {s' : Shared} {σ' : L2.St} {H' : Hp}, Inv (X.blk s3 H3 scope ce fp) ([] ++ pinsAt fp s7.heap) σ' H' s' → σ'.length = σ8.length → (∀ (j : Nat) (v : V), (wipe σ (own.map (·.2)))[j]? = some (some v) → σ'[j]? = some (some v)) → Nx H' →
          ∃ m, m < n ∧ ∃ i H', Inv (X.blk s3 H3 scope ce fp) [] (wipe σ (own.map (·.2))) H' s' ∧ tn i s'.heap ∧ (∀ b ∈ fp, H' b = none) ∧ W i m H' := by
        intro s' σ' H' I' len' sm nx
        obtain ⟨m', hm, w'⟩ := hNx H' nx
        have pinned : ∀ b ∈ fp, ∀ o, s7.heap.get? b = some o → s'.heap.get? b = some o ∧ H' b = none := fun b hb o e => by
          have z := I'.pin (b, o) (List.mem_append_right _ (List.mem_append_right _ (mem_pinsAt hb e)))
          exact ⟨z.1, z.2.1⟩
        have len : (wipe σ (own.map (·.2))).length = σ'.length := by rw [len', ← hw8, wipe_length]
        refine ⟨m', hm, i + 1, H', (I'.unpinned (pins := [])).weak len sm, T.keep _ _ _ st7 fun b hb o e => (pinned b hb o e).1, fun b hb => ?_, w'⟩
        obtain ⟨o, e, _⟩ := T.obj _ _ st7 b hb
        exact (pinned b hb o e).2
      have sm8 : ∀ (j : Nat) (v : V), (wipe σ (own.map (·.2)))[j]? = some (some v) → σ8[j]? = some (some v) := fun j v e => (wipe_some (hw8 ▸ e)).1
      cases b with
      | false =>
        rw [if_neg Bool.false_ne_true] at q9 ⊢
        obtain ⟨m, hm, r⟩ := fin I9 rfl sm8 q9
        exact ih m hm _ r
      | true =>
        rw [if_pos rfl] at q9 ⊢
        refine thnF (pi1.run _ s9 σ8 H9 _ I9 q9) fun xv s10 hx => thnF hx fun itv s11 h11 => ?_
        obtain ⟨it1, fp1, tn1, J1, H11, e, I11, T1, st11, f11, W1, ⟨m1, w1⟩, turn1⟩ := h11
        subst e
        have still1 : ∀ {H' : Hp}, (∀ b ∈ fp1, H' b = none) → ∀ b ∈ fp1, FpOk (X.blk s3 H3 scope ce fp) ([] ++ pinsAt fp s7.heap) H' b := fun hn b hb => ⟨hn b hb, (f11 b hb).2⟩
        have wl : (wipe σ8 vs1).length = σ8.length := wipe_length _ _
        have smW : ∀ (j : Nat) (v : V), (wipe σ (own.map (·.2)))[j]? = some (some v) → (wipe σ8 vs1)[j]? = some (some v) := fun j v e => by
          obtain ⟨e1, no⟩ := wipe_some (show (wipe σ8 (own.map (·.2)))[j]? = some (some v) from hw8 ▸ e)
          exact wipe_keep e1 fun hj => no (sub j hj)
        have inner : ∀ k s', (∃ j H', Inv (X.blk s3 H3 scope ce fp) ([] ++ pinsAt fp s7.heap) (wipe σ8 vs1) H' s' ∧ tn1 j s'.heap ∧ (∀ b ∈ fp1, H' b = none) ∧ W1 j k H') →
            codeAny (model X.prog X.w) X.A (.compLoop (.SetComp elt [⟨tg, iter, ifs, 0⟩, ⟨tg1, iter1, ifs1, 0⟩] scope pos) 1 (.ref it1) (.ref D) ce) (fun r s' => match r with
              | Except.ok _ => codeAny (model X.prog X.w) X.A (.compLoop (.SetComp elt [⟨tg, iter, ifs, 0⟩, ⟨tg1, iter1, ifs1, 0⟩] scope pos) 0 (.ref it) (.ref D) ce) (compPost (model X.prog X.w) X.A X.xe use Qf (.ref D) s3.heap.objs.size) s'
              | Except.error _ => False) s' := by
          intro k
          induction k using Nat.strongRecOn with
          | _ k ih1 =>
          rintro s12 ⟨j, H12, I12, st12, n12, w12⟩
          refine clTurn1 ?_
          rcases turn1 j k H12 w12 with ⟨stop1, nx⟩ | ⟨go1, Nx1, hNx1, step1⟩
          · refine thnF (T1.done (X.blk s3 H3 scope ce fp) rfl rfl rfl hc j _ s12 _ H12 (fun _ _ => False) I12 (still1 n12) st12 stop1) fun r s13 ⟨hr, I13⟩ => ?_
            subst hr
            obtain ⟨m, hm, r⟩ := fin I13 wl smW nx
            exact ih m hm _ r
          · refine thnF (T1.item (X.blk s3 H3 scope ce fp) rfl rfl rfl hc j _ s12 _ H12 (fun _ _ => False) I12 (still1 n12) st12 go1) fun r s13 ⟨u1, hr, h13⟩ => ?_
            subst hr
            refine thnF h13 fun _ s14 ⟨x1, H14, I14, r14, y14, st14, n14⟩ => ?_
            have I14' := I14.pinned (still1 n14) (T1.obj _ _ st14)
            refine thnF (pg1.run _ s14 _ H14 x1 u1 _ I14' r14 (step1 x1 H14 y14)) fun _ s15 ⟨σ15, H15, I15, hw15, q15⟩ => ?_
            refine thnF (pt1.run _ s15 σ15 H15 _ I15 q15) fun b s16 ⟨H16, I16, q16⟩ => ?_
            have fin1 : ∀ {s' : Shared} {H' : Hp}, Inv (X.blk s3 H3 scope ce fp) (([] ++ pinsAt fp s7.heap) ++ pinsAt fp1 s14.heap) σ15 H' s' → Nx1 H' →
                ∃ m, m < k ∧ ∃ j H', Inv (X.blk s3 H3 scope ce fp) ([] ++ pinsAt fp s7.heap) (wipe σ8 vs1) H' s' ∧ tn1 j s'.heap ∧ (∀ b ∈ fp1, H' b = none) ∧ W1 j m H' := by
              intro s' H' I' nx
              obtain ⟨m', hm, w'⟩ := hNx1 H' nx
              have pinned : ∀ b ∈ fp1, ∀ o, s14.heap.get? b = some o → s'.heap.get? b = some o ∧ H' b = none := fun b hb o e => by
                have z := I'.pin (b, o) (List.mem_append_right _ (List.mem_append_right _ (mem_pinsAt hb e)))
                exact ⟨z.1, z.2.1⟩
              have len : (wipe σ8 vs1).length = σ15.length := by rw [← hw15, wipe_length]
              refine ⟨m', hm, j + 1, H', (I'.unpinned).weak len (fun j v e => (wipe_some (hw15 ▸ e)).1), T1.keep _ _ _ st14 fun b hb o e => (pinned b hb o e).1, fun b hb => ?_, w'⟩
              obtain ⟨o, e, _⟩ := T1.obj _ _ st14 b hb
              exact (pinned b hb o e).2
            cases b with
            | false =>
              rw [if_neg Bool.false_ne_true] at q16 ⊢
              obtain ⟨m, hm, r⟩ := fin1 I16 q16
              exact ih1 m hm _ r
            | true =>
              rw [if_pos rfl] at q16 ⊢
              refine thnF (pe.run _ s16 σ15 H16 _ I16 q16) fun z s17 ⟨yv, H17, I17, r17, c, kk, L, ey, tc, hD17, tl, few, nx⟩ => ?_
              subst ey
              obtain rfl : z = Value.ref c := r17
              refine addT_ok (X := X.blk s3 H3 scope ce fp) I17 hD17 tl tc hu few fun s18 L' m1 m2 I18 => ?_
              obtain ⟨m, hm, r⟩ := fin1 I18 (nx L' m1 m2)
              exact ih1 m hm _ r
        have start := inner m1 s11 ⟨0, H11, I11.weak wl (fun j v e => (wipe_some e).1), st11, fun b hb => (f11 b hb).1, w1⟩
        exact csStart1 start (T1.self X.A 0 _ _ _ st11 start)
  have first := loop m0 s4 ⟨0, H3, I4, st4, none3, w0⟩
  exact codeAny_compStart_set first (T.self X.A 0 _ _ _ st4 first)
open PpSet in
theorem pe_scT2 {X : Cx} {elt tg iter tg1 iter1 : Expr} {ifs ifs1 : List Expr} {scope : Scope} {own : List (PySem.Str × Nat)} {vs1 : List Nat} {pos : Pos} {wi wi1 : TI} {g g1 : TG} {tt tt1 : TT} {te : TE} (hc : X.calm = true) (hu : X.A.in1.in1.units < cLine) (hN : X.N.Nodup) (hi : PI X tg iter wi)
    (ok : BlkOk X.N X.env.scope scope own) (sub : ∀ i ∈ vs1, i ∈ own.map (·.2)) (hg : ∀ (s : Shared) (H : Hp) (C : Addr) (cl : List (PySem.Str × Addr)) (fp : List Addr), PG (X.blk s H scope (compEnvC scope cl C X.env) fp) tg g)
    (ht : ∀ (s : Shared) (H : Hp) (C : Addr) (cl : List (PySem.Str × Addr)) (fp : List Addr), PTs (X.blk s H scope (compEnvC scope cl C X.env) fp) ifs tt)
    (hi1 : ∀ (s : Shared) (H : Hp) (C : Addr) (cl : List (PySem.Str × Addr)) (fp : List Addr), PI (X.blk s H scope (compEnvC scope cl C X.env) fp) tg1 iter1 wi1)
    (hg1 : ∀ (s : Shared) (H : Hp) (C : Addr) (cl : List (PySem.Str × Addr)) (fp : List Addr), PG (X.blk s H scope (compEnvC scope cl C X.env) fp) tg1 g1)
    (ht1 : ∀ (s : Shared) (H : Hp) (C : Addr) (cl : List (PySem.Str × Addr)) (fp : List Addr), PTs (X.blk s H scope (compEnvC scope cl C X.env) fp) ifs1 tt1)
    (he : ∀ (s : Shared) (H : Hp) (C : Addr) (cl : List (PySem.Str × Addr)) (fp : List Addr), PE (X.blk s H scope (compEnvC scope cl C X.env) fp) elt te) (hs : ∀ x, foldedSetIterable iter X.env x = pure x := by intro _; rfl) (hs1 : ∀ env x, foldedSetIterable iter1 env x = pure x := by intro _ _; rfl) :
    PE X (.SetComp elt [⟨tg, iter, ifs, 0⟩, ⟨tg1, iter1, ifs1, 0⟩] scope pos) (tScT2 X.prog X.w X.K wi g tt wi1 g1 tt1 te (own.map (·.2)) vs1) := by
  refine ⟨fun pins s σ H Q I h => ?_⟩
  rw [eval_SetComp]
  refine sc2_core hc hu hN I hi ok sub hg ht hi1 hg1 ht1 he hs hs1 h fun D C s' m H' I' q hn f => ⟨m, hn, fun h'' sb => ⟨.ref D, H', ?_, rfl, q⟩⟩
  exact I'.turned (t' := s'.toks) (fun b o hb e => (sb.2 b hb).trans e) f.1 f.2.1 f.2.2.2.1 f.2.2.2.2.1 f.2.2.2.2.2

end R
namespace R
open PySem PySem.Spec PyProof.Rows L2
/-! ## rows of moduli and what was seen -/
theorem TupsAt.push {K : PySem.W.Frag} {H : Hp} {D t : Addr} {LL : List (List Int)} {l : List Int} (h : TupsAt K H D LL) (ht : SqT K H t (l.map V.int)) :
    ∃ ts : List Addr, H D = some (.lst (ts.map V.ref)) ∧ ts.length = LL.length ∧ TupsAt K (upd H D (.lst (ts.map V.ref ++ [V.ref t]))) D (LL ++ [l]) := by
  obtain ⟨ts, e, n, f⟩ := h.ex
  have up := lstTups (K := K) (zs := ts.map V.ref ++ [V.ref t]) e
  exact ⟨ts, e, n, TupsAt.add upd_same n (fun i u k a b => up _ _ (f i u k a b)) (up _ _ ht)⟩
theorem tupsBut {K : PySem.W.Frag} {H H' : Hp} {g : Addr} {zs : List V} (e : H g = some (.lst zs)) (kp : ∀ b o, b ≠ g → H b = some o → H' b = some o) : TupsStay K H H' := fun a xs q => by
  rcases q with (q | ⟨o, q⟩) | q
  · exact .inl (.inl (kp _ _ (fun z => by rw [z, e] at q; cases q) q))
  · exact .inl (.inr ⟨o, kp _ _ (fun z => by rw [z, e] at q; cases q) q⟩)
  · exact .inr q
theorem takeFilter {α : Type} {p : α → Bool} {xs : List α} {j : Nat} {x : α} (h : xs[j]? = some x) : (xs.take (j + 1)).filter p = (xs.take j).filter p ++ (if p x = true then [x] else []) := by
  rw [takeSucc h, List.filter_append]
  by_cases e : p x = true
  · rw [if_pos e, List.filter_cons_of_pos e]
    rfl
  · rw [if_neg e, List.filter_cons_of_neg e]
    rfl
structure MOk (ms : List Int) : Prop where
  one : 1 ≤ ms.length
  four : ms.length ≤ 4
  mod : ∀ m ∈ ms, 1 ≤ m ∧ m ≤ 30
/-- the marks of a number -/
def marksLT (ms : List Int) (x : Int) : List (List Int) := (List.range ms.length).map fun i => [((i : Nat) : Int), x % ms.getD i 1]
def marksTo (ms : List Int) (x : Int) (n : Nat) : List (List Int) := (List.range n).map fun i => [((i : Nat) : Int), x % ms.getD i 1]
theorem marksTo_succ (ms : List Int) (x : Int) (n : Nat) : marksTo ms x (n + 1) = marksTo ms x n ++ [[((n : Nat) : Int), x % ms.getD n 1]] := by
  unfold marksTo
  rw [List.range_succ, List.map_append]
  rfl
theorem marks_nodup (ms : List Int) (x : Int) : (marksLT ms x).Nodup := by
  unfold marksLT
  rw [List.nodup_iff_pairwise_ne, List.pairwise_map]
  refine List.pairwise_lt_range.imp fun {a b} h e => ?_
  have := (List.cons.inj e).1
  omega
theorem marks_two {ms : List Int} {x : Int} : ∀ z ∈ marksLT ms x, ∃ (i : Nat) (r : Int), z = [(i : Int), r] ∧ i < ms.length ∧ r = x % ms.getD i 1 := fun z hz => by
  obtain ⟨i, hi, rfl⟩ := List.mem_map.mp hz
  exact ⟨i, _, rfl, List.mem_range.mp hi, rfl⟩
/-- what was seen -/
structure SeenAt (K : PySem.W.Frag) (H : Hp) (a : Addr) (sl : List (Int × Bool)) : Prop where
  ex : ∃ xs : List V, (H a = some (.lst xs) ∨ SqT K H a xs) ∧ xs.length = sl.length ∧ ∀ (i : Nat) x p, xs[i]? = some x → sl[i]? = some p → ∃ t, x = .ref t ∧ SqT K H t [.int p.1, .bl p.2]
theorem SeenAt.stay {K : PySem.W.Frag} {H H' : Hp} {a : Addr} {sl : List (Int × Bool)} (h : SeenAt K H a sl) (s : Same H H') : SeenAt K H' a sl :=
  let ⟨xs, e, n, f⟩ := h.ex
  ⟨xs, e.imp (fun q => s _ _ q) (fun q => Same.seqTT s q), n, fun i x p a b => let ⟨t, e, q⟩ := f i x p a b; ⟨t, e, Same.seqTT s q⟩⟩
def unfitTo (sl : List (Int × Bool)) (n : Nat) : Nat := ((sl.take n).filter fun p => !p.2).length
structure SOk (sl : List (Int × Bool)) : Prop where
  few : sl.length ≤ 20
  num : ∀ p ∈ sl, IsNum p.1
  unfit : ∀ n, unfitTo sl n ≤ 8
theorem unfit_succ {sl : List (Int × Bool)} {n : Nat} {p : Int × Bool} (h : sl[n]? = some p) : unfitTo sl (n + 1) = unfitTo sl n + (if p.2 = true then 0 else 1) := by
  unfold unfitTo
  rw [takeSucc h, List.filter_append, List.length_append]
  cases e : p.2 with
  | true =>
    rw [List.filter_cons_of_neg (by rw [e]; decide), if_pos rfl]
    rfl
  | false =>
    rw [List.filter_cons_of_pos (by rw [e]; rfl), if_neg Bool.false_ne_true]
    rfl
structure HeldIs (ms : List Int) (sl : List (Int × Bool)) (hl : List (List Int)) : Prop where
  nd : hl.Nodup
  mem : ∀ z, z ∈ hl ↔ ∃ p ∈ sl, p.2 = true ∧ z ∈ marksLT ms p.1
/-- the marks of one that does not fit, the held ones left out -/
def leftOf (ms : List Int) (hl : List (List Int)) (x : Int) : List (List Int) := (marksLT ms x).filter fun z => decide (z ∉ hl)
def unheldL (ms : List Int) (hl : List (List Int)) (sl : List (Int × Bool)) : List (List (List Int)) := (sl.filter fun p => !p.2).map fun p => leftOf ms hl p.1
/-- a list of lists of tuples -/
structure LLAt (K : PySem.W.Frag) (H : Hp) (D : Addr) (ul : List (List (List Int))) : Prop where
  ex : ∃ as_ : List Addr, H D = some (.lst (as_.map V.ref)) ∧ as_.length = ul.length ∧ ∀ (i : Nat) b u, as_[i]? = some b → ul[i]? = some u → TupsAt K H b u
theorem LLAt.stay {K : PySem.W.Frag} {H H' : Hp} {D : Addr} {ul : List (List (List Int))} (h : LLAt K H D ul) (s : Same H H') : LLAt K H' D ul :=
  let ⟨as_, e, n, f⟩ := h.ex
  ⟨as_, s _ _ e, n, fun i b u x y => (f i b u x y).stay s⟩
/-- the members of a set of tuples -/
structure Mem (K : PySem.W.Frag) (H : Hp) (L : List (Addr × List Int)) (S : List Int → Prop) : Prop where
  at_ : ∀ p ∈ L, SqT K H p.1 (p.2.map V.int)
  nd : (L.map (·.2)).Nodup
  mem : ∀ z, z ∈ L.map (·.2) ↔ S z
theorem Mem.nil {K : PySem.W.Frag} {H : Hp} : Mem K H [] fun _ => False := ⟨fun p h => (by cases h), List.nodup_nil, fun z => ⟨fun h => (by cases h), fun h => h.elim⟩⟩
theorem Mem.stay {K : PySem.W.Frag} {H H' : Hp} {L : List (Addr × List Int)} {S : List Int → Prop} (h : Mem K H L S) (t : TupsStay K H H') : Mem K H' L S := ⟨fun p hp => t _ _ (h.at_ p hp), h.nd, h.mem⟩
theorem Mem.add {K : PySem.W.Frag} {H : Hp} {L L' : List (Addr × List Int)} {S : List Int → Prop} {c : Addr} {k : List Int} (h : Mem K H L S) (tc : SqT K H c (k.map V.int)) (m1 : k ∈ L.map (·.2) → L' = L) (m2 : k ∉ L.map (·.2) → L'.Perm ((c, k) :: L)) : Mem K H L' fun z => S z ∨ z = k := by
  by_cases e : k ∈ L.map (·.2)
  · rw [m1 e]
    refine ⟨h.at_, h.nd, fun z => ⟨fun hz => .inl ((h.mem z).mp hz), fun hz => ?_⟩⟩
    rcases hz with hz | rfl
    · exact (h.mem z).mpr hz
    · exact e
  · have pm := m2 e
    refine ⟨fun p hp => ?_, (pm.map (·.2)).nodup_iff.mpr (List.nodup_cons.mpr ⟨e, h.nd⟩), fun z => ?_⟩
    · rcases List.mem_cons.mp (pm.mem_iff.mp hp) with rfl | hp
      · exact tc
      · exact h.at_ p hp
    · rw [(pm.map (·.2)).mem_iff, List.map_cons, List.mem_cons, h.mem]
      exact ⟨fun z => z.elim .inr .inl, fun z => z.elim .inr .inl⟩
theorem sub_len : ∀ {xs ys : List (List Int)}, xs.Nodup → (∀ x ∈ xs, x ∈ ys) → xs.length ≤ ys.length
  | [], _, _, _ => Nat.zero_le _
  | x :: xs, ys, nd, sub => by
    obtain ⟨n1, n2⟩ := List.nodup_cons.mp nd
    have m := sub x List.mem_cons_self
    have := sub_len (xs := xs) (ys := ys.erase x) n2 fun y hy => by
      exact (List.mem_erase_of_ne (fun e : y = x => n1 (by rw [← e]; exact hy))).mpr (sub y (List.mem_cons_of_mem _ hy))
    rw [List.length_erase_of_mem m] at this
    have : 0 < ys.length := List.length_pos_of_mem m
    rw [List.length_cons]
    omega
theorem Mem.congr {K : PySem.W.Frag} {H : Hp} {L : List (Addr × List Int)} {S S' : List Int → Prop} (h : Mem K H L S) (e : ∀ z, S z ↔ S' z) : Mem K H L S' := ⟨h.at_, h.nd, fun z => (h.mem z).trans (e z)⟩
theorem Mem.few {K : PySem.W.Frag} {H : Hp} {L : List (Addr × List Int)} {S : List Int → Prop} {U : List (List Int)} (h : Mem K H L S) (u : ∀ z, S z → z ∈ U) : L.length ≤ U.length := by
  have := sub_len h.nd (ys := U) fun z hz => u z ((h.mem z).mp hz)
  rw [List.length_map] at this
  exact this
def tD (l : List Int) : PyData := .tuple (l.map PyData.int)
theorem inTup (z : List Int) : ∀ hl : List (List Int), ((hl.map tD).any fun y => PyData.eqv y (tD z)) = decide (z ∈ hl)
  | [] => by simp
  | a :: hl => by
    rw [List.map_cons, List.any_cons, inTup z hl, show PyData.eqv (tD a) (tD z) = decide (a = z) from eqvIntsT a z, ← Bool.decide_or]
    exact decide_eq_decide.mpr (by rw [List.mem_cons]; exact or_congr_left ⟨fun e => e.symm, fun e => e.symm⟩)

end R
namespace R
open PySem PySem.Spec PyProof.Rows L2
/-! ## checks of moduli and of what was seen, marks -/
/-- enumerate(xs) of a name that holds a list or a tuple -/
def iEnE (K : PySem.W.Frag) (i : Nat) : TI := fun σ H R => ∃ a, σ[i]? = some (some (.ref a)) ∧ (((∃ xs, SqL K H a xs) ∧ R (Ite K a) H) ∨ ((∃ xs, SqT K H a xs) ∧ R (IteT K a) H))
theorem pi_enumE {X : Cx} {e : Expr} {i : Nat} {p pos tpos : Pos} {elts : List Expr} {kk : Nat} (hg : Gl X "enumerate") (hm : X.mg "enumerate" = none) (ha : PA X [e] (tCons (tVar i) tNil))
    (hs : starEach [e] X.env = [(false, eval e X.env)] := by rfl) : PI X (.Tuple elts kk tpos) (.Call (.Name "enumerate" p) [e] [] pos) (iEnE X.K i) := by
  refine ⟨fun pins s σ H R I h => ?_⟩
  obtain ⟨a, hv, ⟨⟨xs, hq⟩, q⟩ | ⟨⟨xs, hq⟩, q⟩⟩ := h
  · exact (pi_enum hg hm ha hs).run pins s σ H R I ⟨_, hv, a, xs, rfl, hq, q⟩
  · exact (pi_enT hg hm ha hs).run pins s σ H R I ⟨_, hv, a, xs, rfl, hq, q⟩
theorem kit_ls {K : PySem.W.Frag} : PySem.W.kitAny K (.type "list") [.type "list", .type "tuple"] = some true := by
  unfold PySem.W.kitAny
  rw [kit_ty (r := true) (by decide +kernel)]
theorem kit_tp {K : PySem.W.Frag} : PySem.W.kitAny K (.type "tuple") [.type "list", .type "tuple"] = some true := by
  unfold PySem.W.kitAny
  rw [kit_ty (r := false) (by decide +kernel)]
  unfold PySem.W.kitAny
  rw [kit_ty (r := true) (by decide +kernel)]
def sp_p_check_moduli (K : PySem.W.Frag) : Sp := fun vs H Q _ => ∃ (a : Addr) (ms : List Int), vs = [.ref a] ∧ SqT K H a (ms.map V.int) ∧ MOk ms ∧ ∀ H', Same H H' → Q .non H'
def sp_p_is_sight (K : PySem.W.Frag) : Sp := fun vs H Q _ => ∃ (t : Addr) (p : Int × Bool), vs = [.ref t] ∧ SqT K H t [.int p.1, .bl p.2] ∧ IsNum p.1 ∧ Q (.bl true) H
def sp_p_check_seen (K : PySem.W.Frag) : Sp := fun vs H Q _ => ∃ (a : Addr) (sl : List (Int × Bool)), vs = [.ref a] ∧ SeenAt K H a sl ∧ SOk sl ∧ ∀ H', Same H H' → Q .non H'
def sp_p_marks_of (K : PySem.W.Frag) : Sp := fun vs H Q _ => ∃ (a : Addr) (ms : List Int) (x : Int), vs = [.ref a, .int x] ∧ SqT K H a (ms.map V.int) ∧ MOk ms ∧ ∀ D H', Same H H' → H D = none → TupsAt K H' D (marksLT ms x) → Q (.ref D) H'
section
variable {P : Program} {w : World} {K : PySem.W.Frag} {mg : Str → Option Value} {base : Heap}
theorem ok_p_check_moduli (T : Txt K mg) : FnOk P w K mg base CX0 4 T.f_p_check_moduli T.fd_p_check_moduli ["moduli"] (sp_p_check_moduli K) := by
  refine T.F_p_check_moduli.ok sc_p_check_moduli (fun vs H Q E h => ?_) (fun cdv A outer s H vs Q E hr h => ?_)
  · obtain ⟨a, ms, rfl, _⟩ := h
    rfl
  · obtain ⟨a, ms, rfl, ta, M, q⟩ := h
    refine ⟨_, (pss_cons (ps_if (PW.pt (pw_or (pt_not (pt_val (pe_callB call_isi (by rfl) T.z_isinstance (by decide +kernel) (pa_cons (pv 0) (pa_cons (pe_bltn (v := .ty "tuple") (by rfl) T.z_tuple (by decide +kernel) rfl) pa_nil))))) (pw_or1 (pt_not (pt_chain op_le op_le pe_int (pe_callB call_len_seq (by rfl) T.z_len (by decide +kernel) (pa_cons (pv 0) pa_nil)) (pe_glob (v := .int 4) (by rfl) T.c_MOST_MODULI.choose_spec ⟨_, rfl⟩)))))) (pss_one ps_never) pss_nil)
      (pss_one (ps_for PassesOwn.never rfl (pi_enT (by rfl) T.z_enumerate (pa_cons (pv 0) pa_nil)) (pg_tup (by rfl) (pgs_cons (pg_name (i := 1) sc_p_check_moduli.nd rfl (by first | exact .inl rfl | exact .inr rfl)) (pgs_cons (pg_name (i := 2) sc_p_check_moduli.nd rfl (by first | exact .inl rfl | exact .inr rfl)) pgs_nil))) (pss_one (ps_if (pt_not (pt_val (pe_call (ok_p_integer_within T) (hr.mono (by decide)) (by rfl) T.g_p_integer_within T.F_p_integer_within.kp T.b_p_integer_within .nil pass0 (pa_cons (pv 2) (pa_cons pe_int (pa_cons (pe_glob (v := .int 30) (by rfl) T.c_GREATEST_TOLD_BY.choose_spec ⟨_, rfl⟩) pa_nil)))))) (pss_one ps_never) pss_nil))))), ?_⟩
    have h1 := M.one
    have h4 := M.four
    refine ⟨_, rfl, _, _, _, _, _, rfl, .ty "tuple", tyTup ta, kit_ty (r := true) (by decide +kernel), true, rfl, iteF ?_⟩
    refine ⟨_, rfl, a, _, rfl, .inr ta, _, _, rfl, rfl, _, rfl, ?_⟩
    rw [List.length_map, decide_eq_true (by omega)]
    refine iteT ⟨_, _, rfl, rfl, _, rfl, ?_⟩
    rw [decide_eq_true (by omega)]
    refine iteF ⟨_, rfl, a, _, rfl, ta, for_it (walk_enT (K := K) (a := a) (xs := ms.map V.int)) (fun i σ H2 => ∃ (x y : Option V), σ = [some (.ref a), x, y] ∧ Same H H2) ⟨none, none, rfl, Same.refl _⟩ (fun i σ H2 _ ⟨_, _, _, s2⟩ => Same.seqTT s2 ta) ?_ ?_⟩
    · rintro i y σ H2 H3 hi ⟨x1, x2, rfl, s2⟩ ⟨p, z1, z2, rfl, np, rfl, e1, e2⟩
      have s3 := s2.trans (same_upd np (o := .tup [z1, z2]))
      obtain ⟨m, hm, rfl⟩ := getMapInt' e2
      have mm := M.mod m (List.mem_of_getElem? hm)
      refine ⟨p, _, rfl, tupOf upd_same, rfl, _, _, rfl, _, _, rfl, rfl, ?_⟩
      refine ⟨_, rfl, _, _, _, rfl, .inl ⟨m, rfl, _, rfl, ?_⟩⟩
      rw [decide_eq_true mm.1, decide_eq_true mm.2]
      exact iteF ⟨_, _, rfl, s3⟩
    · rintro σ H2 ⟨x1, x2, rfl, s2⟩
      exact q _ s2
theorem ok_p_is_sight (T : Txt K mg) : FnOk P w K mg base CX0 5 T.f_p_is_sight T.fd_p_is_sight ["value"] (sp_p_is_sight K) := by
  refine T.F_p_is_sight.ok sc_p_is_sight (fun vs H Q E h => ?_) (fun cdv A outer s H vs Q E hr h => ?_)
  · obtain ⟨t, p, rfl, _⟩ := h
    rfl
  · obtain ⟨t, p, rfl, tt, hn, q⟩ := h
    refine ⟨_, (pss_one (ps_ret (pe_and (pe_call (ok_p_is_pair T) (hr.mono (by decide)) (by rfl) T.g_p_is_pair T.F_p_is_pair.kp T.b_p_is_pair .nil pass0 (pa_cons (pv 0) pa_nil)) (pe_and (pe_call (ok_p_is_number T) (hr.mono (by decide)) (by rfl) T.g_p_is_number T.F_p_is_number.kp T.b_p_is_number .nil pass0 (pa_cons (pe_ix ix_tup (pv 0) pe_int (fun _ _ => rfl)) pa_nil)) (pe_one (pe_callB call_isi (by rfl) T.z_isinstance (by decide +kernel) (pa_cons (pe_ix ix_tup (pv 0) pe_int (fun _ _ => rfl)) (pa_cons (pe_bltn (v := .ty "bool") (by rfl) T.z_bool (by decide +kernel) rfl) pa_nil)))))))), ?_⟩
    refine ⟨_, rfl, _, rfl, .inr ⟨t, _, rfl, tt, true, rfl, iteT ?_⟩⟩
    refine ⟨_, rfl, t, _, _, _, rfl, rfl, tt, atI_nat (j := 0) rfl, _, rfl, .inl ⟨p.1, rfl, hn, true, rfl, iteT ?_⟩⟩
    exact ⟨_, rfl, t, _, _, _, rfl, rfl, tt, atI_nat (j := 1) rfl, _, _, _, _, _, rfl, .ty "bool", .base (.bl p.2), kit_ty (r := true) (by decide +kernel), q⟩
theorem ok_p_check_seen (T : Txt K mg) : FnOk P w K mg base CX0 6 T.f_p_check_seen T.fd_p_check_seen ["seen"] (sp_p_check_seen K) := by
  refine T.F_p_check_seen.ok sc_p_check_seen (fun vs H Q E h => ?_) (fun cdv A outer s H vs Q E hr h => ?_)
  · obtain ⟨a, sl, rfl, _⟩ := h
    rfl
  · obtain ⟨a, sl, rfl, S, O, q⟩ := h
    refine ⟨_, (pss_cons (ps_if (PW.pt (pw_or (pt_not (pt_val (pe_callB call_isiT (by rfl) T.z_isinstance (by decide +kernel) (pa_cons (pv 0) (pa_cons (pe_tup (pa_cons (pe_bltn (v := .ty "list") (by rfl) T.z_list (by decide +kernel) rfl) (pa_cons (pe_bltn (v := .ty "tuple") (by rfl) T.z_tuple (by decide +kernel) rfl) pa_nil))) pa_nil))))) (pw_or1 (pt_cmpR op_gt (pe_callB call_len_seq (by rfl) T.z_len (by decide +kernel) (pa_cons (pv 0) pa_nil)) (pe_glob (v := .int 20) (by rfl) T.c_MOST_SEEN.choose_spec ⟨_, rfl⟩) (nomark _))))) (pss_one ps_never) pss_nil)
      (pss_cons (ps_set (i := 1) sc_p_check_seen.nd rfl (by first | exact .inl rfl | exact .inr rfl) pe_int)
      (pss_one (ps_for PassesOwn.never rfl (pi_enumE (i := 0) (by rfl) T.z_enumerate (pa_cons (pv 0) pa_nil)) (pg_tup (by rfl) (pgs_cons (pg_name (i := 2) sc_p_check_seen.nd rfl (by first | exact .inl rfl | exact .inr rfl)) (pgs_cons (pg_name (i := 3) sc_p_check_seen.nd rfl (by first | exact .inl rfl | exact .inr rfl)) pgs_nil))) (pss_cons (ps_if (pt_not (pt_val (pe_call (ok_p_is_sight T) (hr.mono (by decide)) (by rfl) T.g_p_is_sight T.F_p_is_sight.kp T.b_p_is_sight .nil pass0 (pa_cons (pv 3) pa_nil)))) (pss_one ps_never) pss_nil)
      (C8.pss_cut (ps_if (pt_not (pt_val (pe_ix ix_tup (pv 3) pe_int (fun _ _ => rfl)))) (pss_one (ps_aug (i := 1) sc_p_check_seen.nd rfl (.inl rfl) pe_int ip_add)) pss_nil)
      (pss_one (ps_if (pt_cmpR op_gt (pv 1) (pe_glob (v := .int 8) (by rfl) T.c_MOST_UNFIT.choose_spec ⟨_, rfl⟩) (nomark _)) (pss_one ps_never) pss_nil)))))))), ?_⟩
    obtain ⟨xs, hx, nx, fx⟩ := S.ex
    have f20 := O.few
    refine ⟨_, rfl, sizeOk (by show (2 : Nat) ≤ 100000; decide), fun tp ntp => ?_⟩
    have s1 := same_upd ntp (o := .tup [.ty "list", .ty "tuple"])
    have e1 := upd_same (H := H) (a := tp) (o := .tup [.ty "list", .ty "tuple"])
    generalize upd H tp (.tup [.ty "list", .ty "tuple"]) = H1 at s1 e1 ⊢
    have hx1 : H1 a = some (.lst xs) ∨ SqT K H1 a xs := hx.imp (fun q => s1 _ _ q) (fun q => Same.seqTT s1 q)
    obtain ⟨tt, ht, hk⟩ : ∃ tt, TyX K H1 (.ref a) tt ∧ PySem.W.kitAny K tt [.type "list", .type "tuple"] = some true := by
      rcases hx1 with hl | ht
      · exact ⟨.type "list", .base (.lst hl), kit_ls⟩
      · exact ⟨.type "tuple", tyTup ht, kit_tp⟩
    refine ⟨_, tp, _, tt, _, true, rfl, e1, .cons (.ty "list") (.cons (.ty "tuple") .nil), ht, hk, true, rfl, iteF ?_⟩
    refine ⟨_, rfl, a, xs, rfl, hx1.imp lstOf id, _, _, rfl, rfl, _, rfl, ite2 (fun e => ?_) (fun e => ?_)⟩
    · have := of_decide_eq_true e
      omega
    refine ⟨a, rfl, ?_⟩
    rcases hx1 with hl | ht
    · refine .inl ⟨⟨_, lstOf hl⟩, for_it (walk_enum (K := K) (a := a) (xs := xs)) (fun i σ H2 => ∃ x2 x3 : Option V, σ = [some (.ref a), some (.int (unfitTo sl i : Nat)), x2, x3] ∧ Same H1 H2) ⟨_, _, rfl, Same.refl _⟩ (fun i σ H2 _ ⟨_, _, _, s2⟩ => lstOf (s2 _ _ hl)) ?_ ?_⟩
      · rintro i y σ H2 H3 hi ⟨x2, x3, rfl, s2⟩ ⟨p, z1, z2, rfl, np, rfl, e1', e2⟩
        have s3 := s2.trans (same_upd np (o := .tup [z1, z2]))
        have il : i < sl.length := by omega
        have hsl : sl[i]? = some sl[i] := List.getElem?_eq_getElem il
        obtain ⟨t, rfl, qt⟩ := fx i z2 _ e2 hsl
        have qt3 := Same.seqTT (s1.trans s3) qt
        refine ⟨p, _, rfl, tupOf upd_same, rfl, _, _, rfl, _, _, rfl, rfl, ?_⟩
        refine ⟨_, rfl, t, sl[i], rfl, qt3, O.num _ (List.getElem_mem il), true, rfl, iteF ?_⟩
        have u8 := O.unfit (i + 1)
        have us := unfit_succ hsl
        refine ⟨fun σ H' => ∃ x2 x3 : Option V, σ = [some (.ref a), some (.int (unfitTo sl (i + 1) : Nat)), x2, x3] ∧ Same H1 H', ?_, ?_⟩
        · refine ⟨_, rfl, t, _, _, _, rfl, rfl, qt3, atI_nat (j := 1) rfl, _, rfl, ?_⟩
          cases e : sl[i].2 with
          | true =>
            rw [e, if_pos rfl] at us
            exact iteF ⟨some z1, some (.ref t), by rw [us]; rfl, s3⟩
          | false =>
            rw [e, if_neg Bool.false_ne_true] at us
            exact iteT ⟨_, rfl, _, _, rfl, rfl, some z1, some (.ref t), by rw [us]; rfl, s3⟩
        · rintro σ H4 ⟨x2, x3, rfl, s4⟩
          refine ⟨_, rfl, _, _, rfl, rfl, _, rfl, ite2 (fun e => ?_) (fun e => ?_)⟩
          · have := of_decide_eq_true e
            omega
          · exact ⟨_, _, rfl, s4⟩
      · rintro σ H2 ⟨x2, x3, rfl, s2⟩
        exact q _ (s1.trans s2)
    · refine .inr ⟨⟨_, ht⟩, for_it (walk_enT (K := K) (a := a) (xs := xs)) (fun i σ H2 => ∃ x2 x3 : Option V, σ = [some (.ref a), some (.int (unfitTo sl i : Nat)), x2, x3] ∧ Same H1 H2) ⟨_, _, rfl, Same.refl _⟩ (fun i σ H2 _ ⟨_, _, _, s2⟩ => Same.seqTT s2 ht) ?_ ?_⟩
      · rintro i y σ H2 H3 hi ⟨x2, x3, rfl, s2⟩ ⟨p, z1, z2, rfl, np, rfl, e1', e2⟩
        have s3 := s2.trans (same_upd np (o := .tup [z1, z2]))
        have il : i < sl.length := by omega
        have hsl : sl[i]? = some sl[i] := List.getElem?_eq_getElem il
        obtain ⟨t, rfl, qt⟩ := fx i z2 _ e2 hsl
        have qt3 := Same.seqTT (s1.trans s3) qt
        refine ⟨p, _, rfl, tupOf upd_same, rfl, _, _, rfl, _, _, rfl, rfl, ?_⟩
        refine ⟨_, rfl, t, sl[i], rfl, qt3, O.num _ (List.getElem_mem il), true, rfl, iteF ?_⟩
        have u8 := O.unfit (i + 1)
        have us := unfit_succ hsl
        refine ⟨fun σ H' => ∃ x2 x3 : Option V, σ = [some (.ref a), some (.int (unfitTo sl (i + 1) : Nat)), x2, x3] ∧ Same H1 H', ?_, ?_⟩
        · refine ⟨_, rfl, t, _, _, _, rfl, rfl, qt3, atI_nat (j := 1) rfl, _, rfl, ?_⟩
          cases e : sl[i].2 with
          | true =>
            rw [e, if_pos rfl] at us
            exact iteF ⟨some z1, some (.ref t), by rw [us]; rfl, s3⟩
          | false =>
            rw [e, if_neg Bool.false_ne_true] at us
            exact iteT ⟨_, rfl, _, _, rfl, rfl, some z1, some (.ref t), by rw [us]; rfl, s3⟩
        · rintro σ H4 ⟨x2, x3, rfl, s4⟩
          refine ⟨_, rfl, _, _, rfl, rfl, _, rfl, ite2 (fun e => ?_) (fun e => ?_)⟩
          · have := of_decide_eq_true e
            omega
          · exact ⟨_, _, rfl, s4⟩
      · rintro σ H2 ⟨x2, x3, rfl, s2⟩
        exact q _ (s1.trans s2)
theorem ok_p_marks_of (T : Txt K mg) : FnOk P w K mg base CX0 2 T.f_p_marks_of T.fd_p_marks_of ["moduli", "number"] (sp_p_marks_of K) := by
  refine T.F_p_marks_of.ok sc_p_marks_of (fun vs H Q E h => ?_) (fun cdv A outer s H vs Q E hr h => ?_)
  · obtain ⟨a, ms, x, rfl, _⟩ := h
    rfl
  · obtain ⟨a, ms, x, rfl, ta, M, q⟩ := h
    refine ⟨_, (pss_one (ps_ret (pe_lc (own := [("index", 2), ("modulus", 3)]) (g := gTup K 2 (gCons (gName 2) (gCons (gName 3) (gNil)))) rfl sc_p_marks_of.nd (pi_enT (by rfl) T.z_enumerate (pa_cons (pv 0) pa_nil)) (blkOk_by (N := ["moduli", "number", "index", "modulus"]) (sc := defScope s_p_marks_of) (by decide +kernel)) (fun _ _ _ _ _ => (pg_tup (by rfl) (pgs_cons (pg_name (i := 2) sc_p_marks_of.nd rfl (by first | exact .inl rfl | exact .inr rfl)) (pgs_cons (pg_name (i := 3) sc_p_marks_of.nd rfl (by first | exact .inl rfl | exact .inr rfl)) pgs_nil)))) (fun _ _ _ _ _ => pts_nil) (fun _ _ _ _ _ => (pe_tup (pa_cons (pv 2) (pa_cons (pe_op op_mod (pv 1) (pv 3)) pa_nil))))))), ?_⟩
    refine ⟨_, rfl, a, _, rfl, ta, fun D nD => ?_⟩
    have l4 := M.four
    refine lc_it (walk_enT (K := K) (a := a) (xs := ms.map V.int)) (fun j Hj => TupsAt K Hj D (marksTo ms x j) ∧ Same H Hj) ⟨TupsAt.nil upd_same, same_upd nD⟩ (fun j Hj _ ⟨_, sj⟩ => Same.seqTT sj ta) ?_ ?_
    · rintro j y Hj H2 hj ⟨TD, sj⟩ ⟨p, z1, z2, rfl, np, rfl, e1, e2⟩
      obtain ⟨m, hm, rfl⟩ := getMapInt' e2
      have mm := M.mod m (List.mem_of_getElem? hm)
      cases Option.some.inj e1
      have sp := same_upd np (o := .tup [.int (j : Nat), .int m])
      have TD2 := TD.stay sp
      refine ⟨p, _, rfl, tupOf upd_same, rfl, _, _, rfl, _, _, rfl, rfl, rfl, _, rfl, _, rfl, _, rfl, _, _, rfl, rfl, by show (0 : Int) < m; omega, sizeOk (by show (2 : Nat) ≤ 100000; decide), fun u nu => ?_⟩
      have su := same_upd nu (o := .tup [.int (j : Nat), .int (x % m)])
      obtain ⟨us, eu, lu, Tn⟩ := (TD2.stay su).push (t := u) (l := [((j : Nat) : Int), x % m]) (tupOf upd_same)
      refine ⟨_, eu, ?_, ?_, samePut (sj.trans (sp.trans su)) nD⟩
      · rw [List.length_map, lu]
        unfold marksTo
        rw [List.length_map, List.length_range]
        rw [List.length_map] at hj
        exact sizeLt (by omega)
      · rw [marksTo_succ, show ms.getD j 1 = m by rw [List.getD_eq_getElem?_getD, hm]; rfl]
        exact Tn
    · rintro H2 ⟨TD, s2⟩
      rw [List.length_map] at TD
      exact q D _ s2 nD TD
end

end R
namespace R
open PySem PySem.Spec PyProof.Rows L2
/-! ## walks of a set comprehension of two fors -/
section
variable {P : Program} {w : World} {K : PySem.W.Frag}
/-- the inner walk -/
def Inner (P : Program) (w : World) (K : PySem.W.Frag) (g1 : TG) (tt1 : TT) (te : TE) (vs1 : List Nat) (σ2 : L2.St) (D : Addr) (J1 : It) (H4 : Hp) (Nx : Hp → Prop) : Prop :=
  ∃ W1 : Nat → Nat → Hp → Prop, (∃ m, W1 0 m H4) ∧ ∀ j k H, W1 j k H → (J1.stop j H ∧ Nx H) ∨
        (J1.go j H ∧ ∃ Nx1 : Hp → Prop, (∀ H', Nx1 H' → ∃ k', k' < k ∧ W1 (j + 1) k' H') ∧ ∀ x H', J1.yld j H x H' → g1 x (wipe σ2 vs1) H' fun σ3 H5 => wipe σ3 vs1 = wipe σ2 vs1 ∧ tt1 σ3 H5 fun b H6 =>
          if b = true then te σ3 H6 fun y H7 => ∃ (c : Addr) (k : List Int) (L : List (Addr × List Int)), y = .ref c ∧ SqT K H7 c (k.map V.int) ∧ H7 D = some (SetTO P w D L) ∧ (∀ p ∈ L, SqT K H7 p.1 (p.2.map V.int)) ∧ L.length + 1 < 64 ∧
            ∀ L', (k ∈ L.map (·.2) → L' = L) → (k ∉ L.map (·.2) → L'.Perm ((c, k) :: L)) → Nx1 (upd H7 D (SetTO P w D L')) else Nx1 H6)
theorem inner_list {g1 : TG} {tt1 : TT} {te : TE} {vs1 : List Nat} {σ2 : L2.St} {D a : Addr} {xs : List V} {H4 : Hp} {Nx : Hp → Prop} (Pv : Nat → Hp → Prop) (h0 : Pv 0 H4) (hl : ∀ j H, j ≤ xs.length → Pv j H → SqL K H a xs)
    (hs : ∀ j x H, xs[j]? = some x → Pv j H → g1 x (wipe σ2 vs1) H fun σ3 H5 => wipe σ3 vs1 = wipe σ2 vs1 ∧ tt1 σ3 H5 fun b H6 =>
          if b = true then te σ3 H6 fun y H7 => ∃ (c : Addr) (k : List Int) (L : List (Addr × List Int)), y = .ref c ∧ SqT K H7 c (k.map V.int) ∧ H7 D = some (SetTO P w D L) ∧ (∀ p ∈ L, SqT K H7 p.1 (p.2.map V.int)) ∧ L.length + 1 < 64 ∧
            ∀ L', (k ∈ L.map (·.2) → L' = L) → (k ∉ L.map (·.2) → L'.Perm ((c, k) :: L)) → Pv (j + 1) (upd H7 D (SetTO P w D L')) else Pv (j + 1) H6)
    (hd : ∀ H, Pv xs.length H → Nx H) : Inner P w K g1 tt1 te vs1 σ2 D (Itl K a) H4 Nx := by
  refine ⟨fun j m H => m = xs.length - j ∧ j ≤ xs.length ∧ Pv j H, ⟨_, rfl, Nat.zero_le _, h0⟩, ?_⟩
  rintro j _ H ⟨rfl, hj, p⟩
  by_cases lt : j < xs.length
  · refine .inr ⟨⟨xs, xs[j], hl j H hj p, by simp [lt]⟩, Pv (j + 1), fun H' p' => ⟨xs.length - (j + 1), by omega, rfl, lt, p'⟩, fun x H' ⟨e, y⟩ => ?_⟩
    subst e
    exact hs j x _ (y xs (hl j _ hj p)) p
  · obtain rfl : j = xs.length := by omega
    exact .inl ⟨⟨xs, hl _ H hj p, Nat.le_refl _⟩, hd H p⟩
theorem scT2_run {wi1 : TI} {g g1 : TG} {tt tt1 : TT} {te : TE} {vs vs1 : List Nat} {σ : L2.St} {H1 : Hp} {D : Addr} {Qd : Hp → Prop} {J : It} {xs : List V} (Pv : Nat → Hp → Prop) (h0 : Pv 0 (upd H1 D (SetTO P w D [])))
    (go : ∀ i H, i < xs.length → Pv i H → J.go i H) (stop : ∀ H, Pv xs.length H → J.stop xs.length H) (yld : ∀ i H x H', i < xs.length → Pv i H → J.yld i H x H' → H' = H ∧ xs[i]? = some x)
    (hs : ∀ i x H, xs[i]? = some x → Pv i H → g x (wipe σ vs) H fun σ2 H2 => wipe σ2 vs = wipe σ vs ∧ tt σ2 H2 fun b H3 => if b = true then wi1 σ2 H3 fun J1 H4 => Inner P w K g1 tt1 te vs1 σ2 D J1 H4 (Pv (i + 1)) else Pv (i + 1) H3)
    (hd : ∀ H, Pv xs.length H → Qd H) : ∃ W : Nat → Nat → Hp → Prop, (∃ m, W 0 m (upd H1 D (SetTO P w D []))) ∧ ∀ i m H, W i m H → (J.stop i H ∧ Qd H) ∨
    (J.go i H ∧ ∃ Nx : Hp → Prop, (∀ H', Nx H' → ∃ m', m' < m ∧ W (i + 1) m' H') ∧ ∀ x H', J.yld i H x H' → g x (wipe σ vs) H' fun σ2 H2 => wipe σ2 vs = wipe σ vs ∧ tt σ2 H2 fun b H3 =>
      if b = true then wi1 σ2 H3 fun J1 H4 => ∃ W1 : Nat → Nat → Hp → Prop, (∃ m, W1 0 m H4) ∧ ∀ j k H, W1 j k H → (J1.stop j H ∧ Nx H) ∨
        (J1.go j H ∧ ∃ Nx1 : Hp → Prop, (∀ H', Nx1 H' → ∃ k', k' < k ∧ W1 (j + 1) k' H') ∧ ∀ x H', J1.yld j H x H' → g1 x (wipe σ2 vs1) H' fun σ3 H5 => wipe σ3 vs1 = wipe σ2 vs1 ∧ tt1 σ3 H5 fun b H6 =>
          if b = true then te σ3 H6 fun y H7 => ∃ (c : Addr) (k : List Int) (L : List (Addr × List Int)), y = .ref c ∧ SqT K H7 c (k.map V.int) ∧ H7 D = some (SetTO P w D L) ∧ (∀ p ∈ L, SqT K H7 p.1 (p.2.map V.int)) ∧ L.length + 1 < 64 ∧
            ∀ L', (k ∈ L.map (·.2) → L' = L) → (k ∉ L.map (·.2) → L'.Perm ((c, k) :: L)) → Nx1 (upd H7 D (SetTO P w D L')) else Nx1 H6) else Nx H3) := by
  refine ⟨fun i m H => m = xs.length - i ∧ i ≤ xs.length ∧ Pv i H, ⟨_, rfl, Nat.zero_le _, h0⟩, ?_⟩
  rintro i _ H ⟨rfl, hi, p⟩
  by_cases lt : i < xs.length
  · refine .inr ⟨go i H lt p, Pv (i + 1), fun H' p' => ⟨xs.length - (i + 1), by omega, rfl, lt, p'⟩, fun x H' y => ?_⟩
    obtain ⟨rfl, hx⟩ := yld i H x H' lt p y
    exact hs i x _ hx p
  · obtain rfl : i = xs.length := by omega
    exact .inl ⟨stop H p, hd H p⟩
end

end R
namespace R
open PySem PySem.Spec PyProof.Rows L2
/-! ## held marks -/
def sp_p_held_marks (K : PySem.W.Frag) : Sp := fun vs H Q _ => ∃ (a b : Addr) (ms : List Int) (sl : List (Int × Bool)) (U : List (List Int)), vs = [.ref a, .ref b] ∧ SqT K H a (ms.map V.int) ∧ MOk ms ∧ SeenAt K H b sl ∧ U.length ≤ 60 ∧ (∀ p ∈ sl, p.2 = true → ∀ z ∈ marksLT ms p.1, z ∈ U) ∧
  ∀ D hl H', Same H H' → H D = none → TupsAt K H' D hl → HeldIs ms sl hl → Q (.ref D) H'
/-- the marks of the first i that fit, and the first j marks of the next -/
def InHeld (ms : List Int) (sl : List (Int × Bool)) (i : Nat) (z : List Int) : Prop := ∃ p ∈ sl.take i, p.2 = true ∧ z ∈ marksLT ms p.1
theorem marksL_at {ms : List Int} {x : Int} {j : Nat} {z : List Int} (h : (marksLT ms x)[j]? = some z) : (marksLT ms x).take (j + 1) = (marksLT ms x).take j ++ [z] := takeSucc h
section
variable {P : Program} {w : World} {K : PySem.W.Frag} {mg : Str → Option Value} {base : Heap}
set_option maxHeartbeats 1600000 in
theorem ok_p_held_marks (T : Txt K mg) : FnOk P w K mg base CX0 3 T.f_p_held_marks T.fd_p_held_marks ["moduli", "seen"] (sp_p_held_marks K) := by
  refine T.F_p_held_marks.ok sc_p_held_marks (fun vs H Q E h => ?_) (fun cdv A outer s H vs Q E hr h => ?_)
  · obtain ⟨a, b, ms, sl, U, rfl, _⟩ := h
    rfl
  · obtain ⟨a, b, ms, sl, U, rfl, ta, M, S, u60, hU, q⟩ := h
    refine ⟨_, (pss_one (ps_ret (pe_callB (cr_sortedT rfl) (by rfl) T.z_sorted (by decide +kernel) (pa_cons (pe_scT2 (own := [("number", 2), ("does", 3), ("mark", 4)]) (vs1 := [4]) (g := gTup K 2 (gCons (gName 2) (gCons (gName 3) (gNil)))) rfl (in2u hr) sc_p_held_marks.nd (pi_either (pv 1)) (blkOk_by (N := ["moduli", "seen", "number", "does", "mark"]) (sc := defScope s_p_held_marks) (by decide +kernel)) (by decide) (fun _ _ _ _ _ => (pg_tup (by rfl) (pgs_cons (pg_name (i := 2) sc_p_held_marks.nd rfl (by first | exact .inl rfl | exact .inr rfl)) (pgs_cons (pg_name (i := 3) sc_p_held_marks.nd rfl (by first | exact .inl rfl | exact .inr rfl)) pgs_nil)))) (fun _ _ _ _ _ => (pts_one (pt_val (pv 3)))) (fun _ _ _ _ _ => (pi_listK (K := K) rfl (pe_call (ok_p_marks_of T) (hr.mono (by decide)) (by rfl) T.g_p_marks_of T.F_p_marks_of.kp T.b_p_marks_of .nil pass0 (pa_cons (pv 0) (pa_cons (pv 2) pa_nil))))) (fun _ _ _ _ _ => (pg_name (i := 4) sc_p_held_marks.nd rfl (by first | exact .inl rfl | exact .inr rfl))) (fun _ _ _ _ _ => pts_nil) (fun _ _ _ _ _ => (pv 4))) pa_nil)))), ?_⟩
    obtain ⟨xs, hx, nx, fx⟩ := S.ex
    refine ⟨_, rfl, b, rfl, ?_⟩
    have tail : ∀ (D : Addr) (H2 : Hp) (L : List (Addr × List Int)), H D = none → H2 D = some (SetTO P w D L) → Mem K H2 L (InHeld ms sl sl.length) → (∀ c o, c ≠ D → H c = some o → H2 c = some o) →
        rSortedT K P w [.ref D] H2 Q := fun D H2 L nD eD mm kp => by
      refine ⟨D, L, 2, 64, rfl, eD, mm.at_, by decide, fun p hp => ?_, fun L' p' pm nd lt up np => ?_⟩
      · obtain ⟨s0, hs0, d0, hz⟩ := (mm.mem p.2).mp (List.mem_map.mpr ⟨p, hp, rfl⟩)
        obtain ⟨i, r, e, il, er⟩ := marks_two _ hz
        rw [e]
        have mi := M.mod (ms.getD i 1) (by rw [List.getD_eq_getElem?_getD, List.getElem?_eq_getElem il]; exact List.getElem_mem il)
        have r0 := Int.emod_nonneg s0.1 (show ms.getD i 1 ≠ 0 by omega)
        have r1 := Int.emod_lt_of_pos s0.1 (show (0 : Int) < ms.getD i 1 by omega)
        have h4 := M.four
        refine ⟨rfl, fun m hm => ?_⟩
        rcases List.mem_cons.mp hm with rfl | hm
        · omega
        · rw [List.mem_singleton.mp hm, er]
          omega
      · have sp := same_upd np (o := .lst (L'.map fun q => V.ref q.1))
        have hD : ∀ c o, H c = some o → c ≠ D := fun c o e z => by rw [z, nD] at e; cases e
        refine q p' (L'.map (·.2)) _ (fun c o e => sp _ _ (kp c o (hD c o e) e)) ?_ ⟨L'.map (·.1), by rw [upd_same, List.map_map]; rfl, by rw [List.length_map, List.length_map], fun i t l h1 h2 => ?_⟩ ⟨nd, fun z => ?_⟩
        · cases e : H p' with
          | none => rfl
          | some o =>
            have := kp p' o (hD p' o e) e
            rw [np] at this
            cases this
        · rw [List.getElem?_map] at h1 h2
          obtain ⟨z1, g1, rfl⟩ := Option.map_eq_some_iff.mp h1
          rw [g1] at h2
          cases h2
          exact Same.seqTT sp (mm.at_ z1 (pm.mem_iff.mp (List.mem_of_getElem? g1)))
        · rw [(pm.map (·.2)).mem_iff, mm.mem]
          unfold InHeld
          rw [List.take_length]
    rcases hx with hl | ht
    · refine .inl ⟨⟨_, lstOf hl⟩, fun D nD => ?_⟩
      have bD : b ≠ D := fun z => by rw [z, nD] at hl; cases hl
      refine scT2_run (K := K) (xs := xs) (fun i Hi => ∃ L, Hi D = some (SetTO P w D L) ∧ Mem K Hi L (InHeld ms sl i) ∧ ∀ c o, c ≠ D → H c = some o → Hi c = some o) ⟨[], upd_same, Mem.nil.congr fun z => ⟨fun h => h.elim, fun ⟨p, hp, _⟩ => by rw [List.take_zero] at hp; cases hp⟩, fun c o n e => by rw [upd_ne n]; exact e⟩ ?_ ?_ ?_ ?_ ?_
      · intro i Hi hi ⟨L, eD, mm, kp⟩
        exact ⟨xs, xs[i], lstOf (kp _ _ bD hl), by simp [hi]⟩
      · intro Hi ⟨L, eD, mm, kp⟩
        exact ⟨xs, lstOf (kp _ _ bD hl), Nat.le_refl _⟩
      · rintro i Hi x H' hi ⟨L, eD, mm, kp⟩ ⟨e, y⟩
        exact ⟨e, y xs (lstOf (kp _ _ bD hl))⟩
      · rintro i x Hi hx ⟨L, eD, mm, kp⟩
        have il : i < sl.length := by
          have := (List.getElem?_eq_some_iff.mp hx).1
          omega
        have hsl : sl[i]? = some sl[i] := List.getElem?_eq_getElem il
        obtain ⟨t, rfl, qt⟩ := fx i x _ hx hsl
        have keepT : ∀ {Hj : Hp}, (∀ c o, c ≠ D → H c = some o → Hj c = some o) → TupsStay K H Hj := fun kj c ys h => by
          rcases h with (h | ⟨o, h⟩) | h
          · exact .inl (.inl (kj _ _ (fun z => by rw [z, nD] at h; cases h) h))
          · exact .inl (.inr ⟨o, kj _ _ (fun z => by rw [z, nD] at h; cases h) h⟩)
          · exact .inr h
        refine ⟨t, [_, _], rfl, keepT kp _ _ qt, rfl, _, _, rfl, _, _, rfl, rfl, rfl, _, rfl, _, rfl, ?_⟩
        have hm := List.getElem_mem il
        have tk := takeSucc hsl
        generalize sl[i] = p at hsl qt hm tk
        obtain ⟨x, d⟩ := p
        cases d with
        | false =>
          refine iteF ⟨L, eD, mm.congr fun z => ?_, kp⟩
          unfold InHeld
          rw [tk]
          constructor
          · rintro ⟨p, hp, h⟩
            exact ⟨p, List.mem_append_left _ hp, h⟩
          · rintro ⟨p, hp, h1, h2⟩
            rcases List.mem_append.mp hp with hp | hp
            · exact ⟨p, hp, h1, h2⟩
            · rw [List.mem_singleton.mp hp] at h1
              cases h1
        | true =>
          refine iteT ⟨_, rfl, _, rfl, a, ms, x, rfl, keepT kp _ _ ta, M, fun D1 H5 s5 n5 T5 => ?_⟩
          obtain ⟨ts, e5, lt5, at5⟩ := T5.ex
          have DD : D1 ≠ D := fun z => by rw [z, eD] at n5; cases n5
          refine ⟨D1, rfl, ⟨_, lstOf e5⟩, inner_list (K := K) (xs := ts.map V.ref) (fun j Hj => ∃ L, Hj D = some (SetTO P w D L) ∧ Mem K Hj L (fun z => InHeld ms sl i z ∨ z ∈ (marksLT ms x).take j) ∧ ∀ c o, c ≠ D → H5 c = some o → Hj c = some o)
            ⟨L, s5 _ _ eD, (mm.stay (.same s5)).congr fun z => ⟨.inl, fun h => h.elim id fun h => by rw [List.take_zero] at h; cases h⟩, fun c o _ e => e⟩ ?_ ?_ ?_⟩
          · rintro j Hj hj ⟨L, eD, mm, kj⟩
            exact lstOf (kj _ _ DD e5)
          · rintro j y Hj hj ⟨L, eDj, mj, kj⟩
            rw [List.getElem?_map] at hj
            obtain ⟨tz, htz, rfl⟩ := Option.map_eq_some_iff.mp hj
            have jl := (List.getElem?_eq_some_iff.mp htz).1
            obtain ⟨z, hz⟩ : ∃ z, (marksLT ms x)[j]? = some z := ⟨_, List.getElem?_eq_getElem (by omega)⟩
            have keep5 : ∀ {Hk : Hp}, (∀ c o, c ≠ D → H5 c = some o → Hk c = some o) → TupsStay K H5 Hk := fun kj c ys h => by
              have e5D := s5 _ _ eD
              rcases h with (h | ⟨o, h⟩) | h
              · exact .inl (.inl (kj _ _ (fun z => by rw [z, e5D] at h; cases h) h))
              · exact .inl (.inr ⟨o, kj _ _ (fun z => by rw [z, e5D] at h; cases h) h⟩)
              · exact .inr h
            have sq := keep5 kj _ _ (at5 j tz z htz hz)
            have few := mj.few (U := U) fun z hz => by
              rcases hz with ⟨p, hp, h1, h2⟩ | hz
              · exact hU p (List.mem_of_mem_take hp) h1 z h2
              · exact hU _ hm rfl z (List.mem_of_mem_take hz)
            refine ⟨rfl, _, rfl, tz, z, L, rfl, sq, eDj, mj.at_, by omega, fun L' m1 m2 => ⟨L', upd_same, ?_, fun c o n e => by rw [upd_ne n]; exact kj c o n e⟩⟩
            have stay : TupsStay K Hj (upd Hj D (SetTO P w D L')) := fun c ys h => by
              rcases h with (h | ⟨o, h⟩) | h
              · exact .inl (.inl (by rw [upd_ne (fun z => by rw [z, eDj] at h; cases h)]; exact h))
              · exact .inl (.inr ⟨o, by rw [upd_ne (fun z => by rw [z, eDj] at h; cases h)]; exact h⟩)
              · exact .inr h
            refine ((mj.add sq m1 m2).stay stay).congr fun y => ?_
            rw [takeSucc hz, List.mem_append, List.mem_singleton, or_assoc]
          · rintro Hj ⟨L, eDj, mj, kj⟩
            rw [List.length_map, lt5, List.take_length] at mj
            refine ⟨L, eDj, mj.congr fun z => ?_, fun c o n e => kj c o n (s5 _ _ (kp c o n e))⟩
            unfold InHeld
            rw [tk]
            constructor
            · rintro (⟨p, hp, h⟩ | h)
              · exact ⟨p, List.mem_append_left _ hp, h⟩
              · exact ⟨_, List.mem_append_right _ (List.mem_singleton.mpr rfl), rfl, h⟩
            · rintro ⟨p, hp, h1, h2⟩
              rcases List.mem_append.mp hp with hp | hp
              · exact .inl ⟨p, hp, h1, h2⟩
              · rw [List.mem_singleton.mp hp] at h2
                exact .inr h2
      · rintro Hi ⟨L, eD, mm, kp⟩
        rw [nx] at mm
        exact tail D Hi L nD eD mm kp
    · refine .inr ⟨⟨_, ht⟩, fun D nD => ?_⟩
      have kT : ∀ {Hj : Hp}, (∀ c o, c ≠ D → H c = some o → Hj c = some o) → SqT K Hj b xs := fun kj => by
        rcases ht with (h | ⟨o, h⟩) | h
        · exact .inl (.inl (kj _ _ (fun z => by rw [z, nD] at h; cases h) h))
        · exact .inl (.inr ⟨o, kj _ _ (fun z => by rw [z, nD] at h; cases h) h⟩)
        · exact .inr h
      refine scT2_run (K := K) (xs := xs) (fun i Hi => ∃ L, Hi D = some (SetTO P w D L) ∧ Mem K Hi L (InHeld ms sl i) ∧ ∀ c o, c ≠ D → H c = some o → Hi c = some o) ⟨[], upd_same, Mem.nil.congr fun z => ⟨fun h => h.elim, fun ⟨p, hp, _⟩ => by rw [List.take_zero] at hp; cases hp⟩, fun c o n e => by rw [upd_ne n]; exact e⟩ ?_ ?_ ?_ ?_ ?_
      · intro i Hi hi ⟨L, eD, mm, kp⟩
        exact ⟨xs, xs[i], kT kp, by simp [hi]⟩
      · intro Hi ⟨L, eD, mm, kp⟩
        exact ⟨xs, kT kp, Nat.le_refl _⟩
      · rintro i Hi x H' hi ⟨L, eD, mm, kp⟩ ⟨e, y⟩
        exact ⟨e, y xs (kT kp)⟩
      · rintro i x Hi hx ⟨L, eD, mm, kp⟩
        have il : i < sl.length := by
          have := (List.getElem?_eq_some_iff.mp hx).1
          omega
        have hsl : sl[i]? = some sl[i] := List.getElem?_eq_getElem il
        obtain ⟨t, rfl, qt⟩ := fx i x _ hx hsl
        have keepT : ∀ {Hj : Hp}, (∀ c o, c ≠ D → H c = some o → Hj c = some o) → TupsStay K H Hj := fun kj c ys h => by
          rcases h with (h | ⟨o, h⟩) | h
          · exact .inl (.inl (kj _ _ (fun z => by rw [z, nD] at h; cases h) h))
          · exact .inl (.inr ⟨o, kj _ _ (fun z => by rw [z, nD] at h; cases h) h⟩)
          · exact .inr h
        refine ⟨t, [_, _], rfl, keepT kp _ _ qt, rfl, _, _, rfl, _, _, rfl, rfl, rfl, _, rfl, _, rfl, ?_⟩
        have hm := List.getElem_mem il
        have tk := takeSucc hsl
        generalize sl[i] = p at hsl qt hm tk
        obtain ⟨x, d⟩ := p
        cases d with
        | false =>
          refine iteF ⟨L, eD, mm.congr fun z => ?_, kp⟩
          unfold InHeld
          rw [tk]
          constructor
          · rintro ⟨p, hp, h⟩
            exact ⟨p, List.mem_append_left _ hp, h⟩
          · rintro ⟨p, hp, h1, h2⟩
            rcases List.mem_append.mp hp with hp | hp
            · exact ⟨p, hp, h1, h2⟩
            · rw [List.mem_singleton.mp hp] at h1
              cases h1
        | true =>
          refine iteT ⟨_, rfl, _, rfl, a, ms, x, rfl, keepT kp _ _ ta, M, fun D1 H5 s5 n5 T5 => ?_⟩
          obtain ⟨ts, e5, lt5, at5⟩ := T5.ex
          have DD : D1 ≠ D := fun z => by rw [z, eD] at n5; cases n5
          refine ⟨D1, rfl, ⟨_, lstOf e5⟩, inner_list (K := K) (xs := ts.map V.ref) (fun j Hj => ∃ L, Hj D = some (SetTO P w D L) ∧ Mem K Hj L (fun z => InHeld ms sl i z ∨ z ∈ (marksLT ms x).take j) ∧ ∀ c o, c ≠ D → H5 c = some o → Hj c = some o)
            ⟨L, s5 _ _ eD, (mm.stay (.same s5)).congr fun z => ⟨.inl, fun h => h.elim id fun h => by rw [List.take_zero] at h; cases h⟩, fun c o _ e => e⟩ ?_ ?_ ?_⟩
          · rintro j Hj hj ⟨L, eD, mm, kj⟩
            exact lstOf (kj _ _ DD e5)
          · rintro j y Hj hj ⟨L, eDj, mj, kj⟩
            rw [List.getElem?_map] at hj
            obtain ⟨tz, htz, rfl⟩ := Option.map_eq_some_iff.mp hj
            have jl := (List.getElem?_eq_some_iff.mp htz).1
            obtain ⟨z, hz⟩ : ∃ z, (marksLT ms x)[j]? = some z := ⟨_, List.getElem?_eq_getElem (by omega)⟩
            have keep5 : ∀ {Hk : Hp}, (∀ c o, c ≠ D → H5 c = some o → Hk c = some o) → TupsStay K H5 Hk := fun kj c ys h => by
              have e5D := s5 _ _ eD
              rcases h with (h | ⟨o, h⟩) | h
              · exact .inl (.inl (kj _ _ (fun z => by rw [z, e5D] at h; cases h) h))
              · exact .inl (.inr ⟨o, kj _ _ (fun z => by rw [z, e5D] at h; cases h) h⟩)
              · exact .inr h
            have sq := keep5 kj _ _ (at5 j tz z htz hz)
            have few := mj.few (U := U) fun z hz => by
              rcases hz with ⟨p, hp, h1, h2⟩ | hz
              · exact hU p (List.mem_of_mem_take hp) h1 z h2
              · exact hU _ hm rfl z (List.mem_of_mem_take hz)
            refine ⟨rfl, _, rfl, tz, z, L, rfl, sq, eDj, mj.at_, by omega, fun L' m1 m2 => ⟨L', upd_same, ?_, fun c o n e => by rw [upd_ne n]; exact kj c o n e⟩⟩
            have stay : TupsStay K Hj (upd Hj D (SetTO P w D L')) := fun c ys h => by
              rcases h with (h | ⟨o, h⟩) | h
              · exact .inl (.inl (by rw [upd_ne (fun z => by rw [z, eDj] at h; cases h)]; exact h))
              · exact .inl (.inr ⟨o, by rw [upd_ne (fun z => by rw [z, eDj] at h; cases h)]; exact h⟩)
              · exact .inr h
            refine ((mj.add sq m1 m2).stay stay).congr fun y => ?_
            rw [takeSucc hz, List.mem_append, List.mem_singleton, or_assoc]
          · rintro Hj ⟨L, eDj, mj, kj⟩
            rw [List.length_map, lt5, List.take_length] at mj
            refine ⟨L, eDj, mj.congr fun z => ?_, fun c o n e => kj c o n (s5 _ _ (kp c o n e))⟩
            unfold InHeld
            rw [tk]
            constructor
            · rintro (⟨p, hp, h⟩ | h)
              · exact ⟨p, List.mem_append_left _ hp, h⟩
              · exact ⟨_, List.mem_append_right _ (List.mem_singleton.mpr rfl), rfl, h⟩
            · rintro ⟨p, hp, h1, h2⟩
              rcases List.mem_append.mp hp with hp | hp
              · exact .inl ⟨p, hp, h1, h2⟩
              · rw [List.mem_singleton.mp hp] at h2
                exact .inr h2
      · rintro Hi ⟨L, eD, mm, kp⟩
        rw [nx] at mm
        exact tail D Hi L nD eD mm kp
end

end R
namespace R
open PySem PySem.Spec PyProof.Rows L2
/-! ## unheld marks -/
def sp_p_unheld_marks (K : PySem.W.Frag) : Sp := fun vs H Q _ => ∃ (a b : Addr) (ms : List Int) (sl : List (Int × Bool)) (U : List (List Int)), vs = [.ref a, .ref b] ∧ SqT K H a (ms.map V.int) ∧ MOk ms ∧ SeenAt K H b sl ∧ sl.length ≤ 20 ∧ U.length ≤ 60 ∧ (∀ p ∈ sl, p.2 = true → ∀ z ∈ marksLT ms p.1, z ∈ U) ∧
  ∀ D hl H', Same H H' → H D = none → LLAt K H' D (unheldL ms hl sl) → HeldIs ms sl hl → Q (.ref D) H'
def unheldTo (ms : List Int) (hl : List (List Int)) (sl : List (Int × Bool)) (n : Nat) : List (List (List Int)) := unheldL ms hl (sl.take n)
theorem unheldTo_succ {ms : List Int} {hl : List (List Int)} {sl : List (Int × Bool)} {n : Nat} {p : Int × Bool} (h : sl[n]? = some p) : unheldTo ms hl sl (n + 1) = unheldTo ms hl sl n ++ (if p.2 = true then [] else [leftOf ms hl p.1]) := by
  unfold unheldTo unheldL
  rw [takeSucc h, List.filter_append, List.map_append]
  cases e : p.2 with
  | true =>
    rw [List.filter_cons_of_neg (by rw [e]; decide), if_pos rfl]
    rfl
  | false =>
    rw [List.filter_cons_of_pos (by rw [e]; rfl), if_neg Bool.false_ne_true]
    rfl
theorem LLAt.nil {K : PySem.W.Frag} {H : Hp} {D : Addr} (h : H D = some (.lst [])) : LLAt K H D [] := ⟨[], h, rfl, fun i b u a _ => by simp at a⟩
theorem LLAt.push {K : PySem.W.Frag} {H : Hp} {D t : Addr} {LL : List (List (List Int))} {l : List (List Int)} (h : LLAt K H D LL) (ht : TupsAt K H t l) (ne : t ≠ D) (old : ∀ (as_ : List Addr), H D = some (.lst (as_.map V.ref)) → D ∉ as_) :
    ∃ as_ : List Addr, H D = some (.lst (as_.map V.ref)) ∧ as_.length = LL.length ∧ LLAt K (upd H D (.lst (as_.map V.ref ++ [V.ref t]))) D (LL ++ [l]) := by
  obtain ⟨as_, e, n, f⟩ := h.ex
  have no := old as_ e
  have other : ∀ {b : Addr} {u : List (List Int)}, b ≠ D → TupsAt K H b u → TupsAt K (upd H D (.lst (as_.map V.ref ++ [V.ref t]))) b u := fun {b u} nb hb => by
    obtain ⟨ts, e1, n1, f1⟩ := hb.ex
    exact ⟨ts, by rw [upd_ne nb]; exact e1, n1, fun i t' l' x y => lstTups e _ _ (f1 i t' l' x y)⟩
  refine ⟨as_, e, n, as_ ++ [t], by rw [upd_same, List.map_append]; rfl, by rw [List.length_append, List.length_append, n]; rfl, fun i b u a c => ?_⟩
  by_cases hi : i < as_.length
  · rw [List.getElem?_append_left hi] at a
    rw [List.getElem?_append_left (by omega)] at c
    exact other (fun z => no (z ▸ List.mem_of_getElem? a)) (f i b u a c)
  · rw [List.getElem?_append_right (by omega)] at a
    rw [List.getElem?_append_right (by omega), ← n] at c
    cases z : i - as_.length with
    | zero =>
      rw [z] at a c
      cases Option.some.inj a
      cases Option.some.inj c
      exact other ne ht
    | succ j => rw [z] at a; simp at a
theorem nilNot {H : Hp} {D : Addr} {as_ : List Addr} (e : upd H D (.lst []) D = some (.lst (as_.map V.ref))) : D ∉ as_ := fun hm => by
  rw [upd_same] at e
  have e0 : ([] : List V) = as_.map V.ref := HO.lst.inj (Option.some.inj e)
  rw [List.map_eq_nil_iff.mp e0.symm] at hm
  cases hm
section
variable {P : Program} {w : World} {K : PySem.W.Frag} {mg : Str → Option Value} {base : Heap}
set_option maxHeartbeats 1600000 in
theorem ok_p_unheld_marks (T : Txt K mg) : FnOk P w K mg base CX0 4 T.f_p_unheld_marks T.fd_p_unheld_marks ["moduli", "seen"] (sp_p_unheld_marks K) := by
  refine T.F_p_unheld_marks.ok sc_p_unheld_marks (fun vs H Q E h => ?_) (fun cdv A outer s H vs Q E hr h => ?_)
  · obtain ⟨a, b, ms, sl, U, rfl, _⟩ := h
    rfl
  · obtain ⟨a, b, ms, sl, U, rfl, ta, M, S, s20, u60, hU, q⟩ := h
    refine ⟨_, (pss_cons (ps_set (i := 2) sc_p_unheld_marks.nd rfl (by first | exact .inl rfl | exact .inr rfl) (pe_call (ok_p_held_marks T) (hr.mono (by decide)) (by rfl) T.g_p_held_marks T.F_p_held_marks.kp T.b_p_held_marks .nil pass0 (pa_cons (pv 0) (pa_cons (pv 1) pa_nil))))
      (pss_one (ps_ret (pe_lc (own := [("number", 3), ("does", 4)]) (g := gTup K 2 (gCons (gName 3) (gCons (gName 4) (gNil)))) rfl sc_p_unheld_marks.nd (pi_either (pv 1)) (blkOk_by (N := ["moduli", "seen", "held", "number", "does", "mark"]) (sc := defScope s_p_unheld_marks) (by decide +kernel)) (fun _ _ _ _ _ => (pg_tup (by rfl) (pgs_cons (pg_name (i := 3) sc_p_unheld_marks.nd rfl (by first | exact .inl rfl | exact .inr rfl)) (pgs_cons (pg_name (i := 4) sc_p_unheld_marks.nd rfl (by first | exact .inl rfl | exact .inr rfl)) pgs_nil)))) (fun _ _ _ _ _ => (pts_one (pt_not (pt_val (pv 4))))) (fun _ _ _ _ _ => (by exact (pe_lc (own := [("mark", 5)]) rfl sc_p_unheld_marks.nd (pi_listK (K := K) rfl (pe_call (ok_p_marks_of T) (hr.mono (by decide)) (by rfl) T.g_p_marks_of T.F_p_marks_of.kp T.b_p_marks_of .nil pass0 (pa_cons (pv 0) (pa_cons (pv 3) pa_nil)))) (blkOk_by (N := ["moduli", "seen", "held", "number", "does", "mark"]) (by kernel_rfl)) (fun _ _ _ _ _ => (pg_name (i := 5) sc_p_unheld_marks.nd rfl (by first | exact .inl rfl | exact .inr rfl))) (fun _ _ _ _ _ => (pts_one (pt_cmpR (r := rNotInD K) (op_notInD (un65 hr)) (pv 5) (pv 2) (by rfl)))) (fun _ _ _ _ _ => (pv 5))))))))), ?_⟩
    refine ⟨_, rfl, _, rfl, a, b, ms, sl, U, rfl, ta, M, S, u60, hU, fun D0 hl H1 s1 n1 T1 HI => ?_⟩
    have ta1 := Same.seqTT s1 ta
    obtain ⟨xs, hx, nx, fx⟩ := (S.stay s1).ex
    refine ⟨_, rfl, b, rfl, ?_⟩
    rcases hx with hb | hb
    · refine .inl ⟨⟨_, lstOf hb⟩, fun D nD => ?_⟩
      refine lc_list (K := K) (a := b) (xs := xs) (fun i Hi => LLAt K Hi D (unheldTo ms hl sl i) ∧ (∀ (as_ : List Addr), Hi D = some (.lst (as_.map V.ref)) → D ∉ as_) ∧ Same H1 Hi) ⟨LLAt.nil upd_same, fun as_ e => nilNot e, same_upd nD⟩ (fun i Hi _ ⟨_, _, si⟩ => lstOf (si _ _ hb)) ?_ ?_
      · rintro i x Hi hx' ⟨LD, nD', si⟩
        have il : i < sl.length := by
          have := (List.getElem?_eq_some_iff.mp hx').1
          omega
        have hsl : sl[i]? = some sl[i] := List.getElem?_eq_getElem il
        obtain ⟨t, rfl, qt⟩ := fx i x _ hx' hsl
        refine ⟨t, [_, _], rfl, Same.seqTT si qt, rfl, _, _, rfl, _, _, rfl, rfl, rfl, _, rfl, _, rfl, ?_⟩
        have us := unheldTo_succ (ms := ms) (hl := hl) hsl
        have ul : (unheldTo ms hl sl i).length ≤ 20 := by
          unfold unheldTo unheldL
          rw [List.length_map]
          have := List.length_filter_le (fun p : Int × Bool => !p.2) (sl.take i)
          rw [List.length_take] at this
          omega
        generalize sl[i] = p at us qt
        obtain ⟨x, d⟩ := p
        cases d with
        | true =>
          refine iteF ⟨?_, nD', si⟩
          rw [us, if_pos rfl, List.append_nil]
          exact LD
        | false =>
          refine iteT ⟨_, rfl, _, rfl, a, ms, x, rfl, Same.seqTT si ta1, M, fun D2 H5 s5 n5 T5 => ⟨D2, rfl, ?_⟩⟩
          obtain ⟨ts, e5, lt5, at5⟩ := T5.ex
          refine ⟨⟨_, lstOf e5⟩, fun G nG => ?_⟩
          refine lc_list (K := K) (a := D2) (xs := ts.map V.ref) (fun j Hj => TupsAt K Hj G (((marksLT ms x).take j).filter fun z => decide (z ∉ hl)) ∧ Same H5 Hj) ⟨TupsAt.nil upd_same, same_upd nG⟩ (fun j Hj _ ⟨_, sj⟩ => lstOf (sj _ _ e5)) ?_ ?_
          · rintro j y Hj hj ⟨TG, sj⟩
            rw [List.getElem?_map] at hj
            obtain ⟨tz, htz, rfl⟩ := Option.map_eq_some_iff.mp hj
            have jl := (List.getElem?_eq_some_iff.mp htz).1
            obtain ⟨z, hz⟩ : ∃ z, (marksLT ms x)[j]? = some z := ⟨_, List.getElem?_eq_getElem (by omega)⟩
            have sq := Same.seqTT sj (at5 j tz z htz hz)
            have T1j := ((T1.stay (si.trans s5)).stay sj)
            refine ⟨rfl, _, rfl, _, rfl, tD z, hl.map tD, dpTup sq, T1j.dp, (okD.tup (okInts _)).shaped (by decide), okTupsS _, _, rfl, ?_⟩
            show if (!((hl.map tD).any fun y => PyData.eqv y (tD z))) = true then _ else _
            rw [inTup, ← decide_not]
            refine ite2 (fun e => ?_) (fun e => ?_)
            · obtain ⟨us', eu, lu, Tn⟩ := TG.push sq
              refine ⟨_, rfl, _, eu, ?_, ?_, samePut sj nG⟩
              · have := List.length_filter_le (fun z => decide (z ∉ hl)) ((marksLT ms x).take j)
                rw [List.length_take] at this
                have m4 := M.four
                have ml : (marksLT ms x).length = ms.length := by
                  unfold marksLT
                  rw [List.length_map, List.length_range]
                rw [List.length_map, lu]
                exact sizeLt (by omega)
              · rw [takeFilter hz, if_pos e]
                exact Tn
            · refine ⟨?_, sj⟩
              rw [takeFilter hz, if_neg e, List.append_nil]
              exact TG
          · rintro Hj ⟨TG, sj⟩
            rw [List.length_map, lt5, List.take_length] at TG
            have s5j := s5.trans sj
            have LDj := LD.stay s5j
            have GD : G ≠ D := fun z => by
              obtain ⟨as_, e, _⟩ := LD.ex
              have := s5 _ _ e
              rw [z, this] at nG
              cases nG
            obtain ⟨as_, ea, la, LN⟩ := LDj.push TG GD fun as' e hm => nD' as' (by
              obtain ⟨as2, e2, _⟩ := LD.ex
              have e3 := s5j _ _ e2
              rw [e] at e3
              have : as'.map V.ref = as2.map V.ref := HO.lst.inj (Option.some.inj e3)
              rw [e2, this]) hm
            refine ⟨_, ea, ?_, ?_, ?_, samePut (si.trans s5j) nD⟩
            · rw [List.length_map, la]
              exact sizeLt (by omega)
            · rw [us, if_neg Bool.false_ne_true]
              exact LN
            · intro as' e hm
              rw [upd_same] at e
              have e4 : as_.map V.ref ++ [V.ref G] = as'.map V.ref := HO.lst.inj (Option.some.inj e)
              have hm' : V.ref D ∈ as'.map V.ref := List.mem_map.mpr ⟨D, hm, rfl⟩
              rw [← e4] at hm'
              rcases List.mem_append.mp hm' with h | h
              · obtain ⟨c, hc, ec⟩ := List.mem_map.mp h
                cases ec
                obtain ⟨as2, e2, _⟩ := LD.ex
                have e3 := s5j _ _ e2
                rw [ea] at e3
                have : as_.map V.ref = as2.map V.ref := HO.lst.inj (Option.some.inj e3)
                rw [(List.map_inj_right (fun x y h => V.ref.inj h)).mp this] at hc
                exact nD' as2 e2 hc
              · rw [List.mem_singleton] at h
                cases h
                exact GD rfl
      · rintro Hi ⟨LD, nD', si⟩
        rw [nx] at LD
        refine q D hl Hi (s1.trans si) ?_ ?_ HI
        · exact s1.free (by exact nD)
        · have : unheldTo ms hl sl sl.length = unheldL ms hl sl := by
            unfold unheldTo
            rw [List.take_length]
          rw [← this]
          exact LD
    · refine .inr ⟨⟨_, hb⟩, fun D nD => ?_⟩
      refine lc_tup (K := K) (a := b) (xs := xs) (fun i Hi => LLAt K Hi D (unheldTo ms hl sl i) ∧ (∀ (as_ : List Addr), Hi D = some (.lst (as_.map V.ref)) → D ∉ as_) ∧ Same H1 Hi) ⟨LLAt.nil upd_same, fun as_ e => nilNot e, same_upd nD⟩ (fun i Hi _ ⟨_, _, si⟩ => Same.seqTT si hb) ?_ ?_
      · rintro i x Hi hx' ⟨LD, nD', si⟩
        have il : i < sl.length := by
          have := (List.getElem?_eq_some_iff.mp hx').1
          omega
        have hsl : sl[i]? = some sl[i] := List.getElem?_eq_getElem il
        obtain ⟨t, rfl, qt⟩ := fx i x _ hx' hsl
        refine ⟨t, [_, _], rfl, Same.seqTT si qt, rfl, _, _, rfl, _, _, rfl, rfl, rfl, _, rfl, _, rfl, ?_⟩
        have us := unheldTo_succ (ms := ms) (hl := hl) hsl
        have ul : (unheldTo ms hl sl i).length ≤ 20 := by
          unfold unheldTo unheldL
          rw [List.length_map]
          have := List.length_filter_le (fun p : Int × Bool => !p.2) (sl.take i)
          rw [List.length_take] at this
          omega
        generalize sl[i] = p at us qt
        obtain ⟨x, d⟩ := p
        cases d with
        | true =>
          refine iteF ⟨?_, nD', si⟩
          rw [us, if_pos rfl, List.append_nil]
          exact LD
        | false =>
          refine iteT ⟨_, rfl, _, rfl, a, ms, x, rfl, Same.seqTT si ta1, M, fun D2 H5 s5 n5 T5 => ⟨D2, rfl, ?_⟩⟩
          obtain ⟨ts, e5, lt5, at5⟩ := T5.ex
          refine ⟨⟨_, lstOf e5⟩, fun G nG => ?_⟩
          refine lc_list (K := K) (a := D2) (xs := ts.map V.ref) (fun j Hj => TupsAt K Hj G (((marksLT ms x).take j).filter fun z => decide (z ∉ hl)) ∧ Same H5 Hj) ⟨TupsAt.nil upd_same, same_upd nG⟩ (fun j Hj _ ⟨_, sj⟩ => lstOf (sj _ _ e5)) ?_ ?_
          · rintro j y Hj hj ⟨TG, sj⟩
            rw [List.getElem?_map] at hj
            obtain ⟨tz, htz, rfl⟩ := Option.map_eq_some_iff.mp hj
            have jl := (List.getElem?_eq_some_iff.mp htz).1
            obtain ⟨z, hz⟩ : ∃ z, (marksLT ms x)[j]? = some z := ⟨_, List.getElem?_eq_getElem (by omega)⟩
            have sq := Same.seqTT sj (at5 j tz z htz hz)
            have T1j := ((T1.stay (si.trans s5)).stay sj)
            refine ⟨rfl, _, rfl, _, rfl, tD z, hl.map tD, dpTup sq, T1j.dp, (okD.tup (okInts _)).shaped (by decide), okTupsS _, _, rfl, ?_⟩
            show if (!((hl.map tD).any fun y => PyData.eqv y (tD z))) = true then _ else _
            rw [inTup, ← decide_not]
            refine ite2 (fun e => ?_) (fun e => ?_)
            · obtain ⟨us', eu, lu, Tn⟩ := TG.push sq
              refine ⟨_, rfl, _, eu, ?_, ?_, samePut sj nG⟩
              · have := List.length_filter_le (fun z => decide (z ∉ hl)) ((marksLT ms x).take j)
                rw [List.length_take] at this
                have m4 := M.four
                have ml : (marksLT ms x).length = ms.length := by
                  unfold marksLT
                  rw [List.length_map, List.length_range]
                rw [List.length_map, lu]
                exact sizeLt (by omega)
              · rw [takeFilter hz, if_pos e]
                exact Tn
            · refine ⟨?_, sj⟩
              rw [takeFilter hz, if_neg e, List.append_nil]
              exact TG
          · rintro Hj ⟨TG, sj⟩
            rw [List.length_map, lt5, List.take_length] at TG
            have s5j := s5.trans sj
            have LDj := LD.stay s5j
            have GD : G ≠ D := fun z => by
              obtain ⟨as_, e, _⟩ := LD.ex
              have := s5 _ _ e
              rw [z, this] at nG
              cases nG
            obtain ⟨as_, ea, la, LN⟩ := LDj.push TG GD fun as' e hm => nD' as' (by
              obtain ⟨as2, e2, _⟩ := LD.ex
              have e3 := s5j _ _ e2
              rw [e] at e3
              have : as'.map V.ref = as2.map V.ref := HO.lst.inj (Option.some.inj e3)
              rw [e2, this]) hm
            refine ⟨_, ea, ?_, ?_, ?_, samePut (si.trans s5j) nD⟩
            · rw [List.length_map, la]
              exact sizeLt (by omega)
            · rw [us, if_neg Bool.false_ne_true]
              exact LN
            · intro as' e hm
              rw [upd_same] at e
              have e4 : as_.map V.ref ++ [V.ref G] = as'.map V.ref := HO.lst.inj (Option.some.inj e)
              have hm' : V.ref D ∈ as'.map V.ref := List.mem_map.mpr ⟨D, hm, rfl⟩
              rw [← e4] at hm'
              rcases List.mem_append.mp hm' with h | h
              · obtain ⟨c, hc, ec⟩ := List.mem_map.mp h
                cases ec
                obtain ⟨as2, e2, _⟩ := LD.ex
                have e3 := s5j _ _ e2
                rw [ea] at e3
                have : as_.map V.ref = as2.map V.ref := HO.lst.inj (Option.some.inj e3)
                rw [(List.map_inj_right (fun x y h => V.ref.inj h)).mp this] at hc
                exact nD' as2 e2 hc
              · rw [List.mem_singleton] at h
                cases h
                exact GD rfl
      · rintro Hi ⟨LD, nD', si⟩
        rw [nx] at LD
        refine q D hl Hi (s1.trans si) ?_ ?_ HI
        · exact s1.free (by exact nD)
        · have : unheldTo ms hl sl sl.length = unheldL ms hl sl := by
            unfold unheldTo
            rw [List.take_length]
          rw [← this]
          exact LD
end

end R
namespace R
open PySem PySem.Spec PyProof.Rows L2
/-! ## rows, and all marks -/
/-- how many rows of T places hold all of hl and none of the others whole -/
def rowsW (T : Nat) (hl : List (List Int)) : List (List (List Int)) → Int
  | [] => 2 ^ (T - hl.length)
  | u :: us => rowsW T hl us - rowsW T (hl ++ u.filter fun z => decide (z ∉ hl)) us
structure RowsIn (U : List (List Int)) (hl : List (List Int)) (ul : List (List (List Int))) : Prop where
  nd : hl.Nodup
  sub : ∀ z ∈ hl, z ∈ U
  each : ∀ u ∈ ul, u.Nodup ∧ ∀ z ∈ u, z ∈ U
theorem RowsIn.len {U hl : List (List Int)} {ul : List (List (List Int))} (h : RowsIn U hl ul) : hl.length ≤ U.length := sub_len h.nd h.sub
theorem RowsIn.tail {U hl : List (List Int)} {u : List (List Int)} {ul : List (List (List Int))} (h : RowsIn U hl (u :: ul)) : RowsIn U hl ul := ⟨h.nd, h.sub, fun v hv => h.each v (List.mem_cons_of_mem _ hv)⟩
theorem RowsIn.more {U hl : List (List Int)} {u : List (List Int)} {ul : List (List (List Int))} (h : RowsIn U hl (u :: ul)) : RowsIn U (hl ++ u.filter fun z => decide (z ∉ hl)) ul := by
  obtain ⟨u1, u2⟩ := h.each u List.mem_cons_self
  refine ⟨?_, fun z hz => ?_, h.tail.each⟩
  · rw [List.nodup_append]
    refine ⟨h.nd, u1.filter _, fun a ha b hb e => ?_⟩
    subst e
    exact of_decide_eq_true (List.mem_filter.mp hb).2 ha
  · rcases List.mem_append.mp hz with hz | hz
    · exact h.sub z hz
    · exact u2 z (List.mem_filter.mp hz).1
def uniL (ms : List Int) : List (List Int) := (List.range ms.length).flatMap fun i => (List.range (ms.getD i 1).toNat).map fun r => [((i : Nat) : Int), ((r : Nat) : Int)]
def uniTo (ms : List Int) (n : Nat) : List (List Int) := (List.range n).flatMap fun i => (List.range (ms.getD i 1).toNat).map fun r => [((i : Nat) : Int), ((r : Nat) : Int)]
theorem uniTo_succ (ms : List Int) (n : Nat) : uniTo ms (n + 1) = uniTo ms n ++ (List.range (ms.getD n 1).toNat).map fun r => [((n : Nat) : Int), ((r : Nat) : Int)] := by
  unfold uniTo
  rw [List.range_succ, List.flatMap_append]
  simp
theorem uniTo_len {ms : List Int} (h : ∀ m ∈ ms, 1 ≤ m ∧ m ≤ 30) : ∀ n, n ≤ ms.length → ((uniTo ms n).length : Int) = (ms.take n).sum ∧ (uniTo ms n).length ≤ 30 * n
  | 0, _ => ⟨rfl, Nat.zero_le _⟩
  | n + 1, hn => by
    obtain ⟨h1, h2⟩ := uniTo_len h n (by omega)
    have hm : ms[n]? = some ms[n] := List.getElem?_eq_getElem (by omega)
    have mm := h _ (List.getElem_mem (show n < ms.length by omega))
    have e : ms.getD n 1 = ms[n] := by rw [List.getD_eq_getElem?_getD, hm]; rfl
    rw [uniTo_succ, List.length_append, List.length_map, List.length_range, takeSucc hm, List.sum_append, e]
    refine ⟨?_, by omega⟩
    rw [Int.natCast_add, h1]
    simp
    omega
theorem uni_len {ms : List Int} (M : MOk ms) : ((uniL ms).length : Int) = ms.sum ∧ (uniL ms).length ≤ 120 := by
  obtain ⟨h1, h2⟩ := uniTo_len M.mod ms.length (Nat.le_refl _)
  rw [List.take_length] at h1
  have := M.four
  exact ⟨h1, Nat.le_trans h2 (by omega)⟩
theorem mem_uni {ms : List Int} {z : List Int} : z ∈ uniL ms ↔ ∃ (i : Nat) (r : Nat), z = [(i : Int), (r : Int)] ∧ i < ms.length ∧ r < (ms.getD i 1).toNat := by
  unfold uniL
  rw [List.mem_flatMap]
  constructor
  · rintro ⟨i, hi, h⟩
    obtain ⟨r, hr, rfl⟩ := List.mem_map.mp h
    exact ⟨i, r, rfl, List.mem_range.mp hi, List.mem_range.mp hr⟩
  · rintro ⟨i, r, rfl, hi, hr⟩
    exact ⟨i, List.mem_range.mpr hi, List.mem_map.mpr ⟨r, List.mem_range.mpr hr, rfl⟩⟩
theorem marks_uni {ms : List Int} (M : MOk ms) {x : Int} {z : List Int} (h : z ∈ marksLT ms x) : z ∈ uniL ms := by
  obtain ⟨i, r, rfl, il, er⟩ := marks_two z h
  have mi := M.mod (ms.getD i 1) (by rw [List.getD_eq_getElem?_getD, List.getElem?_eq_getElem il]; exact List.getElem_mem il)
  have r0 := Int.emod_nonneg x (show ms.getD i 1 ≠ 0 by omega)
  have r1 := Int.emod_lt_of_pos x (show (0 : Int) < ms.getD i 1 by omega)
  exact mem_uni.mpr ⟨i, r.toNat, by rw [Int.toNat_of_nonneg (by omega)], il, by omega⟩
theorem uni_nodup (ms : List Int) : (uniL ms).Nodup := by
  unfold uniL
  rw [List.nodup_iff_pairwise_ne, List.pairwise_flatMap]
  refine ⟨fun i _ => ?_, List.pairwise_lt_range.imp fun {i j} h x hx y hy e => ?_⟩
  · rw [List.pairwise_map]
    refine List.pairwise_lt_range.imp fun {a b} h e => ?_
    have := (List.cons.inj (List.cons.inj e).2).1
    omega
  · obtain ⟨a, _, rfl⟩ := List.mem_map.mp hx
    obtain ⟨b, _, rfl⟩ := List.mem_map.mp hy
    have := (List.cons.inj e).1
    omega
theorem rows_in {ms : List Int} (M : MOk ms) {sl : List (Int × Bool)} {hl hl2 : List (List Int)} (h : HeldIs ms sl hl) : RowsIn (uniL ms) hl (unheldL ms hl2 sl) := by
  refine ⟨h.nd, fun z hz => ?_, fun u hu => ?_⟩
  · obtain ⟨p, _, _, hz⟩ := (h.mem z).mp hz
    exact marks_uni M hz
  · obtain ⟨p, _, rfl⟩ := List.mem_map.mp hu
    exact ⟨(marks_nodup ms p.1).filter _, fun z hz => marks_uni M (List.mem_filter.mp hz).1⟩
theorem eqvLLnil (d : PyData) (ds : List PyData) : PyData.eqv (.list (d :: ds)) (.list []) = false := by
  rw [PyData.eqv, PyData.eqvAll]
theorem dpLL {K : PySem.W.Frag} {H : Hp} : ∀ {as_ : List Addr} {ul : List (List (List Int))}, as_.length = ul.length → (∀ (i : Nat) b u, as_[i]? = some b → ul[i]? = some u → TupsAt K H b u) → DpAll K H (as_.map V.ref) (ul.map fun u => .list (u.map tD))
  | [], [], _, _ => .nil
  | [], _ :: _, h, _ => by cases h
  | _ :: _, [], h, _ => by cases h
  | b :: as_, u :: ul, h, f => .cons (f 0 b u rfl rfl).dp (dpLL (Nat.succ.inj h) fun i c v x y => f (i + 1) c v x y)
theorem LLAt.dp {K : PySem.W.Frag} {H : Hp} {D : Addr} {ul : List (List (List Int))} (h : LLAt K H D ul) : Dp K H (.ref D) (.list (ul.map fun u => .list (u.map tD))) := by
  obtain ⟨as_, e, n, f⟩ := h.ex
  exact .lst (lstOf e) (dpLL n f)
theorem okLL (ul : List (List (List Int))) : okD 3 (.list (ul.map fun u => .list (u.map tD))) := okD.lst fun d hd => by
  obtain ⟨u, _, rfl⟩ := List.mem_map.mp hd
  exact okTups u
theorem upN (p : Nat → Bool) (m : Nat) : (((List.range m).filter p).map fun (r : Nat) => (r : Int)).Pairwise (· < ·) := by
  rw [List.pairwise_map]
  exact (List.pairwise_lt_range.filter p).imp fun h => by omega
theorem asc_same : ∀ {xs ys : List Int}, xs.Pairwise (· < ·) → ys.Pairwise (· < ·) → (∀ r, r ∈ xs ↔ r ∈ ys) → xs = ys
  | [], [], _, _, _ => rfl
  | [], y :: ys, _, _, h => nomatch (h y).mpr List.mem_cons_self
  | x :: xs, [], _, _, h => nomatch (h x).mp List.mem_cons_self
  | x :: xs, y :: ys, hx, hy, h => by
    obtain ⟨x1, x2⟩ := List.pairwise_cons.mp hx
    obtain ⟨y1, y2⟩ := List.pairwise_cons.mp hy
    have e : x = y := by
      rcases List.mem_cons.mp ((h x).mp List.mem_cons_self) with e | hm
      · exact e
      · rcases List.mem_cons.mp ((h y).mpr List.mem_cons_self) with e | hn
        · exact e.symm
        · have := y1 x hm
          have := x1 y hn
          omega
    subst e
    refine congrArg _ (asc_same x2 y2 fun r => ⟨fun hr => ?_, fun hr => ?_⟩)
    · rcases List.mem_cons.mp ((h r).mp (List.mem_cons_of_mem _ hr)) with rfl | q
      · exact absurd (x1 _ hr) (Int.lt_irrefl _)
      · exact q
    · rcases List.mem_cons.mp ((h r).mpr (List.mem_cons_of_mem _ hr)) with rfl | q
      · exact absurd (y1 _ hr) (Int.lt_irrefl _)
      · exact q

end R
namespace R
open PySem PySem.Spec PyProof.Rows L2
/-! ## rows with -/
def sp_rows (K : PySem.W.Frag) (k : Nat) : Sp := fun vs H Q _ => ∃ (a b : Addr) (U hl : List (List Int)) (ul : List (List (List Int))), vs = [.int (U.length : Nat), .ref a, .ref b] ∧ TupsAt K H a hl ∧ LLAt K H b ul ∧ ul.length < k ∧ U.length ≤ 120 ∧ RowsIn U hl ul ∧ ∀ H', Same H H' → Q (.int (rowsW U.length hl ul)) H'
theorem cutDrop1 (x : V) (xs : List V) : cutV (x :: xs) (some (1 : Int)) none = xs := by
  unfold cutV
  rw [HT.sIx_none, show (some (1 : Int)) = some ((1 : Nat) : Int) from rfl, HT.sIx_nat, Nat.min_eq_left (by rw [List.length_cons]; omega), List.take_of_length_le (by rw [List.length_drop]; exact Nat.le_refl _)]
  rfl
section
variable {P : Program} {w : World} {K : PySem.W.Frag} {mg : Str → Option Value} {base : Heap}
set_option maxHeartbeats 1600000 in
theorem ok_rows (T : Txt K mg) : ∀ k, FnOk P w K mg base CX0 (2 + k) T.f_p_rows_with T.fd_p_rows_with ["total", "held", "unheld"] (sp_rows K k)
  | 0 => by
    refine T.F_p_rows_with.ok sc_p_rows_with (fun vs H Q E h => ?_) (fun cdv A outer s H vs Q E hr h => ?_)
    · obtain ⟨a, b, U, hl, ul, rfl, _⟩ := h
      rfl
    · obtain ⟨a, b, U, hl, ul, rfl, _, _, h, _⟩ := h
      exact absurd h (Nat.not_lt_zero _)
  | k + 1 => by
    have ih := ok_rows T k
    refine T.F_p_rows_with.ok sc_p_rows_with (fun vs H Q E h => ?_) (fun cdv A outer s H vs Q E hr h => ?_)
    · obtain ⟨a, b, U, hl, ul, rfl, _⟩ := h
      rfl
    · obtain ⟨a, b, U, hl, ul, rfl, ta, tb, lk, u120, R, q⟩ := h
      refine ⟨_, (pss_cons (ps_if (pt_cmpR (op_eqD hr.units) (pv 2) (pe_lst pa_nil) (nomark _)) (pss_one (ps_ret (pe_op op_oneShl pe_int (pe_op op_sub (pv 0) (pe_callB call_len_seq (by rfl) T.z_len (by decide +kernel) (pa_cons (pv 1) pa_nil)))))) pss_nil)
      (pss_cons (ps_set (i := 3) sc_p_rows_with.nd rfl (by first | exact .inl rfl | exact .inr rfl) (pe_op op_cat (pv 1) (pe_lc (own := [("mark", 4)]) rfl sc_p_rows_with.nd (pi_list (pe_ix (r := rIxL K) ix_list (pv 2) pe_int (fun _ _ => rfl))) (blkOk_by (N := ["total", "held", "unheld", "more", "mark"]) (sc := defScope s_p_rows_with) (by decide +kernel)) (fun _ _ _ _ _ => (pg_name (i := 4) sc_p_rows_with.nd rfl (by first | exact .inl rfl | exact .inr rfl))) (fun _ _ _ _ _ => (pts_one (pt_cmpR (r := rNotInD K) (op_notInD (un65 hr)) (pv 4) (pv 1) (by rfl)))) (fun _ _ _ _ _ => (pv 4)))))
      (pss_one (ps_ret (pe_op op_sub (pe_call ih (hr.mono (Nat.le_refl _)) (by rfl) T.g_p_rows_with T.F_p_rows_with.kp T.b_p_rows_with .nil pass0 (pa_cons (pv 0) (pa_cons (pv 1) (pa_cons (pe_slice sl_list (pv 2) (po_some pe_int) po_none) pa_nil)))) (pe_call ih (hr.mono (Nat.le_refl _)) (by rfl) T.g_p_rows_with T.F_p_rows_with.kp T.b_p_rows_with .nil pass0 (pa_cons (pv 0) (pa_cons (pv 3) (pa_cons (pe_slice sl_list (pv 2) (po_some pe_int) po_none) pa_nil))))))))), ?_⟩
      have hlen := R.len
      refine ⟨_, rfl, Nat.zero_le _, fun e0 ne0 => ?_⟩
      have s1 := same_upd ne0 (o := .lst [])
      refine ⟨_, _, (tb.stay s1).dp, .lst (lstOf upd_same) .nil, (okLL ul).shaped (by decide), by decide, _, rfl, ?_⟩
      have ta1 := ta.stay s1
      have tb1 := tb.stay s1
      generalize upd H e0 (.lst []) = H1 at s1 ta1 tb1 ⊢
      cases ul with
      | nil =>
        obtain ⟨ts, ea, la, _⟩ := ta1.ex
        refine iteT ⟨_, rfl, _, rfl, a, _, rfl, .inl (lstOf ea), _, _, rfl, rfl, U.length - hl.length, rfl, ?_, by omega, ?_⟩
        · rw [List.length_map, la]
          exact congrArg V.int (by omega)
        · exact q _ s1
      | cons u us =>
        rw [show PyData.eqv (.list ((u :: us).map fun u => PyData.list (u.map tD))) (.list []) = false from eqvLLnil _ _]
        obtain ⟨as_, eb, lb, fb⟩ := tb1.ex
        obtain ⟨ts, ea, la, fa⟩ := ta1.ex
        obtain ⟨b0, as', rfl⟩ : ∃ b0 as', as_ = b0 :: as' := by
          cases as_ with
          | nil => cases lb
          | cons x y => exact ⟨x, y, rfl⟩
        have tu := fb 0 b0 u rfl rfl
        obtain ⟨us', eu, lu, fu⟩ := tu.ex
        obtain ⟨u1, u2⟩ := R.each u List.mem_cons_self
        have ul := sub_len u1 u2
        refine iteF ⟨_, rfl, _, rfl, b, _, _, _, rfl, rfl, lstOf eb, atI_nat (j := 0) rfl, b0, rfl, ⟨_, lstOf eu⟩, fun G nG => ?_⟩
        refine lc_list (K := K) (a := b0) (xs := us'.map V.ref) (fun j Hj => TupsAt K Hj G ((u.take j).filter fun z => decide (z ∉ hl)) ∧ Same H1 Hj) ⟨TupsAt.nil upd_same, same_upd nG⟩ (fun j Hj _ ⟨_, sj⟩ => lstOf (sj _ _ eu)) ?_ ?_
        · rintro j y Hj hj ⟨TG, sj⟩
          rw [List.getElem?_map] at hj
          obtain ⟨tz, htz, rfl⟩ := Option.map_eq_some_iff.mp hj
          have jl := (List.getElem?_eq_some_iff.mp htz).1
          obtain ⟨z, hz⟩ : ∃ z, u[j]? = some z := ⟨_, List.getElem?_eq_getElem (by omega)⟩
          have sq := Same.seqTT sj (fu j tz z htz hz)
          refine ⟨rfl, _, rfl, _, rfl, tD z, hl.map tD, dpTup sq, (ta1.stay sj).dp, (okD.tup (okInts _)).shaped (by decide), okTupsS _, _, rfl, ?_⟩
          show if (!((hl.map tD).any fun y => PyData.eqv y (tD z))) = true then _ else _
          rw [inTup, ← decide_not]
          refine ite2 (fun e => ?_) (fun e => ?_)
          · obtain ⟨us2, eu2, lu2, Tn⟩ := TG.push sq
            refine ⟨_, rfl, _, eu2, ?_, ?_, samePut sj nG⟩
            · have := List.length_filter_le (fun z => decide (z ∉ hl)) (u.take j)
              rw [List.length_take] at this
              rw [List.length_map, lu2]
              exact sizeLt (by omega)
            · rw [takeFilter hz, if_pos e]
              exact Tn
          · refine ⟨?_, sj⟩
            rw [takeFilter hz, if_neg e, List.append_nil]
            exact TG
        · rintro H2 ⟨TG, s2⟩
          rw [List.length_map, lu, List.take_length] at TG
          obtain ⟨gs, eg, lg, fg⟩ := TG.ex
          have ea2 := s2 _ _ ea
          refine ⟨a, G, _, _, rfl, rfl, ea2, eg, ?_, fun l2 nl2 => ?_⟩
          · have := List.length_filter_le (fun z => decide (z ∉ hl)) u
            rw [List.length_map, List.length_map, la, lg]
            exact sizeOk (by omega)
          have s3 := same_upd nl2 (o := .lst (ts.map V.ref ++ gs.map V.ref))
          have TM : TupsAt K (upd H2 l2 (.lst (ts.map V.ref ++ gs.map V.ref))) l2 (hl ++ u.filter fun z => decide (z ∉ hl)) := by
            refine ⟨ts ++ gs, by rw [upd_same, List.map_append], by rw [List.length_append, List.length_append, la, lg], fun i t l h1 h2 => ?_⟩
            by_cases hi : i < ts.length
            · rw [List.getElem?_append_left hi] at h1
              rw [List.getElem?_append_left (by omega)] at h2
              exact Same.seqTT (s2.trans s3) (fa i t l h1 h2)
            · rw [List.getElem?_append_right (by omega)] at h1
              rw [List.getElem?_append_right (by omega), ← la] at h2
              exact Same.seqTT s3 (fg _ t l h1 h2)
          generalize upd H2 l2 (.lst (ts.map V.ref ++ gs.map V.ref)) = H3 at s3 TM ⊢
          have s13 := s2.trans s3
          have cut : ∀ {Hk : Hp} {p1 : Addr}, Same H1 Hk → Hk p1 = none → LLAt K (upd Hk p1 (.lst (cutV ((b0 :: as').map V.ref) (some (1 : Int)) none))) p1 us := fun {Hk p1} sk n1 => by
            refine ⟨as', by rw [upd_same, List.map_cons, cutDrop1], Nat.succ.inj lb, fun i c v x y => ?_⟩
            exact (fb (i + 1) c v x y).stay (sk.trans (same_upd n1))
          refine ⟨_, rfl, _, rfl, _, rfl, (1 : Int), rfl, ?_⟩
          simp only [tNoPart]
          refine ⟨b, _, rfl, lstOf (s13 _ _ eb), fun p1 n1 => ?_⟩
          have L1 := cut s13 n1
          have sp1 := same_upd n1 (o := .lst (cutV ((b0 :: as').map V.ref) (some (1 : Int)) none))
          have lk' : us.length < k := by
            rw [List.length_cons] at lk
            omega
          refine ⟨a, p1, U, hl, us, rfl, (ta1.stay s13).stay sp1, L1, lk', u120, R.tail, fun H4 s4 => ?_⟩
          have s14 := (s13.trans sp1).trans s4
          refine ⟨_, rfl, _, rfl, _, rfl, (1 : Int), rfl, ?_⟩
          simp only [tNoPart]
          refine ⟨b, _, rfl, lstOf (s14 _ _ eb), fun p2 n2 => ?_⟩
          have L2' := cut s14 n2
          have sp2 := same_upd n2 (o := .lst (cutV ((b0 :: as').map V.ref) (some (1 : Int)) none))
          refine ⟨l2, p2, U, _, us, rfl, ((TM.stay sp1).stay s4).stay sp2, L2', lk', u120, R.more, fun H5 s5 => ?_⟩
          exact ⟨_, _, rfl, rfl, q _ ((s1.trans s14).trans (sp2.trans s5))⟩
theorem ok_p_rows_with (T : Txt K mg) : FnOk P w K mg base CX0 12 T.f_p_rows_with T.fd_p_rows_with ["total", "held", "unheld"] (sp_rows K 10) := ok_rows T 10
end

end R
namespace R
open PySem PySem.Spec PyProof.Rows L2
/-! ## many_lots -/
def sp_p_many_lots (K : PySem.W.Frag) : Sp := fun vs H Q _ => ∃ (a b : Addr) (ms : List Int) (sl : List (Int × Bool)) (U : List (List Int)), vs = [.ref a, .ref b] ∧ SqT K H a (ms.map V.int) ∧ MOk ms ∧ SeenAt K H b sl ∧ SOk sl ∧ U.length ≤ 60 ∧ (∀ p ∈ sl, p.2 = true → ∀ z ∈ marksLT ms p.1, z ∈ U) ∧
  ∀ hl hl2 H', Same H H' → HeldIs ms sl hl → HeldIs ms sl hl2 → Q (.int (rowsW (uniL ms).length hl (unheldL ms hl2 sl))) H'
section
variable {P : Program} {w : World} {K : PySem.W.Frag} {mg : Str → Option Value} {base : Heap}
theorem ok_p_many_lots (T : Txt K mg) : FnOk P w K mg base CX0 13 T.f_p_many_lots T.fd_p_many_lots ["moduli", "seen"] (sp_p_many_lots K) := by
  refine T.F_p_many_lots.ok sc_p_many_lots (fun vs H Q E h => ?_) (fun cdv A outer s H vs Q E hr h => ?_)
  · obtain ⟨a, b, ms, sl, U, rfl, _⟩ := h
    rfl
  · obtain ⟨a, b, ms, sl, U, rfl, ta, M, S, O, u60, hU, q⟩ := h
    refine ⟨_, (pss_cons (ps_expr (pe_call (ok_p_check_moduli T) (hr.mono (by decide)) (by rfl) T.g_p_check_moduli T.F_p_check_moduli.kp T.b_p_check_moduli .nil pass0 (pa_cons (pv 0) pa_nil)))
      (pss_cons (ps_expr (pe_call (ok_p_check_seen T) (hr.mono (by decide)) (by rfl) T.g_p_check_seen T.F_p_check_seen.kp T.b_p_check_seen .nil pass0 (pa_cons (pv 1) pa_nil)))
      (pss_one (ps_ret (pe_call (ok_p_rows_with T) (hr.mono (by decide)) (by rfl) T.g_p_rows_with T.F_p_rows_with.kp T.b_p_rows_with .nil pass0 (pa_cons (pe_callB (cr_sumT rfl) (by rfl) T.z_sum (by decide +kernel) (pa_cons (pv 0) pa_nil)) (pa_cons (pe_call (ok_p_held_marks T) (hr.mono (by decide)) (by rfl) T.g_p_held_marks T.F_p_held_marks.kp T.b_p_held_marks .nil pass0 (pa_cons (pv 0) (pa_cons (pv 1) pa_nil))) (pa_cons (pe_call (ok_p_unheld_marks T) (hr.mono (by decide)) (by rfl) T.g_p_unheld_marks T.F_p_unheld_marks.kp T.b_p_unheld_marks .nil pass0 (pa_cons (pv 0) (pa_cons (pv 1) pa_nil))) pa_nil)))))))), ?_⟩
    have ul := uni_len M
    refine ⟨_, rfl, a, ms, rfl, ta, M, fun H1 s1 => ?_⟩
    refine ⟨_, rfl, b, sl, rfl, S.stay s1, O, fun H2 s2 => ?_⟩
    have s12 := s1.trans s2
    refine ⟨_, rfl, a, ms, rfl, Same.seqTT s12 ta, _, rfl, _, rfl, a, b, ms, sl, U, rfl, Same.seqTT s12 ta, M, S.stay s12, u60, hU, fun D hl H3 s3 n3 T3 h3 => ?_⟩
    have s13 := s12.trans s3
    refine ⟨_, rfl, _, rfl, a, b, ms, sl, U, rfl, Same.seqTT s13 ta, M, S.stay s13, O.few, u60, hU, fun D2 hl2 H4 s4 n4 L4 h4 => ?_⟩
    have ulen : (unheldL ms hl2 sl).length < 10 := by
      have := O.unfit sl.length
      unfold unfitTo at this
      rw [List.take_length] at this
      unfold unheldL
      rw [List.length_map]
      omega
    refine ⟨D, D2, uniL ms, hl, unheldL ms hl2 sl, by rw [← ul.1]; rfl, T3.stay s4, L4, ulen, ul.2, rows_in M h3, fun H5 s5 => q hl hl2 _ (s13.trans (s4.trans s5)) h3 h4⟩
end

end R
namespace R
open PySem PySem.Spec PyProof.Rows L2
/-- an int under a name of its own -/
theorem pe_cutI {X : Cx} {e : Expr} {te : TE} (h0 : PE X e te) : PE X e (fun σ H Q => te σ H fun x H' => ∃ y : Int, x = .int y ∧ Q (.int y) H') := by
  constructor
  intro pn s σ H Q I h
  refine thn (h0.run pn s σ H _ I h) ?_
  rintro v s1 ⟨x, H1, I1, r1, y, rfl, q⟩
  exact ⟨_, H1, I1, r1, q⟩

end R
namespace R
open PySem PySem.Spec PyProof.Rows L2
/-! ## tuple(range(a, b, c)) -/
def stepV (i c : Int) (n : Nat) : List V := (List.range n).map fun k : Nat => V.int (i + (k : Int) * c)
def tTup3 (ta : TA) : TE := fun σ H Q => ta σ H fun vs H1 => ∃ (i j c : Int) (n : Nat), vs = [.int i, .int j, .int c] ∧ RgC i j c n ∧ n ≤ 1000 ∧ ∀ q, H1 q = none → Q (.ref q) (upd H1 q (.tup (stepV i c n)))
theorem vals_step {i c : Int} {n : Nat} {acc : Array Value} (h : ItemsOf (fun k v => ∃ t, v = .int (i + k * c) t) acc n) : Vals (stepV i c n) acc.toList := by
  have e : acc.toList.length = n := by rw [Array.length_toList]; exact h.1
  unfold stepV
  rw [← e]
  refine vals_of_get acc.toList _ fun j u hj => ?_
  obtain ⟨t, rfl⟩ := h.2 j u (by rw [← hj, Array.getElem?_toList])
  exact ⟨t, rfl⟩
theorem prg3 {X : Cx} {a b c : Expr} {ta : TA} {p pos : Pos} (hg : Gl X "range") (hm : X.mg "range" = none) (ha : PA X [a, b, c] ta)
    (hs : starEach [a, b, c] X.env = (false, eval a X.env) :: starEach [b, c] X.env) (hpl : (backTo pos (starEach [b, c] X.env)).any (·.1) = false)
    {pins : List (Addr × Obj)} {s : Shared} {σ : L2.St} {H : Hp} {R : List V → Hp → Prop} (I : Inv X pins σ H s) (h : ta σ H R) (ok : ∀ vs H1, R vs H1 → ∃ (i j c : Int) (n : Nat), vs = [.int i, .int j, .int c] ∧ RgC i j c n) :
    wpAny (model X.prog X.w) X.A (eval (.Call (.Name "range" p) [a, b, c] [] pos) X.env) (fun x s' => ∃ r i j c t u v H', x = .ref r ∧ IsRange s'.heap r i j c t u v ∧ Inv X pins σ H' s' ∧ R [.int i, .int j, .int c] H') X.xe s := by
  refine Call_ (ld_blt I hg hm boot_range (PyProof.Rows.callWith_type1 (thn (ha.run pos pins s σ H _ I h) fun us s1 ⟨vs, H1, I1, r1, q1⟩ => ?_) hs hpl))
  obtain ⟨i, j, k, n, e, ⟨c0, c1, c2, c3⟩⟩ := ok _ _ q1
  subst e
  cases r1 with
  | cons r rr =>
    cases rr with
    | cons r' rr =>
      cases rr with
      | cons r'' rr =>
        cases rr
        obtain ⟨t, rfl⟩ := r
        obtain ⟨t', rfl⟩ := r'
        obtain ⟨t'', rfl⟩ := r''
        refine call_range_3 c0 ?_ (.inl (PyProof.noPylong_small c1))
        exact ⟨_, i, j, k, _, _, _, H1, rfl, IsRange.new _ _ _ _ _ _ _, I1.kept (t' := s1.toks) fun b u e => Heap.get?_push_of_some _ e, q1⟩
theorem pe_tup3 {X : Cx} {a b c : Expr} {ta : TA} {p p2 pos pos2 : Pos} (hc : X.calm = true) (hg : Gl X "tuple") (hm : X.mg "tuple" = none) (hg2 : Gl X "range") (hm2 : X.mg "range" = none) (ha : PA X [a, b, c] ta)
    (na : starEach [.Call (.Name "range" p) [a, b, c] [] pos] X.env = (false, eval (.Call (.Name "range" p) [a, b, c] [] pos) X.env) :: starEach [] X.env := by rfl)
    (hs : starEach [a, b, c] X.env = (false, eval a X.env) :: starEach [b, c] X.env := by rfl) (hpl : (backTo pos (starEach [b, c] X.env)).any (·.1) = false := by rfl) :
    PE X (.Call (.Name "tuple" p2) [.Call (.Name "range" p) [a, b, c] [] pos] [] pos2) (tTup3 ta) := by
  refine ⟨fun pins s σ H Q I h => ?_⟩
  have ok : ∀ vs H1, (∃ (i j c : Int) (n : Nat), vs = [V.int i, .int j, .int c] ∧ RgC i j c n ∧ n ≤ 1000 ∧ ∀ q, H1 q = none → Q (.ref q) (upd H1 q (.tup (stepV i c n)))) → ∃ (i j c : Int) (n : Nat), vs = [.int i, .int j, .int c] ∧ RgC i j c n := fun vs H1 ⟨i, j, c, n, e, r, _⟩ => ⟨i, j, c, n, e, r⟩
  refine Call_ (ld_blt I hg hm boot_tuple (PyProof.Rows.callWith_type1 (args_cons (thn (prg3 hg2 hm2 ha hs hpl I h ok) fun x s1 ⟨r, i', j', c', t, u, v, H1, ex, hr, I1, i, j, c, n, e, ⟨b1, b2, b3, b4⟩, b5, q⟩ => args_nil ?_) na) na))
  cases e
  subst ex
  refine call_tuple_range (n := n) (I1.ok.hd hc) hr b3 b4 (by omega) fun h' tk acc hk hi => ?_
  have I2 : Inv X pins σ H1 { s1 with heap := h', toks := tk } := I1.kept hk
  have ln : (stepV i' c' n).length = n := by unfold stepV; rw [List.length_map, List.length_range]
  refine ⟨.ref h'.objs.size, upd H1 h'.objs.size (.tup (stepV i' c' n)), I2.laid (t' := tk) (fun c o e => Heap.get?_push_of_some _ e) (Nat.le_refl _) (show ObjOk X.prog X.w _ _ _ (.tup (stepV i' c' n)) from ⟨?_, acc.toList, vals_step hi, ?_⟩), rfl, q _ (I2.hok.fresh (Nat.le_refl _))⟩
  · rw [ln, sizeLine_eq]; omega
  · rw [Array.toArray_toList]; exact IsTup.new _ _
/-- a comprehension over a step range -/
theorem lc_rangeC {lo c : Int} {n : Nat} {g : TG} {tt : TT} {te : TE} {vs : List Nat} {σ : L2.St} {H1 : Hp} {D : Addr} {Qd : Hp → Prop} (Pv : Nat → Hp → Prop) (h0 : Pv 0 (upd H1 D (.lst [])))
    (hs : ∀ i H, i < n → Pv i H → g (.int (lo + (i : Nat) * c)) (wipe σ vs) H fun σ2 H2 => wipe σ2 vs = wipe σ vs ∧ tt σ2 H2 fun b H3 =>
      if b = true then te σ2 H3 fun y H4 => ∃ acc, H4 D = some (.lst acc) ∧ acc.length < sizeLine ∧ Pv (i + 1) (upd H4 D (.lst (acc ++ [y]))) else Pv (i + 1) H3) (hd : ∀ H, Pv n H → Qd H) :
    ∃ W : Nat → Nat → Hp → Prop, (∃ m, W 0 m (upd H1 D (.lst []))) ∧ ∀ i m H, W i m H →
      ((Itc lo c n).stop i H ∧ Qd H) ∨ ((Itc lo c n).go i H ∧ ∃ Nx : Hp → Prop, (∀ H', Nx H' → ∃ m', m' < m ∧ W (i + 1) m' H') ∧ ∀ x H', (Itc lo c n).yld i H x H' → g x (wipe σ vs) H' fun σ2 H2 => wipe σ2 vs = wipe σ vs ∧ tt σ2 H2 fun b H3 =>
        if b = true then te σ2 H3 fun y H4 => ∃ acc, H4 D = some (.lst acc) ∧ acc.length < sizeLine ∧ Nx (upd H4 D (.lst (acc ++ [y]))) else Nx H3) := by
  refine ⟨fun i m H => m = n - i ∧ i ≤ n ∧ Pv i H, ⟨n, by simp, Nat.zero_le _, h0⟩, ?_⟩
  rintro i m H ⟨rfl, hi, p⟩
  by_cases hlt : i < n
  · refine .inr ⟨hlt, Pv (i + 1), fun H' p' => ⟨n - (i + 1), by omega, rfl, hlt, p'⟩, fun x H' y => ?_⟩
    obtain ⟨rfl, rfl⟩ := y
    exact hs _ _ hlt p
  · have e : i = n := by omega
    subst e
    exact .inl ⟨Nat.le_refl _, hd H p⟩

end R
namespace R
open PySem PySem.Spec PyProof.Rows L2
/-! ## the first rests -/
def upTo (g : Int) : List Int := (List.range g.toNat).map fun i : Nat => (i : Int)
theorem rgUp (g : Int) : rgV 0 g = (upTo g).map V.int := by
  unfold rgV upTo
  rw [List.map_map, Int.sub_zero]
  congr 1
  funext i
  show V.int (0 + (i : Int)) = V.int (i : Int)
  rw [Int.zero_add]
theorem upTo_len (g : Int) : (upTo g).length = g.toNat := by
  unfold upTo
  rw [List.length_map, List.length_range]
theorem lotUp {g : Int} (h1 : g ≤ 60) : LotOk 60 (upTo g) := by
  refine ⟨?_, fun r hr => ?_, fun r hr => ?_, by rw [upTo_len]; omega⟩
  · unfold upTo
    rw [List.pairwise_map]
    exact List.Pairwise.imp (fun h => by omega) List.pairwise_lt_range
  · obtain ⟨i, hi, rfl⟩ := List.mem_map.mp hr
    omega
  · obtain ⟨i, hi, rfl⟩ := List.mem_map.mp hr
    have := List.mem_range.mp hi
    omega

end R
namespace R
open PySem PySem.Spec PyProof.Rows L2
/-! ## the known sieves -/
def pairB (a c d : Nat) : List Bar := [((a : Int), [(c : Int)]), (((a + 1 : Nat) : Int), [(d : Int)])]
def oddsL (k : Nat) : List Int := (List.range k).map fun j : Nat => 1 + (j : Int) * 2
def oddB (k : Nat) : List Bar := [(2 * (k : Int), oddsL k)]
def evenB : List Bar := [((2 : Int), [(0 : Int)])]
def allB (k : Nat) : List Bar := [((k : Int), (List.range k).map fun j : Nat => (j : Int))]
def foundL (a c d : Nat) : List Int := ((List.range (a + 1)).map fun j : Nat => (c : Int) + (j : Int) * (a : Int)).filter fun x => decide (x % ((a + 1 : Nat) : Int) = (d : Int))
/-- no two neighbours fit -/
def noTwo (bs : List Bar) : Bool := (cls bs).all fun x => !fitsB bs (x + 1)
def topGap (bs : List Bar) (m : Int × Int) : Bool := ((List.range (cls bs).length).map (gapAt bs)).any (fun q => decide (q = m)) && ((List.range (cls bs).length).map (gapAt bs)).all fun q => decide (q.1 < m.1) || (decide (q.1 = m.1) && decide (m.2 ≤ q.2))
theorem topGap_run {bs : List Bar} {m : Int × Int} (hw : 0 < wh bs) (hn : 0 < (cls bs).length) (h : topGap bs m = true) : TopRun bs false m := by
  obtain ⟨h1, h2⟩ := Bool.and_eq_true_iff.mp h
  refine gaps_top hw hn ?_ fun q hq => ?_
  · obtain ⟨q, hq, e⟩ := List.any_eq_true.mp h1
    rw [← of_decide_eq_true e]
    exact hq
  · rcases Bool.or_eq_true_iff.mp (List.all_eq_true.mp h2 q hq) with a | a
    · exact .inl (of_decide_eq_true a)
    · obtain ⟨a, b⟩ := Bool.and_eq_true_iff.mp a
      exact .inr ⟨of_decide_eq_true a, of_decide_eq_true b⟩
theorem noTwo_next {bs : List Bar} (hw : 0 < wh bs) (h : noTwo bs = true) {x : Int} (f : fitsB bs x = true) : fitsB bs (x + 1) = false := by
  have m : x % (wh bs : Int) ∈ cls bs := cls_mem.mpr ⟨Int.emod_nonneg _ (by omega), Int.emod_lt_of_pos _ (by omega), by rw [fitsB_mod]; exact f⟩
  have := List.all_eq_true.mp h _ m
  rw [fits_shift] at this
  revert this
  cases fitsB bs (x + 1) <;> intro z <;> first | rfl | cases z
theorem head_least {bs : List Bar} {x : Int} (h : x ∈ cls bs) : (cls bs).headD 0 ≤ x := by
  have up := cls_up bs
  cases e : cls bs with
  | nil => rw [e] at h; cases h
  | cons y r =>
    rw [e] at h up
    rcases List.mem_cons.mp h with rfl | h
    · exact Int.le_refl _
    · exact Int.le_of_lt ((List.pairwise_cons.mp up).1 _ h)
theorem noTwo_run {bs : List Bar} (hw : 0 < wh bs) (hn : cls bs ≠ []) (h : noTwo bs = true) : BestRun bs true (1, (cls bs).headD 0) := by
  have hm : (cls bs).headD 0 ∈ cls bs := by
    cases e : cls bs with
    | nil => exact absurd e hn
    | cons y r => exact List.mem_cons_self
  obtain ⟨h0, h1, hf⟩ := cls_mem.mp hm
  refine ⟨⟨h0, h1, Int.le_refl _, fun i i0 i1 => ?_, fun z => ?_, ?_⟩, fun s b M => ?_⟩
  · rw [show i = 0 by simp only at i1; omega, Int.add_zero]
    exact hf
  · have := noTwo_next hw h z
    rw [show ∀ x : Int, x - 1 + 1 = x from fun x => by omega, hf] at this
    cases this
  · show fitsB bs ((cls bs).headD 0 + 1) ≠ true
    rw [noTwo_next hw h hf]
    decide
  · have s1 := M.s1
    have f0 := M.in_ 0 (Int.le_refl _) (by omega)
    rw [Int.add_zero] at f0
    have hb := head_least (cls_mem.mpr ⟨M.b0, M.b1, f0⟩)
    by_cases e : s = 1
    · exact .inr ⟨e, hb⟩
    · have := M.in_ 1 (by decide) (by omega)
      rw [noTwo_next hw h f0] at this
      cases this
theorem tal_rep (x : Int) (n : Nat) (hn : 0 < n) : IsTal (List.replicate n x) [(x, (n : Int))] := by
  refine ⟨[x], List.pairwise_singleton _ _, fun k => ?_, ?_⟩
  · rw [List.mem_singleton, List.mem_replicate]
    constructor
    · exact fun e => ⟨by omega, e⟩
    · exact fun e => e.2
  · rw [List.map_singleton, List.count_replicate_self]
/-- all that is told of two bars of which one number fits -/
def pairOk (a c d : Nat) : Bool :=
  let bs := pairB a c d
  let w := a * (a + 1)
  match cls bs with
  | [x] => decide (wh bs = w) && decide (stepsTo bs 1 = [(w : Int)]) && decide (sureM bs = w) && decide (sureR bs = x) && decide (needTo bs 2 = []) && decide (st bs (pl bs 0 + 100000000000000000000) = x + (w : Int) * 100000000000000000000) && noTwo bs && topGap bs ((w : Int) - 1, (x + 1) % (w : Int)) && decide (foundL a c d = [x]) && decide (choices bs ≤ 2000) && decide (Nat.gcd 1 w = 1)
  | _ => false
theorem pairAll : ((List.range 9).all fun i => (List.range (i + 2)).all fun c => (List.range (i + 3)).all fun d => pairOk (i + 2) c d) = true := by decide +kernel
structure PairIs (a c d : Nat) (x : Int) : Prop where
  cl : cls (pairB a c d) = [x]
  w_ : wh (pairB a c d) = a * (a + 1)
  steps : stepsTo (pairB a c d) 1 = [((a * (a + 1) : Nat) : Int)]
  sM : sureM (pairB a c d) = a * (a + 1)
  sR : sureR (pairB a c d) = x
  need : needTo (pairB a c d) 2 = []
  num : st (pairB a c d) (pl (pairB a c d) 0 + 100000000000000000000) = x + ((a * (a + 1) : Nat) : Int) * 100000000000000000000
  no : noTwo (pairB a c d) = true
  gap : topGap (pairB a c d) (((a * (a + 1) : Nat) : Int) - 1, (x + 1) % ((a * (a + 1) : Nat) : Int)) = true
  found : foundL a c d = [x]
  few : choices (pairB a c d) ≤ 2000
theorem pair_is {a c d : Nat} (a2 : 2 ≤ a) (a10 : a ≤ 10) (hc : c < a) (hd : d < a + 1) : ∃ x, PairIs a c d x := by
  have h1 := List.all_eq_true.mp pairAll (a - 2) (List.mem_range.mpr (by omega))
  rw [show a - 2 + 2 = a by omega, show a - 2 + 3 = a + 1 by omega] at h1
  have h2 := List.all_eq_true.mp (List.all_eq_true.mp h1 c (List.mem_range.mpr hc)) d (List.mem_range.mpr hd)
  unfold pairOk at h2
  simp only at h2
  split at h2
  · rename_i x e
    simp only [Bool.and_eq_true, decide_eq_true_eq] at h2
    obtain ⟨⟨⟨⟨⟨⟨⟨⟨⟨⟨w_, s_⟩, sm⟩, sr⟩, nd⟩, nm⟩, no⟩, gp⟩, fo⟩, ch⟩, _⟩ := h2
    exact ⟨x, e, w_, s_, sm, sr, nd, nm, no, gp, fo, ch⟩
  · cases h2
def setIs (xs ys : List Int) : Bool := (xs.all fun x => decide (x ∈ ys)) && ys.all fun y => decide (y ∈ xs)
theorem setIs_iff {xs ys : List Int} (h : setIs xs ys = true) (k : Int) : k ∈ xs ↔ k ∈ ys := by
  obtain ⟨h1, h2⟩ := Bool.and_eq_true_iff.mp h
  exact ⟨fun m => of_decide_eq_true (List.all_eq_true.mp h1 k m), fun m => of_decide_eq_true (List.all_eq_true.mp h2 k m)⟩
def smallIs (n : Nat) (suits : List Nat → Bool) (r : Nat) (rows : List (List Nat)) : Bool := decide ((cbAll n r).filter suits = rows) && (List.range r).all fun q => decide ((cbAll n q).filter suits = [])
theorem small_is {n r : Nat} {suits : List Nat → Bool} {rows : List (List Nat)} (hr : r ≤ n) (ne : rows ≠ []) (h : smallIs n suits r rows = true) : Smallest n suits rows := by
  obtain ⟨h1, h2⟩ := Bool.and_eq_true_iff.mp h
  exact .inl ⟨r, hr, (of_decide_eq_true h1).symm, ne, fun q hq => of_decide_eq_true (List.all_eq_true.mp h2 q (List.mem_range.mpr hq))⟩
def oddOk (k : Nat) : Bool :=
  let bs := oddB k
  decide (cls bs = oddsL k) && decide (wh bs = 2 * k) && smallIs 2 (fun idx => decide (cls (pickB (bs ++ evenB) (natL idx)) = [])) 2 [[0, 1]] && decide (pl bs 1000000000000000000000000000000 - pl bs 0 = 500000000000000000000000000000) && decide (stepsTo bs k = List.replicate k 2)
    && noTwo bs && decide (sureM bs = 2) && decide (sureR bs = 1) && decide (gg bs evenB = 2) && ((oddsL k).all fun a => decide ((a - 0) % 2 = 1) && decide ((0 - a) % 2 = 1)) && setIs ((prodL (restsL bs 10) (restsL bs 10)).map (sumM 10)) [0, 2, 4, 6, 8] && setIs ((prodL (restsL bs 8) (restsL bs 8)).map (mulM 8)) [1, 3, 5, 7]
    && decide (wh (bs ++ evenB) ≤ 1000) && decide (choices (bs ++ evenB) ≤ 2000) && decide (choices bs ≤ 2000)
theorem oddAll : ((List.range 20).all fun k => oddOk (k + 1)) = true := by decide +kernel
def allOk (k : Nat) : Bool :=
  let bs := allB k
  decide ((cls bs).length = k) && decide (wh bs = k) && decide (needTo bs 1 = [0]) && smallIs 1 (fun idx => decide (shL (pickB bs (natL idx)) = shL bs)) 0 [[]] && decide (stepsTo bs k = List.replicate k 1) && topGap bs (0, 0) && decide ((withinB bs evenB && withinB evenB bs) = false) && decide ((withinB bs [] && withinB [] bs) = true) && decide (choices bs ≤ 2000)
theorem allAll : ((List.range 30).all fun k => allOk (k + 1)) = true := by decide +kernel
theorem oddsUp (k : Nat) : (oddsL k).Pairwise (· < ·) := by
  unfold oddsL
  rw [List.pairwise_map]
  exact List.pairwise_lt_range.imp fun h => by omega
theorem oddMem {k : Nat} {r : Int} (h : r ∈ oddsL k) : 0 ≤ r ∧ r < 2 * (k : Int) := by
  obtain ⟨j, hj, rfl⟩ := List.mem_map.mp h
  have := List.mem_range.mp hj
  omega
theorem oddBar {k : Nat} (k1 : 1 ≤ k) (k20 : k ≤ 20) : BarOk (2 * (k : Int), oddsL k) :=
  ⟨by show (1 : Int) ≤ 2 * (k : Int); omega, by show 2 * (k : Int) ≤ 1000000; omega, oddsUp k, fun r h => (oddMem h).1, fun r h => (oddMem h).2, by show (oddsL k).length ≤ 60; unfold oddsL; rw [List.length_map, List.length_range]; omega⟩
theorem evenOk : SvOk evenB := ⟨by decide, fun b hb => by
  rw [List.mem_singleton.mp hb]
  exact ⟨by decide, by decide, List.pairwise_singleton _ _, fun r h => by rw [List.mem_singleton.mp h]; decide, fun r h => by rw [List.mem_singleton.mp h]; decide, by decide⟩, by decide +kernel, by decide +kernel⟩
structure OddIs (k : Nat) : Prop where
  cl : cls (oddB k) = oddsL k
  w_ : wh (oddB k) = 2 * k
  ok : SvOk (oddB k)
  ok2 : SvOk (oddB k ++ evenB)
  small : Smallest 2 (fun idx => decide (cls (pickB (oddB k ++ evenB) (natL idx)) = [])) [[0, 1]]
  count : pl (oddB k) 1000000000000000000000000000000 - pl (oddB k) 0 = 500000000000000000000000000000
  steps : IsTal (stepsTo (oddB k) (cls (oddB k)).length) [(2, (k : Int))]
  run : BestRun (oddB k) true (1, 1)
  sM : sureM (oddB k) = 2
  sR : sureR (oddB k) = 1
  dist : IsDist (gg (oddB k) evenB) (cls (oddB k)) (cls evenB) 1
  sums : ∀ x, x ∈ (prodL (restsL (oddB k) 10) (restsL (oddB k) 10)).map (sumM 10) ↔ x ∈ [0, 2, 4, 6, 8]
  prods : ∀ x, x ∈ (prodL (restsL (oddB k) 8) (restsL (oddB k) 8)).map (mulM 8) ↔ x ∈ [1, 3, 5, 7]
  ne : cls (oddB k) ≠ []
  lt : (cls (oddB k)).length ≠ wh (oddB k)
theorem evenCls : cls evenB = [0] := by decide +kernel
theorem oddsLen (k : Nat) : (oddsL k).length = k := by unfold oddsL; rw [List.length_map, List.length_range]
theorem oddsHead {k : Nat} (k1 : 1 ≤ k) : (oddsL k).headD 0 = 1 ∧ (1 : Int) ∈ oddsL k ∧ oddsL k ≠ [] := by
  obtain ⟨j, rfl⟩ : ∃ j, k = j + 1 := ⟨k - 1, by omega⟩
  have e : oddsL (j + 1) = 1 :: (List.map Nat.succ (List.range j)).map fun j : Nat => 1 + (j : Int) * 2 := by
    unfold oddsL
    rw [List.range_succ_eq_map, List.map_cons]
    rfl
  rw [e]
  exact ⟨rfl, List.mem_cons_self, List.cons_ne_nil _ _⟩
theorem odd_is {k : Nat} (k1 : 1 ≤ k) (k20 : k ≤ 20) : OddIs k := by
  have h := List.all_eq_true.mp oddAll (k - 1) (List.mem_range.mpr (by omega))
  rw [show k - 1 + 1 = k by omega] at h
  unfold oddOk at h
  simp only [Bool.and_eq_true, decide_eq_true_eq] at h
  obtain ⟨⟨⟨⟨⟨⟨⟨⟨⟨⟨⟨⟨⟨⟨cl, w_⟩, sm⟩, ct⟩, sp⟩, no⟩, sM⟩, sR⟩, g2⟩, al⟩, s1⟩, s2⟩, w2⟩, c2⟩, c1⟩ := h
  obtain ⟨hd, m1, ne⟩ := oddsHead k1
  have hw : 0 < wh (oddB k) := by rw [w_]; omega
  have hb := oddBar k1 k20
  have ok : SvOk (oddB k) := ⟨by show (1 : Nat) ≤ 6; decide, fun b h => by rw [List.mem_singleton.mp h]; exact hb, by rw [w_]; exact Nat.le_trans (show 2 * k ≤ 40 by omega) (by decide), c1⟩
  refine ⟨cl, w_, ok, ⟨by show (2 : Nat) ≤ 6; decide, fun b h => ?_, Nat.le_trans w2 (by decide), c2⟩, small_is (by decide) (List.cons_ne_nil _ _) sm, ct, ?_, ?_, sM, sR, ?_, setIs_iff s1, setIs_iff s2, by rw [cl]; exact ne, by rw [cl, w_, oddsLen]; omega⟩
  · rcases List.mem_append.mp h with h | h
    · exact ok.bar b h
    · exact evenOk.bar b h
  · rw [cl, oddsLen, sp]
    exact tal_rep 2 k (by omega)
  · have := noTwo_run hw (by rw [cl]; exact ne) no
    rw [cl, hd] at this
    exact this
  · rw [g2, cl, evenCls]
    refine ⟨⟨1, m1, 0, List.mem_singleton.mpr rfl, .inl (by decide)⟩, fun a ha b hb => ?_⟩
    have := List.all_eq_true.mp al a ha
    rw [List.mem_singleton.mp hb]
    simp only [Bool.and_eq_true, decide_eq_true_eq] at this
    omega
structure AllIs (k : Nat) : Prop where
  len : (cls (allB k)).length = wh (allB k)
  ok : SvOk (allB k)
  need : needTo (allB k) 1 = [0]
  small : Smallest 1 (fun idx => decide (shL (pickB (allB k) (natL idx)) = shL (allB k))) [[]]
  steps : IsTal (stepsTo (allB k) (cls (allB k)).length) [(1, (k : Int))]
  gap : TopRun (allB k) false (0, 0)
  notE : (withinB (allB k) evenB && withinB evenB (allB k)) = false
  isN : (withinB (allB k) [] && withinB [] (allB k)) = true
  ne : cls (allB k) ≠ []
theorem all_is {k : Nat} (k1 : 1 ≤ k) (k30 : k ≤ 30) : AllIs k := by
  have h := List.all_eq_true.mp allAll (k - 1) (List.mem_range.mpr (by omega))
  rw [show k - 1 + 1 = k by omega] at h
  unfold allOk at h
  simp only [Bool.and_eq_true, decide_eq_true_eq] at h
  obtain ⟨⟨⟨⟨⟨⟨⟨⟨ln, w_⟩, nd⟩, sm⟩, sp⟩, gp⟩, nE⟩, iN⟩, c1⟩ := h
  have hw : 0 < wh (allB k) := by rw [w_]; omega
  have hn : 0 < (cls (allB k)).length := by omega
  have ok : SvOk (allB k) := ⟨by show (1 : Nat) ≤ 6; decide, fun b h => ?_, by rw [w_]; exact Nat.le_trans k30 (by decide), c1⟩
  · refine ⟨by rw [ln, w_], ok, nd, small_is (by decide) (List.cons_ne_nil _ _) sm, ?_, topGap_run hw hn gp, nE, Bool.and_eq_true_iff.mpr iN, fun z => by rw [z] at hn; exact Nat.lt_irrefl _ hn⟩
    rw [ln, sp]
    exact tal_rep 1 k (by omega)
  · rw [List.mem_singleton.mp h]
    refine ⟨by show (1 : Int) ≤ (k : Int); omega, by show (k : Int) ≤ 1000000; omega, ?_, fun r hr => ?_, fun r hr => ?_, ?_⟩
    · show ((List.range k).map fun j : Nat => (j : Int)).Pairwise (· < ·)
      rw [List.pairwise_map]
      exact List.pairwise_lt_range.imp fun h => by omega
    · obtain ⟨j, _, rfl⟩ := List.mem_map.mp hr
      omega
    · obtain ⟨j, hj, rfl⟩ := List.mem_map.mp hr
      have := List.mem_range.mp hj
      show (j : Int) < (k : Int)
      omega
    · show ((List.range k).map fun j : Nat => (j : Int)).length ≤ 60
      rw [List.length_map, List.length_range]
      omega
theorem pairSv {a c d : Nat} {x : Int} (a2 : 2 ≤ a) (a10 : a ≤ 10) (hc : c < a) (hd : d < a + 1) (h : PairIs a c d x) : SvOk (pairB a c d) := by
  refine ⟨by show (2 : Nat) ≤ 6; decide, fun b hb => ?_, ?_, h.few⟩
  · rcases List.mem_cons.mp hb with rfl | hb
    · exact ⟨by show (1 : Int) ≤ (a : Int); omega, by show (a : Int) ≤ 1000000; omega, List.pairwise_singleton _ _, fun r h => by rw [List.mem_singleton.mp h]; omega, fun r h => by rw [List.mem_singleton.mp h]; show (c : Int) < (a : Int); omega, by show (1 : Nat) ≤ 60; decide⟩
    · rw [List.mem_singleton.mp hb]
      exact ⟨by show (1 : Int) ≤ ((a + 1 : Nat) : Int); omega, by show ((a + 1 : Nat) : Int) ≤ 1000000; omega, List.pairwise_singleton _ _, fun r h => by rw [List.mem_singleton.mp h]; omega, fun r h => by rw [List.mem_singleton.mp h]; show (d : Int) < ((a + 1 : Nat) : Int); omega, by show (1 : Nat) ≤ 60; decide⟩
  · rw [h.w_]
    have : a * (a + 1) ≤ 10 * 11 := Nat.mul_le_mul a10 (by omega)
    exact Nat.le_trans this (by decide)

end R
namespace R
open PySem PySem.Spec PyProof.Rows L2
/-! ## what the law asks of each -/
open LamX hiding takes0
open NdefX
def sp_l_pair {K : PySem.W.Frag} {mg : Str → Option Value} (T : Txt K mg) : Sp := fun vs H Q _ => ∃ a c d : Nat, vs = [.int (a : Int), .int ((a + 1 : Nat) : Int), .int (c : Int), .int (d : Int)] ∧ 2 ≤ a ∧ a ≤ 10 ∧ c < a ∧ d < a + 1 ∧ Tabs (tabs T) H ∧ ∀ H', StN H H' → Tabs (tabs T) H' → Q (.bl true) H'
def sp_l_odd {K : PySem.W.Frag} {mg : Str → Option Value} (T : Txt K mg) : Sp := fun vs H Q _ => ∃ k : Nat, vs = [.int (k : Int)] ∧ 1 ≤ k ∧ k ≤ 20 ∧ Tabs (tabs T) H ∧ ∀ H', StN H H' → Tabs (tabs T) H' → Q (.bl true) H'
def sp_l_all {K : PySem.W.Frag} {mg : Str → Option Value} (T : Txt K mg) : Sp := fun vs H Q _ => ∃ k : Nat, vs = [.int (k : Int)] ∧ 1 ≤ k ∧ k ≤ 30 ∧ Tabs (tabs T) H ∧ ∀ H', StN H H' → Tabs (tabs T) H' → Q (.bl true) H'
theorem nilBars {K : PySem.W.Frag} {H : Hp} {p : Addr} (t : SqT K H p []) : BarsAt K H (.ref p) [] := ⟨p, [], rfl, t, rfl, fun j y c h1 h2 => by simp at h1⟩
theorem prOne {H : Hp} {e : Addr} {m : Int × Int} (f : H e = some (.tup [.int m.1, .int m.2])) : PrAt H [.ref e] [m] := ⟨rfl, fun i x n h1 h2 => by
  cases i with
  | zero =>
    cases Option.some.inj h1
    cases Option.some.inj h2
    exact ⟨e, rfl, f⟩
  | succ j => simp at h1⟩
section
variable {P : Program} {w : World} {K : PySem.W.Frag} {mg : Str → Option Value} {base : Heap}
theorem ok_l_all (T : Txt K mg) (TB : Tbs base T) : FnOk P w K mg base CX0 19 T.f_l_all T.fd_l_all ["_law_by"] (sp_l_all T) := by
  refine T.F_l_all.ok sc_l_all (fun vs H Q E h => ?_) (fun cdv A outer s H vs Q E hr h => ?_)
  · obtain ⟨k, rfl, _⟩ := h
    rfl
  · obtain ⟨k, rfl, k1, k30, tb, q⟩ := h
    refine ⟨_, (pss_cons (ps_set (i := 1) sc_l_all.nd rfl (by first | exact .inl rfl | exact .inr rfl) (pe_make T.mkC (ok_m_Sieve_init T) (hr.mono (by decide)) (by rfl) T.g_Sieve T.b_m_Sieve_init .nil pass0 (pa_cons (pe_tup (pa_cons (pe_tup (pa_cons (pv 0) (pa_cons (pe_tupRg rfl (by rfl) T.z_tuple (prg_1 (by rfl) T.z_range (pv 0))) pa_nil))) pa_nil)) pa_nil)))
      (pss_cons (ps_if (PW.pt (pw_or (pt_cmpR (op_neD hr.units) (pe_call (ok_p_needless T) (hr.mono (by decide)) (by rfl) T.g_p_needless T.F_p_needless.kp T.b_p_needless .nil pass0 (pa_cons (pv 1) pa_nil)) (pe_lst (pa_cons pe_int pa_nil)) (nomark _)) (pw_or (pt_cmpR (op_neD hr.units) (pe_call (ok_p_smallest_kept T TB) (hr.mono (by decide)) (by rfl) T.g_p_smallest_kept T.F_p_smallest_kept.kp T.b_p_smallest_kept .nil pass0 (pa_cons (pv 1) pa_nil)) (pe_lst (pa_cons (pe_tup pa_nil) pa_nil)) (nomark _)) (pw_or1 (pt_cmpR op_notN (pe_call (ok_p_longest_run T TB) (hr.mono (by decide)) (by rfl) T.g_p_longest_run T.F_p_longest_run.kp T.b_p_longest_run .nil passL (pa_cons (pv 1) pa_nil)) pe_non (nomark _)))))) (pss_one (ps_ret pe_bl)) pss_nil)
      (pss_cons (ps_if (pt_cmpR (op_neD hr.units) (pe_call (ok_p_steps T) (hr.mono (by decide)) (by rfl) T.g_p_steps T.F_p_steps.kp T.b_p_steps .nil passL (pa_cons (pv 1) pa_nil)) (pe_lst (pa_cons (pe_tup (pa_cons pe_int (pa_cons (pv 0) pa_nil))) pa_nil)) (nomark _)) (pss_one (ps_ret pe_bl)) pss_nil)
      (pss_one (ps_ret (pe_and (pe_not (pe_call (ok_p_alike T) (hr.mono (by decide)) (by rfl) T.g_p_alike T.F_p_alike.kp T.b_p_alike .nil pass0 (pa_cons (pv 1) (pa_cons (pe_make T.mkC (ok_m_Sieve_init T) (hr.mono (by decide)) (by rfl) T.g_Sieve T.b_m_Sieve_init .nil pass0 (pa_cons (pe_tup (pa_cons (pe_tup (pa_cons pe_int (pa_cons (pe_tup (pa_cons pe_int pa_nil)) pa_nil))) pa_nil)) pa_nil)) pa_nil)))) (pe_and (pe_call (ok_p_alike T) (hr.mono (by decide)) (by rfl) T.g_p_alike T.F_p_alike.kp T.b_p_alike .nil pass0 (pa_cons (pv 1) (pa_cons (pe_make T.mkC (ok_m_Sieve_init T) (hr.mono (by decide)) (by rfl) T.g_Sieve T.b_m_Sieve_init .nil pass0 (pa_cons (pe_tup pa_nil) pa_nil)) pa_nil))) (pe_one (pe_cmpR (op_eqD hr.units) (pe_call (ok_p_longest_gap T TB) (hr.mono (by decide)) (by rfl) T.g_p_longest_gap T.F_p_longest_gap.kp T.b_p_longest_gap .nil passL (pa_cons (pv 1) pa_nil)) (pe_tup (pa_cons pe_int (pa_cons pe_int pa_nil))) (nomark _)))))))))), ?_⟩
    have I_ := all_is k1 k30
    refine ⟨_, rfl, _, rfl, _, rfl, RgOk.of_le (Int.le_refl _) (by omega) (by decide) (by omega), fun o1 n1 => ⟨sizeOk (by show (2 : Nat) ≤ 100000; decide), fun o2 n2 => ⟨sizeOk (by show (1 : Nat) ≤ 100000; decide), fun o3 n3 => ?_⟩⟩⟩
    have e1 : rgV 0 (k : Int) = ((List.range k).map fun j : Nat => (j : Int)).map V.int := rgUp _
    rw [e1] at n2 n3 ⊢
    generalize hL : ((List.range k).map fun j : Nat => (j : Int)) = L at *
    have g1 := same_upd n1 (o := .tup (L.map V.int))
    have g2 := same_upd n2 (o := .tup [.int (k : Int), .ref o1])
    have g3 := same_upd n3 (o := .tup [.ref o2])
    have f1 := (g2.trans g3) _ _ (upd_same (H := H) (a := o1) (o := .tup (L.map V.int)))
    have f2 := g3 _ _ (upd_same (H := upd H o1 (.tup (L.map V.int))) (a := o2) (o := .tup [.int (k : Int), .ref o1]))
    have f3 := upd_same (H := upd (upd H o1 (.tup (L.map V.int))) o2 (.tup [.int (k : Int), .ref o1])) (a := o3) (o := .tup [.ref o2])
    have g := g1.trans (g2.trans g3)
    generalize upd (upd (upd H o1 (.tup (L.map V.int))) o2 (.tup [.int (k : Int), .ref o1])) o3 (.tup [.ref o2]) = H1 at f1 f2 f3 g ⊢
    have B : BarsAt K H1 (.ref o3) (allB k) := by
      unfold allB
      rw [hL]
      exact oneBar (b := ((k : Int), L)) (tupOf f3) ⟨o2, .ref o1, rfl, tupOf f2, ⟨o1, rfl, tupOf f1⟩⟩
    clear f1 f2 f3 g1 g2 g3 n1 n2 n3 hL e1
    refine fun p dx np ndx _ => make_sieve B I_.ok np ndx fun t H2 s2 A2 => ⟨rfl, ?_⟩
    have tb2 := tb.ext (g.trans s2)
    refine ⟨_, rfl, p, _, t, _, rfl, A2, fun D H3 s3 nD eD => ⟨sizeOk (by show (1 : Nat) ≤ 100000; decide), fun l nl => ?_⟩⟩
    have e3 : H3 D = some (.lst ([0].map V.int)) := by rw [← I_.need]; exact eD
    have s4 := same_upd nl (o := .lst [.int 0])
    refine ⟨_, _, dpLst (lstOf (s4 _ _ e3)), dpLst (l := [0]) (lstOf upd_same), (okD.lst (okInts _)).shaped (by decide), (okD.lst (okInts _)).shaped (by decide), _, rfl, ?_⟩
    rw [eqvIntsL, decide_eq_true rfl]
    refine iteF ?_
    have A4 := A2.stay (s3.trans s4)
    have tb4 := tb2.ext (s3.trans s4)
    have x4 : StN H (upd H3 l (.lst [.int 0])) := .of (g.trans (s2.trans (s3.trans s4)))
    generalize upd H3 l (.lst [.int 0]) = H4 at A4 tb4 x4 ⊢
    clear s4 s3 e3 nl nD eD tb2 B A2 s2 g
    refine ⟨_, rfl, p, _, t, _, rfl, A4, tb4, fun D5 rows H5 s5 tb5 TA5 sm => ?_⟩
    have er : rows = [[]] := sm.one I_.small
    subst er
    refine ⟨sizeOk (by show (0 : Nat) ≤ 100000; decide), fun e ne => ⟨sizeOk (by show (1 : Nat) ≤ 100000; decide), fun l nl => ?_⟩⟩
    have s6 := (same_upd ne (o := .tup [])).trans (same_upd nl (o := .lst [.ref e]))
    have f1 := same_upd nl (o := .lst [.ref e]) _ _ (upd_same (H := H5) (a := e) (o := .tup []))
    have f2 := upd_same (H := upd H5 e (.tup [])) (a := l) (o := .lst [.ref e])
    generalize upd (upd H5 e (.tup [])) l (.lst [.ref e]) = H6 at s6 f1 f2 ⊢
    refine ⟨_, _, (TA5.stay s6).dp, (show Dp K H6 (.ref l) (.list ([([] : List Int)].map fun l => .tuple (l.map PyData.int))) from .lst (lstOf f2) (.cons (.tup (tupOf f1) .nil) .nil)), okTupsS _, okTupsS _, _, rfl, ?_⟩
    have ev : PyData.eqv (.list ((([([] : List Nat)].map natL)).map fun l : List Int => PyData.tuple (l.map PyData.int))) (.list ([([] : List Int)].map fun l => PyData.tuple (l.map PyData.int))) = true := (okTups [[]]).eqv
    rw [ev]
    refine iteF ?_
    have x6 := s5.trans (.of s6)
    have A6 := A4.stn x6
    have tb6 := tb5.ext s6
    have y6 := x4.trans x6
    clear ev s6 s5 x6 f1 f2 ne nl tb5 TA5 A4 tb4 x4 sm
    refine ⟨_, rfl, p, _, t, _, rfl, A6, tb6, .inl ⟨I_.ne, I_.len, fun H7 s7 => ?_⟩⟩
    refine ⟨rfl, _, rfl, ?_⟩
    rw [decide_eq_true rfl]
    refine iteF ?_
    have A7 := A6.stay s7
    refine ⟨_, rfl, p, _, t, _, rfl, A7, .inl ⟨I_.ne, fun D8 H8 xs l8 s8 nD8 eD8 PA8 TL8 => ?_⟩⟩
    have el : l8 = [(1, (k : Int))] := TL8.one I_.steps
    subst el
    refine ⟨_, rfl, sizeOk (by show (2 : Nat) ≤ 100000; decide), fun e ne => ⟨sizeOk (by show (1 : Nat) ≤ 100000; decide), fun l nl => ?_⟩⟩
    have s9 := (same_upd ne (o := .tup [.int 1, .int (k : Int)])).trans (same_upd nl (o := .lst [.ref e]))
    have f1 := same_upd nl (o := .lst [.ref e]) _ _ (upd_same (H := H8) (a := e) (o := .tup [.int 1, .int (k : Int)]))
    have f2 := upd_same (H := upd H8 e (.tup [.int 1, .int (k : Int)])) (a := l) (o := .lst [.ref e])
    generalize upd (upd H8 e (.tup [.int 1, .int (k : Int)])) l (.lst [.ref e]) = H9 at s9 f1 f2 ⊢
    refine ⟨_, _, dpPrL (s9 _ _ eD8) (PA8.stay fun _ _ z => s9 _ _ z), dpPrL (ms := [(1, (k : Int))]) f2 (prOne f1), (okPrL _).shaped (by decide), (okPrL _).shaped (by decide), _, rfl, ?_⟩
    rw [(okPrL _).eqv]
    refine iteF ?_
    have s79 := s7.trans (s8.trans s9)
    have A9 := A6.stay s79
    have tb9 := tb6.ext s79
    have y9 := y6.trans (.of s79)
    clear s79 s7 s8 s9 f1 f2 ne nl A6 tb6 y6 A7 nD8 eD8 PA8 TL8
    refine ⟨_, rfl, sizeOk (by show (1 : Nat) ≤ 100000; decide), fun o1 n1 => ⟨sizeOk (by show (2 : Nat) ≤ 100000; decide), fun o2 n2 => ⟨sizeOk (by show (1 : Nat) ≤ 100000; decide), fun o3 n3 => ?_⟩⟩⟩
    have g1 := same_upd n1 (o := .tup [.int 0])
    have g2 := same_upd n2 (o := .tup [.int 2, .ref o1])
    have g3 := same_upd n3 (o := .tup [.ref o2])
    have f1 := (g2.trans g3) _ _ (upd_same (H := H9) (a := o1) (o := .tup [.int 0]))
    have f2 := g3 _ _ (upd_same (H := upd H9 o1 (.tup [.int 0])) (a := o2) (o := .tup [.int 2, .ref o1]))
    have f3 := upd_same (H := upd (upd H9 o1 (.tup [.int 0])) o2 (.tup [.int 2, .ref o1])) (a := o3) (o := .tup [.ref o2])
    have g := g1.trans (g2.trans g3)
    generalize upd (upd (upd H9 o1 (.tup [.int 0])) o2 (.tup [.int 2, .ref o1])) o3 (.tup [.ref o2]) = Ha at f1 f2 f3 g ⊢
    have Be : BarsAt K Ha (.ref o3) evenB := oneBar (b := ((2 : Int), [0])) (tupOf f3) ⟨o2, .ref o1, rfl, tupOf f2, ⟨o1, rfl, tupOf f1⟩⟩
    refine fun p2 dx2 np2 ndx2 _ => make_sieve Be evenOk np2 ndx2 fun t2 Hb sb Ab => ⟨rfl, p, _, t, _, p2, _, t2, _, rfl, A9.stay (g.trans sb), Ab, fun Hc sc => ⟨_, rfl, _, rfl, ?_⟩⟩
    rw [show (fun bs cs : List Bar => withinB bs cs && withinB cs bs) (allB k) evenB = false from I_.notE]
    refine iteT ⟨_, rfl, sizeOk (by show (0 : Nat) ≤ 100000; decide), fun o4 n4 => ?_⟩
    have s4 := same_upd n4 (o := .tup [])
    have sA := g.trans (sb.trans (sc.trans s4))
    refine fun p3 dx3 np3 ndx3 _ => make_sieve (nilBars (tupOf upd_same)) nilOk np3 ndx3 fun t3 Hd sd Ad => ⟨rfl, p, _, t, _, p3, _, t3, _, rfl, A9.stay (sA.trans sd), Ad, fun He se => ⟨_, rfl, ?_⟩⟩
    rw [show (fun bs cs : List Bar => withinB bs cs && withinB cs bs) (allB k) [] = true from I_.isN]
    have sB := sA.trans (sd.trans se)
    refine iteT ⟨_, rfl, p, _, t, _, rfl, A9.stay sB, tb9.ext sB, .inl ⟨I_.ne, fun u m Hf sf tbf ef tp => ?_⟩⟩
    have em : m = (0, 0) := tp.one I_.gap
    subst em
    refine ⟨sizeOk (by show (2 : Nat) ≤ 100000; decide), fun e ne => ?_⟩
    have sg := same_upd ne (o := .tup [.int 0, .int 0])
    refine ⟨_, _, dpPr1 (sg _ _ ef), dpPr1 (m := (0, 0)) upd_same, (okPr1 _).shaped (by decide), (okPr1 _).shaped (by decide), ?_⟩
    rw [(okPr1 _).eqv]
    exact q _ (y9.trans ((StN.of sB).trans (sf.trans (.of sg)))) (tbf.ext sg)
end

end R
namespace R
open PySem PySem.Spec PyProof.Rows L2
open LamX hiding takes0
open NdefX
theorem stepOdd : ∀ k ∈ List.range 21, RgC 1 (2 * (k : Int)) 2 k := by
  have h : ∀ k ∈ List.range 21, Builtin.Range.small 1 (2 * (k : Int)) 2 = true ∧ Builtin.Range.rangeSize 1 (2 * (k : Int)) 2 = (k : Int) := by decide +kernel
  exact fun k hk => ⟨by decide, by decide, (h k hk).1, (h k hk).2⟩
theorem stepOddV (k : Nat) : stepV 1 2 k = (oddsL k).map V.int := by
  unfold stepV oddsL
  rw [List.map_map]
  rfl
section
variable {P : Program} {w : World} {K : PySem.W.Frag} {mg : Str → Option Value} {base : Heap}
theorem ok_l_odd (T : Txt K mg) (TB : Tbs base T) : FnOk P w K mg base CX0 19 T.f_l_odd T.fd_l_odd ["_law_by"] (sp_l_odd T) := by
  refine T.F_l_odd.ok sc_l_odd (fun vs H Q E h => ?_) (fun cdv A outer s H vs Q E hr h => ?_)
  · obtain ⟨k, rfl, _⟩ := h
    rfl
  · obtain ⟨k, rfl, k1, k20, tb, q⟩ := h
    refine ⟨_, (pss_cons (ps_par (i := 1) (j := 2) (by rfl) sc_l_odd.nd rfl rfl (by decide) rfl rfl (pa_cons (pe_make T.mkC (ok_m_Sieve_init T) (hr.mono (by decide)) (by rfl) T.g_Sieve T.b_m_Sieve_init .nil pass0 (pa_cons (pe_tup (pa_cons (pe_tup (pa_cons (pe_op op_mul pe_int (pv 0)) (pa_cons (pe_tup3 rfl (by rfl) T.z_tuple (by rfl) T.z_range (pa_cons pe_int (pa_cons (pe_op op_mul pe_int (pv 0)) (pa_cons pe_int pa_nil)))) pa_nil))) pa_nil)) pa_nil)) (pa_cons (pe_make T.mkC (ok_m_Sieve_init T) (hr.mono (by decide)) (by rfl) T.g_Sieve T.b_m_Sieve_init .nil pass0 (pa_cons (pe_tup (pa_cons (pe_tup (pa_cons pe_int (pa_cons (pe_tup (pa_cons pe_int pa_nil)) pa_nil))) pa_nil)) pa_nil)) pa_nil)) (by rfl))
      (pss_cons (ps_if (PW.pt (pw_or (pt_cmpR (op_neD hr.units) (pe_call (ok_p_smallest_barring T TB) (hr.mono (by decide)) (by rfl) T.g_p_smallest_barring T.F_p_smallest_barring.kp T.b_p_smallest_barring .nil pass0 (pa_cons (pe_call (ok_p_both T) (hr.mono (by decide)) (by rfl) T.g_p_both T.F_p_both.kp T.b_p_both .nil passL (pa_cons (pv 1) (pa_cons (pv 2) pa_nil))) pa_nil)) (pe_lst (pa_cons (pe_tup (pa_cons pe_int (pa_cons pe_int pa_nil))) pa_nil)) (nomark _)) (pw_or1 (pt_cmpR op_ne (pe_call (ok_p_count T) (hr.mono (by decide)) (by rfl) T.g_p_count T.F_p_count.kp T.b_p_count .nil passL (pa_cons (pv 1) (pa_cons pe_int (pa_cons (pe_op op_pow pe_int pe_int) pa_nil)))) (pe_op op_mul pe_int (pe_op op_pow pe_int pe_int)) (nomark _))))) (pss_one (ps_ret pe_bl)) pss_nil)
      (pss_cons (ps_if (PW.pt (pw_or (pt_cmpR (op_neD hr.units) (pe_call (ok_p_steps T) (hr.mono (by decide)) (by rfl) T.g_p_steps T.F_p_steps.kp T.b_p_steps .nil passL (pa_cons (pv 1) pa_nil)) (pe_lst (pa_cons (pe_tup (pa_cons pe_int (pa_cons (pv 0) pa_nil))) pa_nil)) (nomark _)) (pw_or (pt_cmpR (op_neD hr.units) (pe_call (ok_p_longest_run T TB) (hr.mono (by decide)) (by rfl) T.g_p_longest_run T.F_p_longest_run.kp T.b_p_longest_run .nil passL (pa_cons (pv 1) pa_nil)) (pe_tup (pa_cons pe_int (pa_cons pe_int pa_nil))) (nomark _)) (pw_or1 (pt_cmpR (op_neD hr.units) (pe_call (ok_p_greatest_sure T) (hr.mono (by decide)) (by rfl) T.g_p_greatest_sure T.F_p_greatest_sure.kp T.b_p_greatest_sure .nil passL (pa_cons (pv 1) pa_nil)) (pe_tup (pa_cons pe_int (pa_cons pe_int pa_nil))) (nomark _)))))) (pss_one (ps_ret pe_bl)) pss_nil)
      (pss_cons (ps_if (pt_cmpR op_ne (pe_call (ok_p_distance T) (hr.mono (by decide)) (by rfl) T.g_p_distance T.F_p_distance.kp T.b_p_distance .nil passL (pa_cons (pv 1) (pa_cons (pv 2) pa_nil))) pe_int (nomark _)) (pss_one (ps_ret pe_bl)) pss_nil)
      (pss_one (ps_ret (pe_and (pe_cmpR (op_eqD hr.units) (pe_call (ok_p_sums T) (hr.mono (by decide)) (by rfl) T.g_p_sums T.F_p_sums.kp T.b_p_sums .nil passL (pa_cons (pv 1) (pa_cons (pv 1) (pa_cons pe_int pa_nil)))) (pe_lst (pa_cons pe_int (pa_cons pe_int (pa_cons pe_int (pa_cons pe_int (pa_cons pe_int pa_nil)))))) (nomark _)) (pe_one (pe_cmpR (op_eqD hr.units) (pe_call (ok_p_products T) (hr.mono (by decide)) (by rfl) T.g_p_products T.F_p_products.kp T.b_p_products .nil passL (pa_cons (pv 1) (pa_cons (pv 1) (pa_cons pe_int pa_nil)))) (pe_lst (pa_cons pe_int (pa_cons pe_int (pa_cons pe_int (pa_cons pe_int pa_nil))))) (nomark _)))))))))), ?_⟩
    have I_ := odd_is k1 k20
    have cm : CMul 2 (k : Int) := .inl ⟨by decide, by decide⟩
    refine ⟨_, rfl, _, _, rfl, rfl, cm, _, rfl, _, _, rfl, rfl, cm, 1, 2 * (k : Int), 2, k, rfl, stepOdd k (List.mem_range.mpr (by omega)), by omega, fun o1 n1 => ⟨sizeOk (by show (2 : Nat) ≤ 100000; decide), fun o2 n2 => ⟨sizeOk (by show (1 : Nat) ≤ 100000; decide), fun o3 n3 => ?_⟩⟩⟩
    rw [stepOddV] at n2 n3 ⊢
    have g1 := same_upd n1 (o := .tup ((oddsL k).map V.int))
    have g2 := same_upd n2 (o := .tup [.int (2 * (k : Int)), .ref o1])
    have g3 := same_upd n3 (o := .tup [.ref o2])
    have f1 := (g2.trans g3) _ _ (upd_same (H := H) (a := o1) (o := .tup ((oddsL k).map V.int)))
    have f2 := g3 _ _ (upd_same (H := upd H o1 (.tup ((oddsL k).map V.int))) (a := o2) (o := .tup [.int (2 * (k : Int)), .ref o1]))
    have f3 := upd_same (H := upd (upd H o1 (.tup ((oddsL k).map V.int))) o2 (.tup [.int (2 * (k : Int)), .ref o1])) (a := o3) (o := .tup [.ref o2])
    have g := g1.trans (g2.trans g3)
    generalize upd (upd (upd H o1 (.tup ((oddsL k).map V.int))) o2 (.tup [.int (2 * (k : Int)), .ref o1])) o3 (.tup [.ref o2]) = H1 at f1 f2 f3 g ⊢
    have B : BarsAt K H1 (.ref o3) (oddB k) := oneBar (b := (2 * (k : Int), oddsL k)) (tupOf f3) ⟨o2, .ref o1, rfl, tupOf f2, ⟨o1, rfl, tupOf f1⟩⟩
    clear f1 f2 f3 g1 g2 g3 n1 n2 n3
    refine fun p dx np ndx _ => make_sieve B I_.ok np ndx fun t H2 s2 A2 => ⟨rfl, ?_⟩
    refine ⟨sizeOk (by show (1 : Nat) ≤ 100000; decide), fun o1 n1 => ⟨sizeOk (by show (2 : Nat) ≤ 100000; decide), fun o2 n2 => ⟨sizeOk (by show (1 : Nat) ≤ 100000; decide), fun o3 n3 => ?_⟩⟩⟩
    have g1 := same_upd n1 (o := .tup [.int 0])
    have g2 := same_upd n2 (o := .tup [.int 2, .ref o1])
    have g3 := same_upd n3 (o := .tup [.ref o2])
    have f1 := (g2.trans g3) _ _ (upd_same (H := H2) (a := o1) (o := .tup [.int 0]))
    have f2 := g3 _ _ (upd_same (H := upd H2 o1 (.tup [.int 0])) (a := o2) (o := .tup [.int 2, .ref o1]))
    have f3 := upd_same (H := upd (upd H2 o1 (.tup [.int 0])) o2 (.tup [.int 2, .ref o1])) (a := o3) (o := .tup [.ref o2])
    have g' := g1.trans (g2.trans g3)
    generalize upd (upd (upd H2 o1 (.tup [.int 0])) o2 (.tup [.int 2, .ref o1])) o3 (.tup [.ref o2]) = H3 at f1 f2 f3 g' ⊢
    have Be : BarsAt K H3 (.ref o3) evenB := oneBar (b := ((2 : Int), [0])) (tupOf f3) ⟨o2, .ref o1, rfl, tupOf f2, ⟨o1, rfl, tupOf f1⟩⟩
    clear f1 f2 f3 g1 g2 g3 n1 n2 n3
    refine fun p2 dx2 np2 ndx2 _ => make_sieve Be evenOk np2 ndx2 fun t2 H4 s4 E4 => ⟨rfl, ?_⟩
    have x0 := g.trans (s2.trans (g'.trans s4))
    have O4 := A2.stay (g'.trans s4)
    have tb4 := tb.ext x0
    have x4 := StN.of x0
    clear x0 g g' s2 s4 B Be A2
    refine ⟨_, _, rfl, ?_⟩
    refine ⟨_, rfl, _, rfl, p, _, t, _, p2, _, t2, _, rfl, O4, E4, .inr ⟨I_.ok2, fun p3 v3 t3 H5 s5 A5 => ⟨p3, v3, t3, _, rfl, A5, tb4.ext s5, fun D rows H6 s6 tb6 TA6 sm => ?_⟩⟩⟩
    have er : rows = [[0, 1]] := sm.one I_.small
    subst er
    refine ⟨sizeOk (by show (2 : Nat) ≤ 100000; decide), fun e ne => ⟨sizeOk (by show (1 : Nat) ≤ 100000; decide), fun l nl => ?_⟩⟩
    have s7 := (same_upd ne (o := .tup [.int 0, .int 1])).trans (same_upd nl (o := .lst [.ref e]))
    have f1 := same_upd nl (o := .lst [.ref e]) _ _ (upd_same (H := H6) (a := e) (o := .tup [.int 0, .int 1]))
    have f2 := upd_same (H := upd H6 e (.tup [.int 0, .int 1])) (a := l) (o := .lst [.ref e])
    generalize upd (upd H6 e (.tup [.int 0, .int 1])) l (.lst [.ref e]) = H7 at s7 f1 f2 ⊢
    refine ⟨_, _, (TA6.stay s7).dp, (show Dp K H7 (.ref l) (.list ([([0, 1] : List Int)].map fun l => .tuple (l.map PyData.int))) from .lst (lstOf f2) (.cons (.tup (tupOf f1) (.cons (.int _) (.cons (.int _) .nil))) .nil)), okTupsS _, okTupsS _, _, rfl, ?_⟩
    have ev : PyData.eqv (.list ((([([0, 1] : List Nat)].map natL)).map fun l : List Int => PyData.tuple (l.map PyData.int))) (.list ([([0, 1] : List Int)].map fun l => PyData.tuple (l.map PyData.int))) = true := (okTups [[0, 1]]).eqv
    rw [ev]
    refine iteF ?_
    have x7 := (StN.of s5).trans (s6.trans (.of s7))
    have O7 := O4.stn x7
    have E7 := E4.stn x7
    have tb7 := tb6.ext s7
    have y7 := x4.trans x7
    clear ev s7 s6 s5 x7 f1 f2 ne nl tb6 TA6 O4 E4 tb4 x4 sm A5
    have e30 : (10 : Int) ^ Int.toNat 30 = 1000000000000000000000000000000 := by decide +kernel
    have e29 : (5 : Int) * 10 ^ Int.toNat 29 = 500000000000000000000000000000 := by decide +kernel
    refine ⟨_, rfl, _, _, rfl, rfl, ⟨by decide, by decide, by decide⟩, p, _, t, _, _, _, rfl, O7, .inl ⟨0, 1000000000000000000000000000000, rfl, congrArg V.int e30, ⟨by decide, by decide⟩, ⟨by decide, by decide⟩, by decide, fun H8 s8 => ?_⟩⟩
    refine ⟨_, _, rfl, rfl, ⟨by decide, by decide, by decide⟩, _, _, rfl, rfl, .inl ⟨by decide, by decide⟩, rfl, _, rfl, ?_⟩
    rw [decide_eq_true (congrArg V.int (I_.count.trans e29.symm))]
    refine iteF ?_
    have O8 := O7.stay s8
    have E8 := E7.stay s8
    have tb8 := tb7.ext s8
    have y8 := y7.trans (.of s8)
    clear O7 E7 tb7 y7 s8
    refine ⟨_, rfl, p, _, t, _, rfl, O8, .inl ⟨I_.ne, fun D8 H9 xs l9 s9 nD9 eD9 PA9 TL9 => ?_⟩⟩
    have el : l9 = [(2, (k : Int))] := TL9.one I_.steps
    subst el
    refine ⟨_, rfl, sizeOk (by show (2 : Nat) ≤ 100000; decide), fun e ne => ⟨sizeOk (by show (1 : Nat) ≤ 100000; decide), fun l nl => ?_⟩⟩
    have sa := (same_upd ne (o := .tup [.int 2, .int (k : Int)])).trans (same_upd nl (o := .lst [.ref e]))
    have f1 := same_upd nl (o := .lst [.ref e]) _ _ (upd_same (H := H9) (a := e) (o := .tup [.int 2, .int (k : Int)]))
    have f2 := upd_same (H := upd H9 e (.tup [.int 2, .int (k : Int)])) (a := l) (o := .lst [.ref e])
    generalize upd (upd H9 e (.tup [.int 2, .int (k : Int)])) l (.lst [.ref e]) = Ha at sa f1 f2 ⊢
    refine ⟨_, _, dpPrL (sa _ _ eD9) (PA9.stay fun _ _ z => sa _ _ z), dpPrL (ms := [(2, (k : Int))]) f2 (prOne f1), (okPrL _).shaped (by decide), (okPrL _).shaped (by decide), _, rfl, ?_⟩
    rw [(okPrL _).eqv]
    refine iteF ?_
    have s9a := s9.trans sa
    have Oa := O8.stay s9a
    have Ea := E8.stay s9a
    have tba := tb8.ext s9a
    have ya := y8.trans (.of s9a)
    clear s9a s9 sa f1 f2 ne nl O8 E8 tb8 y8 nD9 eD9 PA9 TL9
    refine ⟨_, rfl, p, _, t, _, rfl, Oa, tba, .inr (.inl ⟨I_.ne, I_.lt, fun u m Hb sb tbb eb br => ?_⟩)⟩
    have em : m = (1, 1) := br.one I_.run
    subst em
    refine ⟨sizeOk (by show (2 : Nat) ≤ 100000; decide), fun e ne => ?_⟩
    have sc := same_upd ne (o := .tup [.int 1, .int 1])
    refine ⟨_, _, dpPr1 (sc _ _ eb), dpPr1 (m := (1, 1)) upd_same, (okPr1 _).shaped (by decide), (okPr1 _).shaped (by decide), _, rfl, ?_⟩
    rw [(okPr1 _).eqv]
    refine iteF ?_
    have xc := sb.trans (.of sc)
    have Oc := Oa.stn xc
    have Ec := Ea.stn xc
    have tbc := tbb.ext sc
    have yc := ya.trans xc
    generalize upd Hb e (.tup [.int 1, .int 1]) = Hc at Oc Ec tbc yc ⊢
    clear xc sb sc ne eb br tbb Oa Ea tba ya
    refine ⟨_, rfl, p, _, t, _, rfl, Oc, .inr ⟨I_.ne, fun u Hd sd nu eu => ?_⟩⟩
    have eu' : Hd u = some (.tup [.int 2, .int 1]) := by rw [eu, I_.sM, I_.sR]; rfl
    refine ⟨sizeOk (by show (2 : Nat) ≤ 100000; decide), fun e ne => ?_⟩
    have se := same_upd ne (o := .tup [.int 2, .int 1])
    refine ⟨_, _, dpPr1 (m := (2, 1)) (se _ _ eu'), dpPr1 (m := (2, 1)) upd_same, (okPr1 _).shaped (by decide), (okPr1 _).shaped (by decide), _, rfl, ?_⟩
    rw [(okPr1 _).eqv]
    refine iteF ?_
    have sde := sd.trans se
    have Oe := Oc.stay sde
    have Ee := Ec.stay sde
    have ye := yc.trans (.of sde)
    have tbe := tbc.ext sde
    generalize upd Hd e (.tup [.int 2, .int 1]) = He at Oe Ee tbe ye ⊢
    clear sde sd se ne eu eu' nu Oc Ec tbc yc
    refine ⟨_, rfl, _, rfl, p, _, t, _, p2, _, t2, _, rfl, Oe, Ee, .inr ⟨I_.ne, by rw [evenCls]; exact List.cons_ne_nil _ _, fun m Hf sf ds => ?_⟩⟩
    have em : m = 1 := ds.one I_.dist
    subst em
    refine ⟨rfl, _, rfl, ?_⟩
    rw [decide_eq_true rfl]
    refine iteF ?_
    have Of := Oe.stay sf
    refine ⟨_, rfl, _, rfl, p, _, t, _, p, _, t, _, _, rfl, Of, Of, .inr ⟨10, rfl, by decide, by decide, fun ns D Hg sg nD up mem eD => ?_⟩⟩
    have en : ns = [0, 2, 4, 6, 8] := sorted_unique up (by decide) fun x => (mem x).trans (I_.sums x)
    subst en
    refine ⟨sizeOk (by show (5 : Nat) ≤ 100000; decide), fun l nl => ?_⟩
    have sh := same_upd nl (o := .lst [.int 0, .int 2, .int 4, .int 6, .int 8])
    refine ⟨_, _, dpLst (lstOf (sh _ _ eD)), dpLst (l := [0, 2, 4, 6, 8]) (lstOf upd_same), (okD.lst (okInts _)).shaped (by decide), (okD.lst (okInts _)).shaped (by decide), _, rfl, ?_⟩
    rw [eqvIntsL, decide_eq_true rfl]
    refine iteT ?_
    have Oh := Of.stay (sg.trans sh)
    have yh := ye.trans (.of (sf.trans (sg.trans sh)))
    have tbh := tbe.ext (sf.trans (sg.trans sh))
    generalize upd Hg l (.lst [.int 0, .int 2, .int 4, .int 6, .int 8]) = Hh at Oh yh tbh ⊢
    refine ⟨_, rfl, _, rfl, p, _, t, _, p, _, t, _, _, rfl, Oh, Oh, .inr ⟨8, rfl, by decide, by decide, fun ns D Hi si nD up mem eD => ?_⟩⟩
    have en : ns = [1, 3, 5, 7] := sorted_unique up (by decide) fun x => (mem x).trans (I_.prods x)
    subst en
    refine ⟨sizeOk (by show (4 : Nat) ≤ 100000; decide), fun l nl => ?_⟩
    have sj := same_upd nl (o := .lst [.int 1, .int 3, .int 5, .int 7])
    refine ⟨_, _, dpLst (lstOf (sj _ _ eD)), dpLst (l := [1, 3, 5, 7]) (lstOf upd_same), (okD.lst (okInts _)).shaped (by decide), (okD.lst (okInts _)).shaped (by decide), ?_⟩
    rw [eqvIntsL, decide_eq_true rfl]
    exact q _ (yh.trans (.of (si.trans sj))) (tbh.ext (si.trans sj))
end

end R
namespace R
open PySem PySem.Spec PyProof.Rows L2
open LamX hiding takes0
open NdefX
theorem pairRg : ∀ i ∈ List.range 9, ∀ c ∈ List.range (i + 2), RgC (c : Int) (((i + 2 : Nat) : Int) * ((i + 2 + 1 : Nat) : Int)) ((i + 2 : Nat) : Int) (i + 2 + 1) := by
  have h : ∀ i ∈ List.range 9, ∀ c ∈ List.range (i + 2), Builtin.Range.small (c : Int) (((i + 2 : Nat) : Int) * ((i + 2 + 1 : Nat) : Int)) ((i + 2 : Nat) : Int) = true ∧ Builtin.Range.rangeSize (c : Int) (((i + 2 : Nat) : Int) * ((i + 2 + 1 : Nat) : Int)) ((i + 2 : Nat) : Int) = ((i + 2 + 1 : Nat) : Int) := by decide +kernel
  exact fun i hi c hc => ⟨by omega, by have := List.mem_range.mp hi; omega, (h i hi c hc).1, (h i hi c hc).2⟩
theorem pair_rg {a c : Nat} (a2 : 2 ≤ a) (a10 : a ≤ 10) (hc : c < a) : RgC (c : Int) ((a : Int) * ((a + 1 : Nat) : Int)) (a : Int) (a + 1) := by
  have := pairRg (a - 2) (List.mem_range.mpr (by omega)) c (List.mem_range.mpr (by omega))
  rw [show a - 2 + 2 = a by omega] at this
  exact this
def foundTo (a c d n : Nat) : List Int := ((List.range n).map fun j : Nat => (c : Int) + (j : Int) * (a : Int)).filter fun x => decide (x % ((a + 1 : Nat) : Int) = (d : Int))
theorem foundTo_succ (a c d n : Nat) : foundTo a c d (n + 1) = foundTo a c d n ++ (if decide (((c : Int) + (n : Int) * (a : Int)) % ((a + 1 : Nat) : Int) = (d : Int)) = true then [(c : Int) + (n : Int) * (a : Int)] else []) := by
  unfold foundTo
  rw [List.range_succ, List.map_append, List.filter_append]
  by_cases h : decide (((c : Int) + (n : Int) * (a : Int)) % ((a + 1 : Nat) : Int) = (d : Int)) = true
  · rw [if_pos h, List.map_singleton]
    exact congrArg (_ ++ ·) (List.filter_cons_of_pos (p := fun x : Int => decide (x % ((a + 1 : Nat) : Int) = (d : Int))) h)
  · rw [if_neg h, List.map_singleton]
    exact congrArg (_ ++ ·) (List.filter_cons_of_neg (p := fun x : Int => decide (x % ((a + 1 : Nat) : Int) = (d : Int))) h)
theorem foundTo_len (a c d n : Nat) : (foundTo a c d n).length ≤ n := by
  unfold foundTo
  exact Nat.le_trans (List.length_filter_le _ _) (by rw [List.length_map, List.length_range]; exact Nat.le_refl _)
theorem twoBars {K : PySem.W.Frag} {H : Hp} {p : Addr} {x y : V} {b c : Bar} (t : SqT K H p [x, y]) (h : BarAt K H x b) (g : BarAt K H y c) : BarsAt K H (.ref p) [b, c] :=
  ⟨p, [x, y], rfl, t, rfl, fun j z e h1 h2 => by
    match j with
    | 0 =>
      cases Option.some.inj h1
      cases Option.some.inj h2
      exact h
    | 1 =>
      cases Option.some.inj h1
      cases Option.some.inj h2
      exact g
    | j + 2 => simp at h1⟩
section
variable {P : Program} {w : World} {K : PySem.W.Frag} {mg : Str → Option Value} {base : Heap}
theorem ok_l_pair (T : Txt K mg) (TB : Tbs base T) : FnOk P w K mg base CX0 15 T.f_l_pair T.fd_l_pair ["_law_a", "_law_b", "_law_c", "_law_d"] (sp_l_pair T) := by
  refine T.F_l_pair.ok sc_l_pair (fun vs H Q E h => ?_) (fun cdv A outer s H vs Q E hr h => ?_)
  · obtain ⟨a, c, d, rfl, _⟩ := h
    rfl
  · obtain ⟨a, c, d, rfl, a2, a10, hc, hd, tb, q⟩ := h
    refine ⟨_, (pss_cons (ps_set (i := 4) sc_l_pair.nd rfl (by first | exact .inl rfl | exact .inr rfl) (pe_make T.mkC (ok_m_Sieve_init T) (hr.mono (by decide)) (by rfl) T.g_Sieve T.b_m_Sieve_init .nil pass0 (pa_cons (pe_tup (pa_cons (pe_tup (pa_cons (pv 0) (pa_cons (pe_tup (pa_cons (pv 2) pa_nil)) pa_nil))) (pa_cons (pe_tup (pa_cons (pv 1) (pa_cons (pe_tup (pa_cons (pv 3) pa_nil)) pa_nil))) pa_nil))) pa_nil)))
      (pss_cons (ps_setLc (i := 5) (own := [("_law_number", 6)]) rfl sc_l_pair.nd rfl rfl (sw_true rfl rfl rfl (by decide +kernel)) (pi_range3 (by rfl) T.z_range (pa_cons (pv 2) (pa_cons (pe_op op_mulW (pv 0) (pv 1)) (pa_cons (pv 0) pa_nil)))) (blkOk_by (N := ["_law_a", "_law_b", "_law_c", "_law_d", "_law_sieve", "_law_found", "_law_number"]) (sc := defScope s_l_pair) (by decide +kernel)) (fun _ _ _ _ _ => (pg_name (i := 6) sc_l_pair.nd rfl (by first | exact .inl rfl | exact .inr rfl))) (fun _ _ _ _ _ => (pts_one (pt_cmpR op_eq (pe_op op_mod (pv 6) (pv 1)) (pv 3) (nomark _)))) (fun _ _ _ _ _ => (pv 6)))
      (pss_cons (ps_if (PW.pt (pw_or (pt_cmpR (op_neD hr.units) (pe_prop (pv 4) T.cl T.pp_classes (ok_m_Sieve_classes T) (hr.mono (by decide)) T.b_m_Sieve_classes .nil pass0 (by rfl)) (pe_callTy call_tuple_of (by rfl) T.z_tuple (by decide +kernel) (pa_cons (pv 5) pa_nil)) (nomark _)) (pw_or1 (pt_cmpR op_ne (pe_callB call_len_seq (by rfl) T.z_len (by decide +kernel) (pa_cons (pv 5) pa_nil)) pe_int (nomark _))))) (pss_one (ps_ret pe_bl)) pss_nil)
      (pss_cons (ps_if (PW.pt (pw_or (pt_cmpR (op_neD hr.units) (pe_call (ok_p_share T) (hr.mono (by decide)) (by rfl) T.g_p_share T.F_p_share.kp T.b_p_share .nil pass0 (pa_cons (pv 4) pa_nil)) (pe_tup (pa_cons pe_int (pa_cons (pe_op op_mulW (pv 0) (pv 1)) pa_nil))) (nomark _)) (pw_or1 (pt_cmpR (op_neD hr.units) (pe_call (ok_p_steps T) (hr.mono (by decide)) (by rfl) T.g_p_steps T.F_p_steps.kp T.b_p_steps .nil passL (pa_cons (pv 4) pa_nil)) (pe_lst (pa_cons (pe_tup (pa_cons (pe_op op_mulW (pv 0) (pv 1)) (pa_cons pe_int pa_nil))) pa_nil)) (nomark _))))) (pss_one (ps_ret pe_bl)) pss_nil)
      (pss_cons (ps_if (PW.pt (pw_or (pt_cmpR (op_neD hr.units) (pe_call (ok_p_longest_gap T TB) (hr.mono (by decide)) (by rfl) T.g_p_longest_gap T.F_p_longest_gap.kp T.b_p_longest_gap .nil passL (pa_cons (pv 4) pa_nil)) (pe_tup (pa_cons (pe_op op_sub (pe_op op_mulW (pv 0) (pv 1)) pe_int) (pa_cons (pe_op op_mod (pe_op op_add (pe_ix ix_list (pv 5) pe_int (fun _ _ => rfl)) pe_int) (pe_op op_mulW (pv 0) (pv 1))) pa_nil))) (nomark _)) (pw_or1 (pt_cmpR (op_neD hr.units) (pe_call (ok_p_longest_run T TB) (hr.mono (by decide)) (by rfl) T.g_p_longest_run T.F_p_longest_run.kp T.b_p_longest_run .nil passL (pa_cons (pv 4) pa_nil)) (pe_tup (pa_cons pe_int (pa_cons (pe_ix ix_list (pv 5) pe_int (fun _ _ => rfl)) pa_nil))) (nomark _))))) (pss_one (ps_ret pe_bl)) pss_nil)
      (pss_cons (ps_if (PW.pt (pw_or (pt_cmpR (op_neD hr.units) (pe_call (ok_p_needless T) (hr.mono (by decide)) (by rfl) T.g_p_needless T.F_p_needless.kp T.b_p_needless .nil pass0 (pa_cons (pv 4) pa_nil)) (pe_lst pa_nil) (nomark _)) (pw_or1 (pt_cmpR (op_neD hr.units) (pe_call (ok_p_greatest_sure T) (hr.mono (by decide)) (by rfl) T.g_p_greatest_sure T.F_p_greatest_sure.kp T.b_p_greatest_sure .nil passL (pa_cons (pv 4) pa_nil)) (pe_tup (pa_cons (pe_op op_mulW (pv 0) (pv 1)) (pa_cons (pe_ix ix_list (pv 5) pe_int (fun _ _ => rfl)) pa_nil))) (nomark _))))) (pss_one (ps_ret pe_bl)) pss_nil)
      (pss_cons (ps_if (pt_cmpR (op_neD hr.units) (pe_prop (pe_call (ok_p_as_one T) (hr.mono (by decide)) (by rfl) T.g_p_as_one T.F_p_as_one.kp T.b_p_as_one .nil passL (pa_cons (pv 4) pa_nil)) T.cl T.pp_bars (ok_m_Sieve_bars T) (hr.mono (by decide)) T.b_m_Sieve_bars .nil pass0 (by rfl)) (pe_tup (pa_cons (pe_tup (pa_cons (pe_op op_mulW (pv 0) (pv 1)) (pa_cons (pe_tup (pa_cons (pe_ix ix_list (pv 5) pe_int (fun _ _ => rfl)) pa_nil)) pa_nil))) pa_nil)) (nomark _)) (pss_one (ps_ret pe_bl)) pss_nil)
      (pss_one (ps_ret (pe_cmpR op_eq (pe_call (ok_p_numbered T) (hr.mono (by decide)) (by rfl) T.g_p_numbered T.F_p_numbered.kp T.b_p_numbered .nil passL (pa_cons (pv 4) (pa_cons pe_int (pa_cons (pe_op op_pow pe_int pe_int) pa_nil)))) (pe_op op_add (pe_ix ix_list (pv 5) pe_int (fun _ _ => rfl)) (pe_op op_mulW (pe_op op_mulW (pv 0) (pv 1)) (pe_op op_pow pe_int pe_int))) (nomark _))))))))))), ?_⟩
    obtain ⟨x, I_⟩ := pair_is a2 a10 hc hd
    refine ⟨_, rfl, _, rfl, sizeOk (by show (1 : Nat) ≤ 100000; decide), fun o1 n1 => ⟨sizeOk (by show (2 : Nat) ≤ 100000; decide), fun o2 n2 => ⟨_, rfl, _, rfl, sizeOk (by show (1 : Nat) ≤ 100000; decide), fun o3 n3 => ⟨sizeOk (by show (2 : Nat) ≤ 100000; decide), fun o4 n4 => ⟨sizeOk (by show (2 : Nat) ≤ 100000; decide), fun o5 n5 => ?_⟩⟩⟩⟩⟩
    have g1 := same_upd n1 (o := .tup [.int (c : Int)])
    have g2 := same_upd n2 (o := .tup [.int (a : Int), .ref o1])
    have g3 := same_upd n3 (o := .tup [.int (d : Int)])
    have g4 := same_upd n4 (o := .tup [.int ((a + 1 : Nat) : Int), .ref o3])
    have g5 := same_upd n5 (o := .tup [.ref o2, .ref o4])
    have g45 := g4.trans g5
    have g35 := g3.trans g45
    have g25 := g2.trans g35
    have f1 := g25 _ _ (upd_same (H := H) (a := o1) (o := .tup [.int (c : Int)]))
    have f2 := g35 _ _ (upd_same (H := upd H o1 (.tup [.int (c : Int)])) (a := o2) (o := .tup [.int (a : Int), .ref o1]))
    have f3 := g45 _ _ (upd_same (H := upd (upd H o1 (.tup [.int (c : Int)])) o2 (.tup [.int (a : Int), .ref o1])) (a := o3) (o := .tup [.int (d : Int)]))
    have f4 := g5 _ _ (upd_same (H := upd (upd (upd H o1 (.tup [.int (c : Int)])) o2 (.tup [.int (a : Int), .ref o1])) o3 (.tup [.int (d : Int)])) (a := o4) (o := .tup [.int ((a + 1 : Nat) : Int), .ref o3]))
    have f5 := upd_same (H := upd (upd (upd (upd H o1 (.tup [.int (c : Int)])) o2 (.tup [.int (a : Int), .ref o1])) o3 (.tup [.int (d : Int)])) o4 (.tup [.int ((a + 1 : Nat) : Int), .ref o3])) (a := o5) (o := .tup [.ref o2, .ref o4])
    have g := g1.trans g25
    generalize upd (upd (upd (upd (upd H o1 (.tup [.int (c : Int)])) o2 (.tup [.int (a : Int), .ref o1])) o3 (.tup [.int (d : Int)])) o4 (.tup [.int ((a + 1 : Nat) : Int), .ref o3])) o5 (.tup [.ref o2, .ref o4]) = H1 at f1 f2 f3 f4 f5 g ⊢
    have B : BarsAt K H1 (.ref o5) (pairB a c d) := twoBars (tupOf f5) ⟨o2, .ref o1, rfl, tupOf f2, ⟨o1, rfl, tupOf (by exact f1)⟩⟩ ⟨o4, .ref o3, rfl, tupOf f4, ⟨o3, rfl, tupOf (by exact f3)⟩⟩
    clear f1 f2 f3 f4 f5 g1 g2 g3 g4 g5 g45 g35 g25 n1 n2 n3 n4 n5
    refine fun p dx np ndx _ => make_sieve B (pairSv a2 a10 hc hd I_) np ndx fun t H2 s2 A2 => ⟨rfl, ?_⟩
    have tb2 := tb.ext (g.trans s2)
    have y2 := StN.of (g.trans s2)
    clear g s2 B tb
    have cw : CMulW (a : Int) ((a + 1 : Nat) : Int) := wide_mul (a := 8) (b := 8) (by rw [Int.natAbs_natCast]; omega) (by rw [Int.natAbs_natCast]; omega) (by decide) (by decide) (by decide)
    refine ⟨_, rfl, _, rfl, _, rfl, _, _, rfl, rfl, cw, _, rfl, _, _, _, a + 1, rfl, pair_rg a2 a10 hc, fun D nD => ?_⟩
    refine lc_rangeC (fun m Hm => Hm D = some (.lst ((foundTo a c d m).map V.int)) ∧ Same H2 Hm) ⟨upd_same, same_upd nD⟩ ?_ ?_
    · rintro j Hj hj ⟨eD, sj⟩
      refine ⟨rfl, _, rfl, _, rfl, _, _, rfl, rfl, by omega, _, rfl, rfl, _, rfl, ?_⟩
      have fs := foundTo_succ a c d j
      by_cases h : ((c : Int) + (j : Int) * (a : Int)) % ((a + 1 : Nat) : Int) = (d : Int)
      · rw [decide_eq_true (congrArg V.int h)]
        rw [if_pos (decide_eq_true h)] at fs
        refine iteT ⟨_, rfl, _, eD, by rw [List.length_map]; exact sizeLt (by have := foundTo_len a c d j; omega), ?_, samePut sj nD⟩
        rw [upd_same, fs, List.map_append]
        rfl
      · rw [decide_eq_false (fun z => h (V.int.inj z))]
        rw [if_neg (fun z => h (of_decide_eq_true z)), List.append_nil] at fs
        refine iteF ⟨?_, sj⟩
        rw [fs]
        exact eD
    rintro Hd ⟨eD, sd⟩
    rw [show foundTo a c d (a + 1) = [x] from I_.found] at eD
    have mx : x ∈ cls (pairB a c d) := by rw [I_.cl]; exact List.mem_singleton.mpr rfl
    obtain ⟨x0, x1, _⟩ := cls_mem.mp mx
    have x2 : x < (a : Int) * ((a + 1 : Nat) : Int) := by rw [I_.w_] at x1; exact x1
    have ne : cls (pairB a c d) ≠ [] := by rw [I_.cl]; exact List.cons_ne_nil _ _
    have w0 : 0 < (a : Int) * ((a + 1 : Nat) : Int) := by omega
    have Ad := A2.stay sd
    have tbd := tb2.ext sd
    have yd := y2.trans (.of sd)
    clear A2 tb2 y2 sd nD
    refine ⟨_, rfl, p, _, _, rfl, Ad.ob.choose_spec, p, _, t, _, rfl, Ad, _, rfl, D, _, rfl, .inl ⟨lstOf eD, fun l nl => ?_⟩⟩
    have cl1 : SqT K Hd t ([x].map V.int) := by have := Ad.cls; rw [I_.cl] at this; exact this
    have s1 := same_upd nl (o := .tup ([x].map V.int))
    refine ⟨_, _, dpTup (l := [x]) (Same.seqTT s1 cl1), dpTup (l := [x]) (tupOf upd_same), (okD.tup (okInts _)).shaped (by decide), (okD.tup (okInts _)).shaped (by decide), _, rfl, ?_⟩
    rw [eqvIntsT, decide_eq_true rfl]
    refine iteF ⟨_, rfl, D, _, rfl, .inl (lstOf (s1 _ _ eD)), rfl, _, rfl, iteF ?_⟩
    have e1 := s1 _ _ eD
    have A1 := Ad.stay s1
    have tb1 := tbd.ext s1
    have y1 := yd.trans (.of s1)
    generalize upd Hd l (.tup ([x].map V.int)) = H1 at e1 A1 tb1 y1 ⊢
    clear s1 nl Ad tbd yd eD cl1
    refine ⟨_, rfl, p, _, t, _, rfl, A1, fun u H3 s3 eu => ?_⟩
    have eu' : H3 u = some (.tup [.int 1, .int ((a : Int) * ((a + 1 : Nat) : Int))]) := by
      rw [eu, I_.cl, I_.w_, show [x].length = 1 from rfl, Nat.gcd_one_left, Nat.div_one, Nat.div_one]
      rfl
    refine ⟨_, rfl, _, rfl, _, _, rfl, rfl, cw, sizeOk (by show (2 : Nat) ≤ 100000; decide), fun e ne_ => ?_⟩
    have s4 := same_upd ne_ (o := .tup [.int 1, .int ((a : Int) * ((a + 1 : Nat) : Int))])
    refine ⟨_, _, dpPr1 (m := (1, (a : Int) * ((a + 1 : Nat) : Int))) (s4 _ _ eu'), dpPr1 (m := (1, (a : Int) * ((a + 1 : Nat) : Int))) upd_same, (okPr1 _).shaped (by decide), (okPr1 _).shaped (by decide), _, rfl, ?_⟩
    rw [(okPr1 _).eqv]
    refine iteF ?_
    have s34 := s3.trans s4
    have A4 := A1.stay s34
    have tb4 := tb1.ext s34
    have y4 := y1.trans (.of s34)
    have e4 := s34 _ _ e1
    generalize upd H3 e (.tup [.int 1, .int ((a : Int) * ((a + 1 : Nat) : Int))]) = H4 at A4 tb4 y4 e4 ⊢
    clear s34 s3 s4 ne_ eu eu' A1 tb1 y1 e1
    have TLw : IsTal (stepsTo (pairB a c d) (cls (pairB a c d)).length) [((a : Int) * ((a + 1 : Nat) : Int), 1)] := by
      rw [I_.cl]
      show IsTal (stepsTo (pairB a c d) 1) _
      rw [I_.steps]
      exact tal_rep _ 1 (by decide)
    refine ⟨_, rfl, p, _, t, _, rfl, A4, .inl ⟨ne, fun D5 H5 xs l5 s5 nD5 eD5 PA5 TL5 => ?_⟩⟩
    have el : l5 = [((a : Int) * ((a + 1 : Nat) : Int), 1)] := TL5.one TLw
    subst el
    refine ⟨_, rfl, _, rfl, _, _, rfl, rfl, cw, sizeOk (by show (2 : Nat) ≤ 100000; decide), fun e ne_ => ⟨sizeOk (by show (1 : Nat) ≤ 100000; decide), fun l nl => ?_⟩⟩
    have s6 := (same_upd ne_ (o := .tup [.int ((a : Int) * ((a + 1 : Nat) : Int)), .int 1])).trans (same_upd nl (o := .lst [.ref e]))
    have f1 := same_upd nl (o := .lst [.ref e]) _ _ (upd_same (H := H5) (a := e) (o := .tup [.int ((a : Int) * ((a + 1 : Nat) : Int)), .int 1]))
    have f2 := upd_same (H := upd H5 e (.tup [.int ((a : Int) * ((a + 1 : Nat) : Int)), .int 1])) (a := l) (o := .lst [.ref e])
    generalize upd (upd H5 e (.tup [.int ((a : Int) * ((a + 1 : Nat) : Int)), .int 1])) l (.lst [.ref e]) = H6 at s6 f1 f2 ⊢
    refine ⟨_, _, dpPrL (s6 _ _ eD5) (PA5.stay fun _ _ z => s6 _ _ z), dpPrL (ms := [((a : Int) * ((a + 1 : Nat) : Int), 1)]) f2 (prOne f1), (okPrL _).shaped (by decide), (okPrL _).shaped (by decide), _, rfl, ?_⟩
    rw [(okPrL _).eqv]
    refine iteF ?_
    have s56 := s5.trans s6
    have A6 := A4.stay s56
    have tb6 := tb4.ext s56
    have y6 := y4.trans (.of s56)
    have e6 := s56 _ _ e4
    clear s56 s5 s6 f1 f2 ne_ nl A4 tb4 y4 e4 nD5 eD5 PA5 TL5 TLw
    refine ⟨_, rfl, p, _, t, _, rfl, A6, tb6, .inl ⟨ne, fun u m H7 s7 tb7 eu tp => ?_⟩⟩
    have hw : 0 < wh (pairB a c d) := by have := I_.w_; omega
    have em : m = ((a : Int) * ((a + 1 : Nat) : Int) - 1, (x + 1) % ((a : Int) * ((a + 1 : Nat) : Int))) := tp.one (topGap_run hw (by rw [I_.cl]; exact Nat.zero_lt_one) I_.gap)
    subst em
    have e7 := s7.lst e6
    refine ⟨_, rfl, _, rfl, _, _, rfl, rfl, cw, _, _, rfl, rfl, _, rfl, D, _, 0, _, rfl, rfl, lstOf e7, atI_nat (j := 0) rfl, _, _, rfl, rfl, _, rfl, _, rfl, _, _, rfl, rfl, cw, _, _, rfl, rfl, w0, sizeOk (by show (2 : Nat) ≤ 100000; decide), fun e ne_ => ?_⟩
    have s8 := same_upd ne_ (o := .tup [.int ((a : Int) * ((a + 1 : Nat) : Int) - 1), .int ((x + 1) % ((a : Int) * ((a + 1 : Nat) : Int)))])
    refine ⟨_, _, dpPr1 (s8 _ _ eu), dpPr1 (m := ((a : Int) * ((a + 1 : Nat) : Int) - 1, (x + 1) % ((a : Int) * ((a + 1 : Nat) : Int)))) upd_same, (okPr1 _).shaped (by decide), (okPr1 _).shaped (by decide), _, rfl, ?_⟩
    rw [(okPr1 _).eqv]
    refine iteF ?_
    have x8 := s7.trans (.of s8)
    have A8 := A6.stn x8
    have tb8 := tb7.ext s8
    have y8 := y6.trans x8
    have e8 := s8 _ _ e7
    generalize upd H7 e (.tup [.int ((a : Int) * ((a + 1 : Nat) : Int) - 1), .int ((x + 1) % ((a : Int) * ((a + 1 : Nat) : Int)))]) = H8 at A8 tb8 y8 e8 ⊢
    clear s8 s7 x8 ne_ eu tp A6 tb6 y6 e6 e7 tb7
    refine ⟨_, rfl, p, _, t, _, rfl, A8, tb8, .inr (.inl ⟨ne, by rw [I_.cl, I_.w_]; show 1 ≠ a * (a + 1); intro z; have := Nat.mul_le_mul a2 (show 1 ≤ a + 1 by omega); omega, fun u m H9 s9 tb9 eu br => ?_⟩)⟩
    have em : m = (1, x) := by
      have := noTwo_run hw ne I_.no
      rw [I_.cl] at this
      exact br.one this
    subst em
    have e9 := s9.lst e8
    refine ⟨_, rfl, D, _, 0, _, rfl, rfl, lstOf e9, atI_nat (j := 0) rfl, sizeOk (by show (2 : Nat) ≤ 100000; decide), fun e ne_ => ?_⟩
    have sa := same_upd ne_ (o := .tup [.int 1, .int x])
    refine ⟨_, _, dpPr1 (sa _ _ eu), dpPr1 (m := (1, x)) upd_same, (okPr1 _).shaped (by decide), (okPr1 _).shaped (by decide), _, rfl, ?_⟩
    rw [(okPr1 _).eqv]
    refine iteF ?_
    have xa := s9.trans (.of sa)
    have Aa := A8.stn xa
    have tba := tb9.ext sa
    have ya := y8.trans xa
    have ea := sa _ _ e9
    generalize upd H9 e (.tup [.int 1, .int x]) = Ha at Aa tba ya ea ⊢
    clear sa s9 xa ne_ eu br A8 tb8 y8 e8 e9 tb9
    refine ⟨_, rfl, p, _, t, _, rfl, Aa, fun Dn Hb sb nDn eDn => ⟨Nat.zero_le _, fun l nl => ?_⟩⟩
    have eDn' : Hb Dn = some (.lst (([] : List Int).map V.int)) := by rw [← I_.need]; exact eDn
    have sc := same_upd nl (o := .lst [])
    refine ⟨_, _, dpLst (lstOf (sc _ _ eDn')), dpLst (l := []) (lstOf upd_same), (okD.lst (okInts _)).shaped (by decide), (okD.lst (okInts _)).shaped (by decide), _, rfl, ?_⟩
    rw [eqvIntsL, decide_eq_true rfl]
    refine iteF ?_
    have sbc := sb.trans sc
    have Ac := Aa.stay sbc
    have tbc := tba.ext sbc
    have yc := ya.trans (.of sbc)
    have ec := sbc _ _ ea
    generalize upd Hb l (.lst []) = Hc at Ac tbc yc ec ⊢
    clear sb sc sbc nl eDn eDn' nDn Aa tba ya ea
    refine ⟨_, rfl, p, _, t, _, rfl, Ac, .inr ⟨ne, fun u Hd sd nu eu => ?_⟩⟩
    have eu' : Hd u = some (.tup [.int ((a : Int) * ((a + 1 : Nat) : Int)), .int x]) := by rw [eu, I_.sM, I_.sR]; rfl
    have ed := sd _ _ ec
    refine ⟨_, rfl, _, rfl, _, _, rfl, rfl, cw, _, rfl, D, _, 0, _, rfl, rfl, lstOf ed, atI_nat (j := 0) rfl, sizeOk (by show (2 : Nat) ≤ 100000; decide), fun e ne_ => ?_⟩
    have se := same_upd ne_ (o := .tup [.int ((a : Int) * ((a + 1 : Nat) : Int)), .int x])
    refine ⟨_, _, dpPr1 (m := ((a : Int) * ((a + 1 : Nat) : Int), x)) (se _ _ eu'), dpPr1 (m := ((a : Int) * ((a + 1 : Nat) : Int), x)) upd_same, (okPr1 _).shaped (by decide), (okPr1 _).shaped (by decide), _, rfl, ?_⟩
    rw [(okPr1 _).eqv]
    refine iteF ?_
    have sde := sd.trans se
    have Ae := Ac.stay sde
    have tbe := tbc.ext sde
    have ye := yc.trans (.of sde)
    have ee := sde _ _ ec
    generalize upd Hd e (.tup [.int ((a : Int) * ((a + 1 : Nat) : Int)), .int x]) = He at Ae tbe ye ee ⊢
    clear sd se sde ne_ eu eu' nu Ac tbc yc ec ed
    have w110 : (a : Int) * ((a + 1 : Nat) : Int) ≤ 110 := by
      have := Nat.mul_le_mul a10 (show a + 1 ≤ 11 by omega)
      exact Int.ofNat_le.mpr this
    refine ⟨_, rfl, p, _, t, _, rfl, Ae, .inr (.inr ⟨by rw [I_.w_]; exact Nat.le_trans (Nat.mul_le_mul a10 (show a + 1 ≤ 11 by omega)) (by decide), by rw [I_.cl]; show 1 ≤ 60; decide, fun pf vf tf Hf sf Af => ⟨pf, _, _, rfl, Af.ob.choose_spec, pf, _, tf, _, rfl, Af, ?_⟩⟩)⟩
    have ef := sf _ _ ee
    refine ⟨_, rfl, _, rfl, _, _, rfl, rfl, cw, _, rfl, D, _, 0, _, rfl, rfl, lstOf ef, atI_nat (j := 0) rfl, sizeOk (by show (1 : Nat) ≤ 100000; decide), fun o1 n1 => ⟨sizeOk (by show (2 : Nat) ≤ 100000; decide), fun o2 n2 => ⟨sizeOk (by show (1 : Nat) ≤ 100000; decide), fun o3 n3 => ?_⟩⟩⟩
    have g1 := same_upd n1 (o := .tup [.int x])
    have g2 := same_upd n2 (o := .tup [.int ((a : Int) * ((a + 1 : Nat) : Int)), .ref o1])
    have g3 := same_upd n3 (o := .tup [.ref o2])
    have f1 := (g2.trans g3) _ _ (upd_same (H := Hf) (a := o1) (o := .tup [.int x]))
    have f2 := g3 _ _ (upd_same (H := upd Hf o1 (.tup [.int x])) (a := o2) (o := .tup [.int ((a : Int) * ((a + 1 : Nat) : Int)), .ref o1]))
    have f3 := upd_same (H := upd (upd Hf o1 (.tup [.int x])) o2 (.tup [.int ((a : Int) * ((a + 1 : Nat) : Int)), .ref o1])) (a := o3) (o := .tup [.ref o2])
    have g := g1.trans (g2.trans g3)
    generalize upd (upd (upd Hf o1 (.tup [.int x])) o2 (.tup [.int ((a : Int) * ((a + 1 : Nat) : Int)), .ref o1])) o3 (.tup [.ref o2]) = Hg at f1 f2 f3 g ⊢
    have Bo : BarsAt K Hg (.ref o3) [((a : Int) * ((a + 1 : Nat) : Int), [x])] := oneBar (b := ((a : Int) * ((a + 1 : Nat) : Int), [x])) (tupOf f3) ⟨o2, .ref o1, rfl, tupOf f2, ⟨o1, rfl, tupOf (by exact f1)⟩⟩
    refine ⟨_, _, dpBars (Af.stay g).bars, dpBars Bo, (okBars _).shaped (by decide), (okBars _).shaped (by decide), _, rfl, ?_⟩
    rw [eqvBars, decide_eq_true (show oneB (pairB a c d) = [((a : Int) * ((a + 1 : Nat) : Int), [x])] by unfold oneB; rw [I_.cl, I_.w_]; rfl)]
    refine iteF ?_
    have sg := sf.trans g
    have Ag := Ae.stay sg
    have tbg := tbe.ext sg
    have yg := ye.trans (.of sg)
    have eg := sg _ _ ee
    clear g1 g2 g3 f1 f2 f3 g n1 n2 n3 Bo Af sf sg ef Ae tbe ye ee
    have e20 : (10 : Int) ^ Int.toNat 20 = 100000000000000000000 := by decide +kernel
    refine ⟨_, rfl, _, _, rfl, rfl, ⟨by decide, by decide, by decide⟩, p, _, t, _, _, _, rfl, Ag, .inr ⟨0, rfl, ⟨by decide, by decide⟩, .inr ⟨100000000000000000000, congrArg V.int e20, by decide, by decide, .inr ⟨ne, fun Hh sh => ?_⟩⟩⟩⟩
    have cw2 : CMulW ((a : Int) * ((a + 1 : Nat) : Int)) (10 ^ Int.toNat 20) := wide_mul (a := 20) (b := 80) (by omega) (by rw [e20]; decide) (by decide) (by decide) (by decide)
    refine ⟨_, rfl, D, _, 0, _, rfl, rfl, lstOf (sh _ _ eg), atI_nat (j := 0) rfl, _, rfl, _, rfl, _, _, rfl, rfl, cw, _, _, rfl, rfl, ⟨by decide, by decide, by decide⟩, _, _, rfl, rfl, cw2, _, _, rfl, rfl, rfl, ?_⟩
    rw [decide_eq_true (congrArg V.int (show st (pairB a c d) (pl (pairB a c d) 0 + 100000000000000000000) = x + (a : Int) * ((a + 1 : Nat) : Int) * 10 ^ Int.toNat 20 by rw [e20]; exact I_.num))]
    exact q _ (yg.trans (.of sh)) (tbg.ext sh)
end

end R
namespace R
open PySem PySem.Spec PyProof.Rows L2
/-! ## the law -/
open LamX hiding takes0
open NdefX
theorem heldNil {ms : List Int} {hl : List (List Int)} (h : HeldIs ms [] hl) : hl = [] := by
  cases hl with
  | nil => rfl
  | cons z r =>
    obtain ⟨p, hp, _⟩ := (h.mem z).mp List.mem_cons_self
    cases hp
theorem manyNil {ms : List Int} (M : MOk ms) {hl hl2 : List (List Int)} (h : HeldIs ms [] hl) {n : Nat} (e : ms.sum = (n : Int)) : rowsW (uniL ms).length hl (unheldL ms hl2 []) = 2 ^ n := by
  rw [heldNil h, show unheldL ms hl2 [] = [] from rfl]
  show (2 : Int) ^ ((uniL ms).length - 0) = 2 ^ n
  have := (uni_len M).1
  rw [show (uniL ms).length - 0 = n by omega]
def twoSeen : List (Int × Bool) := [(0, true), (1, false)]
theorem heldTwo {hl : List (List Int)} (h : HeldIs [2] twoSeen hl) : hl = [[0, 0]] := by
  have m0 : marksLT [2] 0 = [[0, 0]] := by decide
  have all : ∀ z ∈ hl, z = [0, 0] := fun z hz => by
    obtain ⟨p, hp, f, hm⟩ := (h.mem z).mp hz
    rcases List.mem_cons.mp hp with rfl | hp
    · rw [m0] at hm
      exact List.mem_singleton.mp hm
    · rw [List.mem_singleton.mp hp] at f
      cases f
  have one : [0, 0] ∈ hl := (h.mem _).mpr ⟨(0, true), List.mem_cons_self, rfl, by rw [m0]; exact List.mem_cons_self⟩
  cases hl with
  | nil => cases one
  | cons z r =>
    rw [all z List.mem_cons_self]
    cases r with
    | nil => rfl
    | cons y s =>
      have ez := all z List.mem_cons_self
      have ey := all y (List.mem_cons_of_mem _ List.mem_cons_self)
      have := (List.nodup_cons.mp h.nd).1
      rw [ez, ey] at this
      exact absurd List.mem_cons_self this
theorem manyTwo {hl hl2 : List (List Int)} (h : HeldIs [2] twoSeen hl) (h2 : HeldIs [2] twoSeen hl2) : rowsW (uniL [2]).length hl (unheldL [2] hl2 twoSeen) = 1 := by
  rw [heldTwo h, heldTwo h2]
  decide +kernel
theorem twoOkS : SOk twoSeen := by
  refine ⟨by decide, fun p hp => ?_, fun n => ?_⟩
  · rcases List.mem_cons.mp hp with rfl | hp
    · exact ⟨by decide, by decide⟩
    · rw [List.mem_singleton.mp hp]
      exact ⟨by decide, by decide⟩
  · unfold unfitTo
    exact Nat.le_trans (List.length_filter_le _ _) (by rw [List.length_take]; show min n 2 ≤ 8; omega)
theorem nilOkS : SOk [] := ⟨by decide, (fun p hp => nomatch hp), fun n => by
  unfold unfitTo
  rw [List.take_nil]
  decide⟩
theorem nilSeen {K : PySem.W.Frag} {H : Hp} {l : Addr} (e : H l = some (.lst [])) : SeenAt K H l [] := ⟨[], .inl e, rfl, fun i x p h1 h2 => by simp at h1⟩
theorem twoSeenAt {K : PySem.W.Frag} {H : Hp} {l t u : Addr} (e : H l = some (.lst [.ref t, .ref u])) (et : H t = some (.tup [.int 0, .bl true])) (eu : H u = some (.tup [.int 1, .bl false])) : SeenAt K H l twoSeen := by
  refine ⟨[.ref t, .ref u], .inl e, rfl, fun i x p h1 h2 => ?_⟩
  match i with
  | 0 =>
    cases Option.some.inj h1
    cases Option.some.inj h2
    exact ⟨t, rfl, tupOf et⟩
  | 1 =>
    cases Option.some.inj h1
    cases Option.some.inj h2
    exact ⟨u, rfl, tupOf eu⟩
  | j + 2 => simp at h1
section
variable {P : Program} {w : World} {K : PySem.W.Frag} {mg : Str → Option Value} {base : Heap}
theorem ok_law (T : Txt K mg) (TB : Tbs base T) : FnOk P w K mg base CX0 20 T.f_law T.fd_law ["_law_script"] (sp_lawT T) := by
  refine T.F_law.ok sc_law (fun vs H Q E h => ?_) (fun cdv A outer s H vs Q E hr h => ?_)
  · obtain ⟨a, ns, rfl, _⟩ := h
    rfl
  · obtain ⟨a, ns, rfl, hS, hl, tb0, q⟩ := h
    refine ⟨_, (pss_cons (ps_set (i := 1) sc_law.nd rfl (by first | exact .inl rfl | exact .inr rfl) (pe_call (ok_l_draws T) (hr.mono (by decide)) (by rfl) T.g_l_draws T.F_l_draws.kp T.b_l_draws .nil pass0 (pa_cons (pv 0) pa_nil)))
      (pss_cons (ps_set (i := 2) sc_law.nd rfl (by first | exact .inl rfl | exact .inr rfl) (pe_op op_add pe_int (pe_call (ok_l_pick T) (hr.mono (by decide)) (by rfl) T.g_l_pick T.F_l_pick.kp T.b_l_pick .nil pass0 (pa_cons (pv 1) (pa_cons pe_int pa_nil)))))
      (pss_cons (ps_set (i := 3) sc_law.nd rfl (by first | exact .inl rfl | exact .inr rfl) (pe_op op_add (pv 2) pe_int))
      (pss_cons (ps_if (PW.pt (pw_or (pt_not (pt_val (pe_call (ok_l_pair T TB) (hr.mono (by decide)) (by rfl) T.g_l_pair T.F_l_pair.kp T.b_l_pair .nil pass0 (pa_cons (pv 2) (pa_cons (pv 3) (pa_cons (pe_call (ok_l_pick T) (hr.mono (by decide)) (by rfl) T.g_l_pick T.F_l_pick.kp T.b_l_pick .nil pass0 (pa_cons (pv 1) (pa_cons (pv 2) pa_nil))) (pa_cons (pe_call (ok_l_pick T) (hr.mono (by decide)) (by rfl) T.g_l_pick T.F_l_pick.kp T.b_l_pick .nil pass0 (pa_cons (pv 1) (pa_cons (pv 3) pa_nil))) pa_nil))))))) (pw_or1 (pt_not (pt_val (pe_call (ok_l_odd T TB) (hr.mono (by decide)) (by rfl) T.g_l_odd T.F_l_odd.kp T.b_l_odd .nil pass0 (pa_cons (pe_op op_add pe_int (pe_call (ok_l_pick T) (hr.mono (by decide)) (by rfl) T.g_l_pick T.F_l_pick.kp T.b_l_pick .nil pass0 (pa_cons (pv 1) (pa_cons pe_int pa_nil)))) pa_nil))))))) (pss_one (ps_ret pe_bl)) pss_nil)
      (pss_cons (ps_if (pt_not (pt_val (pe_call (ok_l_all T TB) (hr.mono (by decide)) (by rfl) T.g_l_all T.F_l_all.kp T.b_l_all .nil pass0 (pa_cons (pe_op op_add pe_int (pe_call (ok_l_pick T) (hr.mono (by decide)) (by rfl) T.g_l_pick T.F_l_pick.kp T.b_l_pick .nil pass0 (pa_cons (pv 1) (pa_cons pe_int pa_nil)))) pa_nil)))) (pss_one (ps_ret pe_bl)) pss_nil)
      (pss_one (ps_ret (pe_and (pe_cmpR op_eq (pe_call (ok_p_many_lots T) (hr.mono (by decide)) (by rfl) T.g_p_many_lots T.F_p_many_lots.kp T.b_p_many_lots .nil pass0 (pa_cons (pe_tup (pa_cons (pv 2) (pa_cons (pv 3) pa_nil))) (pa_cons (pe_lst pa_nil) pa_nil))) (pe_op op_mul pe_int (pe_call (ok_p_many_lots T) (hr.mono (by decide)) (by rfl) T.g_p_many_lots T.F_p_many_lots.kp T.b_p_many_lots .nil pass0 (pa_cons (pe_tup (pa_cons (pv 2) (pa_cons (pv 2) pa_nil))) (pa_cons (pe_lst pa_nil) pa_nil)))) (nomark _)) (pe_one (pe_cmpR op_eq (pe_call (ok_p_many_lots T) (hr.mono (by decide)) (by rfl) T.g_p_many_lots T.F_p_many_lots.kp T.b_p_many_lots .nil pass0 (pa_cons (pe_tup (pa_cons pe_int pa_nil)) (pa_cons (pe_lst (pa_cons (pe_tup (pa_cons pe_int (pa_cons pe_bl pa_nil))) (pa_cons (pe_tup (pa_cons pe_int (pa_cons pe_bl pa_nil))) pa_nil))) pa_nil))) pe_int (nomark _))))))))))), ?_⟩
    refine ⟨_, rfl, a, ns, rfl, hS, fun r L H1 s1 R1 => ?_⟩
    have tb1 : Tabs (tabs T) H1 := tb0.ext s1
    refine ⟨_, rfl, r, L, 9, rfl, R1, by decide, by decide, fun u H2 u0 u1 k2 R2 => ⟨_, _, rfl, rfl, ?_⟩⟩
    obtain ⟨A, hA⟩ : ∃ A : Nat, 2 + u = (A : Int) := ⟨(2 + u).toNat, by omega⟩
    have a2 : 2 ≤ A := by omega
    have a10 : A ≤ 10 := by omega
    show gName 2 (V.int (2 + u)) _ _ _
    rw [hA]
    have tb2 := tabsKp tb1 R1 k2
    refine ⟨_, rfl, _, _, rfl, rfl, ?_⟩
    show gName 3 (V.int ((A : Int) + 1)) _ _ _
    rw [show (A : Int) + 1 = ((A + 1 : Nat) : Int) from rfl]
    refine ⟨_, rfl, _, rfl, _, rfl, _, rfl, r, L, A, rfl, R2, by omega, by omega, fun c H3 c0 c1 k3 R3 => ⟨_, rfl, _, rfl, r, L, ((A + 1 : Nat) : Int), rfl, R3, by omega, by omega, fun d H4 d0 d1 k4 R4 => ?_⟩⟩
    obtain ⟨c, rfl⟩ : ∃ c' : Nat, c = c' := ⟨c.toNat, by omega⟩
    obtain ⟨d, rfl⟩ : ∃ d' : Nat, d = d' := ⟨d.toNat, by omega⟩
    have tb4 := tabsKp (tabsKp tb2 R2 k3) R3 k4
    refine ⟨A, c, d, rfl, a2, a10, by omega, by omega, tb4, fun H5 x5 tb5 => ⟨_, rfl, iteF ?_⟩⟩
    have R5 := R4.stn x5
    refine ⟨_, rfl, r, L, 20, rfl, R5, by decide, by decide, fun u' H6 u0' u1' k6 R6 => ⟨_, _, rfl, rfl, (1 + u').toNat, congrArg (fun z => [V.int z]) (show 1 + u' = ((1 + u').toNat : Int) by omega), by omega, by omega, tabsKp tb5 R5 k6, fun H7 x7 tb7 => ⟨_, rfl, iteF ?_⟩⟩⟩
    have R7 := R6.stn x7
    refine ⟨_, rfl, r, L, 30, rfl, R7, by decide, by decide, fun u'' H8 u0'' u1'' k8 R8 => ⟨_, _, rfl, rfl, (1 + u'').toNat, congrArg (fun z => [V.int z]) (show 1 + u'' = ((1 + u'').toNat : Int) by omega), by omega, by omega, tabsKp tb7 R7 k8, fun H9 x9 tb9 => ⟨_, rfl, iteF ?_⟩⟩⟩
    have M1 : MOk [(A : Int), ((A + 1 : Nat) : Int)] := ⟨by show 1 ≤ 2; decide, by show 2 ≤ 4; decide, fun m hm => by
      rcases List.mem_cons.mp hm with rfl | hm
      · omega
      · rw [List.mem_singleton.mp hm]; omega⟩
    have M2 : MOk [(A : Int), (A : Int)] := ⟨by show 1 ≤ 2; decide, by show 2 ≤ 4; decide, fun m hm => by
      rcases List.mem_cons.mp hm with rfl | hm
      · omega
      · rw [List.mem_singleton.mp hm]; omega⟩
    have M3 : MOk [2] := ⟨by decide, by decide, fun m hm => by rw [List.mem_singleton.mp hm]; omega⟩
    refine ⟨_, rfl, _, rfl, sizeOk (by show (2 : Nat) ≤ 100000; decide), fun e1 n1 => ⟨sizeOk (by show (0 : Nat) ≤ 100000; decide), fun l1 m1 => ?_⟩⟩
    have q1 := same_upd m1 (o := .lst [])
    refine ⟨e1, l1, [(A : Int), ((A + 1 : Nat) : Int)], [], [], rfl, tupOf (q1 _ _ upd_same), M1, nilSeen upd_same, nilOkS, by decide, (fun p hp => nomatch hp), fun hl1 hl1' Ha sa h1 h1' => ?_⟩
    rw [manyNil M1 h1 (n := 2 * A + 1) (by show (A : Int) + (((A + 1 : Nat) : Int) + 0) = _; omega)]
    refine ⟨_, rfl, _, rfl, sizeOk (by show (2 : Nat) ≤ 100000; decide), fun e2 n2 => ⟨sizeOk (by show (0 : Nat) ≤ 100000; decide), fun l2 m2 => ?_⟩⟩
    have q2 := same_upd m2 (o := .lst [])
    refine ⟨e2, l2, [(A : Int), (A : Int)], [], [], rfl, tupOf (q2 _ _ upd_same), M2, nilSeen upd_same, nilOkS, by decide, (fun p hp => nomatch hp), fun hl2 hl2' Hb sb h2 h2' => ?_⟩
    rw [manyNil M2 h2 (n := 2 * A) (by show (A : Int) + ((A : Int) + 0) = _; omega)]
    refine ⟨_, _, rfl, rfl, .inl ⟨by decide, by decide⟩, rfl, _, rfl, ?_⟩
    rw [decide_eq_true (congrArg V.int (show (2 : Int) ^ (2 * A + 1) = 2 * 2 ^ (2 * A) by rw [Int.pow_succ, Int.mul_comm]))]
    refine iteT ⟨sizeOk (by show (1 : Nat) ≤ 100000; decide), fun e3 n3 => ⟨sizeOk (by show (2 : Nat) ≤ 100000; decide), fun e4 n4 => ⟨sizeOk (by show (2 : Nat) ≤ 100000; decide), fun e5 n5 => ⟨sizeOk (by show (2 : Nat) ≤ 100000; decide), fun l3 m3 => ?_⟩⟩⟩⟩
    have g4 := same_upd n4 (o := .tup [.int 0, .bl true])
    have g5 := same_upd n5 (o := .tup [.int 1, .bl false])
    have g6 := same_upd m3 (o := .lst [.ref e4, .ref e5])
    refine ⟨e3, l3, [2], twoSeen, [[0, 0]], rfl, tupOf ((g4.trans (g5.trans g6)) _ _ upd_same), M3, twoSeenAt upd_same ((g5.trans g6) _ _ upd_same) (g6 _ _ upd_same), twoOkS, by decide, fun p hp f z hz => ?_, fun hl3 hl3' Hc sc h3 h3' => ?_⟩
    · rcases List.mem_cons.mp hp with rfl | hp
      · have m0 : marksLT [2] 0 = [[0, 0]] := by decide
        rw [m0] at hz
        exact hz
      · rw [List.mem_singleton.mp hp] at f
        cases f
    · rw [manyTwo h3 h3']
      refine ⟨rfl, ?_⟩
      rw [decide_eq_true rfl]
      exact q _
end

end R
namespace R
open PySem PySem.Spec PyProof.Rows L2
theorem kit_ref {K : PySem.W.Frag} {C : Addr} {t : Value} (h1 : PySem.W.hasDictIn K C = true) (h2 : PySem.W.typeIn K (.ref C) = some (.type "type")) (h3 : PySem.W.subIn K t (.ref C) = some true) : PySem.W.kitOne K t (.ref C) = some true := by
  obtain ⟨cd, hc, _⟩ := PySem.W.any_some h1
  unfold PySem.W.kitOne
  split
  · rfl
  · show (if ((PySem.W.clsIn K C).isSome && PySem.W.typeIn K (.ref C) == some (.type "type")) = true then PySem.W.subIn K t (.ref C) else none) = some true
    rw [hc, h2]
    exact h3
theorem all_mk {l : PySem.W.OpenLaw} {w : World} {K : PySem.W.Frag} {h : Heap} {mg : Str → Option Value} {fa : Addr} (X : K.In h) (G : h.Ns mainGlobals mg) (hfa : mg "law" = some (.ref fa)) (own : ∀ y ∈ (["smallest_kept", "smallest_barring", "longest"] : List Str), ∀ f, mg y = some (.ref f) → LamX.OwnTab K f h)
    {f0 : Addr} {oc0 kV0 dc0 pm0 cd0 ct0 : Value} {od0 an0 : Option Addr} {sl0 : Array (Option Value)}
    (a0 : PySem.W.nsIn K mainGlobals "is_integer" = some (some (.ref f0)))
    {f1 : Addr} {oc1 kV1 dc1 pm1 cd1 ct1 : Value} {od1 an1 : Option Addr} {sl1 : Array (Option Value)}
    (a1 : PySem.W.nsIn K mainGlobals "integer_within" = some (some (.ref f1)))
    {f2 : Addr} {oc2 kV2 dc2 pm2 cd2 ct2 : Value} {od2 an2 : Option Addr} {sl2 : Array (Option Value)}
    (a2 : PySem.W.nsIn K mainGlobals "is_number" = some (some (.ref f2)))
    {f3 : Addr} {oc3 kV3 dc3 pm3 cd3 ct3 : Value} {od3 an3 : Option Addr} {sl3 : Array (Option Value)}
    (a3 : PySem.W.nsIn K mainGlobals "check_number" = some (some (.ref f3)))
    {f4 : Addr} {oc4 kV4 dc4 pm4 cd4 ct4 : Value} {od4 an4 : Option Addr} {sl4 : Array (Option Value)}
    (a4 : PySem.W.nsIn K mainGlobals "check_modulus" = some (some (.ref f4)))
    {f5 : Addr} {oc5 kV5 dc5 pm5 cd5 ct5 : Value} {od5 an5 : Option Addr} {sl5 : Array (Option Value)}
    (a5 : PySem.W.nsIn K mainGlobals "is_ascending" = some (some (.ref f5)))
    {f6 : Addr} {oc6 kV6 dc6 pm6 cd6 ct6 : Value} {od6 an6 : Option Addr} {sl6 : Array (Option Value)}
    (a6 : PySem.W.nsIn K mainGlobals "is_lot" = some (some (.ref f6)))
    {f7 : Addr} {oc7 kV7 dc7 pm7 cd7 ct7 : Value} {od7 an7 : Option Addr} {sl7 : Array (Option Value)}
    (a7 : PySem.W.nsIn K mainGlobals "is_pair" = some (some (.ref f7)))
    {f8 : Addr} {oc8 kV8 dc8 pm8 cd8 ct8 : Value} {od8 an8 : Option Addr} {sl8 : Array (Option Value)}
    (a8 : PySem.W.nsIn K mainGlobals "is_bar" = some (some (.ref f8)))
    {f9 : Addr} {oc9 kV9 dc9 pm9 cd9 ct9 : Value} {od9 an9 : Option Addr} {sl9 : Array (Option Value)}
    (a9 : PySem.W.nsIn K mainGlobals "check_some" = some (some (.ref f9)))
    {f10 : Addr} {oc10 kV10 dc10 pm10 cd10 ct10 : Value} {od10 an10 : Option Addr} {sl10 : Array (Option Value)}
    (a10 : PySem.W.nsIn K mainGlobals "inverse" = some (some (.ref f10)))
    {f11 : Addr} {oc11 kV11 dc11 pm11 cd11 ct11 : Value} {od11 an11 : Option Addr} {sl11 : Array (Option Value)}
    (a11 : PySem.W.nsIn K mainGlobals "joined" = some (some (.ref f11)))
    {f12 : Addr} {oc12 kV12 dc12 pm12 cd12 ct12 : Value} {od12 an12 : Option Addr} {sl12 : Array (Option Value)}
    (a12 : PySem.W.nsIn K mainGlobals "classes_of" = some (some (.ref f12)))
    {f13 : Addr} {oc13 kV13 dc13 pm13 cd13 ct13 : Value} {od13 an13 : Option Addr} {sl13 : Array (Option Value)}
    (a13 : PySem.W.nsIn K mainGlobals "check_bars" = some (some (.ref f13)))
    {f14 : Addr} {oc14 kV14 dc14 pm14 cd14 ct14 : Value} {od14 an14 : Option Addr} {sl14 : Array (Option Value)}
    (a14 : PySem.W.nsIn K mainGlobals "whole_of" = some (some (.ref f14)))
    {f15 : Addr} {oc15 kV15 dc15 pm15 cd15 ct15 : Value} {od15 an15 : Option Addr} {sl15 : Array (Option Value)}
    (a15 : PySem.W.nsIn K mainGlobals "check_choices" = some (some (.ref f15)))
    {f16 : Addr} {oc16 kV16 dc16 pm16 cd16 ct16 : Value} {od16 an16 : Option Addr} {sl16 : Array (Option Value)}
    (a16 : PySem.W.nsIn K mainGlobals "share" = some (some (.ref f16)))
    {f17 : Addr} {oc17 kV17 dc17 pm17 cd17 ct17 : Value} {od17 an17 : Option Addr} {sl17 : Array (Option Value)}
    (a17 : PySem.W.nsIn K mainGlobals "only" = some (some (.ref f17)))
    {f18 : Addr} {oc18 kV18 dc18 pm18 cd18 ct18 : Value} {od18 an18 : Option Addr} {sl18 : Array (Option Value)}
    (a18 : PySem.W.nsIn K mainGlobals "others" = some (some (.ref f18)))
    {f19 : Addr} {oc19 kV19 dc19 pm19 cd19 ct19 : Value} {od19 an19 : Option Addr} {sl19 : Array (Option Value)}
    (a19 : PySem.W.nsIn K mainGlobals "smallest_sets" = some (some (.ref f19)))
    {f20 : Addr} {oc20 kV20 dc20 pm20 cd20 ct20 : Value} {od20 an20 : Option Addr} {sl20 : Array (Option Value)}
    (a20 : PySem.W.nsIn K mainGlobals "is_enough" = some (some (.ref f20)))
    {f21 : Addr} {oc21 kV21 dc21 pm21 cd21 ct21 : Value} {od21 an21 : Option Addr} {sl21 : Array (Option Value)}
    (a21 : PySem.W.nsIn K mainGlobals "needless" = some (some (.ref f21)))
    {f22 : Addr} {oc22 kV22 dc22 pm22 cd22 ct22 : Value} {od22 an22 : Option Addr} {sl22 : Array (Option Value)}
    (a22 : PySem.W.nsIn K mainGlobals "smallest_kept" = some (some (.ref f22)))
    {f23 : Addr} {oc23 kV23 dc23 pm23 cd23 ct23 : Value} {od23 an23 : Option Addr} {sl23 : Array (Option Value)}
    (a23 : PySem.W.nsIn K mainGlobals "rests" = some (some (.ref f23)))
    {f24 : Addr} {oc24 kV24 dc24 pm24 cd24 ct24 : Value} {od24 an24 : Option Addr} {sl24 : Array (Option Value)}
    (a24 : PySem.W.nsIn K mainGlobals "greatest_sure" = some (some (.ref f24)))
    {f25 : Addr} {oc25 kV25 dc25 pm25 cd25 ct25 : Value} {od25 an25 : Option Addr} {sl25 : Array (Option Value)}
    (a25 : PySem.W.nsIn K mainGlobals "smallest_barring" = some (some (.ref f25)))
    {f26 : Addr} {oc26 kV26 dc26 pm26 cd26 ct26 : Value} {od26 an26 : Option Addr} {sl26 : Array (Option Value)}
    (a26 : PySem.W.nsIn K mainGlobals "both" = some (some (.ref f26)))
    {f27 : Addr} {oc27 kV27 dc27 pm27 cd27 ct27 : Value} {od27 an27 : Option Addr} {sl27 : Array (Option Value)}
    (a27 : PySem.W.nsIn K mainGlobals "keeps_to" = some (some (.ref f27)))
    {f28 : Addr} {oc28 kV28 dc28 pm28 cd28 ct28 : Value} {od28 an28 : Option Addr} {sl28 : Array (Option Value)}
    (a28 : PySem.W.nsIn K mainGlobals "within" = some (some (.ref f28)))
    {f29 : Addr} {oc29 kV29 dc29 pm29 cd29 ct29 : Value} {od29 an29 : Option Addr} {sl29 : Array (Option Value)}
    (a29 : PySem.W.nsIn K mainGlobals "alike" = some (some (.ref f29)))
    {f30 : Addr} {oc30 kV30 dc30 pm30 cd30 ct30 : Value} {od30 an30 : Option Addr} {sl30 : Array (Option Value)}
    (a30 : PySem.W.nsIn K mainGlobals "distance" = some (some (.ref f30)))
    {f31 : Addr} {oc31 kV31 dc31 pm31 cd31 ct31 : Value} {od31 an31 : Option Addr} {sl31 : Array (Option Value)}
    (a31 : PySem.W.nsIn K mainGlobals "as_one" = some (some (.ref f31)))
    {f32 : Addr} {oc32 kV32 dc32 pm32 cd32 ct32 : Value} {od32 an32 : Option Addr} {sl32 : Array (Option Value)}
    (a32 : PySem.W.nsIn K mainGlobals "pairs_of_rests" = some (some (.ref f32)))
    {f33 : Addr} {oc33 kV33 dc33 pm33 cd33 ct33 : Value} {od33 an33 : Option Addr} {sl33 : Array (Option Value)}
    (a33 : PySem.W.nsIn K mainGlobals "sums" = some (some (.ref f33)))
    {f34 : Addr} {oc34 kV34 dc34 pm34 cd34 ct34 : Value} {od34 an34 : Option Addr} {sl34 : Array (Option Value)}
    (a34 : PySem.W.nsIn K mainGlobals "products" = some (some (.ref f34)))
    {f35 : Addr} {oc35 kV35 dc35 pm35 cd35 ct35 : Value} {od35 an35 : Option Addr} {sl35 : Array (Option Value)}
    (a35 : PySem.W.nsIn K mainGlobals "classes_below" = some (some (.ref f35)))
    {f36 : Addr} {oc36 kV36 dc36 pm36 cd36 ct36 : Value} {od36 an36 : Option Addr} {sl36 : Array (Option Value)}
    (a36 : PySem.W.nsIn K mainGlobals "place_from" = some (some (.ref f36)))
    {f37 : Addr} {oc37 kV37 dc37 pm37 cd37 ct37 : Value} {od37 an37 : Option Addr} {sl37 : Array (Option Value)}
    (a37 : PySem.W.nsIn K mainGlobals "standing_at" = some (some (.ref f37)))
    {f38 : Addr} {oc38 kV38 dc38 pm38 cd38 ct38 : Value} {od38 an38 : Option Addr} {sl38 : Array (Option Value)}
    (a38 : PySem.W.nsIn K mainGlobals "check_stretch" = some (some (.ref f38)))
    {f39 : Addr} {oc39 kV39 dc39 pm39 cd39 ct39 : Value} {od39 an39 : Option Addr} {sl39 : Array (Option Value)}
    (a39 : PySem.W.nsIn K mainGlobals "count" = some (some (.ref f39)))
    {f40 : Addr} {oc40 kV40 dc40 pm40 cd40 ct40 : Value} {od40 an40 : Option Addr} {sl40 : Array (Option Value)}
    (a40 : PySem.W.nsIn K mainGlobals "numbered" = some (some (.ref f40)))
    {f41 : Addr} {oc41 kV41 dc41 pm41 cd41 ct41 : Value} {od41 an41 : Option Addr} {sl41 : Array (Option Value)}
    (a41 : PySem.W.nsIn K mainGlobals "steps_in_order" = some (some (.ref f41)))
    {f42 : Addr} {oc42 kV42 dc42 pm42 cd42 ct42 : Value} {od42 an42 : Option Addr} {sl42 : Array (Option Value)}
    (a42 : PySem.W.nsIn K mainGlobals "steps" = some (some (.ref f42)))
    {f43 : Addr} {oc43 kV43 dc43 pm43 cd43 ct43 : Value} {od43 an43 : Option Addr} {sl43 : Array (Option Value)}
    (a43 : PySem.W.nsIn K mainGlobals "longest" = some (some (.ref f43)))
    {f44 : Addr} {oc44 kV44 dc44 pm44 cd44 ct44 : Value} {od44 an44 : Option Addr} {sl44 : Array (Option Value)}
    (a44 : PySem.W.nsIn K mainGlobals "longest_gap" = some (some (.ref f44)))
    {f45 : Addr} {oc45 kV45 dc45 pm45 cd45 ct45 : Value} {od45 an45 : Option Addr} {sl45 : Array (Option Value)}
    (a45 : PySem.W.nsIn K mainGlobals "run_from" = some (some (.ref f45)))
    {f46 : Addr} {oc46 kV46 dc46 pm46 cd46 ct46 : Value} {od46 an46 : Option Addr} {sl46 : Array (Option Value)}
    (a46 : PySem.W.nsIn K mainGlobals "longest_run" = some (some (.ref f46)))
    {f47 : Addr} {oc47 kV47 dc47 pm47 cd47 ct47 : Value} {od47 an47 : Option Addr} {sl47 : Array (Option Value)}
    (a47 : PySem.W.nsIn K mainGlobals "check_moduli" = some (some (.ref f47)))
    {f48 : Addr} {oc48 kV48 dc48 pm48 cd48 ct48 : Value} {od48 an48 : Option Addr} {sl48 : Array (Option Value)}
    (a48 : PySem.W.nsIn K mainGlobals "is_sight" = some (some (.ref f48)))
    {f49 : Addr} {oc49 kV49 dc49 pm49 cd49 ct49 : Value} {od49 an49 : Option Addr} {sl49 : Array (Option Value)}
    (a49 : PySem.W.nsIn K mainGlobals "check_seen" = some (some (.ref f49)))
    {f50 : Addr} {oc50 kV50 dc50 pm50 cd50 ct50 : Value} {od50 an50 : Option Addr} {sl50 : Array (Option Value)}
    (a50 : PySem.W.nsIn K mainGlobals "marks_of" = some (some (.ref f50)))
    {f51 : Addr} {oc51 kV51 dc51 pm51 cd51 ct51 : Value} {od51 an51 : Option Addr} {sl51 : Array (Option Value)}
    (a51 : PySem.W.nsIn K mainGlobals "held_marks" = some (some (.ref f51)))
    {f52 : Addr} {oc52 kV52 dc52 pm52 cd52 ct52 : Value} {od52 an52 : Option Addr} {sl52 : Array (Option Value)}
    (a52 : PySem.W.nsIn K mainGlobals "unheld_marks" = some (some (.ref f52)))
    {f53 : Addr} {oc53 kV53 dc53 pm53 cd53 ct53 : Value} {od53 an53 : Option Addr} {sl53 : Array (Option Value)}
    (a53 : PySem.W.nsIn K mainGlobals "rows_with" = some (some (.ref f53)))
    {f54 : Addr} {oc54 kV54 dc54 pm54 cd54 ct54 : Value} {od54 an54 : Option Addr} {sl54 : Array (Option Value)}
    (a54 : PySem.W.nsIn K mainGlobals "many_lots" = some (some (.ref f54)))
    {f55 : Addr} {oc55 kV55 dc55 pm55 cd55 ct55 : Value} {od55 an55 : Option Addr} {sl55 : Array (Option Value)}
    (a55 : PySem.W.nsIn K mainGlobals "_law_draws" = some (some (.ref f55)))
    {f56 : Addr} {oc56 kV56 dc56 pm56 cd56 ct56 : Value} {od56 an56 : Option Addr} {sl56 : Array (Option Value)}
    (a56 : PySem.W.nsIn K mainGlobals "_law_pick" = some (some (.ref f56)))
    {f57 : Addr} {oc57 kV57 dc57 pm57 cd57 ct57 : Value} {od57 an57 : Option Addr} {sl57 : Array (Option Value)}
    (a57 : PySem.W.nsIn K mainGlobals "_law_pair" = some (some (.ref f57)))
    {f58 : Addr} {oc58 kV58 dc58 pm58 cd58 ct58 : Value} {od58 an58 : Option Addr} {sl58 : Array (Option Value)}
    (a58 : PySem.W.nsIn K mainGlobals "_law_odd" = some (some (.ref f58)))
    {f59 : Addr} {oc59 kV59 dc59 pm59 cd59 ct59 : Value} {od59 an59 : Option Addr} {sl59 : Array (Option Value)}
    (a59 : PySem.W.nsIn K mainGlobals "_law_all" = some (some (.ref f59)))
    {f60 : Addr} {oc60 kV60 dc60 pm60 cd60 ct60 : Value} {od60 an60 : Option Addr} {sl60 : Array (Option Value)}
    (a60 : PySem.W.nsIn K mainGlobals "law" = some (some (.ref f60)))
    {f61 : Addr} {oc61 kV61 dc61 pm61 cd61 ct61 : Value} {od61 an61 : Option Addr} {sl61 : Array (Option Value)}
    {f62 : Addr} {oc62 kV62 dc62 pm62 cd62 ct62 : Value} {od62 an62 : Option Addr} {sl62 : Array (Option Value)}
    {f63 : Addr} {oc63 kV63 dc63 pm63 cd63 ct63 : Value} {od63 an63 : Option Addr} {sl63 : Array (Option Value)}
    {f64 : Addr} {oc64 kV64 dc64 pm64 cd64 ct64 : Value} {od64 an64 : Option Addr} {sl64 : Array (Option Value)}
    {f65 : Addr} {oc65 kV65 dc65 pm65 cd65 ct65 : Value} {od65 an65 : Option Addr} {sl65 : Array (Option Value)}
    {C : Addr} {pB pW pC : Addr} {rB rW rC : List Value}
    (aC : PySem.W.nsIn K mainGlobals "Sieve" = some (some (.ref C)))
    (mI : PySem.W.findIn K (.ref C) "__init__" = some (some (.ref f61)))
    (iI : PySem.W.isFn K (.ref f61) = true)
    (mE : PySem.W.findIn K (.ref C) "__eq__" = some (some (.ref f62)))
    (pg : PySem.W.plainGet K C Str.empty = true)
    (hd : PySem.W.hasDictIn K C = true)
    (po : PySem.W.plainOver K C = true)
    (sa : PySem.W.findIn K (.ref C) "__setattr__" = some (some (.builtin "object.__setattr__")))
    (mk : PySem.W.makesIn K C = true)
    (kc : PySem.W.keepIn K (.ref C) = true)
    (n_bars : PySem.W.findIn K (.ref C) "_bars" = some none)
    (n_whole : PySem.W.findIn K (.ref C) "_whole" = some none)
    (n_classes : PySem.W.findIn K (.ref C) "_classes" = some none)
    (q1B : PySem.W.findIn K (.ref C) "bars" = some (some (.ref pB)))
    (q2B : PySem.W.specialIn K (.ref pB) "__get__" = some (some (.builtin "property.__get__")))
    (q3B : PySem.W.takesIn K (.ref pB) = some true)
    (q4B : PySem.W.recIn K pB "property" = some (.ref f63 :: rB))
    (q1W : PySem.W.findIn K (.ref C) "whole" = some (some (.ref pW)))
    (q2W : PySem.W.specialIn K (.ref pW) "__get__" = some (some (.builtin "property.__get__")))
    (q3W : PySem.W.takesIn K (.ref pW) = some true)
    (q4W : PySem.W.recIn K pW "property" = some (.ref f64 :: rW))
    (q1C : PySem.W.findIn K (.ref C) "classes" = some (some (.ref pC)))
    (q2C : PySem.W.specialIn K (.ref pC) "__get__" = some (some (.builtin "property.__get__")))
    (q3C : PySem.W.takesIn K (.ref pC) = some true)
    (q4C : PySem.W.recIn K pC "property" = some (.ref f65 :: rC))
    (l0 : K.lookup f0 = some ⟨oc0, od0, .func (PySem.W.fnOf "is_integer" "is_integer" (defArgs s_p_is_integer) (defBody s_p_is_integer) (defScope s_p_is_integer) .none kV0 dc0 pm0 an0 cd0 ct0), sl0⟩)
    (d0 : PySem.W.codeIn K cd0 "is_integer" = true)
    (k0 : PySem.W.keepIn K (.ref f0) = true)
    (l1 : K.lookup f1 = some ⟨oc1, od1, .func (PySem.W.fnOf "integer_within" "integer_within" (defArgs s_p_integer_within) (defBody s_p_integer_within) (defScope s_p_integer_within) .none kV1 dc1 pm1 an1 cd1 ct1), sl1⟩)
    (d1 : PySem.W.codeIn K cd1 "integer_within" = true)
    (k1 : PySem.W.keepIn K (.ref f1) = true)
    (l2 : K.lookup f2 = some ⟨oc2, od2, .func (PySem.W.fnOf "is_number" "is_number" (defArgs s_p_is_number) (defBody s_p_is_number) (defScope s_p_is_number) .none kV2 dc2 pm2 an2 cd2 ct2), sl2⟩)
    (d2 : PySem.W.codeIn K cd2 "is_number" = true)
    (k2 : PySem.W.keepIn K (.ref f2) = true)
    (l3 : K.lookup f3 = some ⟨oc3, od3, .func (PySem.W.fnOf "check_number" "check_number" (defArgs s_p_check_number) (defBody s_p_check_number) (defScope s_p_check_number) .none kV3 dc3 pm3 an3 cd3 ct3), sl3⟩)
    (d3 : PySem.W.codeIn K cd3 "check_number" = true)
    (k3 : PySem.W.keepIn K (.ref f3) = true)
    (l4 : K.lookup f4 = some ⟨oc4, od4, .func (PySem.W.fnOf "check_modulus" "check_modulus" (defArgs s_p_check_modulus) (defBody s_p_check_modulus) (defScope s_p_check_modulus) .none kV4 dc4 pm4 an4 cd4 ct4), sl4⟩)
    (d4 : PySem.W.codeIn K cd4 "check_modulus" = true)
    (k4 : PySem.W.keepIn K (.ref f4) = true)
    (l5 : K.lookup f5 = some ⟨oc5, od5, .func (PySem.W.fnOf "is_ascending" "is_ascending" (defArgs s_p_is_ascending) (defBody s_p_is_ascending) (defScope s_p_is_ascending) .none kV5 dc5 pm5 an5 cd5 ct5), sl5⟩)
    (d5 : PySem.W.codeIn K cd5 "is_ascending" = true)
    (k5 : PySem.W.keepIn K (.ref f5) = true)
    (l6 : K.lookup f6 = some ⟨oc6, od6, .func (PySem.W.fnOf "is_lot" "is_lot" (defArgs s_p_is_lot) (defBody s_p_is_lot) (defScope s_p_is_lot) .none kV6 dc6 pm6 an6 cd6 ct6), sl6⟩)
    (d6 : PySem.W.codeIn K cd6 "is_lot" = true)
    (k6 : PySem.W.keepIn K (.ref f6) = true)
    (l7 : K.lookup f7 = some ⟨oc7, od7, .func (PySem.W.fnOf "is_pair" "is_pair" (defArgs s_p_is_pair) (defBody s_p_is_pair) (defScope s_p_is_pair) .none kV7 dc7 pm7 an7 cd7 ct7), sl7⟩)
    (d7 : PySem.W.codeIn K cd7 "is_pair" = true)
    (k7 : PySem.W.keepIn K (.ref f7) = true)
    (l8 : K.lookup f8 = some ⟨oc8, od8, .func (PySem.W.fnOf "is_bar" "is_bar" (defArgs s_p_is_bar) (defBody s_p_is_bar) (defScope s_p_is_bar) .none kV8 dc8 pm8 an8 cd8 ct8), sl8⟩)
    (d8 : PySem.W.codeIn K cd8 "is_bar" = true)
    (k8 : PySem.W.keepIn K (.ref f8) = true)
    (l9 : K.lookup f9 = some ⟨oc9, od9, .func (PySem.W.fnOf "check_some" "check_some" (defArgs s_p_check_some) (defBody s_p_check_some) (defScope s_p_check_some) .none kV9 dc9 pm9 an9 cd9 ct9), sl9⟩)
    (d9 : PySem.W.codeIn K cd9 "check_some" = true)
    (k9 : PySem.W.keepIn K (.ref f9) = true)
    (l10 : K.lookup f10 = some ⟨oc10, od10, .func (PySem.W.fnOf "inverse" "inverse" (defArgs s_p_inverse) (defBody s_p_inverse) (defScope s_p_inverse) .none kV10 dc10 pm10 an10 cd10 ct10), sl10⟩)
    (d10 : PySem.W.codeIn K cd10 "inverse" = true)
    (k10 : PySem.W.keepIn K (.ref f10) = true)
    (l11 : K.lookup f11 = some ⟨oc11, od11, .func (PySem.W.fnOf "joined" "joined" (defArgs s_p_joined) (defBody s_p_joined) (defScope s_p_joined) .none kV11 dc11 pm11 an11 cd11 ct11), sl11⟩)
    (d11 : PySem.W.codeIn K cd11 "joined" = true)
    (k11 : PySem.W.keepIn K (.ref f11) = true)
    (l12 : K.lookup f12 = some ⟨oc12, od12, .func (PySem.W.fnOf "classes_of" "classes_of" (defArgs s_p_classes_of) (defBody s_p_classes_of) (defScope s_p_classes_of) .none kV12 dc12 pm12 an12 cd12 ct12), sl12⟩)
    (d12 : PySem.W.codeIn K cd12 "classes_of" = true)
    (k12 : PySem.W.keepIn K (.ref f12) = true)
    (l13 : K.lookup f13 = some ⟨oc13, od13, .func (PySem.W.fnOf "check_bars" "check_bars" (defArgs s_p_check_bars) (defBody s_p_check_bars) (defScope s_p_check_bars) .none kV13 dc13 pm13 an13 cd13 ct13), sl13⟩)
    (d13 : PySem.W.codeIn K cd13 "check_bars" = true)
    (k13 : PySem.W.keepIn K (.ref f13) = true)
    (l14 : K.lookup f14 = some ⟨oc14, od14, .func (PySem.W.fnOf "whole_of" "whole_of" (defArgs s_p_whole_of) (defBody s_p_whole_of) (defScope s_p_whole_of) .none kV14 dc14 pm14 an14 cd14 ct14), sl14⟩)
    (d14 : PySem.W.codeIn K cd14 "whole_of" = true)
    (k14 : PySem.W.keepIn K (.ref f14) = true)
    (l15 : K.lookup f15 = some ⟨oc15, od15, .func (PySem.W.fnOf "check_choices" "check_choices" (defArgs s_p_check_choices) (defBody s_p_check_choices) (defScope s_p_check_choices) .none kV15 dc15 pm15 an15 cd15 ct15), sl15⟩)
    (d15 : PySem.W.codeIn K cd15 "check_choices" = true)
    (k15 : PySem.W.keepIn K (.ref f15) = true)
    (l16 : K.lookup f16 = some ⟨oc16, od16, .func (PySem.W.fnOf "share" "share" (defArgs s_p_share) (defBody s_p_share) (defScope s_p_share) .none kV16 dc16 pm16 an16 cd16 ct16), sl16⟩)
    (d16 : PySem.W.codeIn K cd16 "share" = true)
    (k16 : PySem.W.keepIn K (.ref f16) = true)
    (l17 : K.lookup f17 = some ⟨oc17, od17, .func (PySem.W.fnOf "only" "only" (defArgs s_p_only) (defBody s_p_only) (defScope s_p_only) .none kV17 dc17 pm17 an17 cd17 ct17), sl17⟩)
    (d17 : PySem.W.codeIn K cd17 "only" = true)
    (k17 : PySem.W.keepIn K (.ref f17) = true)
    (l18 : K.lookup f18 = some ⟨oc18, od18, .func (PySem.W.fnOf "others" "others" (defArgs s_p_others) (defBody s_p_others) (defScope s_p_others) .none kV18 dc18 pm18 an18 cd18 ct18), sl18⟩)
    (d18 : PySem.W.codeIn K cd18 "others" = true)
    (k18 : PySem.W.keepIn K (.ref f18) = true)
    (l19 : K.lookup f19 = some ⟨oc19, od19, .func (PySem.W.fnOf "smallest_sets" "smallest_sets" (defArgs s_p_smallest_sets) (defBody s_p_smallest_sets) (defScope s_p_smallest_sets) .none kV19 dc19 pm19 an19 cd19 ct19), sl19⟩)
    (d19 : PySem.W.codeIn K cd19 "smallest_sets" = true)
    (k19 : PySem.W.keepIn K (.ref f19) = true)
    (l20 : K.lookup f20 = some ⟨oc20, od20, .func (PySem.W.fnOf "is_enough" "is_enough" (defArgs s_p_is_enough) (defBody s_p_is_enough) (defScope s_p_is_enough) .none kV20 dc20 pm20 an20 cd20 ct20), sl20⟩)
    (d20 : PySem.W.codeIn K cd20 "is_enough" = true)
    (k20 : PySem.W.keepIn K (.ref f20) = true)
    (l21 : K.lookup f21 = some ⟨oc21, od21, .func (PySem.W.fnOf "needless" "needless" (defArgs s_p_needless) (defBody s_p_needless) (defScope s_p_needless) .none kV21 dc21 pm21 an21 cd21 ct21), sl21⟩)
    (d21 : PySem.W.codeIn K cd21 "needless" = true)
    (k21 : PySem.W.keepIn K (.ref f21) = true)
    (l22 : K.lookup f22 = some ⟨oc22, od22, .func (PySem.W.fnOf "smallest_kept" "smallest_kept" (defArgs s_p_smallest_kept) (defBody s_p_smallest_kept) (defScope s_p_smallest_kept) .none kV22 dc22 pm22 an22 cd22 ct22), sl22⟩)
    (d22 : PySem.W.codeIn K cd22 "smallest_kept" = true)
    (k22 : PySem.W.keepIn K (.ref f22) = true)
    (l23 : K.lookup f23 = some ⟨oc23, od23, .func (PySem.W.fnOf "rests" "rests" (defArgs s_p_rests) (defBody s_p_rests) (defScope s_p_rests) .none kV23 dc23 pm23 an23 cd23 ct23), sl23⟩)
    (d23 : PySem.W.codeIn K cd23 "rests" = true)
    (k23 : PySem.W.keepIn K (.ref f23) = true)
    (l24 : K.lookup f24 = some ⟨oc24, od24, .func (PySem.W.fnOf "greatest_sure" "greatest_sure" (defArgs s_p_greatest_sure) (defBody s_p_greatest_sure) (defScope s_p_greatest_sure) .none kV24 dc24 pm24 an24 cd24 ct24), sl24⟩)
    (d24 : PySem.W.codeIn K cd24 "greatest_sure" = true)
    (k24 : PySem.W.keepIn K (.ref f24) = true)
    (l25 : K.lookup f25 = some ⟨oc25, od25, .func (PySem.W.fnOf "smallest_barring" "smallest_barring" (defArgs s_p_smallest_barring) (defBody s_p_smallest_barring) (defScope s_p_smallest_barring) .none kV25 dc25 pm25 an25 cd25 ct25), sl25⟩)
    (d25 : PySem.W.codeIn K cd25 "smallest_barring" = true)
    (k25 : PySem.W.keepIn K (.ref f25) = true)
    (l26 : K.lookup f26 = some ⟨oc26, od26, .func (PySem.W.fnOf "both" "both" (defArgs s_p_both) (defBody s_p_both) (defScope s_p_both) .none kV26 dc26 pm26 an26 cd26 ct26), sl26⟩)
    (d26 : PySem.W.codeIn K cd26 "both" = true)
    (k26 : PySem.W.keepIn K (.ref f26) = true)
    (l27 : K.lookup f27 = some ⟨oc27, od27, .func (PySem.W.fnOf "keeps_to" "keeps_to" (defArgs s_p_keeps_to) (defBody s_p_keeps_to) (defScope s_p_keeps_to) .none kV27 dc27 pm27 an27 cd27 ct27), sl27⟩)
    (d27 : PySem.W.codeIn K cd27 "keeps_to" = true)
    (k27 : PySem.W.keepIn K (.ref f27) = true)
    (l28 : K.lookup f28 = some ⟨oc28, od28, .func (PySem.W.fnOf "within" "within" (defArgs s_p_within) (defBody s_p_within) (defScope s_p_within) .none kV28 dc28 pm28 an28 cd28 ct28), sl28⟩)
    (d28 : PySem.W.codeIn K cd28 "within" = true)
    (k28 : PySem.W.keepIn K (.ref f28) = true)
    (l29 : K.lookup f29 = some ⟨oc29, od29, .func (PySem.W.fnOf "alike" "alike" (defArgs s_p_alike) (defBody s_p_alike) (defScope s_p_alike) .none kV29 dc29 pm29 an29 cd29 ct29), sl29⟩)
    (d29 : PySem.W.codeIn K cd29 "alike" = true)
    (k29 : PySem.W.keepIn K (.ref f29) = true)
    (l30 : K.lookup f30 = some ⟨oc30, od30, .func (PySem.W.fnOf "distance" "distance" (defArgs s_p_distance) (defBody s_p_distance) (defScope s_p_distance) .none kV30 dc30 pm30 an30 cd30 ct30), sl30⟩)
    (d30 : PySem.W.codeIn K cd30 "distance" = true)
    (k30 : PySem.W.keepIn K (.ref f30) = true)
    (l31 : K.lookup f31 = some ⟨oc31, od31, .func (PySem.W.fnOf "as_one" "as_one" (defArgs s_p_as_one) (defBody s_p_as_one) (defScope s_p_as_one) .none kV31 dc31 pm31 an31 cd31 ct31), sl31⟩)
    (d31 : PySem.W.codeIn K cd31 "as_one" = true)
    (k31 : PySem.W.keepIn K (.ref f31) = true)
    (l32 : K.lookup f32 = some ⟨oc32, od32, .func (PySem.W.fnOf "pairs_of_rests" "pairs_of_rests" (defArgs s_p_pairs_of_rests) (defBody s_p_pairs_of_rests) (defScope s_p_pairs_of_rests) .none kV32 dc32 pm32 an32 cd32 ct32), sl32⟩)
    (d32 : PySem.W.codeIn K cd32 "pairs_of_rests" = true)
    (k32 : PySem.W.keepIn K (.ref f32) = true)
    (l33 : K.lookup f33 = some ⟨oc33, od33, .func (PySem.W.fnOf "sums" "sums" (defArgs s_p_sums) (defBody s_p_sums) (defScope s_p_sums) .none kV33 dc33 pm33 an33 cd33 ct33), sl33⟩)
    (d33 : PySem.W.codeIn K cd33 "sums" = true)
    (k33 : PySem.W.keepIn K (.ref f33) = true)
    (l34 : K.lookup f34 = some ⟨oc34, od34, .func (PySem.W.fnOf "products" "products" (defArgs s_p_products) (defBody s_p_products) (defScope s_p_products) .none kV34 dc34 pm34 an34 cd34 ct34), sl34⟩)
    (d34 : PySem.W.codeIn K cd34 "products" = true)
    (k34 : PySem.W.keepIn K (.ref f34) = true)
    (l35 : K.lookup f35 = some ⟨oc35, od35, .func (PySem.W.fnOf "classes_below" "classes_below" (defArgs s_p_classes_below) (defBody s_p_classes_below) (defScope s_p_classes_below) .none kV35 dc35 pm35 an35 cd35 ct35), sl35⟩)
    (d35 : PySem.W.codeIn K cd35 "classes_below" = true)
    (k35 : PySem.W.keepIn K (.ref f35) = true)
    (l36 : K.lookup f36 = some ⟨oc36, od36, .func (PySem.W.fnOf "place_from" "place_from" (defArgs s_p_place_from) (defBody s_p_place_from) (defScope s_p_place_from) .none kV36 dc36 pm36 an36 cd36 ct36), sl36⟩)
    (d36 : PySem.W.codeIn K cd36 "place_from" = true)
    (k36 : PySem.W.keepIn K (.ref f36) = true)
    (l37 : K.lookup f37 = some ⟨oc37, od37, .func (PySem.W.fnOf "standing_at" "standing_at" (defArgs s_p_standing_at) (defBody s_p_standing_at) (defScope s_p_standing_at) .none kV37 dc37 pm37 an37 cd37 ct37), sl37⟩)
    (d37 : PySem.W.codeIn K cd37 "standing_at" = true)
    (k37 : PySem.W.keepIn K (.ref f37) = true)
    (l38 : K.lookup f38 = some ⟨oc38, od38, .func (PySem.W.fnOf "check_stretch" "check_stretch" (defArgs s_p_check_stretch) (defBody s_p_check_stretch) (defScope s_p_check_stretch) .none kV38 dc38 pm38 an38 cd38 ct38), sl38⟩)
    (d38 : PySem.W.codeIn K cd38 "check_stretch" = true)
    (k38 : PySem.W.keepIn K (.ref f38) = true)
    (l39 : K.lookup f39 = some ⟨oc39, od39, .func (PySem.W.fnOf "count" "count" (defArgs s_p_count) (defBody s_p_count) (defScope s_p_count) .none kV39 dc39 pm39 an39 cd39 ct39), sl39⟩)
    (d39 : PySem.W.codeIn K cd39 "count" = true)
    (k39 : PySem.W.keepIn K (.ref f39) = true)
    (l40 : K.lookup f40 = some ⟨oc40, od40, .func (PySem.W.fnOf "numbered" "numbered" (defArgs s_p_numbered) (defBody s_p_numbered) (defScope s_p_numbered) .none kV40 dc40 pm40 an40 cd40 ct40), sl40⟩)
    (d40 : PySem.W.codeIn K cd40 "numbered" = true)
    (k40 : PySem.W.keepIn K (.ref f40) = true)
    (l41 : K.lookup f41 = some ⟨oc41, od41, .func (PySem.W.fnOf "steps_in_order" "steps_in_order" (defArgs s_p_steps_in_order) (defBody s_p_steps_in_order) (defScope s_p_steps_in_order) .none kV41 dc41 pm41 an41 cd41 ct41), sl41⟩)
    (d41 : PySem.W.codeIn K cd41 "steps_in_order" = true)
    (k41 : PySem.W.keepIn K (.ref f41) = true)
    (l42 : K.lookup f42 = some ⟨oc42, od42, .func (PySem.W.fnOf "steps" "steps" (defArgs s_p_steps) (defBody s_p_steps) (defScope s_p_steps) .none kV42 dc42 pm42 an42 cd42 ct42), sl42⟩)
    (d42 : PySem.W.codeIn K cd42 "steps" = true)
    (k42 : PySem.W.keepIn K (.ref f42) = true)
    (l43 : K.lookup f43 = some ⟨oc43, od43, .func (PySem.W.fnOf "longest" "longest" (defArgs s_p_longest) (defBody s_p_longest) (defScope s_p_longest) .none kV43 dc43 pm43 an43 cd43 ct43), sl43⟩)
    (d43 : PySem.W.codeIn K cd43 "longest" = true)
    (k43 : PySem.W.keepIn K (.ref f43) = true)
    (l44 : K.lookup f44 = some ⟨oc44, od44, .func (PySem.W.fnOf "longest_gap" "longest_gap" (defArgs s_p_longest_gap) (defBody s_p_longest_gap) (defScope s_p_longest_gap) .none kV44 dc44 pm44 an44 cd44 ct44), sl44⟩)
    (d44 : PySem.W.codeIn K cd44 "longest_gap" = true)
    (k44 : PySem.W.keepIn K (.ref f44) = true)
    (l45 : K.lookup f45 = some ⟨oc45, od45, .func (PySem.W.fnOf "run_from" "run_from" (defArgs s_p_run_from) (defBody s_p_run_from) (defScope s_p_run_from) .none kV45 dc45 pm45 an45 cd45 ct45), sl45⟩)
    (d45 : PySem.W.codeIn K cd45 "run_from" = true)
    (k45 : PySem.W.keepIn K (.ref f45) = true)
    (l46 : K.lookup f46 = some ⟨oc46, od46, .func (PySem.W.fnOf "longest_run" "longest_run" (defArgs s_p_longest_run) (defBody s_p_longest_run) (defScope s_p_longest_run) .none kV46 dc46 pm46 an46 cd46 ct46), sl46⟩)
    (d46 : PySem.W.codeIn K cd46 "longest_run" = true)
    (k46 : PySem.W.keepIn K (.ref f46) = true)
    (l47 : K.lookup f47 = some ⟨oc47, od47, .func (PySem.W.fnOf "check_moduli" "check_moduli" (defArgs s_p_check_moduli) (defBody s_p_check_moduli) (defScope s_p_check_moduli) .none kV47 dc47 pm47 an47 cd47 ct47), sl47⟩)
    (d47 : PySem.W.codeIn K cd47 "check_moduli" = true)
    (k47 : PySem.W.keepIn K (.ref f47) = true)
    (l48 : K.lookup f48 = some ⟨oc48, od48, .func (PySem.W.fnOf "is_sight" "is_sight" (defArgs s_p_is_sight) (defBody s_p_is_sight) (defScope s_p_is_sight) .none kV48 dc48 pm48 an48 cd48 ct48), sl48⟩)
    (d48 : PySem.W.codeIn K cd48 "is_sight" = true)
    (k48 : PySem.W.keepIn K (.ref f48) = true)
    (l49 : K.lookup f49 = some ⟨oc49, od49, .func (PySem.W.fnOf "check_seen" "check_seen" (defArgs s_p_check_seen) (defBody s_p_check_seen) (defScope s_p_check_seen) .none kV49 dc49 pm49 an49 cd49 ct49), sl49⟩)
    (d49 : PySem.W.codeIn K cd49 "check_seen" = true)
    (k49 : PySem.W.keepIn K (.ref f49) = true)
    (l50 : K.lookup f50 = some ⟨oc50, od50, .func (PySem.W.fnOf "marks_of" "marks_of" (defArgs s_p_marks_of) (defBody s_p_marks_of) (defScope s_p_marks_of) .none kV50 dc50 pm50 an50 cd50 ct50), sl50⟩)
    (d50 : PySem.W.codeIn K cd50 "marks_of" = true)
    (k50 : PySem.W.keepIn K (.ref f50) = true)
    (l51 : K.lookup f51 = some ⟨oc51, od51, .func (PySem.W.fnOf "held_marks" "held_marks" (defArgs s_p_held_marks) (defBody s_p_held_marks) (defScope s_p_held_marks) .none kV51 dc51 pm51 an51 cd51 ct51), sl51⟩)
    (d51 : PySem.W.codeIn K cd51 "held_marks" = true)
    (k51 : PySem.W.keepIn K (.ref f51) = true)
    (l52 : K.lookup f52 = some ⟨oc52, od52, .func (PySem.W.fnOf "unheld_marks" "unheld_marks" (defArgs s_p_unheld_marks) (defBody s_p_unheld_marks) (defScope s_p_unheld_marks) .none kV52 dc52 pm52 an52 cd52 ct52), sl52⟩)
    (d52 : PySem.W.codeIn K cd52 "unheld_marks" = true)
    (k52 : PySem.W.keepIn K (.ref f52) = true)
    (l53 : K.lookup f53 = some ⟨oc53, od53, .func (PySem.W.fnOf "rows_with" "rows_with" (defArgs s_p_rows_with) (defBody s_p_rows_with) (defScope s_p_rows_with) .none kV53 dc53 pm53 an53 cd53 ct53), sl53⟩)
    (d53 : PySem.W.codeIn K cd53 "rows_with" = true)
    (k53 : PySem.W.keepIn K (.ref f53) = true)
    (l54 : K.lookup f54 = some ⟨oc54, od54, .func (PySem.W.fnOf "many_lots" "many_lots" (defArgs s_p_many_lots) (defBody s_p_many_lots) (defScope s_p_many_lots) .none kV54 dc54 pm54 an54 cd54 ct54), sl54⟩)
    (d54 : PySem.W.codeIn K cd54 "many_lots" = true)
    (k54 : PySem.W.keepIn K (.ref f54) = true)
    (l55 : K.lookup f55 = some ⟨oc55, od55, .func (PySem.W.fnOf "_law_draws" "_law_draws" (defArgs s_l_draws) (defBody s_l_draws) (defScope s_l_draws) .none kV55 dc55 pm55 an55 cd55 ct55), sl55⟩)
    (d55 : PySem.W.codeIn K cd55 "_law_draws" = true)
    (k55 : PySem.W.keepIn K (.ref f55) = true)
    (l56 : K.lookup f56 = some ⟨oc56, od56, .func (PySem.W.fnOf "_law_pick" "_law_pick" (defArgs s_l_pick) (defBody s_l_pick) (defScope s_l_pick) .none kV56 dc56 pm56 an56 cd56 ct56), sl56⟩)
    (d56 : PySem.W.codeIn K cd56 "_law_pick" = true)
    (k56 : PySem.W.keepIn K (.ref f56) = true)
    (l57 : K.lookup f57 = some ⟨oc57, od57, .func (PySem.W.fnOf "_law_pair" "_law_pair" (defArgs s_l_pair) (defBody s_l_pair) (defScope s_l_pair) .none kV57 dc57 pm57 an57 cd57 ct57), sl57⟩)
    (d57 : PySem.W.codeIn K cd57 "_law_pair" = true)
    (k57 : PySem.W.keepIn K (.ref f57) = true)
    (l58 : K.lookup f58 = some ⟨oc58, od58, .func (PySem.W.fnOf "_law_odd" "_law_odd" (defArgs s_l_odd) (defBody s_l_odd) (defScope s_l_odd) .none kV58 dc58 pm58 an58 cd58 ct58), sl58⟩)
    (d58 : PySem.W.codeIn K cd58 "_law_odd" = true)
    (k58 : PySem.W.keepIn K (.ref f58) = true)
    (l59 : K.lookup f59 = some ⟨oc59, od59, .func (PySem.W.fnOf "_law_all" "_law_all" (defArgs s_l_all) (defBody s_l_all) (defScope s_l_all) .none kV59 dc59 pm59 an59 cd59 ct59), sl59⟩)
    (d59 : PySem.W.codeIn K cd59 "_law_all" = true)
    (k59 : PySem.W.keepIn K (.ref f59) = true)
    (l60 : K.lookup f60 = some ⟨oc60, od60, .func (PySem.W.fnOf "law" "law" (defArgs s_law) (defBody s_law) (defScope s_law) .none kV60 dc60 pm60 an60 cd60 ct60), sl60⟩)
    (d60 : PySem.W.codeIn K cd60 "law" = true)
    (k60 : PySem.W.keepIn K (.ref f60) = true)
    (l61 : K.lookup f61 = some ⟨oc61, od61, .func (PySem.W.fnOf "__init__" "Sieve.__init__" (defArgs s_m_Sieve_init) (defBody s_m_Sieve_init) (defScope s_m_Sieve_init) .none kV61 dc61 pm61 an61 cd61 ct61), sl61⟩)
    (d61 : PySem.W.codeIn K cd61 "Sieve.__init__" = true)
    (k61 : PySem.W.keepIn K (.ref f61) = true)
    (l62 : K.lookup f62 = some ⟨oc62, od62, .func (PySem.W.fnOf "__eq__" "Sieve.__eq__" (defArgs s_m_Sieve_eq) (defBody s_m_Sieve_eq) (defScope s_m_Sieve_eq) .none kV62 dc62 pm62 an62 cd62 ct62), sl62⟩)
    (d62 : PySem.W.codeIn K cd62 "Sieve.__eq__" = true)
    (k62 : PySem.W.keepIn K (.ref f62) = true)
    (l63 : K.lookup f63 = some ⟨oc63, od63, .func (PySem.W.fnOf "bars" "Sieve.bars" (defArgs s_m_Sieve_bars) (defBody s_m_Sieve_bars) (defScope s_m_Sieve_bars) .none kV63 dc63 pm63 an63 cd63 ct63), sl63⟩)
    (d63 : PySem.W.codeIn K cd63 "Sieve.bars" = true)
    (k63 : PySem.W.keepIn K (.ref f63) = true)
    (l64 : K.lookup f64 = some ⟨oc64, od64, .func (PySem.W.fnOf "whole" "Sieve.whole" (defArgs s_m_Sieve_whole) (defBody s_m_Sieve_whole) (defScope s_m_Sieve_whole) .none kV64 dc64 pm64 an64 cd64 ct64), sl64⟩)
    (d64 : PySem.W.codeIn K cd64 "Sieve.whole" = true)
    (k64 : PySem.W.keepIn K (.ref f64) = true)
    (l65 : K.lookup f65 = some ⟨oc65, od65, .func (PySem.W.fnOf "classes" "Sieve.classes" (defArgs s_m_Sieve_classes) (defBody s_m_Sieve_classes) (defScope s_m_Sieve_classes) .none kV65 dc65 pm65 an65 cd65 ct65), sl65⟩)
    (d65 : PySem.W.codeIn K cd65 "Sieve.classes" = true)
    (k65 : PySem.W.keepIn K (.ref f65) = true)
    (z_len : PySem.W.nsIn K mainGlobals "len" = some none)
    (z_max : PySem.W.nsIn K mainGlobals "max" = some none)
    (z_min : PySem.W.nsIn K mainGlobals "min" = some none)
    (z_sum : PySem.W.nsIn K mainGlobals "sum" = some none)
    (z_range : PySem.W.nsIn K mainGlobals "range" = some none)
    (z_int : PySem.W.nsIn K mainGlobals "int" = some none)
    (z_list : PySem.W.nsIn K mainGlobals "list" = some none)
    (z_tuple : PySem.W.nsIn K mainGlobals "tuple" = some none)
    (z_sorted : PySem.W.nsIn K mainGlobals "sorted" = some none)
    (z_isinstance : PySem.W.nsIn K mainGlobals "isinstance" = some none)
    (z_enumerate : PySem.W.nsIn K mainGlobals "enumerate" = some none)
    (z_zip : PySem.W.nsIn K mainGlobals "zip" = some none)
    (z_bool : PySem.W.nsIn K mainGlobals "bool" = some none)
    (z_divmod : PySem.W.nsIn K mainGlobals "divmod" = some none)
    (z_all : PySem.W.nsIn K mainGlobals "all" = some none)
    (g_combinations : PySem.W.nsIn K mainGlobals "combinations" = some (some (.type "itertools.combinations")))
    (g_gcd : PySem.W.nsIn K mainGlobals "gcd" = some (some (.builtin "math.gcd")))
    (g_lcm : PySem.W.nsIn K mainGlobals "lcm" = some (some (.builtin "math.lcm")))
    {t_GREATEST_NUMBER : Tok}
    (c_GREATEST_NUMBER : PySem.W.nsIn K mainGlobals "GREATEST_NUMBER" = some (some (.int 1000000000000000000000000000000 t_GREATEST_NUMBER)))
    {t_GREATEST_MODULUS : Tok}
    (c_GREATEST_MODULUS : PySem.W.nsIn K mainGlobals "GREATEST_MODULUS" = some (some (.int 1000000 t_GREATEST_MODULUS)))
    {t_MOST_RESTS : Tok}
    (c_MOST_RESTS : PySem.W.nsIn K mainGlobals "MOST_RESTS" = some (some (.int 60 t_MOST_RESTS)))
    {t_MOST_BARS : Tok}
    (c_MOST_BARS : PySem.W.nsIn K mainGlobals "MOST_BARS" = some (some (.int 6 t_MOST_BARS)))
    {t_GREATEST_WHOLE : Tok}
    (c_GREATEST_WHOLE : PySem.W.nsIn K mainGlobals "GREATEST_WHOLE" = some (some (.int 1000000000000000000000000000000 t_GREATEST_WHOLE)))
    {t_MOST_CHOICES : Tok}
    (c_MOST_CHOICES : PySem.W.nsIn K mainGlobals "MOST_CHOICES" = some (some (.int 2000 t_MOST_CHOICES)))
    {t_GREATEST_LISTED_BY : Tok}
    (c_GREATEST_LISTED_BY : PySem.W.nsIn K mainGlobals "GREATEST_LISTED_BY" = some (some (.int 1000 t_GREATEST_LISTED_BY)))
    {t_GREATEST_RECKONED_BY : Tok}
    (c_GREATEST_RECKONED_BY : PySem.W.nsIn K mainGlobals "GREATEST_RECKONED_BY" = some (some (.int 200 t_GREATEST_RECKONED_BY)))
    {t_GREATEST_INDEX : Tok}
    (c_GREATEST_INDEX : PySem.W.nsIn K mainGlobals "GREATEST_INDEX" = some (some (.int 1000000000000000000000000000000 t_GREATEST_INDEX)))
    {t_MOST_MODULI : Tok}
    (c_MOST_MODULI : PySem.W.nsIn K mainGlobals "MOST_MODULI" = some (some (.int 4 t_MOST_MODULI)))
    {t_GREATEST_TOLD_BY : Tok}
    (c_GREATEST_TOLD_BY : PySem.W.nsIn K mainGlobals "GREATEST_TOLD_BY" = some (some (.int 30 t_GREATEST_TOLD_BY)))
    {t_MOST_SEEN : Tok}
    (c_MOST_SEEN : PySem.W.nsIn K mainGlobals "MOST_SEEN" = some (some (.int 20 t_MOST_SEEN)))
    {t_MOST_UNFIT : Tok}
    (c_MOST_UNFIT : PySem.W.nsIn K mainGlobals "MOST_UNFIT" = some (some (.int 8 t_MOST_UNFIT)))
    {C_RestError : Addr}
    (g_RestError : PySem.W.nsIn K mainGlobals "RestError" = some (some (.ref C_RestError)))
    (hR : PySem.W.hasDictIn K C_RestError = true)
    (tR : PySem.W.typeIn K (.ref C_RestError) = some (.type "type"))
    {C_BadNumber : Addr}
    (g_BadNumber : PySem.W.nsIn K mainGlobals "BadNumber" = some (some (.ref C_BadNumber)))
    (x_BadNumber : PySem.W.excIn K C_BadNumber [.type "ValueError", .type "Exception", .type "BaseException", .type "object"] "ValueError.__new__" = true)
    (k_BadNumber : PySem.W.keepIn K (.ref C_BadNumber) = true)
    (b_BadNumber : PySem.W.subIn K (.ref C_BadNumber) (.type "BaseException") = some true)
    (t_BadNumber : PySem.W.typeIn K (.ref C_BadNumber) = some (.type "type"))
    (e_BadNumber : PySem.W.subIn K (.ref C_BadNumber) (.ref C_BadNumber) = some true)
    (E1_BadNumber : PySem.W.findIn K (.ref C_BadNumber) "__getattribute__" = some (some (.builtin "BaseException.__getattribute__")))
    (E2_BadNumber : PySem.W.findIn K (.ref C_BadNumber) "__getattr__" = some none)
    (E3_BadNumber : PySem.W.hasDictIn K C_BadNumber = true)
    (E4_BadNumber : PySem.W.findIn K (.ref C_BadNumber) "__class__" = some (some (.builtin "object.__class__")))
    (E5_BadNumber : PySem.W.specialIn K (.builtin "object.__class__") "__get__" = some (some (.builtin "getset_descriptor.__get__")))
    (E6_BadNumber : PySem.W.takesIn K (.builtin "object.__class__") = some true)
    (E7_BadNumber : PySem.W.mroIn K C_BadNumber (.type "object") = some true)
    (r_BadNumber : PySem.W.subIn K (.ref C_BadNumber) (.ref C_RestError) = some true)
    {C_BadStretch : Addr}
    (g_BadStretch : PySem.W.nsIn K mainGlobals "BadStretch" = some (some (.ref C_BadStretch)))
    (x_BadStretch : PySem.W.excIn K C_BadStretch [.type "ValueError", .type "Exception", .type "BaseException", .type "object"] "ValueError.__new__" = true)
    (k_BadStretch : PySem.W.keepIn K (.ref C_BadStretch) = true)
    (b_BadStretch : PySem.W.subIn K (.ref C_BadStretch) (.type "BaseException") = some true)
    (t_BadStretch : PySem.W.typeIn K (.ref C_BadStretch) = some (.type "type"))
    (e_BadStretch : PySem.W.subIn K (.ref C_BadStretch) (.ref C_BadStretch) = some true)
    (E1_BadStretch : PySem.W.findIn K (.ref C_BadStretch) "__getattribute__" = some (some (.builtin "BaseException.__getattribute__")))
    (E2_BadStretch : PySem.W.findIn K (.ref C_BadStretch) "__getattr__" = some none)
    (E3_BadStretch : PySem.W.hasDictIn K C_BadStretch = true)
    (E4_BadStretch : PySem.W.findIn K (.ref C_BadStretch) "__class__" = some (some (.builtin "object.__class__")))
    (E5_BadStretch : PySem.W.specialIn K (.builtin "object.__class__") "__get__" = some (some (.builtin "getset_descriptor.__get__")))
    (E6_BadStretch : PySem.W.takesIn K (.builtin "object.__class__") = some true)
    (E7_BadStretch : PySem.W.mroIn K C_BadStretch (.type "object") = some true)
    (r_BadStretch : PySem.W.subIn K (.ref C_BadStretch) (.ref C_RestError) = some true)
    {C_BadModulus : Addr}
    (g_BadModulus : PySem.W.nsIn K mainGlobals "BadModulus" = some (some (.ref C_BadModulus)))
    (x_BadModulus : PySem.W.excIn K C_BadModulus [.type "ValueError", .type "Exception", .type "BaseException", .type "object"] "ValueError.__new__" = true)
    (k_BadModulus : PySem.W.keepIn K (.ref C_BadModulus) = true)
    (b_BadModulus : PySem.W.subIn K (.ref C_BadModulus) (.type "BaseException") = some true)
    (t_BadModulus : PySem.W.typeIn K (.ref C_BadModulus) = some (.type "type"))
    (e_BadModulus : PySem.W.subIn K (.ref C_BadModulus) (.ref C_BadModulus) = some true)
    (E1_BadModulus : PySem.W.findIn K (.ref C_BadModulus) "__getattribute__" = some (some (.builtin "BaseException.__getattribute__")))
    (E2_BadModulus : PySem.W.findIn K (.ref C_BadModulus) "__getattr__" = some none)
    (E3_BadModulus : PySem.W.hasDictIn K C_BadModulus = true)
    (E4_BadModulus : PySem.W.findIn K (.ref C_BadModulus) "__class__" = some (some (.builtin "object.__class__")))
    (E5_BadModulus : PySem.W.specialIn K (.builtin "object.__class__") "__get__" = some (some (.builtin "getset_descriptor.__get__")))
    (E6_BadModulus : PySem.W.takesIn K (.builtin "object.__class__") = some true)
    (E7_BadModulus : PySem.W.mroIn K C_BadModulus (.type "object") = some true)
    (r_BadModulus : PySem.W.subIn K (.ref C_BadModulus) (.ref C_RestError) = some true)
    {C_TooGreat : Addr}
    (g_TooGreat : PySem.W.nsIn K mainGlobals "TooGreat" = some (some (.ref C_TooGreat)))
    (x_TooGreat : PySem.W.excIn K C_TooGreat [.type "ValueError", .type "Exception", .type "BaseException", .type "object"] "ValueError.__new__" = true)
    (k_TooGreat : PySem.W.keepIn K (.ref C_TooGreat) = true)
    (b_TooGreat : PySem.W.subIn K (.ref C_TooGreat) (.type "BaseException") = some true)
    (t_TooGreat : PySem.W.typeIn K (.ref C_TooGreat) = some (.type "type"))
    (e_TooGreat : PySem.W.subIn K (.ref C_TooGreat) (.ref C_TooGreat) = some true)
    (E1_TooGreat : PySem.W.findIn K (.ref C_TooGreat) "__getattribute__" = some (some (.builtin "BaseException.__getattribute__")))
    (E2_TooGreat : PySem.W.findIn K (.ref C_TooGreat) "__getattr__" = some none)
    (E3_TooGreat : PySem.W.hasDictIn K C_TooGreat = true)
    (E4_TooGreat : PySem.W.findIn K (.ref C_TooGreat) "__class__" = some (some (.builtin "object.__class__")))
    (E5_TooGreat : PySem.W.specialIn K (.builtin "object.__class__") "__get__" = some (some (.builtin "getset_descriptor.__get__")))
    (E6_TooGreat : PySem.W.takesIn K (.builtin "object.__class__") = some true)
    (E7_TooGreat : PySem.W.mroIn K C_TooGreat (.type "object") = some true)
    (r_TooGreat : PySem.W.subIn K (.ref C_TooGreat) (.ref C_RestError) = some true)
    {C_TooMany : Addr}
    (g_TooMany : PySem.W.nsIn K mainGlobals "TooMany" = some (some (.ref C_TooMany)))
    (x_TooMany : PySem.W.excIn K C_TooMany [.type "ValueError", .type "Exception", .type "BaseException", .type "object"] "ValueError.__new__" = true)
    (k_TooMany : PySem.W.keepIn K (.ref C_TooMany) = true)
    (b_TooMany : PySem.W.subIn K (.ref C_TooMany) (.type "BaseException") = some true)
    (t_TooMany : PySem.W.typeIn K (.ref C_TooMany) = some (.type "type"))
    (e_TooMany : PySem.W.subIn K (.ref C_TooMany) (.ref C_TooMany) = some true)
    (E1_TooMany : PySem.W.findIn K (.ref C_TooMany) "__getattribute__" = some (some (.builtin "BaseException.__getattribute__")))
    (E2_TooMany : PySem.W.findIn K (.ref C_TooMany) "__getattr__" = some none)
    (E3_TooMany : PySem.W.hasDictIn K C_TooMany = true)
    (E4_TooMany : PySem.W.findIn K (.ref C_TooMany) "__class__" = some (some (.builtin "object.__class__")))
    (E5_TooMany : PySem.W.specialIn K (.builtin "object.__class__") "__get__" = some (some (.builtin "getset_descriptor.__get__")))
    (E6_TooMany : PySem.W.takesIn K (.builtin "object.__class__") = some true)
    (E7_TooMany : PySem.W.mroIn K C_TooMany (.type "object") = some true)
    (r_TooMany : PySem.W.subIn K (.ref C_TooMany) (.ref C_RestError) = some true)
    {C_Nothing : Addr}
    (g_Nothing : PySem.W.nsIn K mainGlobals "Nothing" = some (some (.ref C_Nothing)))
    (x_Nothing : PySem.W.excIn K C_Nothing [.type "ValueError", .type "Exception", .type "BaseException", .type "object"] "ValueError.__new__" = true)
    (k_Nothing : PySem.W.keepIn K (.ref C_Nothing) = true)
    (b_Nothing : PySem.W.subIn K (.ref C_Nothing) (.type "BaseException") = some true)
    (t_Nothing : PySem.W.typeIn K (.ref C_Nothing) = some (.type "type"))
    (e_Nothing : PySem.W.subIn K (.ref C_Nothing) (.ref C_Nothing) = some true)
    (E1_Nothing : PySem.W.findIn K (.ref C_Nothing) "__getattribute__" = some (some (.builtin "BaseException.__getattribute__")))
    (E2_Nothing : PySem.W.findIn K (.ref C_Nothing) "__getattr__" = some none)
    (E3_Nothing : PySem.W.hasDictIn K C_Nothing = true)
    (E4_Nothing : PySem.W.findIn K (.ref C_Nothing) "__class__" = some (some (.builtin "object.__class__")))
    (E5_Nothing : PySem.W.specialIn K (.builtin "object.__class__") "__get__" = some (some (.builtin "getset_descriptor.__get__")))
    (E6_Nothing : PySem.W.takesIn K (.builtin "object.__class__") = some true)
    (E7_Nothing : PySem.W.mroIn K C_Nothing (.type "object") = some true)
    (r_Nothing : PySem.W.subIn K (.ref C_Nothing) (.ref C_RestError) = some true)
    (e_BadNumber_BadStretch : PySem.W.subIn K (.ref C_BadNumber) (.ref C_BadStretch) = some false)
    (e_BadNumber_BadModulus : PySem.W.subIn K (.ref C_BadNumber) (.ref C_BadModulus) = some false)
    (e_BadNumber_TooGreat : PySem.W.subIn K (.ref C_BadNumber) (.ref C_TooGreat) = some false)
    (e_BadNumber_TooMany : PySem.W.subIn K (.ref C_BadNumber) (.ref C_TooMany) = some false)
    (e_BadNumber_Nothing : PySem.W.subIn K (.ref C_BadNumber) (.ref C_Nothing) = some false)
    (e_BadStretch_BadNumber : PySem.W.subIn K (.ref C_BadStretch) (.ref C_BadNumber) = some false)
    (e_BadStretch_BadModulus : PySem.W.subIn K (.ref C_BadStretch) (.ref C_BadModulus) = some false)
    (e_BadStretch_TooGreat : PySem.W.subIn K (.ref C_BadStretch) (.ref C_TooGreat) = some false)
    (e_BadStretch_TooMany : PySem.W.subIn K (.ref C_BadStretch) (.ref C_TooMany) = some false)
    (e_BadStretch_Nothing : PySem.W.subIn K (.ref C_BadStretch) (.ref C_Nothing) = some false)
    (e_BadModulus_BadNumber : PySem.W.subIn K (.ref C_BadModulus) (.ref C_BadNumber) = some false)
    (e_BadModulus_BadStretch : PySem.W.subIn K (.ref C_BadModulus) (.ref C_BadStretch) = some false)
    (e_BadModulus_TooGreat : PySem.W.subIn K (.ref C_BadModulus) (.ref C_TooGreat) = some false)
    (e_BadModulus_TooMany : PySem.W.subIn K (.ref C_BadModulus) (.ref C_TooMany) = some false)
    (e_BadModulus_Nothing : PySem.W.subIn K (.ref C_BadModulus) (.ref C_Nothing) = some false)
    (e_TooGreat_BadNumber : PySem.W.subIn K (.ref C_TooGreat) (.ref C_BadNumber) = some false)
    (e_TooGreat_BadStretch : PySem.W.subIn K (.ref C_TooGreat) (.ref C_BadStretch) = some false)
    (e_TooGreat_BadModulus : PySem.W.subIn K (.ref C_TooGreat) (.ref C_BadModulus) = some false)
    (e_TooGreat_TooMany : PySem.W.subIn K (.ref C_TooGreat) (.ref C_TooMany) = some false)
    (e_TooGreat_Nothing : PySem.W.subIn K (.ref C_TooGreat) (.ref C_Nothing) = some false)
    (e_TooMany_BadNumber : PySem.W.subIn K (.ref C_TooMany) (.ref C_BadNumber) = some false)
    (e_TooMany_BadStretch : PySem.W.subIn K (.ref C_TooMany) (.ref C_BadStretch) = some false)
    (e_TooMany_BadModulus : PySem.W.subIn K (.ref C_TooMany) (.ref C_BadModulus) = some false)
    (e_TooMany_TooGreat : PySem.W.subIn K (.ref C_TooMany) (.ref C_TooGreat) = some false)
    (e_TooMany_Nothing : PySem.W.subIn K (.ref C_TooMany) (.ref C_Nothing) = some false)
    (e_Nothing_BadNumber : PySem.W.subIn K (.ref C_Nothing) (.ref C_BadNumber) = some false)
    (e_Nothing_BadStretch : PySem.W.subIn K (.ref C_Nothing) (.ref C_BadStretch) = some false)
    (e_Nothing_BadModulus : PySem.W.subIn K (.ref C_Nothing) (.ref C_BadModulus) = some false)
    (e_Nothing_TooGreat : PySem.W.subIn K (.ref C_Nothing) (.ref C_TooGreat) = some false)
    (e_Nothing_TooMany : PySem.W.subIn K (.ref C_Nothing) (.ref C_TooMany) = some false)
    {cc22 tt22 : Addr} {xe22 : Value} {xd22 : Option Addr} {xv22 : Array Value} {xs22 : Array (Option Value)}
    (kq22 : cd22 = Value.ref cc22)
    (kl22 : K.lookup cc22 = some ⟨xe22, xd22, .fields xv22, xs22⟩)
    (kt22 : xv22[11]? = some (.ref tt22))
    (kh22 : PySem.W.codeHdIn K cc22 tt22 = true)
    (kn22 : K.lookup tt22 = none)
    {cc25 tt25 : Addr} {xe25 : Value} {xd25 : Option Addr} {xv25 : Array Value} {xs25 : Array (Option Value)}
    (kq25 : cd25 = Value.ref cc25)
    (kl25 : K.lookup cc25 = some ⟨xe25, xd25, .fields xv25, xs25⟩)
    (kt25 : xv25[11]? = some (.ref tt25))
    (kh25 : PySem.W.codeHdIn K cc25 tt25 = true)
    (kn25 : K.lookup tt25 = none)
    {cc43 tt43 : Addr} {xe43 : Value} {xd43 : Option Addr} {xv43 : Array Value} {xs43 : Array (Option Value)}
    (kq43 : cd43 = Value.ref cc43)
    (kl43 : K.lookup cc43 = some ⟨xe43, xd43, .fields xv43, xs43⟩)
    (kt43 : xv43[11]? = some (.ref tt43))
    (kh43 : PySem.W.codeHdIn K cc43 tt43 = true)
    (kn43 : K.lookup tt43 = none)
    (dt22_25 : tt22 ≠ tt25)
    (dt22_43 : tt22 ≠ tt43)
    (dt25_43 : tt25 ≠ tt43)
    : LamX.LawAtS l w K CX0 20 63 "_law_script" mg fa h := by
  have e := hfa.symm.trans (PySem.W.mg_of X G a60)
  cases e
  have F0 := fun_mk (st := s_p_is_integer) l0 d0 k0
  have b0 := F0.binds (ps := ["value"]) fun _ _ _ _ _ _ us hl => match us, hl with | [_], _ => rfl
  have F1 := fun_mk (st := s_p_integer_within) l1 d1 k1
  have b1 := F1.binds (ps := ["value", "least", "greatest"]) fun _ _ _ _ _ _ us hl => match us, hl with | [_, _, _], _ => rfl
  have F2 := fun_mk (st := s_p_is_number) l2 d2 k2
  have b2 := F2.binds (ps := ["value"]) fun _ _ _ _ _ _ us hl => match us, hl with | [_], _ => rfl
  have F3 := fun_mk (st := s_p_check_number) l3 d3 k3
  have b3 := F3.binds (ps := ["value"]) fun _ _ _ _ _ _ us hl => match us, hl with | [_], _ => rfl
  have F4 := fun_mk (st := s_p_check_modulus) l4 d4 k4
  have b4 := F4.binds (ps := ["value", "greatest"]) fun _ _ _ _ _ _ us hl => match us, hl with | [_, _], _ => rfl
  have F5 := fun_mk (st := s_p_is_ascending) l5 d5 k5
  have b5 := F5.binds (ps := ["value", "limit"]) fun _ _ _ _ _ _ us hl => match us, hl with | [_, _], _ => rfl
  have F6 := fun_mk (st := s_p_is_lot) l6 d6 k6
  have b6 := F6.binds (ps := ["value", "modulus"]) fun _ _ _ _ _ _ us hl => match us, hl with | [_, _], _ => rfl
  have F7 := fun_mk (st := s_p_is_pair) l7 d7 k7
  have b7 := F7.binds (ps := ["value"]) fun _ _ _ _ _ _ us hl => match us, hl with | [_], _ => rfl
  have F8 := fun_mk (st := s_p_is_bar) l8 d8 k8
  have b8 := F8.binds (ps := ["value"]) fun _ _ _ _ _ _ us hl => match us, hl with | [_], _ => rfl
  have F9 := fun_mk (st := s_p_check_some) l9 d9 k9
  have b9 := F9.binds (ps := ["sieve"]) fun _ _ _ _ _ _ us hl => match us, hl with | [_], _ => rfl
  have F10 := fun_mk (st := s_p_inverse) l10 d10 k10
  have b10 := F10.binds (ps := ["number", "modulus"]) fun _ _ _ _ _ _ us hl => match us, hl with | [_, _], _ => rfl
  have F11 := fun_mk (st := s_p_joined) l11 d11 k11
  have b11 := F11.binds (ps := ["classes", "whole", "modulus", "lot"]) fun _ _ _ _ _ _ us hl => match us, hl with | [_, _, _, _], _ => rfl
  have F12 := fun_mk (st := s_p_classes_of) l12 d12 k12
  have b12 := F12.binds (ps := ["bars"]) fun _ _ _ _ _ _ us hl => match us, hl with | [_], _ => rfl
  have F13 := fun_mk (st := s_p_check_bars) l13 d13 k13
  have b13 := F13.binds (ps := ["bars"]) fun _ _ _ _ _ _ us hl => match us, hl with | [_], _ => rfl
  have F14 := fun_mk (st := s_p_whole_of) l14 d14 k14
  have b14 := F14.binds (ps := ["bars"]) fun _ _ _ _ _ _ us hl => match us, hl with | [_], _ => rfl
  have F15 := fun_mk (st := s_p_check_choices) l15 d15 k15
  have b15 := F15.binds (ps := ["bars"]) fun _ _ _ _ _ _ us hl => match us, hl with | [_], _ => rfl
  have F16 := fun_mk (st := s_p_share) l16 d16 k16
  have b16 := F16.binds (ps := ["sieve"]) fun _ _ _ _ _ _ us hl => match us, hl with | [_], _ => rfl
  have F17 := fun_mk (st := s_p_only) l17 d17 k17
  have b17 := F17.binds (ps := ["sieve", "indexes"]) fun _ _ _ _ _ _ us hl => match us, hl with | [_, _], _ => rfl
  have F18 := fun_mk (st := s_p_others) l18 d18 k18
  have b18 := F18.binds (ps := ["sieve", "indexes"]) fun _ _ _ _ _ _ us hl => match us, hl with | [_, _], _ => rfl
  have F19 := fun_mk (st := s_p_smallest_sets) l19 d19 k19
  have b19 := F19.binds (ps := ["sieve", "suits"]) fun _ _ _ _ _ _ us hl => match us, hl with | [_, _], _ => rfl
  have F20 := fun_mk (st := s_p_is_enough) l20 d20 k20
  have b20 := F20.binds (ps := ["sieve", "indexes"]) fun _ _ _ _ _ _ us hl => match us, hl with | [_, _], _ => rfl
  have F21 := fun_mk (st := s_p_needless) l21 d21 k21
  have b21 := F21.binds (ps := ["sieve"]) fun _ _ _ _ _ _ us hl => match us, hl with | [_], _ => rfl
  have F22 := fun_mk (st := s_p_smallest_kept) l22 d22 k22
  have b22 := F22.binds (ps := ["sieve"]) fun _ _ _ _ _ _ us hl => match us, hl with | [_], _ => rfl
  have F23 := fun_mk (st := s_p_rests) l23 d23 k23
  have b23 := F23.binds (ps := ["sieve", "modulus"]) fun _ _ _ _ _ _ us hl => match us, hl with | [_, _], _ => rfl
  have F24 := fun_mk (st := s_p_greatest_sure) l24 d24 k24
  have b24 := F24.binds (ps := ["sieve"]) fun _ _ _ _ _ _ us hl => match us, hl with | [_], _ => rfl
  have F25 := fun_mk (st := s_p_smallest_barring) l25 d25 k25
  have b25 := F25.binds (ps := ["sieve"]) fun _ _ _ _ _ _ us hl => match us, hl with | [_], _ => rfl
  have F26 := fun_mk (st := s_p_both) l26 d26 k26
  have b26 := F26.binds (ps := ["one", "other"]) fun _ _ _ _ _ _ us hl => match us, hl with | [_, _], _ => rfl
  have F27 := fun_mk (st := s_p_keeps_to) l27 d27 k27
  have b27 := F27.binds (ps := ["sieve", "bar"]) fun _ _ _ _ _ _ us hl => match us, hl with | [_, _], _ => rfl
  have F28 := fun_mk (st := s_p_within) l28 d28 k28
  have b28 := F28.binds (ps := ["one", "other"]) fun _ _ _ _ _ _ us hl => match us, hl with | [_, _], _ => rfl
  have F29 := fun_mk (st := s_p_alike) l29 d29 k29
  have b29 := F29.binds (ps := ["one", "other"]) fun _ _ _ _ _ _ us hl => match us, hl with | [_, _], _ => rfl
  have F30 := fun_mk (st := s_p_distance) l30 d30 k30
  have b30 := F30.binds (ps := ["one", "other"]) fun _ _ _ _ _ _ us hl => match us, hl with | [_, _], _ => rfl
  have F31 := fun_mk (st := s_p_as_one) l31 d31 k31
  have b31 := F31.binds (ps := ["sieve"]) fun _ _ _ _ _ _ us hl => match us, hl with | [_], _ => rfl
  have F32 := fun_mk (st := s_p_pairs_of_rests) l32 d32 k32
  have b32 := F32.binds (ps := ["one", "other", "modulus"]) fun _ _ _ _ _ _ us hl => match us, hl with | [_, _, _], _ => rfl
  have F33 := fun_mk (st := s_p_sums) l33 d33 k33
  have b33 := F33.binds (ps := ["one", "other", "modulus"]) fun _ _ _ _ _ _ us hl => match us, hl with | [_, _, _], _ => rfl
  have F34 := fun_mk (st := s_p_products) l34 d34 k34
  have b34 := F34.binds (ps := ["one", "other", "modulus"]) fun _ _ _ _ _ _ us hl => match us, hl with | [_, _, _], _ => rfl
  have F35 := fun_mk (st := s_p_classes_below) l35 d35 k35
  have b35 := F35.binds (ps := ["classes", "number"]) fun _ _ _ _ _ _ us hl => match us, hl with | [_, _], _ => rfl
  have F36 := fun_mk (st := s_p_place_from) l36 d36 k36
  have b36 := F36.binds (ps := ["sieve", "number"]) fun _ _ _ _ _ _ us hl => match us, hl with | [_, _], _ => rfl
  have F37 := fun_mk (st := s_p_standing_at) l37 d37 k37
  have b37 := F37.binds (ps := ["sieve", "place"]) fun _ _ _ _ _ _ us hl => match us, hl with | [_, _], _ => rfl
  have F38 := fun_mk (st := s_p_check_stretch) l38 d38 k38
  have b38 := F38.binds (ps := ["begin", "end"]) fun _ _ _ _ _ _ us hl => match us, hl with | [_, _], _ => rfl
  have F39 := fun_mk (st := s_p_count) l39 d39 k39
  have b39 := F39.binds (ps := ["sieve", "begin", "end"]) fun _ _ _ _ _ _ us hl => match us, hl with | [_, _, _], _ => rfl
  have F40 := fun_mk (st := s_p_numbered) l40 d40 k40
  have b40 := F40.binds (ps := ["sieve", "begin", "index"]) fun _ _ _ _ _ _ us hl => match us, hl with | [_, _, _], _ => rfl
  have F41 := fun_mk (st := s_p_steps_in_order) l41 d41 k41
  have b41 := F41.binds (ps := ["sieve"]) fun _ _ _ _ _ _ us hl => match us, hl with | [_], _ => rfl
  have F42 := fun_mk (st := s_p_steps) l42 d42 k42
  have b42 := F42.binds (ps := ["sieve"]) fun _ _ _ _ _ _ us hl => match us, hl with | [_], _ => rfl
  have F43 := fun_mk (st := s_p_longest) l43 d43 k43
  have b43 := F43.binds (ps := ["found"]) fun _ _ _ _ _ _ us hl => match us, hl with | [_], _ => rfl
  have F44 := fun_mk (st := s_p_longest_gap) l44 d44 k44
  have b44 := F44.binds (ps := ["sieve"]) fun _ _ _ _ _ _ us hl => match us, hl with | [_], _ => rfl
  have F45 := fun_mk (st := s_p_run_from) l45 d45 k45
  have b45 := F45.binds (ps := ["sieve", "place"]) fun _ _ _ _ _ _ us hl => match us, hl with | [_, _], _ => rfl
  have F46 := fun_mk (st := s_p_longest_run) l46 d46 k46
  have b46 := F46.binds (ps := ["sieve"]) fun _ _ _ _ _ _ us hl => match us, hl with | [_], _ => rfl
  have F47 := fun_mk (st := s_p_check_moduli) l47 d47 k47
  have b47 := F47.binds (ps := ["moduli"]) fun _ _ _ _ _ _ us hl => match us, hl with | [_], _ => rfl
  have F48 := fun_mk (st := s_p_is_sight) l48 d48 k48
  have b48 := F48.binds (ps := ["value"]) fun _ _ _ _ _ _ us hl => match us, hl with | [_], _ => rfl
  have F49 := fun_mk (st := s_p_check_seen) l49 d49 k49
  have b49 := F49.binds (ps := ["seen"]) fun _ _ _ _ _ _ us hl => match us, hl with | [_], _ => rfl
  have F50 := fun_mk (st := s_p_marks_of) l50 d50 k50
  have b50 := F50.binds (ps := ["moduli", "number"]) fun _ _ _ _ _ _ us hl => match us, hl with | [_, _], _ => rfl
  have F51 := fun_mk (st := s_p_held_marks) l51 d51 k51
  have b51 := F51.binds (ps := ["moduli", "seen"]) fun _ _ _ _ _ _ us hl => match us, hl with | [_, _], _ => rfl
  have F52 := fun_mk (st := s_p_unheld_marks) l52 d52 k52
  have b52 := F52.binds (ps := ["moduli", "seen"]) fun _ _ _ _ _ _ us hl => match us, hl with | [_, _], _ => rfl
  have F53 := fun_mk (st := s_p_rows_with) l53 d53 k53
  have b53 := F53.binds (ps := ["total", "held", "unheld"]) fun _ _ _ _ _ _ us hl => match us, hl with | [_, _, _], _ => rfl
  have F54 := fun_mk (st := s_p_many_lots) l54 d54 k54
  have b54 := F54.binds (ps := ["moduli", "seen"]) fun _ _ _ _ _ _ us hl => match us, hl with | [_, _], _ => rfl
  have F55 := fun_mk (st := s_l_draws) l55 d55 k55
  have b55 := F55.binds (ps := ["_law_script"]) fun _ _ _ _ _ _ us hl => match us, hl with | [_], _ => rfl
  have F56 := fun_mk (st := s_l_pick) l56 d56 k56
  have b56 := F56.binds (ps := ["_law_row", "_law_many"]) fun _ _ _ _ _ _ us hl => match us, hl with | [_, _], _ => rfl
  have F57 := fun_mk (st := s_l_pair) l57 d57 k57
  have b57 := F57.binds (ps := ["_law_a", "_law_b", "_law_c", "_law_d"]) fun _ _ _ _ _ _ us hl => match us, hl with | [_, _, _, _], _ => rfl
  have F58 := fun_mk (st := s_l_odd) l58 d58 k58
  have b58 := F58.binds (ps := ["_law_by"]) fun _ _ _ _ _ _ us hl => match us, hl with | [_], _ => rfl
  have F59 := fun_mk (st := s_l_all) l59 d59 k59
  have b59 := F59.binds (ps := ["_law_by"]) fun _ _ _ _ _ _ us hl => match us, hl with | [_], _ => rfl
  have F60 := fun_mk (st := s_law) l60 d60 k60
  have b60 := F60.binds (ps := ["_law_script"]) fun _ _ _ _ _ _ us hl => match us, hl with | [_], _ => rfl
  have F61 := fun_mk (st := s_m_Sieve_init) l61 d61 k61
  have b61 := F61.binds (ps := ["self", "bars"]) fun _ _ _ _ _ _ us hl => match us, hl with | [_, _], _ => rfl
  have F62 := fun_mk (st := s_m_Sieve_eq) l62 d62 k62
  have b62 := F62.binds (ps := ["self", "other"]) fun _ _ _ _ _ _ us hl => match us, hl with | [_, _], _ => rfl
  have F63 := fun_mk (st := s_m_Sieve_bars) l63 d63 k63
  have b63 := F63.binds (ps := ["self"]) fun _ _ _ _ _ _ us hl => match us, hl with | [_], _ => rfl
  have F64 := fun_mk (st := s_m_Sieve_whole) l64 d64 k64
  have b64 := F64.binds (ps := ["self"]) fun _ _ _ _ _ _ us hl => match us, hl with | [_], _ => rfl
  have F65 := fun_mk (st := s_m_Sieve_classes) l65 d65 k65
  have b65 := F65.binds (ps := ["self"]) fun _ _ _ _ _ _ us hl => match us, hl with | [_], _ => rfl
  let T : Txt K mg := {
    f_p_is_integer := _, fd_p_is_integer := _, F_p_is_integer := F0, b_p_is_integer := b0, g_p_is_integer := PySem.W.mg_of X G a0,
    f_p_integer_within := _, fd_p_integer_within := _, F_p_integer_within := F1, b_p_integer_within := b1, g_p_integer_within := PySem.W.mg_of X G a1,
    f_p_is_number := _, fd_p_is_number := _, F_p_is_number := F2, b_p_is_number := b2, g_p_is_number := PySem.W.mg_of X G a2,
    f_p_check_number := _, fd_p_check_number := _, F_p_check_number := F3, b_p_check_number := b3, g_p_check_number := PySem.W.mg_of X G a3,
    f_p_check_modulus := _, fd_p_check_modulus := _, F_p_check_modulus := F4, b_p_check_modulus := b4, g_p_check_modulus := PySem.W.mg_of X G a4,
    f_p_is_ascending := _, fd_p_is_ascending := _, F_p_is_ascending := F5, b_p_is_ascending := b5, g_p_is_ascending := PySem.W.mg_of X G a5,
    f_p_is_lot := _, fd_p_is_lot := _, F_p_is_lot := F6, b_p_is_lot := b6, g_p_is_lot := PySem.W.mg_of X G a6,
    f_p_is_pair := _, fd_p_is_pair := _, F_p_is_pair := F7, b_p_is_pair := b7, g_p_is_pair := PySem.W.mg_of X G a7,
    f_p_is_bar := _, fd_p_is_bar := _, F_p_is_bar := F8, b_p_is_bar := b8, g_p_is_bar := PySem.W.mg_of X G a8,
    f_p_check_some := _, fd_p_check_some := _, F_p_check_some := F9, b_p_check_some := b9, g_p_check_some := PySem.W.mg_of X G a9,
    f_p_inverse := _, fd_p_inverse := _, F_p_inverse := F10, b_p_inverse := b10, g_p_inverse := PySem.W.mg_of X G a10,
    f_p_joined := _, fd_p_joined := _, F_p_joined := F11, b_p_joined := b11, g_p_joined := PySem.W.mg_of X G a11,
    f_p_classes_of := _, fd_p_classes_of := _, F_p_classes_of := F12, b_p_classes_of := b12, g_p_classes_of := PySem.W.mg_of X G a12,
    f_p_check_bars := _, fd_p_check_bars := _, F_p_check_bars := F13, b_p_check_bars := b13, g_p_check_bars := PySem.W.mg_of X G a13,
    f_p_whole_of := _, fd_p_whole_of := _, F_p_whole_of := F14, b_p_whole_of := b14, g_p_whole_of := PySem.W.mg_of X G a14,
    f_p_check_choices := _, fd_p_check_choices := _, F_p_check_choices := F15, b_p_check_choices := b15, g_p_check_choices := PySem.W.mg_of X G a15,
    f_p_share := _, fd_p_share := _, F_p_share := F16, b_p_share := b16, g_p_share := PySem.W.mg_of X G a16,
    f_p_only := _, fd_p_only := _, F_p_only := F17, b_p_only := b17, g_p_only := PySem.W.mg_of X G a17,
    f_p_others := _, fd_p_others := _, F_p_others := F18, b_p_others := b18, g_p_others := PySem.W.mg_of X G a18,
    f_p_smallest_sets := _, fd_p_smallest_sets := _, F_p_smallest_sets := F19, b_p_smallest_sets := b19, g_p_smallest_sets := PySem.W.mg_of X G a19,
    f_p_is_enough := _, fd_p_is_enough := _, F_p_is_enough := F20, b_p_is_enough := b20, g_p_is_enough := PySem.W.mg_of X G a20,
    f_p_needless := _, fd_p_needless := _, F_p_needless := F21, b_p_needless := b21, g_p_needless := PySem.W.mg_of X G a21,
    f_p_smallest_kept := _, fd_p_smallest_kept := _, F_p_smallest_kept := F22, b_p_smallest_kept := b22, g_p_smallest_kept := PySem.W.mg_of X G a22, cO_p_smallest_kept := cc22, tO_p_smallest_kept := tt22, cc_p_smallest_kept := kq22, ch_p_smallest_kept := kh22,
    f_p_rests := _, fd_p_rests := _, F_p_rests := F23, b_p_rests := b23, g_p_rests := PySem.W.mg_of X G a23,
    f_p_greatest_sure := _, fd_p_greatest_sure := _, F_p_greatest_sure := F24, b_p_greatest_sure := b24, g_p_greatest_sure := PySem.W.mg_of X G a24,
    f_p_smallest_barring := _, fd_p_smallest_barring := _, F_p_smallest_barring := F25, b_p_smallest_barring := b25, g_p_smallest_barring := PySem.W.mg_of X G a25, cO_p_smallest_barring := cc25, tO_p_smallest_barring := tt25, cc_p_smallest_barring := kq25, ch_p_smallest_barring := kh25,
    f_p_both := _, fd_p_both := _, F_p_both := F26, b_p_both := b26, g_p_both := PySem.W.mg_of X G a26,
    f_p_keeps_to := _, fd_p_keeps_to := _, F_p_keeps_to := F27, b_p_keeps_to := b27, g_p_keeps_to := PySem.W.mg_of X G a27,
    f_p_within := _, fd_p_within := _, F_p_within := F28, b_p_within := b28, g_p_within := PySem.W.mg_of X G a28,
    f_p_alike := _, fd_p_alike := _, F_p_alike := F29, b_p_alike := b29, g_p_alike := PySem.W.mg_of X G a29,
    f_p_distance := _, fd_p_distance := _, F_p_distance := F30, b_p_distance := b30, g_p_distance := PySem.W.mg_of X G a30,
    f_p_as_one := _, fd_p_as_one := _, F_p_as_one := F31, b_p_as_one := b31, g_p_as_one := PySem.W.mg_of X G a31,
    f_p_pairs_of_rests := _, fd_p_pairs_of_rests := _, F_p_pairs_of_rests := F32, b_p_pairs_of_rests := b32, g_p_pairs_of_rests := PySem.W.mg_of X G a32,
    f_p_sums := _, fd_p_sums := _, F_p_sums := F33, b_p_sums := b33, g_p_sums := PySem.W.mg_of X G a33,
    f_p_products := _, fd_p_products := _, F_p_products := F34, b_p_products := b34, g_p_products := PySem.W.mg_of X G a34,
    f_p_classes_below := _, fd_p_classes_below := _, F_p_classes_below := F35, b_p_classes_below := b35, g_p_classes_below := PySem.W.mg_of X G a35,
    f_p_place_from := _, fd_p_place_from := _, F_p_place_from := F36, b_p_place_from := b36, g_p_place_from := PySem.W.mg_of X G a36,
    f_p_standing_at := _, fd_p_standing_at := _, F_p_standing_at := F37, b_p_standing_at := b37, g_p_standing_at := PySem.W.mg_of X G a37,
    f_p_check_stretch := _, fd_p_check_stretch := _, F_p_check_stretch := F38, b_p_check_stretch := b38, g_p_check_stretch := PySem.W.mg_of X G a38,
    f_p_count := _, fd_p_count := _, F_p_count := F39, b_p_count := b39, g_p_count := PySem.W.mg_of X G a39,
    f_p_numbered := _, fd_p_numbered := _, F_p_numbered := F40, b_p_numbered := b40, g_p_numbered := PySem.W.mg_of X G a40,
    f_p_steps_in_order := _, fd_p_steps_in_order := _, F_p_steps_in_order := F41, b_p_steps_in_order := b41, g_p_steps_in_order := PySem.W.mg_of X G a41,
    f_p_steps := _, fd_p_steps := _, F_p_steps := F42, b_p_steps := b42, g_p_steps := PySem.W.mg_of X G a42,
    f_p_longest := _, fd_p_longest := _, F_p_longest := F43, b_p_longest := b43, g_p_longest := PySem.W.mg_of X G a43, cO_p_longest := cc43, tO_p_longest := tt43, cc_p_longest := kq43, ch_p_longest := kh43,
    f_p_longest_gap := _, fd_p_longest_gap := _, F_p_longest_gap := F44, b_p_longest_gap := b44, g_p_longest_gap := PySem.W.mg_of X G a44,
    f_p_run_from := _, fd_p_run_from := _, F_p_run_from := F45, b_p_run_from := b45, g_p_run_from := PySem.W.mg_of X G a45,
    f_p_longest_run := _, fd_p_longest_run := _, F_p_longest_run := F46, b_p_longest_run := b46, g_p_longest_run := PySem.W.mg_of X G a46,
    f_p_check_moduli := _, fd_p_check_moduli := _, F_p_check_moduli := F47, b_p_check_moduli := b47, g_p_check_moduli := PySem.W.mg_of X G a47,
    f_p_is_sight := _, fd_p_is_sight := _, F_p_is_sight := F48, b_p_is_sight := b48, g_p_is_sight := PySem.W.mg_of X G a48,
    f_p_check_seen := _, fd_p_check_seen := _, F_p_check_seen := F49, b_p_check_seen := b49, g_p_check_seen := PySem.W.mg_of X G a49,
    f_p_marks_of := _, fd_p_marks_of := _, F_p_marks_of := F50, b_p_marks_of := b50, g_p_marks_of := PySem.W.mg_of X G a50,
    f_p_held_marks := _, fd_p_held_marks := _, F_p_held_marks := F51, b_p_held_marks := b51, g_p_held_marks := PySem.W.mg_of X G a51,
    f_p_unheld_marks := _, fd_p_unheld_marks := _, F_p_unheld_marks := F52, b_p_unheld_marks := b52, g_p_unheld_marks := PySem.W.mg_of X G a52,
    f_p_rows_with := _, fd_p_rows_with := _, F_p_rows_with := F53, b_p_rows_with := b53, g_p_rows_with := PySem.W.mg_of X G a53,
    f_p_many_lots := _, fd_p_many_lots := _, F_p_many_lots := F54, b_p_many_lots := b54, g_p_many_lots := PySem.W.mg_of X G a54,
    f_l_draws := _, fd_l_draws := _, F_l_draws := F55, b_l_draws := b55, g_l_draws := PySem.W.mg_of X G a55,
    f_l_pick := _, fd_l_pick := _, F_l_pick := F56, b_l_pick := b56, g_l_pick := PySem.W.mg_of X G a56,
    f_l_pair := _, fd_l_pair := _, F_l_pair := F57, b_l_pair := b57, g_l_pair := PySem.W.mg_of X G a57,
    f_l_odd := _, fd_l_odd := _, F_l_odd := F58, b_l_odd := b58, g_l_odd := PySem.W.mg_of X G a58,
    f_l_all := _, fd_l_all := _, F_l_all := F59, b_l_all := b59, g_l_all := PySem.W.mg_of X G a59,
    f_law := _, fd_law := _, F_law := F60, b_law := b60, g_law := PySem.W.mg_of X G a60,
    f_m_Sieve_init := _, fd_m_Sieve_init := _, F_m_Sieve_init := F61, b_m_Sieve_init := b61,
    f_m_Sieve_eq := _, fd_m_Sieve_eq := _, F_m_Sieve_eq := F62, b_m_Sieve_eq := b62,
    f_m_Sieve_bars := _, fd_m_Sieve_bars := _, F_m_Sieve_bars := F63, b_m_Sieve_bars := b63,
    f_m_Sieve_whole := _, fd_m_Sieve_whole := _, F_m_Sieve_whole := F64, b_m_Sieve_whole := b64,
    f_m_Sieve_classes := _, fd_m_Sieve_classes := _, F_m_Sieve_classes := F65, b_m_Sieve_classes := b65,
    dt_p_smallest_kept_p_smallest_barring := dt22_25,
    dt_p_smallest_kept_p_longest := dt22_43,
    dt_p_smallest_barring_p_longest := dt25_43,
    z_len := PySem.W.mg_none_of X G z_len,
    z_max := PySem.W.mg_none_of X G z_max,
    z_min := PySem.W.mg_none_of X G z_min,
    z_sum := PySem.W.mg_none_of X G z_sum,
    z_range := PySem.W.mg_none_of X G z_range,
    z_int := PySem.W.mg_none_of X G z_int,
    z_list := PySem.W.mg_none_of X G z_list,
    z_tuple := PySem.W.mg_none_of X G z_tuple,
    z_sorted := PySem.W.mg_none_of X G z_sorted,
    z_isinstance := PySem.W.mg_none_of X G z_isinstance,
    z_enumerate := PySem.W.mg_none_of X G z_enumerate,
    z_zip := PySem.W.mg_none_of X G z_zip,
    z_bool := PySem.W.mg_none_of X G z_bool,
    z_divmod := PySem.W.mg_none_of X G z_divmod,
    z_all := PySem.W.mg_none_of X G z_all,
    g_combinations := PySem.W.mg_of X G g_combinations,
    g_gcd := PySem.W.mg_of X G g_gcd,
    g_lcm := PySem.W.mg_of X G g_lcm,
    c_GREATEST_NUMBER := ⟨t_GREATEST_NUMBER, PySem.W.mg_of X G c_GREATEST_NUMBER⟩,
    c_GREATEST_MODULUS := ⟨t_GREATEST_MODULUS, PySem.W.mg_of X G c_GREATEST_MODULUS⟩,
    c_MOST_RESTS := ⟨t_MOST_RESTS, PySem.W.mg_of X G c_MOST_RESTS⟩,
    c_MOST_BARS := ⟨t_MOST_BARS, PySem.W.mg_of X G c_MOST_BARS⟩,
    c_GREATEST_WHOLE := ⟨t_GREATEST_WHOLE, PySem.W.mg_of X G c_GREATEST_WHOLE⟩,
    c_MOST_CHOICES := ⟨t_MOST_CHOICES, PySem.W.mg_of X G c_MOST_CHOICES⟩,
    c_GREATEST_LISTED_BY := ⟨t_GREATEST_LISTED_BY, PySem.W.mg_of X G c_GREATEST_LISTED_BY⟩,
    c_GREATEST_RECKONED_BY := ⟨t_GREATEST_RECKONED_BY, PySem.W.mg_of X G c_GREATEST_RECKONED_BY⟩,
    c_GREATEST_INDEX := ⟨t_GREATEST_INDEX, PySem.W.mg_of X G c_GREATEST_INDEX⟩,
    c_MOST_MODULI := ⟨t_MOST_MODULI, PySem.W.mg_of X G c_MOST_MODULI⟩,
    c_GREATEST_TOLD_BY := ⟨t_GREATEST_TOLD_BY, PySem.W.mg_of X G c_GREATEST_TOLD_BY⟩,
    c_MOST_SEEN := ⟨t_MOST_SEEN, PySem.W.mg_of X G c_MOST_SEEN⟩,
    c_MOST_UNFIT := ⟨t_MOST_UNFIT, PySem.W.mg_of X G c_MOST_UNFIT⟩,
    C := C, g_Sieve := PySem.W.mg_of X G aC, cl := ⟨pg, hd, po, sa⟩, mkC := ⟨mk, mI, iI, kc⟩, n_bars := n_bars, n_whole := n_whole, n_classes := n_classes,
    p_bars := pB, pp_bars := ⟨q1B, q2B, q3B, ⟨rB, q4B⟩⟩,
    p_whole := pW, pp_whole := ⟨q1W, q2W, q3W, ⟨rW, q4W⟩⟩,
    p_classes := pC, pp_classes := ⟨q1C, q2C, q3C, ⟨rC, q4C⟩⟩,
    C_RestError := _, g_RestError := PySem.W.mg_of X G g_RestError,
    C_BadNumber := _, g_BadNumber := PySem.W.mg_of X G g_BadNumber, x_BadNumber := x_BadNumber, k_BadNumber := k_BadNumber, b_BadNumber := b_BadNumber, t_BadNumber := t_BadNumber, e_BadNumber := PySem.W.exm_ref b_BadNumber E3_BadNumber t_BadNumber e_BadNumber, E_BadNumber := ⟨E1_BadNumber, E2_BadNumber, b_BadNumber, E3_BadNumber, E4_BadNumber, E5_BadNumber, E6_BadNumber, E7_BadNumber⟩, r_BadNumber := kit_ref hR tR r_BadNumber,
    C_BadStretch := _, g_BadStretch := PySem.W.mg_of X G g_BadStretch, x_BadStretch := x_BadStretch, k_BadStretch := k_BadStretch, b_BadStretch := b_BadStretch, t_BadStretch := t_BadStretch, e_BadStretch := PySem.W.exm_ref b_BadStretch E3_BadStretch t_BadStretch e_BadStretch, E_BadStretch := ⟨E1_BadStretch, E2_BadStretch, b_BadStretch, E3_BadStretch, E4_BadStretch, E5_BadStretch, E6_BadStretch, E7_BadStretch⟩, r_BadStretch := kit_ref hR tR r_BadStretch,
    C_BadModulus := _, g_BadModulus := PySem.W.mg_of X G g_BadModulus, x_BadModulus := x_BadModulus, k_BadModulus := k_BadModulus, b_BadModulus := b_BadModulus, t_BadModulus := t_BadModulus, e_BadModulus := PySem.W.exm_ref b_BadModulus E3_BadModulus t_BadModulus e_BadModulus, E_BadModulus := ⟨E1_BadModulus, E2_BadModulus, b_BadModulus, E3_BadModulus, E4_BadModulus, E5_BadModulus, E6_BadModulus, E7_BadModulus⟩, r_BadModulus := kit_ref hR tR r_BadModulus,
    C_TooGreat := _, g_TooGreat := PySem.W.mg_of X G g_TooGreat, x_TooGreat := x_TooGreat, k_TooGreat := k_TooGreat, b_TooGreat := b_TooGreat, t_TooGreat := t_TooGreat, e_TooGreat := PySem.W.exm_ref b_TooGreat E3_TooGreat t_TooGreat e_TooGreat, E_TooGreat := ⟨E1_TooGreat, E2_TooGreat, b_TooGreat, E3_TooGreat, E4_TooGreat, E5_TooGreat, E6_TooGreat, E7_TooGreat⟩, r_TooGreat := kit_ref hR tR r_TooGreat,
    C_TooMany := _, g_TooMany := PySem.W.mg_of X G g_TooMany, x_TooMany := x_TooMany, k_TooMany := k_TooMany, b_TooMany := b_TooMany, t_TooMany := t_TooMany, e_TooMany := PySem.W.exm_ref b_TooMany E3_TooMany t_TooMany e_TooMany, E_TooMany := ⟨E1_TooMany, E2_TooMany, b_TooMany, E3_TooMany, E4_TooMany, E5_TooMany, E6_TooMany, E7_TooMany⟩, r_TooMany := kit_ref hR tR r_TooMany,
    C_Nothing := _, g_Nothing := PySem.W.mg_of X G g_Nothing, x_Nothing := x_Nothing, k_Nothing := k_Nothing, b_Nothing := b_Nothing, t_Nothing := t_Nothing, e_Nothing := PySem.W.exm_ref b_Nothing E3_Nothing t_Nothing e_Nothing, E_Nothing := ⟨E1_Nothing, E2_Nothing, b_Nothing, E3_Nothing, E4_Nothing, E5_Nothing, E6_Nothing, E7_Nothing⟩, r_Nothing := kit_ref hR tR r_Nothing,
    e_BadNumber_BadStretch := PySem.W.exm_ref b_BadStretch E3_BadStretch t_BadStretch e_BadNumber_BadStretch,
    e_BadNumber_BadModulus := PySem.W.exm_ref b_BadModulus E3_BadModulus t_BadModulus e_BadNumber_BadModulus,
    e_BadNumber_TooGreat := PySem.W.exm_ref b_TooGreat E3_TooGreat t_TooGreat e_BadNumber_TooGreat,
    e_BadNumber_TooMany := PySem.W.exm_ref b_TooMany E3_TooMany t_TooMany e_BadNumber_TooMany,
    e_BadNumber_Nothing := PySem.W.exm_ref b_Nothing E3_Nothing t_Nothing e_BadNumber_Nothing,
    e_BadStretch_BadNumber := PySem.W.exm_ref b_BadNumber E3_BadNumber t_BadNumber e_BadStretch_BadNumber,
    e_BadStretch_BadModulus := PySem.W.exm_ref b_BadModulus E3_BadModulus t_BadModulus e_BadStretch_BadModulus,
    e_BadStretch_TooGreat := PySem.W.exm_ref b_TooGreat E3_TooGreat t_TooGreat e_BadStretch_TooGreat,
    e_BadStretch_TooMany := PySem.W.exm_ref b_TooMany E3_TooMany t_TooMany e_BadStretch_TooMany,
    e_BadStretch_Nothing := PySem.W.exm_ref b_Nothing E3_Nothing t_Nothing e_BadStretch_Nothing,
    e_BadModulus_BadNumber := PySem.W.exm_ref b_BadNumber E3_BadNumber t_BadNumber e_BadModulus_BadNumber,
    e_BadModulus_BadStretch := PySem.W.exm_ref b_BadStretch E3_BadStretch t_BadStretch e_BadModulus_BadStretch,
    e_BadModulus_TooGreat := PySem.W.exm_ref b_TooGreat E3_TooGreat t_TooGreat e_BadModulus_TooGreat,
    e_BadModulus_TooMany := PySem.W.exm_ref b_TooMany E3_TooMany t_TooMany e_BadModulus_TooMany,
    e_BadModulus_Nothing := PySem.W.exm_ref b_Nothing E3_Nothing t_Nothing e_BadModulus_Nothing,
    e_TooGreat_BadNumber := PySem.W.exm_ref b_BadNumber E3_BadNumber t_BadNumber e_TooGreat_BadNumber,
    e_TooGreat_BadStretch := PySem.W.exm_ref b_BadStretch E3_BadStretch t_BadStretch e_TooGreat_BadStretch,
    e_TooGreat_BadModulus := PySem.W.exm_ref b_BadModulus E3_BadModulus t_BadModulus e_TooGreat_BadModulus,
    e_TooGreat_TooMany := PySem.W.exm_ref b_TooMany E3_TooMany t_TooMany e_TooGreat_TooMany,
    e_TooGreat_Nothing := PySem.W.exm_ref b_Nothing E3_Nothing t_Nothing e_TooGreat_Nothing,
    e_TooMany_BadNumber := PySem.W.exm_ref b_BadNumber E3_BadNumber t_BadNumber e_TooMany_BadNumber,
    e_TooMany_BadStretch := PySem.W.exm_ref b_BadStretch E3_BadStretch t_BadStretch e_TooMany_BadStretch,
    e_TooMany_BadModulus := PySem.W.exm_ref b_BadModulus E3_BadModulus t_BadModulus e_TooMany_BadModulus,
    e_TooMany_TooGreat := PySem.W.exm_ref b_TooGreat E3_TooGreat t_TooGreat e_TooMany_TooGreat,
    e_TooMany_Nothing := PySem.W.exm_ref b_Nothing E3_Nothing t_Nothing e_TooMany_Nothing,
    e_Nothing_BadNumber := PySem.W.exm_ref b_BadNumber E3_BadNumber t_BadNumber e_Nothing_BadNumber,
    e_Nothing_BadStretch := PySem.W.exm_ref b_BadStretch E3_BadStretch t_BadStretch e_Nothing_BadStretch,
    e_Nothing_BadModulus := PySem.W.exm_ref b_BadModulus E3_BadModulus t_BadModulus e_Nothing_BadModulus,
    e_Nothing_TooGreat := PySem.W.exm_ref b_TooGreat E3_TooGreat t_TooGreat e_Nothing_TooGreat,
    e_Nothing_TooMany := PySem.W.exm_ref b_TooMany E3_TooMany t_TooMany e_Nothing_TooMany
  }
  exact ⟨PySem.W.fnOf "law" "law" (defArgs s_law) (defBody s_law) (defScope s_law) .none kV60 dc60 pm60 an60 cd60 ct60, [(cc22, tt22), (cc25, tt25), (cc43, tt43)], sp_lawT T,
    (List.forall_mem_cons.mpr ⟨own _ (List.Mem.head _) _ (PySem.W.mg_of X G a22) _ _ _ _ _ _ _ _ l22 rfl kq22 kl22 kt22, (List.forall_mem_cons.mpr ⟨own _ (List.Mem.tail _ (List.Mem.head _)) _ (PySem.W.mg_of X G a25) _ _ _ _ _ _ _ _ l25 rfl kq25 kl25 kt25, (List.forall_mem_cons.mpr ⟨own _ (List.Mem.tail _ (List.Mem.tail _ (List.Mem.head _))) _ (PySem.W.mg_of X G a43) _ _ _ _ _ _ _ _ l43 rfl kq43 kl43 kt43, (fun p h => nomatch h)⟩)⟩)⟩),
    (List.forall_mem_cons.mpr ⟨kn22, (List.forall_mem_cons.mpr ⟨kn25, (List.forall_mem_cons.mpr ⟨kn43, (fun p h => nomatch h)⟩)⟩)⟩),
    (List.forall_mem_cons.mpr ⟨PySem.W.codeHd_of_K X kh22, (List.forall_mem_cons.mpr ⟨PySem.W.codeHd_of_K X kh25, (List.forall_mem_cons.mpr ⟨PySem.W.codeHd_of_K X kh43, (fun p h => nomatch h)⟩)⟩)⟩),
    fun s v => .of_eq rfl,
    fun H a ns hl hbits hcs hS => ⟨a, ns, rfl, hS, hl, (List.forall_mem_cons.mpr ⟨LamX.TabS.nil (hcs (cc22, tt22) (List.Mem.head _)), (List.forall_mem_cons.mpr ⟨LamX.TabS.nil (hcs (cc25, tt25) (List.Mem.tail _ (List.Mem.head _))), (List.forall_mem_cons.mpr ⟨LamX.TabS.nil (hcs (cc43, tt43) (List.Mem.tail _ (List.Mem.tail _ (List.Mem.head _)))), (fun p h => nomatch h)⟩)⟩)⟩), fun _ => rfl⟩,
    fun base _ _ hTB => ok_law T ⟨hTB (cc22, tt22) (List.Mem.head _), hTB (cc25, tt25) (List.Mem.tail _ (List.Mem.head _)), hTB (cc43, tt43) (List.Mem.tail _ (List.Mem.tail _ (List.Mem.head _)))⟩⟩
end R
open PySem PySem.W PyProof.Rows
set_option maxHeartbeats 0 in
theorem PySem.Challenge.cw_restlots_k43_known_sieves_holds : PySem.Challenge.rw_restlots_k43_known_sieves.Holds := by
  w_on; o_law; k_head; (case hw => w_witness2)
  k_fill
  refine R.walk_tabs (l := PySem.Challenge.rw_restlots_k43_known_sieves) (n := 63) (k := 20) (x := "_law_script") (CX := fun _ => L2.CX0) (["smallest_kept", "smallest_barring", "longest"] : List Str) rfl (by decide) rfl ⟨rfl, by decide, by decide⟩ (by decide +kernel) (fun w h Y => by first | exact PySem.W.kIn_of Y | exact PySem.W.km_in_of Y) ?F (fun _ _ _ _ _ h => h)
  case F =>
    intro w mg fa h _ KX G hmg own
    refine' R.all_mk KX G hmg own ?a0 ?a1 ?a2 ?a3 ?a4 ?a5 ?a6 ?a7 ?a8 ?a9 ?a10 ?a11 ?a12 ?a13 ?a14 ?a15 ?a16 ?a17 ?a18 ?a19 ?a20 ?a21 ?a22 ?a23 ?a24 ?a25 ?a26 ?a27 ?a28 ?a29 ?a30 ?a31 ?a32 ?a33 ?a34 ?a35 ?a36 ?a37 ?a38 ?a39 ?a40 ?a41 ?a42 ?a43 ?a44 ?a45 ?a46 ?a47 ?a48 ?a49 ?a50 ?a51 ?a52 ?a53 ?a54 ?a55 ?a56 ?a57 ?a58 ?a59 ?a60 ?aC ?mI ?iI ?mE ?pg ?hd ?po ?sa ?mk ?kc ?n_bars ?n_whole ?n_classes ?q1B ?q2B ?q3B ?q4B ?q1W ?q2W ?q3W ?q4W ?q1C ?q2C ?q3C ?q4C ?l0 ?d0 ?k0 ?l1 ?d1 ?k1 ?l2 ?d2 ?k2 ?l3 ?d3 ?k3 ?l4 ?d4 ?k4 ?l5 ?d5 ?k5 ?l6 ?d6 ?k6 ?l7 ?d7 ?k7 ?l8 ?d8 ?k8 ?l9 ?d9 ?k9 ?l10 ?d10 ?k10 ?l11 ?d11 ?k11 ?l12 ?d12 ?k12 ?l13 ?d13 ?k13 ?l14 ?d14 ?k14 ?l15 ?d15 ?k15 ?l16 ?d16 ?k16 ?l17 ?d17 ?k17 ?l18 ?d18 ?k18 ?l19 ?d19 ?k19 ?l20 ?d20 ?k20 ?l21 ?d21 ?k21 ?l22 ?d22 ?k22 ?l23 ?d23 ?k23 ?l24 ?d24 ?k24 ?l25 ?d25 ?k25 ?l26 ?d26 ?k26 ?l27 ?d27 ?k27 ?l28 ?d28 ?k28 ?l29 ?d29 ?k29 ?l30 ?d30 ?k30 ?l31 ?d31 ?k31 ?l32 ?d32 ?k32 ?l33 ?d33 ?k33 ?l34 ?d34 ?k34 ?l35 ?d35 ?k35 ?l36 ?d36 ?k36 ?l37 ?d37 ?k37 ?l38 ?d38 ?k38 ?l39 ?d39 ?k39 ?l40 ?d40 ?k40 ?l41 ?d41 ?k41 ?l42 ?d42 ?k42 ?l43 ?d43 ?k43 ?l44 ?d44 ?k44 ?l45 ?d45 ?k45 ?l46 ?d46 ?k46 ?l47 ?d47 ?k47 ?l48 ?d48 ?k48 ?l49 ?d49 ?k49 ?l50 ?d50 ?k50 ?l51 ?d51 ?k51 ?l52 ?d52 ?k52 ?l53 ?d53 ?k53 ?l54 ?d54 ?k54 ?l55 ?d55 ?k55 ?l56 ?d56 ?k56 ?l57 ?d57 ?k57 ?l58 ?d58 ?k58 ?l59 ?d59 ?k59 ?l60 ?d60 ?k60 ?l61 ?d61 ?k61 ?l62 ?d62 ?k62 ?l63 ?d63 ?k63 ?l64 ?d64 ?k64 ?l65 ?d65 ?k65 ?z_len ?z_max ?z_min ?z_sum ?z_range ?z_int ?z_list ?z_tuple ?z_sorted ?z_isinstance ?z_enumerate ?z_zip ?z_bool ?z_divmod ?z_all ?g_combinations ?g_gcd ?g_lcm ?c_GREATEST_NUMBER ?c_GREATEST_MODULUS ?c_MOST_RESTS ?c_MOST_BARS ?c_GREATEST_WHOLE ?c_MOST_CHOICES ?c_GREATEST_LISTED_BY ?c_GREATEST_RECKONED_BY ?c_GREATEST_INDEX ?c_MOST_MODULI ?c_GREATEST_TOLD_BY ?c_MOST_SEEN ?c_MOST_UNFIT ?g_RestError ?hR ?tR ?g_BadNumber ?x_BadNumber ?k_BadNumber ?b_BadNumber ?t_BadNumber ?e_BadNumber ?E1_BadNumber ?E2_BadNumber ?E3_BadNumber ?E4_BadNumber ?E5_BadNumber ?E6_BadNumber ?E7_BadNumber ?r_BadNumber ?g_BadStretch ?x_BadStretch ?k_BadStretch ?b_BadStretch ?t_BadStretch ?e_BadStretch ?E1_BadStretch ?E2_BadStretch ?E3_BadStretch ?E4_BadStretch ?E5_BadStretch ?E6_BadStretch ?E7_BadStretch ?r_BadStretch ?g_BadModulus ?x_BadModulus ?k_BadModulus ?b_BadModulus ?t_BadModulus ?e_BadModulus ?E1_BadModulus ?E2_BadModulus ?E3_BadModulus ?E4_BadModulus ?E5_BadModulus ?E6_BadModulus ?E7_BadModulus ?r_BadModulus ?g_TooGreat ?x_TooGreat ?k_TooGreat ?b_TooGreat ?t_TooGreat ?e_TooGreat ?E1_TooGreat ?E2_TooGreat ?E3_TooGreat ?E4_TooGreat ?E5_TooGreat ?E6_TooGreat ?E7_TooGreat ?r_TooGreat ?g_TooMany ?x_TooMany ?k_TooMany ?b_TooMany ?t_TooMany ?e_TooMany ?E1_TooMany ?E2_TooMany ?E3_TooMany ?E4_TooMany ?E5_TooMany ?E6_TooMany ?E7_TooMany ?r_TooMany ?g_Nothing ?x_Nothing ?k_Nothing ?b_Nothing ?t_Nothing ?e_Nothing ?E1_Nothing ?E2_Nothing ?E3_Nothing ?E4_Nothing ?E5_Nothing ?E6_Nothing ?E7_Nothing ?r_Nothing ?e_BadNumber_BadStretch ?e_BadNumber_BadModulus ?e_BadNumber_TooGreat ?e_BadNumber_TooMany ?e_BadNumber_Nothing ?e_BadStretch_BadNumber ?e_BadStretch_BadModulus ?e_BadStretch_TooGreat ?e_BadStretch_TooMany ?e_BadStretch_Nothing ?e_BadModulus_BadNumber ?e_BadModulus_BadStretch ?e_BadModulus_TooGreat ?e_BadModulus_TooMany ?e_BadModulus_Nothing ?e_TooGreat_BadNumber ?e_TooGreat_BadStretch ?e_TooGreat_BadModulus ?e_TooGreat_TooMany ?e_TooGreat_Nothing ?e_TooMany_BadNumber ?e_TooMany_BadStretch ?e_TooMany_BadModulus ?e_TooMany_TooGreat ?e_TooMany_Nothing ?e_Nothing_BadNumber ?e_Nothing_BadStretch ?e_Nothing_BadModulus ?e_Nothing_TooGreat ?e_Nothing_TooMany ?kq22 ?kl22 ?kt22 ?kh22 ?kn22 ?kq25 ?kl25 ?kt25 ?kh25 ?kn25 ?kq43 ?kl43 ?kt43 ?kh43 ?kn43 ?dt22_25 ?dt22_43 ?dt25_43
    (case a0 => k_is)
    (case a1 => k_is)
    (case a2 => k_is)
    (case a3 => k_is)
    (case a4 => k_is)
    (case a5 => k_is)
    (case a6 => k_is)
    (case a7 => k_is)
    (case a8 => k_is)
    (case a9 => k_is)
    (case a10 => k_is)
    (case a11 => k_is)
    (case a12 => k_is)
    (case a13 => k_is)
    (case a14 => k_is)
    (case a15 => k_is)
    (case a16 => k_is)
    (case a17 => k_is)
    (case a18 => k_is)
    (case a19 => k_is)
    (case a20 => k_is)
    (case a21 => k_is)
    (case a22 => k_is)
    (case a23 => k_is)
    (case a24 => k_is)
    (case a25 => k_is)
    (case a26 => k_is)
    (case a27 => k_is)
    (case a28 => k_is)
    (case a29 => k_is)
    (case a30 => k_is)
    (case a31 => k_is)
    (case a32 => k_is)
    (case a33 => k_is)
    (case a34 => k_is)
    (case a35 => k_is)
    (case a36 => k_is)
    (case a37 => k_is)
    (case a38 => k_is)
    (case a39 => k_is)
    (case a40 => k_is)
    (case a41 => k_is)
    (case a42 => k_is)
    (case a43 => k_is)
    (case a44 => k_is)
    (case a45 => k_is)
    (case a46 => k_is)
    (case a47 => k_is)
    (case a48 => k_is)
    (case a49 => k_is)
    (case a50 => k_is)
    (case a51 => k_is)
    (case a52 => k_is)
    (case a53 => k_is)
    (case a54 => k_is)
    (case a55 => k_is)
    (case a56 => k_is)
    (case a57 => k_is)
    (case a58 => k_is)
    (case a59 => k_is)
    (case a60 => k_is)
    (case aC => k_is)
    (case mI => k_is)
    (case iI => k_is)
    (case mE => k_is)
    (case pg => k_is)
    (case hd => k_is)
    (case po => k_is)
    (case sa => k_is)
    (case mk => k_is)
    (case kc => k_is)
    (case n_bars => k_is)
    (case n_whole => k_is)
    (case n_classes => k_is)
    (case q1B => k_is)
    (case q2B => k_is)
    (case q3B => k_is)
    (case q4B => k_is)
    (case q1W => k_is)
    (case q2W => k_is)
    (case q3W => k_is)
    (case q4W => k_is)
    (case q1C => k_is)
    (case q2C => k_is)
    (case q3C => k_is)
    (case q4C => k_is)
    (case l0 => k_is)
    (case d0 => k_is)
    (case k0 => k_is)
    (case l1 => k_is)
    (case d1 => k_is)
    (case k1 => k_is)
    (case l2 => k_is)
    (case d2 => k_is)
    (case k2 => k_is)
    (case l3 => k_is)
    (case d3 => k_is)
    (case k3 => k_is)
    (case l4 => k_is)
    (case d4 => k_is)
    (case k4 => k_is)
    (case l5 => k_is)
    (case d5 => k_is)
    (case k5 => k_is)
    (case l6 => k_is)
    (case d6 => k_is)
    (case k6 => k_is)
    (case l7 => k_is)
    (case d7 => k_is)
    (case k7 => k_is)
    (case l8 => k_is)
    (case d8 => k_is)
    (case k8 => k_is)
    (case l9 => k_is)
    (case d9 => k_is)
    (case k9 => k_is)
    (case l10 => k_is)
    (case d10 => k_is)
    (case k10 => k_is)
    (case l11 => k_is)
    (case d11 => k_is)
    (case k11 => k_is)
    (case l12 => k_is)
    (case d12 => k_is)
    (case k12 => k_is)
    (case l13 => k_is)
    (case d13 => k_is)
    (case k13 => k_is)
    (case l14 => k_is)
    (case d14 => k_is)
    (case k14 => k_is)
    (case l15 => k_is)
    (case d15 => k_is)
    (case k15 => k_is)
    (case l16 => k_is)
    (case d16 => k_is)
    (case k16 => k_is)
    (case l17 => k_is)
    (case d17 => k_is)
    (case k17 => k_is)
    (case l18 => k_is)
    (case d18 => k_is)
    (case k18 => k_is)
    (case l19 => k_is)
    (case d19 => k_is)
    (case k19 => k_is)
    (case l20 => k_is)
    (case d20 => k_is)
    (case k20 => k_is)
    (case l21 => k_is)
    (case d21 => k_is)
    (case k21 => k_is)
    (case l22 => k_is)
    (case d22 => k_is)
    (case k22 => k_is)
    (case l23 => k_is)
    (case d23 => k_is)
    (case k23 => k_is)
    (case l24 => k_is)
    (case d24 => k_is)
    (case k24 => k_is)
    (case l25 => k_is)
    (case d25 => k_is)
    (case k25 => k_is)
    (case l26 => k_is)
    (case d26 => k_is)
    (case k26 => k_is)
    (case l27 => k_is)
    (case d27 => k_is)
    (case k27 => k_is)
    (case l28 => k_is)
    (case d28 => k_is)
    (case k28 => k_is)
    (case l29 => k_is)
    (case d29 => k_is)
    (case k29 => k_is)
    (case l30 => k_is)
    (case d30 => k_is)
    (case k30 => k_is)
    (case l31 => k_is)
    (case d31 => k_is)
    (case k31 => k_is)
    (case l32 => k_is)
    (case d32 => k_is)
    (case k32 => k_is)
    (case l33 => k_is)
    (case d33 => k_is)
    (case k33 => k_is)
    (case l34 => k_is)
    (case d34 => k_is)
    (case k34 => k_is)
    (case l35 => k_is)
    (case d35 => k_is)
    (case k35 => k_is)
    (case l36 => k_is)
    (case d36 => k_is)
    (case k36 => k_is)
    (case l37 => k_is)
    (case d37 => k_is)
    (case k37 => k_is)
    (case l38 => k_is)
    (case d38 => k_is)
    (case k38 => k_is)
    (case l39 => k_is)
    (case d39 => k_is)
    (case k39 => k_is)
    (case l40 => k_is)
    (case d40 => k_is)
    (case k40 => k_is)
    (case l41 => k_is)
    (case d41 => k_is)
    (case k41 => k_is)
    (case l42 => k_is)
    (case d42 => k_is)
    (case k42 => k_is)
    (case l43 => k_is)
    (case d43 => k_is)
    (case k43 => k_is)
    (case l44 => k_is)
    (case d44 => k_is)
    (case k44 => k_is)
    (case l45 => k_is)
    (case d45 => k_is)
    (case k45 => k_is)
    (case l46 => k_is)
    (case d46 => k_is)
    (case k46 => k_is)
    (case l47 => k_is)
    (case d47 => k_is)
    (case k47 => k_is)
    (case l48 => k_is)
    (case d48 => k_is)
    (case k48 => k_is)
    (case l49 => k_is)
    (case d49 => k_is)
    (case k49 => k_is)
    (case l50 => k_is)
    (case d50 => k_is)
    (case k50 => k_is)
    (case l51 => k_is)
    (case d51 => k_is)
    (case k51 => k_is)
    (case l52 => k_is)
    (case d52 => k_is)
    (case k52 => k_is)
    (case l53 => k_is)
    (case d53 => k_is)
    (case k53 => k_is)
    (case l54 => k_is)
    (case d54 => k_is)
    (case k54 => k_is)
    (case l55 => k_is)
    (case d55 => k_is)
    (case k55 => k_is)
    (case l56 => k_is)
    (case d56 => k_is)
    (case k56 => k_is)
    (case l57 => k_is)
    (case d57 => k_is)
    (case k57 => k_is)
    (case l58 => k_is)
    (case d58 => k_is)
    (case k58 => k_is)
    (case l59 => k_is)
    (case d59 => k_is)
    (case k59 => k_is)
    (case l60 => k_is)
    (case d60 => k_is)
    (case k60 => k_is)
    (case l61 => k_is)
    (case d61 => k_is)
    (case k61 => k_is)
    (case l62 => k_is)
    (case d62 => k_is)
    (case k62 => k_is)
    (case l63 => k_is)
    (case d63 => k_is)
    (case k63 => k_is)
    (case l64 => k_is)
    (case d64 => k_is)
    (case k64 => k_is)
    (case l65 => k_is)
    (case d65 => k_is)
    (case k65 => k_is)
    (case z_len => k_is)
    (case z_max => k_is)
    (case z_min => k_is)
    (case z_sum => k_is)
    (case z_range => k_is)
    (case z_int => k_is)
    (case z_list => k_is)
    (case z_tuple => k_is)
    (case z_sorted => k_is)
    (case z_isinstance => k_is)
    (case z_enumerate => k_is)
    (case z_zip => k_is)
    (case z_bool => k_is)
    (case z_divmod => k_is)
    (case z_all => k_is)
    (case g_combinations => k_is)
    (case g_gcd => k_is)
    (case g_lcm => k_is)
    (case c_GREATEST_NUMBER => k_is)
    (case c_GREATEST_MODULUS => k_is)
    (case c_MOST_RESTS => k_is)
    (case c_MOST_BARS => k_is)
    (case c_GREATEST_WHOLE => k_is)
    (case c_MOST_CHOICES => k_is)
    (case c_GREATEST_LISTED_BY => k_is)
    (case c_GREATEST_RECKONED_BY => k_is)
    (case c_GREATEST_INDEX => k_is)
    (case c_MOST_MODULI => k_is)
    (case c_GREATEST_TOLD_BY => k_is)
    (case c_MOST_SEEN => k_is)
    (case c_MOST_UNFIT => k_is)
    (case g_RestError => k_is)
    (case hR => k_is)
    (case tR => k_is)
    (case g_BadNumber => k_is)
    (case x_BadNumber => k_exc)
    (case k_BadNumber => k_is)
    (case b_BadNumber => k_is)
    (case t_BadNumber => k_is)
    (case e_BadNumber => k_is)
    (case E1_BadNumber => k_is)
    (case E2_BadNumber => k_is)
    (case E3_BadNumber => k_is)
    (case E4_BadNumber => k_is)
    (case E5_BadNumber => k_is)
    (case E6_BadNumber => k_is)
    (case E7_BadNumber => k_is)
    (case r_BadNumber => k_is)
    (case g_BadStretch => k_is)
    (case x_BadStretch => k_exc)
    (case k_BadStretch => k_is)
    (case b_BadStretch => k_is)
    (case t_BadStretch => k_is)
    (case e_BadStretch => k_is)
    (case E1_BadStretch => k_is)
    (case E2_BadStretch => k_is)
    (case E3_BadStretch => k_is)
    (case E4_BadStretch => k_is)
    (case E5_BadStretch => k_is)
    (case E6_BadStretch => k_is)
    (case E7_BadStretch => k_is)
    (case r_BadStretch => k_is)
    (case g_BadModulus => k_is)
    (case x_BadModulus => k_exc)
    (case k_BadModulus => k_is)
    (case b_BadModulus => k_is)
    (case t_BadModulus => k_is)
    (case e_BadModulus => k_is)
    (case E1_BadModulus => k_is)
    (case E2_BadModulus => k_is)
    (case E3_BadModulus => k_is)
    (case E4_BadModulus => k_is)
    (case E5_BadModulus => k_is)
    (case E6_BadModulus => k_is)
    (case E7_BadModulus => k_is)
    (case r_BadModulus => k_is)
    (case g_TooGreat => k_is)
    (case x_TooGreat => k_exc)
    (case k_TooGreat => k_is)
    (case b_TooGreat => k_is)
    (case t_TooGreat => k_is)
    (case e_TooGreat => k_is)
    (case E1_TooGreat => k_is)
    (case E2_TooGreat => k_is)
    (case E3_TooGreat => k_is)
    (case E4_TooGreat => k_is)
    (case E5_TooGreat => k_is)
    (case E6_TooGreat => k_is)
    (case E7_TooGreat => k_is)
    (case r_TooGreat => k_is)
    (case g_TooMany => k_is)
    (case x_TooMany => k_exc)
    (case k_TooMany => k_is)
    (case b_TooMany => k_is)
    (case t_TooMany => k_is)
    (case e_TooMany => k_is)
    (case E1_TooMany => k_is)
    (case E2_TooMany => k_is)
    (case E3_TooMany => k_is)
    (case E4_TooMany => k_is)
    (case E5_TooMany => k_is)
    (case E6_TooMany => k_is)
    (case E7_TooMany => k_is)
    (case r_TooMany => k_is)
    (case g_Nothing => k_is)
    (case x_Nothing => k_exc)
    (case k_Nothing => k_is)
    (case b_Nothing => k_is)
    (case t_Nothing => k_is)
    (case e_Nothing => k_is)
    (case E1_Nothing => k_is)
    (case E2_Nothing => k_is)
    (case E3_Nothing => k_is)
    (case E4_Nothing => k_is)
    (case E5_Nothing => k_is)
    (case E6_Nothing => k_is)
    (case E7_Nothing => k_is)
    (case r_Nothing => k_is)
    (case e_BadNumber_BadStretch => k_is)
    (case e_BadNumber_BadModulus => k_is)
    (case e_BadNumber_TooGreat => k_is)
    (case e_BadNumber_TooMany => k_is)
    (case e_BadNumber_Nothing => k_is)
    (case e_BadStretch_BadNumber => k_is)
    (case e_BadStretch_BadModulus => k_is)
    (case e_BadStretch_TooGreat => k_is)
    (case e_BadStretch_TooMany => k_is)
    (case e_BadStretch_Nothing => k_is)
    (case e_BadModulus_BadNumber => k_is)
    (case e_BadModulus_BadStretch => k_is)
    (case e_BadModulus_TooGreat => k_is)
    (case e_BadModulus_TooMany => k_is)
    (case e_BadModulus_Nothing => k_is)
    (case e_TooGreat_BadNumber => k_is)
    (case e_TooGreat_BadStretch => k_is)
    (case e_TooGreat_BadModulus => k_is)
    (case e_TooGreat_TooMany => k_is)
    (case e_TooGreat_Nothing => k_is)
    (case e_TooMany_BadNumber => k_is)
    (case e_TooMany_BadStretch => k_is)
    (case e_TooMany_BadModulus => k_is)
    (case e_TooMany_TooGreat => k_is)
    (case e_TooMany_Nothing => k_is)
    (case e_Nothing_BadNumber => k_is)
    (case e_Nothing_BadStretch => k_is)
    (case e_Nothing_BadModulus => k_is)
    (case e_Nothing_TooGreat => k_is)
    (case e_Nothing_TooMany => k_is)
    (case kq22 => rfl)
    (case kl22 => k_is)
    (case kt22 => rfl)
    (case kh22 => kernel_rfl)
    (case kn22 => kernel_rfl)
    (case kq25 => rfl)
    (case kl25 => k_is)
    (case kt25 => rfl)
    (case kh25 => kernel_rfl)
    (case kn25 => kernel_rfl)
    (case kq43 => rfl)
    (case kl43 => k_is)
    (case kt43 => rfl)
    (case kh43 => kernel_rfl)
    (case kn43 => kernel_rfl)
    (case dt22_25 => decide)
    (case dt22_43 => decide)
    (case dt25_43 => decide)
