import PyProof.Rows.All
import Wide.All
import OpenK.AllK
import Wide.FinOn
import HandS.ForMost
import HandS.SortInts
import HandS.TupAny
import HandS.IsInst
import HandS.Wide
import HandS.Conv
import HandS.Gcd
import HandS.Property
import HandS.Codes
import HandS.Walk
import KE.GoesMore
import KE.KMathGC
import HandS.Exc
import HandS.ExcOwn
import HandS.TryOnly
import HandS.ExcIs
import HandS.WordsExc
import HandS.WideBits
import HandS.SetFor
import HandS.Strs
import HandS.SetBool
import PyProof.LongRange
import HandS.DictComp
import HandS.Style
import HandS.NamedTupSort
import KE.GoesZip
import HandS.Zip
import HandS.SortRule
import HandS.Small
import HandS.TupMul
import HandS.SortKw
import KE.KMinKey
import PySem.Challenge.RW_restlots_k42_two_sieves_hold
set_option Elab.async false
set_option linter.all false
set_option maxRecDepth 100000
set_option maxHeartbeats 4000000
set_option exponentiation.threshold 6000
namespace R
open PySem PySem.Spec PyProof.Rows L2
/-! the text by places -/
def top (i : Nat) : Stmt := (PySem.Challenge.pw_restlots_k42_two_sieves_hold.main.body).getD i (.Pass ⟨0, 0, 0, 0⟩)
abbrev s_p_is_integer : Stmt := top 13
abbrev s_p_integer_within : Stmt := top 14
abbrev s_p_is_number : Stmt := top 15
abbrev s_p_check_number : Stmt := top 16
abbrev s_p_check_modulus : Stmt := top 17
abbrev s_p_is_ascending : Stmt := top 18
abbrev s_p_is_lot : Stmt := top 19
abbrev s_p_is_pair : Stmt := top 20
abbrev s_p_is_bar : Stmt := top 21
abbrev s_p_check_some : Stmt := top 22
abbrev s_p_inverse : Stmt := top 24
abbrev s_p_joined : Stmt := top 25
abbrev s_p_classes_of : Stmt := top 26
abbrev s_p_check_bars : Stmt := top 31
abbrev s_p_whole_of : Stmt := top 32
abbrev s_p_check_choices : Stmt := top 33
abbrev s_p_lets_through : Stmt := top 35
abbrev s_p_fits : Stmt := top 36
abbrev s_p_rests : Stmt := top 39
abbrev s_p_both : Stmt := top 41
abbrev s_p_keeps_to : Stmt := top 42
abbrev s_p_within : Stmt := top 43
abbrev s_p_alike : Stmt := top 44
abbrev s_p_first_outside : Stmt := top 45
abbrev s_p_first_unlike : Stmt := top 46
abbrev s_p_distance : Stmt := top 47
abbrev s_p_pairs_of_rests : Stmt := top 51
abbrev s_p_sums : Stmt := top 52
abbrev s_p_products : Stmt := top 53
abbrev s_p_split : Stmt := top 54
abbrev s_p_turned : Stmt := top 55
abbrev s_p_moved : Stmt := top 56
abbrev s_p_taken_from : Stmt := top 57
abbrev s_p_check_factor : Stmt := top 58
abbrev s_p_stretched : Stmt := top 59
abbrev s_p_shared_bar : Stmt := top 60
abbrev s_p_shared : Stmt := top 61
abbrev s_l_draws : Stmt := top 63
abbrev s_l_pick : Stmt := top 64
abbrev s_l_bars : Stmt := top 65
abbrev s_l_far : Stmt := top 66
abbrev s_law : Stmt := top 67
abbrev s_m_Sieve_init : Stmt := inClass (top 34) 0
abbrev s_m_Sieve_eq : Stmt := inClass (top 34) 1
abbrev s_m_Sieve_bars : Stmt := inClass (top 34) 2
abbrev s_m_Sieve_whole : Stmt := inClass (top 34) 3
abbrev s_m_Sieve_classes : Stmt := inClass (top 34) 4
theorem sc_p_is_integer : FnScope ["value"] ["value"] (defScope s_p_is_integer) := ⟨rfl, rfl, rfl, by decide +kernel, rfl, by decide +kernel, by decide +kernel⟩
theorem sc_p_integer_within : FnScope ["value", "least", "greatest"] ["value", "least", "greatest"] (defScope s_p_integer_within) := ⟨rfl, rfl, rfl, by decide +kernel, rfl, by decide +kernel, by decide +kernel⟩
theorem sc_p_is_number : FnScope ["value"] ["value"] (defScope s_p_is_number) := ⟨rfl, rfl, rfl, by decide +kernel, rfl, by decide +kernel, by decide +kernel⟩
theorem sc_p_check_number : FnScope ["value"] ["value"] (defScope s_p_check_number) := ⟨rfl, rfl, rfl, by decide +kernel, rfl, by decide +kernel, by decide +kernel⟩
theorem sc_p_check_modulus : FnScope ["value", "greatest"] ["value", "greatest"] (defScope s_p_check_modulus) := ⟨rfl, rfl, rfl, by decide +kernel, rfl, by decide +kernel, by decide +kernel⟩
theorem sc_p_is_ascending : FnScope ["value", "limit", "least", "one"] ["value", "limit"] (defScope s_p_is_ascending) := ⟨rfl, rfl, rfl, by decide +kernel, rfl, by decide +kernel, by decide +kernel⟩
theorem sc_p_is_lot : FnScope ["value", "modulus"] ["value", "modulus"] (defScope s_p_is_lot) := ⟨rfl, rfl, rfl, by decide +kernel, rfl, by decide +kernel, by decide +kernel⟩
theorem sc_p_is_pair : FnScope ["value"] ["value"] (defScope s_p_is_pair) := ⟨rfl, rfl, rfl, by decide +kernel, rfl, by decide +kernel, by decide +kernel⟩
theorem sc_p_is_bar : FnScope ["value", "modulus", "lot"] ["value"] (defScope s_p_is_bar) := ⟨rfl, rfl, rfl, by decide +kernel, rfl, by decide +kernel, by decide +kernel⟩
theorem sc_p_check_some : FnScope ["sieve"] ["sieve"] (defScope s_p_check_some) := ⟨rfl, rfl, rfl, by decide +kernel, rfl, by decide +kernel, by decide +kernel⟩
theorem sc_p_inverse : FnScope ["number", "modulus", "rest", "after", "factor", "factor_after", "many"] ["number", "modulus"] (defScope s_p_inverse) := ⟨rfl, rfl, rfl, by decide +kernel, rfl, by decide +kernel, by decide +kernel⟩
theorem sc_p_joined : FnScope ["classes", "whole", "modulus", "lot", "common", "turns", "back", "found", "known", "rest", "apart"] ["classes", "whole", "modulus", "lot"] (defScope s_p_joined) := ⟨rfl, rfl, rfl, by decide +kernel, rfl, by decide +kernel, by decide +kernel⟩
theorem sc_p_classes_of : FnScope ["bars", "whole", "classes", "modulus", "lot"] ["bars"] (defScope s_p_classes_of) := ⟨rfl, rfl, rfl, by decide +kernel, rfl, by decide +kernel, by decide +kernel⟩
theorem sc_p_check_bars : FnScope ["bars", "index", "bar"] ["bars"] (defScope s_p_check_bars) := ⟨rfl, rfl, rfl, by decide +kernel, rfl, by decide +kernel, by decide +kernel⟩
theorem sc_p_whole_of : FnScope ["bars", "whole", "modulus", "_"] ["bars"] (defScope s_p_whole_of) := ⟨rfl, rfl, rfl, by decide +kernel, rfl, by decide +kernel, by decide +kernel⟩
theorem sc_p_check_choices : FnScope ["bars", "choices", "_", "lot"] ["bars"] (defScope s_p_check_choices) := ⟨rfl, rfl, rfl, by decide +kernel, rfl, by decide +kernel, by decide +kernel⟩
theorem sc_p_lets_through : FnScope ["sieve", "number", "modulus", "lot"] ["sieve", "number"] (defScope s_p_lets_through) := ⟨rfl, rfl, rfl, by decide +kernel, rfl, by decide +kernel, by decide +kernel⟩
theorem sc_p_fits : FnScope ["sieve", "number"] ["sieve", "number"] (defScope s_p_fits) := ⟨rfl, rfl, rfl, by decide +kernel, rfl, by decide +kernel, by decide +kernel⟩
theorem sc_p_rests : FnScope ["sieve", "modulus", "common", "left", "number", "rest"] ["sieve", "modulus"] (defScope s_p_rests) := ⟨rfl, rfl, rfl, by decide +kernel, rfl, by decide +kernel, by decide +kernel⟩
theorem sc_p_both : FnScope ["one", "other", "bars"] ["one", "other"] (defScope s_p_both) := ⟨rfl, rfl, rfl, by decide +kernel, rfl, by decide +kernel, by decide +kernel⟩
theorem sc_p_keeps_to : FnScope ["sieve", "bar", "modulus", "lot", "common", "agreeing", "rest", "needed", "number"] ["sieve", "bar"] (defScope s_p_keeps_to) := ⟨rfl, rfl, rfl, by decide +kernel, rfl, by decide +kernel, by decide +kernel⟩
theorem sc_p_within : FnScope ["one", "other", "bar"] ["one", "other"] (defScope s_p_within) := ⟨rfl, rfl, rfl, by decide +kernel, rfl, by decide +kernel, by decide +kernel⟩
theorem sc_p_alike : FnScope ["one", "other"] ["one", "other"] (defScope s_p_alike) := ⟨rfl, rfl, rfl, by decide +kernel, rfl, by decide +kernel, by decide +kernel⟩
theorem sc_p_first_outside : FnScope ["one", "other", "begin", "number"] ["one", "other"] (defScope s_p_first_outside) := ⟨rfl, rfl, rfl, by decide +kernel, rfl, by decide +kernel, by decide +kernel⟩
theorem sc_p_first_unlike : FnScope ["one", "other", "found"] ["one", "other"] (defScope s_p_first_unlike) := ⟨rfl, rfl, rfl, by decide +kernel, rfl, by decide +kernel, by decide +kernel⟩
theorem sc_p_distance : FnScope ["one", "other", "common", "marks_of_one", "marks", "number", "place", "side", "after", "next_side"] ["one", "other"] (defScope s_p_distance) := ⟨rfl, rfl, rfl, by decide +kernel, rfl, by decide +kernel, by decide +kernel⟩
theorem sc_p_pairs_of_rests : FnScope ["one", "other", "modulus", "of_other", "first", "second"] ["one", "other", "modulus"] (defScope s_p_pairs_of_rests) := ⟨rfl, rfl, rfl, by decide +kernel, rfl, by decide +kernel, by decide +kernel⟩
theorem sc_p_sums : FnScope ["one", "other", "modulus", "first", "second"] ["one", "other", "modulus"] (defScope s_p_sums) := ⟨rfl, rfl, rfl, by decide +kernel, rfl, by decide +kernel, by decide +kernel⟩
theorem sc_p_products : FnScope ["one", "other", "modulus", "first", "second"] ["one", "other", "modulus"] (defScope s_p_products) := ⟨rfl, rfl, rfl, by decide +kernel, rfl, by decide +kernel, by decide +kernel⟩
theorem sc_p_split : FnScope ["one", "other", "number", "classes"] ["one", "other", "number"] (defScope s_p_split) := ⟨rfl, rfl, rfl, by decide +kernel, rfl, by decide +kernel, by decide +kernel⟩
theorem sc_p_turned : FnScope ["sieve", "sign", "by", "bars", "modulus", "lot", "rest"] ["sieve", "sign", "by"] (defScope s_p_turned) := ⟨rfl, rfl, rfl, by decide +kernel, rfl, by decide +kernel, by decide +kernel⟩
theorem sc_p_moved : FnScope ["sieve", "by"] ["sieve", "by"] (defScope s_p_moved) := ⟨rfl, rfl, rfl, by decide +kernel, rfl, by decide +kernel, by decide +kernel⟩
theorem sc_p_taken_from : FnScope ["sieve", "number"] ["sieve", "number"] (defScope s_p_taken_from) := ⟨rfl, rfl, rfl, by decide +kernel, rfl, by decide +kernel, by decide +kernel⟩
theorem sc_p_check_factor : FnScope ["value"] ["value"] (defScope s_p_check_factor) := ⟨rfl, rfl, rfl, by decide +kernel, rfl, by decide +kernel, by decide +kernel⟩
theorem sc_p_stretched : FnScope ["sieve", "by", "bars", "modulus", "lot", "rest", "_"] ["sieve", "by"] (defScope s_p_stretched) := ⟨rfl, rfl, rfl, by decide +kernel, rfl, by decide +kernel, by decide +kernel⟩
theorem sc_p_shared_bar : FnScope ["bar", "by", "modulus", "lot", "common", "smaller", "back", "rest"] ["bar", "by"] (defScope s_p_shared_bar) := ⟨rfl, rfl, rfl, by decide +kernel, rfl, by decide +kernel, by decide +kernel⟩
theorem sc_p_shared : FnScope ["sieve", "by", "bar"] ["sieve", "by"] (defScope s_p_shared) := ⟨rfl, rfl, rfl, by decide +kernel, rfl, by decide +kernel, by decide +kernel⟩
theorem sc_l_draws : FnScope ["_law_script"] ["_law_script"] (defScope s_l_draws) := ⟨rfl, rfl, rfl, by decide +kernel, rfl, by decide +kernel, by decide +kernel⟩
theorem sc_l_pick : FnScope ["_law_row", "_law_many", "_law_cell", "_law_found"] ["_law_row", "_law_many"] (defScope s_l_pick) := ⟨rfl, rfl, rfl, by decide +kernel, rfl, by decide +kernel, by decide +kernel⟩
theorem sc_l_bars : FnScope ["_law_row", "_law_most", "_law_top", "_law_found", "_law_many", "_law_k", "_law_modulus", "_law_thick", "_law_lot", "_law_rest"] ["_law_row", "_law_most", "_law_top"] (defScope s_l_bars) := ⟨rfl, rfl, rfl, by decide +kernel, rfl, by decide +kernel, by decide +kernel⟩
theorem sc_l_far : FnScope ["_law_row", "_law_wide"] ["_law_row"] (defScope s_l_far) := ⟨rfl, rfl, rfl, by decide +kernel, rfl, by decide +kernel, by decide +kernel⟩
theorem sc_law : FnScope ["_law_script", "_law_row", "_law_one", "_law_other", "_law_by", "_law_x", "_law_modulus", "_law_gap", "_law_near", "_law_less", "_law_k"] ["_law_script"] (defScope s_law) := ⟨rfl, rfl, rfl, by decide +kernel, rfl, by decide +kernel, by decide +kernel⟩
theorem sc_m_Sieve_init : FnScope ["self", "bars"] ["self", "bars"] (defScope s_m_Sieve_init) := ⟨rfl, rfl, rfl, by decide +kernel, rfl, by decide +kernel, by decide +kernel⟩
theorem sc_m_Sieve_eq : FnScope ["self", "other"] ["self", "other"] (defScope s_m_Sieve_eq) := ⟨rfl, rfl, rfl, by decide +kernel, rfl, by decide +kernel, by decide +kernel⟩
theorem sc_m_Sieve_bars : FnScope ["self"] ["self"] (defScope s_m_Sieve_bars) := ⟨rfl, rfl, rfl, by decide +kernel, rfl, by decide +kernel, by decide +kernel⟩
theorem sc_m_Sieve_whole : FnScope ["self"] ["self"] (defScope s_m_Sieve_whole) := ⟨rfl, rfl, rfl, by decide +kernel, rfl, by decide +kernel, by decide +kernel⟩
theorem sc_m_Sieve_classes : FnScope ["self"] ["self"] (defScope s_m_Sieve_classes) := ⟨rfl, rfl, rfl, by decide +kernel, rfl, by decide +kernel, by decide +kernel⟩
/-! what stands behind the top -/
structure Txt (K : PySem.W.Frag) (mg : Str → Option Value) where
  f_p_is_integer : Addr
  fd_p_is_integer : FuncData
  F_p_is_integer : Fun K "is_integer" "is_integer" s_p_is_integer f_p_is_integer fd_p_is_integer
  b_p_is_integer : Binds K fd_p_is_integer ["value"] []
  g_p_is_integer : mg "is_integer" = some (.ref f_p_is_integer)
  f_p_integer_within : Addr
  fd_p_integer_within : FuncData
  F_p_integer_within : Fun K "integer_within" "integer_within" s_p_integer_within f_p_integer_within fd_p_integer_within
  b_p_integer_within : Binds K fd_p_integer_within ["value", "least", "greatest"] []
  g_p_integer_within : mg "integer_within" = some (.ref f_p_integer_within)
  f_p_is_number : Addr
  fd_p_is_number : FuncData
  F_p_is_number : Fun K "is_number" "is_number" s_p_is_number f_p_is_number fd_p_is_number
  b_p_is_number : Binds K fd_p_is_number ["value"] []
  g_p_is_number : mg "is_number" = some (.ref f_p_is_number)
  f_p_check_number : Addr
  fd_p_check_number : FuncData
  F_p_check_number : Fun K "check_number" "check_number" s_p_check_number f_p_check_number fd_p_check_number
  b_p_check_number : Binds K fd_p_check_number ["value"] []
  g_p_check_number : mg "check_number" = some (.ref f_p_check_number)
  f_p_check_modulus : Addr
  fd_p_check_modulus : FuncData
  F_p_check_modulus : Fun K "check_modulus" "check_modulus" s_p_check_modulus f_p_check_modulus fd_p_check_modulus
  b_p_check_modulus : Binds K fd_p_check_modulus ["value", "greatest"] []
  g_p_check_modulus : mg "check_modulus" = some (.ref f_p_check_modulus)
  f_p_is_ascending : Addr
  fd_p_is_ascending : FuncData
  F_p_is_ascending : Fun K "is_ascending" "is_ascending" s_p_is_ascending f_p_is_ascending fd_p_is_ascending
  b_p_is_ascending : Binds K fd_p_is_ascending ["value", "limit"] []
  g_p_is_ascending : mg "is_ascending" = some (.ref f_p_is_ascending)
  f_p_is_lot : Addr
  fd_p_is_lot : FuncData
  F_p_is_lot : Fun K "is_lot" "is_lot" s_p_is_lot f_p_is_lot fd_p_is_lot
  b_p_is_lot : Binds K fd_p_is_lot ["value", "modulus"] []
  g_p_is_lot : mg "is_lot" = some (.ref f_p_is_lot)
  f_p_is_pair : Addr
  fd_p_is_pair : FuncData
  F_p_is_pair : Fun K "is_pair" "is_pair" s_p_is_pair f_p_is_pair fd_p_is_pair
  b_p_is_pair : Binds K fd_p_is_pair ["value"] []
  g_p_is_pair : mg "is_pair" = some (.ref f_p_is_pair)
  f_p_is_bar : Addr
  fd_p_is_bar : FuncData
  F_p_is_bar : Fun K "is_bar" "is_bar" s_p_is_bar f_p_is_bar fd_p_is_bar
  b_p_is_bar : Binds K fd_p_is_bar ["value"] []
  g_p_is_bar : mg "is_bar" = some (.ref f_p_is_bar)
  f_p_check_some : Addr
  fd_p_check_some : FuncData
  F_p_check_some : Fun K "check_some" "check_some" s_p_check_some f_p_check_some fd_p_check_some
  b_p_check_some : Binds K fd_p_check_some ["sieve"] []
  g_p_check_some : mg "check_some" = some (.ref f_p_check_some)
  f_p_inverse : Addr
  fd_p_inverse : FuncData
  F_p_inverse : Fun K "inverse" "inverse" s_p_inverse f_p_inverse fd_p_inverse
  b_p_inverse : Binds K fd_p_inverse ["number", "modulus"] []
  g_p_inverse : mg "inverse" = some (.ref f_p_inverse)
  f_p_joined : Addr
  fd_p_joined : FuncData
  F_p_joined : Fun K "joined" "joined" s_p_joined f_p_joined fd_p_joined
  b_p_joined : Binds K fd_p_joined ["classes", "whole", "modulus", "lot"] []
  g_p_joined : mg "joined" = some (.ref f_p_joined)
  f_p_classes_of : Addr
  fd_p_classes_of : FuncData
  F_p_classes_of : Fun K "classes_of" "classes_of" s_p_classes_of f_p_classes_of fd_p_classes_of
  b_p_classes_of : Binds K fd_p_classes_of ["bars"] []
  g_p_classes_of : mg "classes_of" = some (.ref f_p_classes_of)
  f_p_check_bars : Addr
  fd_p_check_bars : FuncData
  F_p_check_bars : Fun K "check_bars" "check_bars" s_p_check_bars f_p_check_bars fd_p_check_bars
  b_p_check_bars : Binds K fd_p_check_bars ["bars"] []
  g_p_check_bars : mg "check_bars" = some (.ref f_p_check_bars)
  f_p_whole_of : Addr
  fd_p_whole_of : FuncData
  F_p_whole_of : Fun K "whole_of" "whole_of" s_p_whole_of f_p_whole_of fd_p_whole_of
  b_p_whole_of : Binds K fd_p_whole_of ["bars"] []
  g_p_whole_of : mg "whole_of" = some (.ref f_p_whole_of)
  f_p_check_choices : Addr
  fd_p_check_choices : FuncData
  F_p_check_choices : Fun K "check_choices" "check_choices" s_p_check_choices f_p_check_choices fd_p_check_choices
  b_p_check_choices : Binds K fd_p_check_choices ["bars"] []
  g_p_check_choices : mg "check_choices" = some (.ref f_p_check_choices)
  f_p_lets_through : Addr
  fd_p_lets_through : FuncData
  F_p_lets_through : Fun K "lets_through" "lets_through" s_p_lets_through f_p_lets_through fd_p_lets_through
  b_p_lets_through : Binds K fd_p_lets_through ["sieve", "number"] []
  g_p_lets_through : mg "lets_through" = some (.ref f_p_lets_through)
  f_p_fits : Addr
  fd_p_fits : FuncData
  F_p_fits : Fun K "fits" "fits" s_p_fits f_p_fits fd_p_fits
  b_p_fits : Binds K fd_p_fits ["sieve", "number"] []
  g_p_fits : mg "fits" = some (.ref f_p_fits)
  f_p_rests : Addr
  fd_p_rests : FuncData
  F_p_rests : Fun K "rests" "rests" s_p_rests f_p_rests fd_p_rests
  b_p_rests : Binds K fd_p_rests ["sieve", "modulus"] []
  g_p_rests : mg "rests" = some (.ref f_p_rests)
  f_p_both : Addr
  fd_p_both : FuncData
  F_p_both : Fun K "both" "both" s_p_both f_p_both fd_p_both
  b_p_both : Binds K fd_p_both ["one", "other"] []
  g_p_both : mg "both" = some (.ref f_p_both)
  f_p_keeps_to : Addr
  fd_p_keeps_to : FuncData
  F_p_keeps_to : Fun K "keeps_to" "keeps_to" s_p_keeps_to f_p_keeps_to fd_p_keeps_to
  b_p_keeps_to : Binds K fd_p_keeps_to ["sieve", "bar"] []
  g_p_keeps_to : mg "keeps_to" = some (.ref f_p_keeps_to)
  f_p_within : Addr
  fd_p_within : FuncData
  F_p_within : Fun K "within" "within" s_p_within f_p_within fd_p_within
  b_p_within : Binds K fd_p_within ["one", "other"] []
  g_p_within : mg "within" = some (.ref f_p_within)
  f_p_alike : Addr
  fd_p_alike : FuncData
  F_p_alike : Fun K "alike" "alike" s_p_alike f_p_alike fd_p_alike
  b_p_alike : Binds K fd_p_alike ["one", "other"] []
  g_p_alike : mg "alike" = some (.ref f_p_alike)
  f_p_first_outside : Addr
  fd_p_first_outside : FuncData
  F_p_first_outside : Fun K "first_outside" "first_outside" s_p_first_outside f_p_first_outside fd_p_first_outside
  b_p_first_outside : Binds K fd_p_first_outside ["one", "other"] []
  g_p_first_outside : mg "first_outside" = some (.ref f_p_first_outside)
  f_p_first_unlike : Addr
  fd_p_first_unlike : FuncData
  F_p_first_unlike : Fun K "first_unlike" "first_unlike" s_p_first_unlike f_p_first_unlike fd_p_first_unlike
  b_p_first_unlike : Binds K fd_p_first_unlike ["one", "other"] []
  g_p_first_unlike : mg "first_unlike" = some (.ref f_p_first_unlike)
  f_p_distance : Addr
  fd_p_distance : FuncData
  F_p_distance : Fun K "distance" "distance" s_p_distance f_p_distance fd_p_distance
  b_p_distance : Binds K fd_p_distance ["one", "other"] []
  g_p_distance : mg "distance" = some (.ref f_p_distance)
  f_p_pairs_of_rests : Addr
  fd_p_pairs_of_rests : FuncData
  F_p_pairs_of_rests : Fun K "pairs_of_rests" "pairs_of_rests" s_p_pairs_of_rests f_p_pairs_of_rests fd_p_pairs_of_rests
  b_p_pairs_of_rests : Binds K fd_p_pairs_of_rests ["one", "other", "modulus"] []
  g_p_pairs_of_rests : mg "pairs_of_rests" = some (.ref f_p_pairs_of_rests)
  f_p_sums : Addr
  fd_p_sums : FuncData
  F_p_sums : Fun K "sums" "sums" s_p_sums f_p_sums fd_p_sums
  b_p_sums : Binds K fd_p_sums ["one", "other", "modulus"] []
  g_p_sums : mg "sums" = some (.ref f_p_sums)
  f_p_products : Addr
  fd_p_products : FuncData
  F_p_products : Fun K "products" "products" s_p_products f_p_products fd_p_products
  b_p_products : Binds K fd_p_products ["one", "other", "modulus"] []
  g_p_products : mg "products" = some (.ref f_p_products)
  f_p_split : Addr
  fd_p_split : FuncData
  F_p_split : Fun K "split" "split" s_p_split f_p_split fd_p_split
  b_p_split : Binds K fd_p_split ["one", "other", "number"] []
  g_p_split : mg "split" = some (.ref f_p_split)
  f_p_turned : Addr
  fd_p_turned : FuncData
  F_p_turned : Fun K "turned" "turned" s_p_turned f_p_turned fd_p_turned
  b_p_turned : Binds K fd_p_turned ["sieve", "sign", "by"] []
  g_p_turned : mg "turned" = some (.ref f_p_turned)
  f_p_moved : Addr
  fd_p_moved : FuncData
  F_p_moved : Fun K "moved" "moved" s_p_moved f_p_moved fd_p_moved
  b_p_moved : Binds K fd_p_moved ["sieve", "by"] []
  g_p_moved : mg "moved" = some (.ref f_p_moved)
  f_p_taken_from : Addr
  fd_p_taken_from : FuncData
  F_p_taken_from : Fun K "taken_from" "taken_from" s_p_taken_from f_p_taken_from fd_p_taken_from
  b_p_taken_from : Binds K fd_p_taken_from ["sieve", "number"] []
  g_p_taken_from : mg "taken_from" = some (.ref f_p_taken_from)
  f_p_check_factor : Addr
  fd_p_check_factor : FuncData
  F_p_check_factor : Fun K "check_factor" "check_factor" s_p_check_factor f_p_check_factor fd_p_check_factor
  b_p_check_factor : Binds K fd_p_check_factor ["value"] []
  g_p_check_factor : mg "check_factor" = some (.ref f_p_check_factor)
  f_p_stretched : Addr
  fd_p_stretched : FuncData
  F_p_stretched : Fun K "stretched" "stretched" s_p_stretched f_p_stretched fd_p_stretched
  b_p_stretched : Binds K fd_p_stretched ["sieve", "by"] []
  g_p_stretched : mg "stretched" = some (.ref f_p_stretched)
  f_p_shared_bar : Addr
  fd_p_shared_bar : FuncData
  F_p_shared_bar : Fun K "shared_bar" "shared_bar" s_p_shared_bar f_p_shared_bar fd_p_shared_bar
  b_p_shared_bar : Binds K fd_p_shared_bar ["bar", "by"] []
  g_p_shared_bar : mg "shared_bar" = some (.ref f_p_shared_bar)
  f_p_shared : Addr
  fd_p_shared : FuncData
  F_p_shared : Fun K "shared" "shared" s_p_shared f_p_shared fd_p_shared
  b_p_shared : Binds K fd_p_shared ["sieve", "by"] []
  g_p_shared : mg "shared" = some (.ref f_p_shared)
  f_l_draws : Addr
  fd_l_draws : FuncData
  F_l_draws : Fun K "_law_draws" "_law_draws" s_l_draws f_l_draws fd_l_draws
  b_l_draws : Binds K fd_l_draws ["_law_script"] []
  g_l_draws : mg "_law_draws" = some (.ref f_l_draws)
  f_l_pick : Addr
  fd_l_pick : FuncData
  F_l_pick : Fun K "_law_pick" "_law_pick" s_l_pick f_l_pick fd_l_pick
  b_l_pick : Binds K fd_l_pick ["_law_row", "_law_many"] []
  g_l_pick : mg "_law_pick" = some (.ref f_l_pick)
  f_l_bars : Addr
  fd_l_bars : FuncData
  F_l_bars : Fun K "_law_bars" "_law_bars" s_l_bars f_l_bars fd_l_bars
  b_l_bars : Binds K fd_l_bars ["_law_row", "_law_most", "_law_top"] []
  g_l_bars : mg "_law_bars" = some (.ref f_l_bars)
  f_l_far : Addr
  fd_l_far : FuncData
  F_l_far : Fun K "_law_far" "_law_far" s_l_far f_l_far fd_l_far
  b_l_far : Binds K fd_l_far ["_law_row"] []
  g_l_far : mg "_law_far" = some (.ref f_l_far)
  f_law : Addr
  fd_law : FuncData
  F_law : Fun K "law" "law" s_law f_law fd_law
  b_law : Binds K fd_law ["_law_script"] []
  g_law : mg "law" = some (.ref f_law)
  f_m_Sieve_init : Addr
  fd_m_Sieve_init : FuncData
  F_m_Sieve_init : Fun K "__init__" "Sieve.__init__" s_m_Sieve_init f_m_Sieve_init fd_m_Sieve_init
  b_m_Sieve_init : Binds K fd_m_Sieve_init ["self", "bars"] []
  f_m_Sieve_eq : Addr
  fd_m_Sieve_eq : FuncData
  F_m_Sieve_eq : Fun K "__eq__" "Sieve.__eq__" s_m_Sieve_eq f_m_Sieve_eq fd_m_Sieve_eq
  b_m_Sieve_eq : Binds K fd_m_Sieve_eq ["self", "other"] []
  f_m_Sieve_bars : Addr
  fd_m_Sieve_bars : FuncData
  F_m_Sieve_bars : Fun K "bars" "Sieve.bars" s_m_Sieve_bars f_m_Sieve_bars fd_m_Sieve_bars
  b_m_Sieve_bars : Binds K fd_m_Sieve_bars ["self"] []
  f_m_Sieve_whole : Addr
  fd_m_Sieve_whole : FuncData
  F_m_Sieve_whole : Fun K "whole" "Sieve.whole" s_m_Sieve_whole f_m_Sieve_whole fd_m_Sieve_whole
  b_m_Sieve_whole : Binds K fd_m_Sieve_whole ["self"] []
  f_m_Sieve_classes : Addr
  fd_m_Sieve_classes : FuncData
  F_m_Sieve_classes : Fun K "classes" "Sieve.classes" s_m_Sieve_classes f_m_Sieve_classes fd_m_Sieve_classes
  b_m_Sieve_classes : Binds K fd_m_Sieve_classes ["self"] []
  z_len : mg "len" = none
  z_max : mg "max" = none
  z_min : mg "min" = none
  z_range : mg "range" = none
  z_int : mg "int" = none
  z_list : mg "list" = none
  z_tuple : mg "tuple" = none
  z_sorted : mg "sorted" = none
  z_isinstance : mg "isinstance" = none
  z_enumerate : mg "enumerate" = none
  z_zip : mg "zip" = none
  z_bool : mg "bool" = none
  z_all : mg "all" = none
  g_gcd : mg "gcd" = some (.builtin "math.gcd")
  g_lcm : mg "lcm" = some (.builtin "math.lcm")
  c_GREATEST_NUMBER : ∃ t, mg "GREATEST_NUMBER" = some (.int 1000000000000000000000000000000 t)
  c_GREATEST_MODULUS : ∃ t, mg "GREATEST_MODULUS" = some (.int 1000000 t)
  c_MOST_RESTS : ∃ t, mg "MOST_RESTS" = some (.int 60 t)
  c_MOST_BARS : ∃ t, mg "MOST_BARS" = some (.int 6 t)
  c_GREATEST_WHOLE : ∃ t, mg "GREATEST_WHOLE" = some (.int 1000000000000000000000000000000 t)
  c_MOST_CHOICES : ∃ t, mg "MOST_CHOICES" = some (.int 2000 t)
  c_GREATEST_LISTED_BY : ∃ t, mg "GREATEST_LISTED_BY" = some (.int 1000 t)
  c_GREATEST_RECKONED_BY : ∃ t, mg "GREATEST_RECKONED_BY" = some (.int 200 t)
  c_GREATEST_FACTOR : ∃ t, mg "GREATEST_FACTOR" = some (.int 1000 t)
  C : Addr
  g_Sieve : mg "Sieve" = some (.ref C)
  cl : Cls K C
  mkC : Mk K C f_m_Sieve_init
  n_bars : NoAttr K C "_bars"
  n_whole : NoAttr K C "_whole"
  n_classes : NoAttr K C "_classes"
  p_bars : Addr
  pp_bars : PropOf K C "bars" p_bars f_m_Sieve_bars
  p_whole : Addr
  pp_whole : PropOf K C "whole" p_whole f_m_Sieve_whole
  p_classes : Addr
  pp_classes : PropOf K C "classes" p_classes f_m_Sieve_classes
  C_RestError : Addr
  g_RestError : mg "RestError" = some (.ref C_RestError)
  C_BadNumber : Addr
  g_BadNumber : mg "BadNumber" = some (.ref C_BadNumber)
  x_BadNumber : PySem.W.excIn K C_BadNumber [.type "ValueError", .type "Exception", .type "BaseException", .type "object"] "ValueError.__new__" = true
  k_BadNumber : PySem.W.keepIn K (.ref C_BadNumber) = true
  b_BadNumber : PySem.W.subIn K (.ref C_BadNumber) (.type "BaseException") = some true
  t_BadNumber : PySem.W.typeIn K (.ref C_BadNumber) = some (.type "type")
  e_BadNumber : PySem.W.exmOne K (.ref C_BadNumber) (.ref C_BadNumber) = some true
  E_BadNumber : ExcC K C_BadNumber
  r_BadNumber : PySem.W.kitOne K (.ref C_BadNumber) (.ref C_RestError) = some true
  C_BadModulus : Addr
  g_BadModulus : mg "BadModulus" = some (.ref C_BadModulus)
  x_BadModulus : PySem.W.excIn K C_BadModulus [.type "ValueError", .type "Exception", .type "BaseException", .type "object"] "ValueError.__new__" = true
  k_BadModulus : PySem.W.keepIn K (.ref C_BadModulus) = true
  b_BadModulus : PySem.W.subIn K (.ref C_BadModulus) (.type "BaseException") = some true
  t_BadModulus : PySem.W.typeIn K (.ref C_BadModulus) = some (.type "type")
  e_BadModulus : PySem.W.exmOne K (.ref C_BadModulus) (.ref C_BadModulus) = some true
  E_BadModulus : ExcC K C_BadModulus
  r_BadModulus : PySem.W.kitOne K (.ref C_BadModulus) (.ref C_RestError) = some true
  C_TooGreat : Addr
  g_TooGreat : mg "TooGreat" = some (.ref C_TooGreat)
  x_TooGreat : PySem.W.excIn K C_TooGreat [.type "ValueError", .type "Exception", .type "BaseException", .type "object"] "ValueError.__new__" = true
  k_TooGreat : PySem.W.keepIn K (.ref C_TooGreat) = true
  b_TooGreat : PySem.W.subIn K (.ref C_TooGreat) (.type "BaseException") = some true
  t_TooGreat : PySem.W.typeIn K (.ref C_TooGreat) = some (.type "type")
  e_TooGreat : PySem.W.exmOne K (.ref C_TooGreat) (.ref C_TooGreat) = some true
  E_TooGreat : ExcC K C_TooGreat
  r_TooGreat : PySem.W.kitOne K (.ref C_TooGreat) (.ref C_RestError) = some true
  C_TooMany : Addr
  g_TooMany : mg "TooMany" = some (.ref C_TooMany)
  x_TooMany : PySem.W.excIn K C_TooMany [.type "ValueError", .type "Exception", .type "BaseException", .type "object"] "ValueError.__new__" = true
  k_TooMany : PySem.W.keepIn K (.ref C_TooMany) = true
  b_TooMany : PySem.W.subIn K (.ref C_TooMany) (.type "BaseException") = some true
  t_TooMany : PySem.W.typeIn K (.ref C_TooMany) = some (.type "type")
  e_TooMany : PySem.W.exmOne K (.ref C_TooMany) (.ref C_TooMany) = some true
  E_TooMany : ExcC K C_TooMany
  r_TooMany : PySem.W.kitOne K (.ref C_TooMany) (.ref C_RestError) = some true
  C_Nothing : Addr
  g_Nothing : mg "Nothing" = some (.ref C_Nothing)
  x_Nothing : PySem.W.excIn K C_Nothing [.type "ValueError", .type "Exception", .type "BaseException", .type "object"] "ValueError.__new__" = true
  k_Nothing : PySem.W.keepIn K (.ref C_Nothing) = true
  b_Nothing : PySem.W.subIn K (.ref C_Nothing) (.type "BaseException") = some true
  t_Nothing : PySem.W.typeIn K (.ref C_Nothing) = some (.type "type")
  e_Nothing : PySem.W.exmOne K (.ref C_Nothing) (.ref C_Nothing) = some true
  E_Nothing : ExcC K C_Nothing
  r_Nothing : PySem.W.kitOne K (.ref C_Nothing) (.ref C_RestError) = some true
  e_BadNumber_BadModulus : PySem.W.exmOne K (.ref C_BadNumber) (.ref C_BadModulus) = some false
  e_BadNumber_TooGreat : PySem.W.exmOne K (.ref C_BadNumber) (.ref C_TooGreat) = some false
  e_BadNumber_TooMany : PySem.W.exmOne K (.ref C_BadNumber) (.ref C_TooMany) = some false
  e_BadNumber_Nothing : PySem.W.exmOne K (.ref C_BadNumber) (.ref C_Nothing) = some false
  e_BadModulus_BadNumber : PySem.W.exmOne K (.ref C_BadModulus) (.ref C_BadNumber) = some false
  e_BadModulus_TooGreat : PySem.W.exmOne K (.ref C_BadModulus) (.ref C_TooGreat) = some false
  e_BadModulus_TooMany : PySem.W.exmOne K (.ref C_BadModulus) (.ref C_TooMany) = some false
  e_BadModulus_Nothing : PySem.W.exmOne K (.ref C_BadModulus) (.ref C_Nothing) = some false
  e_TooGreat_BadNumber : PySem.W.exmOne K (.ref C_TooGreat) (.ref C_BadNumber) = some false
  e_TooGreat_BadModulus : PySem.W.exmOne K (.ref C_TooGreat) (.ref C_BadModulus) = some false
  e_TooGreat_TooMany : PySem.W.exmOne K (.ref C_TooGreat) (.ref C_TooMany) = some false
  e_TooGreat_Nothing : PySem.W.exmOne K (.ref C_TooGreat) (.ref C_Nothing) = some false
  e_TooMany_BadNumber : PySem.W.exmOne K (.ref C_TooMany) (.ref C_BadNumber) = some false
  e_TooMany_BadModulus : PySem.W.exmOne K (.ref C_TooMany) (.ref C_BadModulus) = some false
  e_TooMany_TooGreat : PySem.W.exmOne K (.ref C_TooMany) (.ref C_TooGreat) = some false
  e_TooMany_Nothing : PySem.W.exmOne K (.ref C_TooMany) (.ref C_Nothing) = some false
  e_Nothing_BadNumber : PySem.W.exmOne K (.ref C_Nothing) (.ref C_BadNumber) = some false
  e_Nothing_BadModulus : PySem.W.exmOne K (.ref C_Nothing) (.ref C_BadModulus) = some false
  e_Nothing_TooGreat : PySem.W.exmOne K (.ref C_Nothing) (.ref C_TooGreat) = some false
  e_Nothing_TooMany : PySem.W.exmOne K (.ref C_Nothing) (.ref C_TooMany) = some false
  eqS : PySem.W.findIn K (.ref C) "__eq__" = some (some (.ref f_m_Sieve_eq))
  eqF : PySem.W.isFn K (.ref f_m_Sieve_eq) = true
  neS : PySem.W.findIn K (.ref C) "__ne__" = some (some (.builtin "object.__ne__"))
  moC : PySem.W.mroIn K C (.type "object") = some true
  kt1 : PySem.W.findIn K (.ref C) "__class__" = some (some (.builtin "object.__class__"))
  kt2 : PySem.W.specialIn K (.builtin "object.__class__") "__get__" = some (some (.builtin "getset_descriptor.__get__"))
  kt3 : PySem.W.takesIn K (.builtin "object.__class__") = some true
  suS : PySem.W.subIn K (.type "str") (.ref C) = some false
  isC : PySem.W.kitOne K (.ref C) (.ref C) = some true
  noC : ∀ t : String, PySem.W.subIn K (.type t) (.ref C) = some false → PySem.W.kitOne K (.type t) (.ref C) = some false
end R
namespace R
open PySem PySem.Spec PyProof.Rows L2
/-! ## heaps: what stays -/
/-- every object but the one at r is as it was -/
def Kp (r : Addr) (H H' : Hp) : Prop := ∀ b o, b ≠ r → H b = some o → H' b = some o
theorem Kp.refl (r : Addr) (H : Hp) : Kp r H H := fun _ _ _ h => h
theorem Kp.trans {r : Addr} {H H1 H2 : Hp} (a : Kp r H H1) (b : Kp r H1 H2) : Kp r H H2 := fun c o n h => b c o n (a c o n h)
theorem Kp.of {r : Addr} {H H' : Hp} (s : Same H H') : Kp r H H' := fun b o _ h => s b o h
theorem Kp.at_ {r : Addr} {H : Hp} {o : HO} : Kp r H (upd H r o) := fun b u n h => by rw [upd_ne n]; exact h
theorem Kp.new {r p : Addr} {H : Hp} {o : HO} (h : H p = none) : Kp r H (upd H p o) := fun b u _ e => by rw [upd_ne (ne_of_none e h)]; exact e
theorem Kp.add {r p : Addr} {H H' : Hp} {o : HO} (s : Kp r H H') (h : H p = none) : Kp r H (upd H' p o) := fun b u n e => by rw [upd_ne (ne_of_none e h)]; exact s b u n e
/-- an address that is free stays no matter of the frame: what the frame keeps is not there -/
theorem Kp.none {r p : Addr} {H H' : Hp} (s : Kp r H H') (hp : p ≠ r) (h : H' p = Option.none) : H p = Option.none := by
  cases q : H p with
  | none => rfl
  | some o => rw [s p o hp q] at h; cases h
theorem Kp.rd {r a : Addr} {H H' : Hp} {u : HO} (s : Kp r H H') (n : a ≠ r) (h : Rd H a u) : Rd H' a u := by
  rcases h with h | ⟨o, h⟩
  · exact .inl (s _ _ n h)
  · exact .inr ⟨o, s _ _ n h⟩
theorem Kp.seqT {K : PySem.W.Frag} {r a : Addr} {H H' : Hp} {xs zs : List V} (s : Kp r H H') (hr : H r = some (.lst zs)) (h : SqT K H a xs) : SqT K H' a xs := by
  rcases h with h | h
  · refine .inl (s.rd ?_ h)
    rintro rfl
    rcases h with h | ⟨o, h⟩
    · rw [hr] at h; cases h
    · rw [hr] at h; cases h
  · exact .inr h
theorem Kp.seqL {K : PySem.W.Frag} {r a : Addr} {H H' : Hp} {xs : List V} (s : Kp r H H') (n : a ≠ r) (h : SqL K H a xs) : SqL K H' a xs := by
  rcases h with h | h
  · exact .inl (s.rd n h)
  · exact .inr h
theorem same_upd {H : Hp} {p : Addr} {o : HO} (h : H p = none) : Same H (upd H p o) := fun b x e => by
  rw [upd_ne (ne_of_none e h)]; exact e
theorem Same.seqTT {K : PySem.W.Frag} {H H' : Hp} {a : Addr} {xs : List V} (e : Same H H') (h : SqT K H a xs) : SqT K H' a xs := by
  rcases h with (h | ⟨o, h⟩) | h
  · exact .inl (.inl (e _ _ h))
  · exact .inl (.inr ⟨o, e _ _ h⟩)
  · exact .inr h
theorem tupOf {K : PySem.W.Frag} {H : Hp} {a : Addr} {xs : List V} (h : H a = some (.tup xs)) : SqT K H a xs := .inl (.inl h)
theorem lstOf {K : PySem.W.Frag} {H : Hp} {a : Addr} {xs : List V} (h : H a = some (.lst xs)) : SqL K H a xs := .inl (.inl h)
theorem getMapInt {ns : List Int} {i : Nat} (h : i < ns.length) : (ns.map V.int)[i]? = some (.int ns[i]) := by
  rw [List.getElem?_map, List.getElem?_eq_getElem h]; rfl
theorem getMapInt' {ns : List Int} {i : Nat} {x : V} (h : (ns.map V.int)[i]? = some x) : ∃ n, ns[i]? = some n ∧ x = .int n := by
  rw [List.getElem?_map] at h
  cases e : ns[i]? with
  | none => rw [e] at h; cases h
  | some n => rw [e] at h; exact ⟨n, rfl, (Option.some.inj h).symm⟩
theorem flatInts (ns : List Int) : (ns.map V.int).all flatV = true := by
  rw [List.all_eq_true]
  intro x hx
  obtain ⟨n, _, rfl⟩ := List.mem_map.mp hx
  rfl
theorem sizeOk {n : Nat} (h : n ≤ 100000) : n ≤ sizeLine := Nat.le_trans h (by decide)
theorem sizeLt {n : Nat} (h : n ≤ 100000) : n < sizeLine := Nat.lt_of_le_of_lt h (by decide)

/-- len by its wish, told over the written part alone -/
def rLenK (K : PySem.W.Frag) : List V → Hp → VK → Prop := fun xs H Q => ∃ p ys, xs = [.ref p] ∧ (SqL K H p ys ∨ SqT K H p ys) ∧ Q (.int ys.length) H
/-! ## bars -/
abbrev Bar := Int × List Int
/-- a lot: ascending rests by m -/
structure LotOk (m : Int) (l : List Int) : Prop where
  up : l.Pairwise (· < ·)
  ge : ∀ r ∈ l, 0 ≤ r
  lt : ∀ r ∈ l, r < m
  few : l.length ≤ 60
structure BarOk (b : Bar) : Prop where
  pos : 1 ≤ b.1
  most : b.1 ≤ 1000000
  lot : LotOk b.1 b.2
/-- the least common multiple of the moduli -/
def wh (bs : List Bar) : Nat := bs.foldl (fun w b => Nat.lcm w b.1.natAbs) 1
def choices (bs : List Bar) : Nat := bs.foldl (fun c b => c * max 1 b.2.length) 1
structure SvOk (bs : List Bar) : Prop where
  six : bs.length ≤ 6
  bar : ∀ b ∈ bs, BarOk b
  great : wh bs ≤ 10 ^ 30
  many : choices bs ≤ 2000
def fitsB (bs : List Bar) (x : Int) : Bool := bs.all fun b => decide (x % b.1 ∈ b.2)
/-- the numbers from 0 to whole - 1 that fit -/
def cls (bs : List Bar) : List Int := ((List.range (wh bs)).map fun i : Nat => (i : Int)).filter (fitsB bs)

/-! ## bars on the heap -/
structure LotAt (K : PySem.W.Frag) (H : Hp) (v : V) (l : List Int) : Prop where
  ex : ∃ a, v = .ref a ∧ SqT K H a (l.map V.int)
structure BarAt (K : PySem.W.Frag) (H : Hp) (v : V) (b : Bar) : Prop where
  ex : ∃ a x, v = .ref a ∧ SqT K H a [.int b.1, x] ∧ LotAt K H x b.2
structure BarsAt (K : PySem.W.Frag) (H : Hp) (v : V) (bs : List Bar) : Prop where
  ex : ∃ a xs, v = .ref a ∧ SqT K H a xs ∧ xs.length = bs.length ∧ ∀ (i : Nat) x b, xs[i]? = some x → bs[i]? = some b → BarAt K H x b
section
variable {K : PySem.W.Frag} {H H' : Hp} {v : V} {l : List Int} {b : Bar} {bs : List Bar}
/-- all tuples that may be read are as they were -/
def TupsStay (K : PySem.W.Frag) (H H' : Hp) : Prop := ∀ a xs, SqT K H a xs → SqT K H' a xs
theorem TupsStay.same (s : Same H H') : TupsStay K H H' := fun _ _ h => Same.seqTT s h
theorem TupsStay.sx {r : Addr} {zs : List V} (s : Kp r H H') (hr : H r = some (.lst zs)) : TupsStay K H H' := fun _ _ h => s.seqT hr h
theorem LotAt.stay (t : TupsStay K H H') (h : LotAt K H v l) : LotAt K H' v l := let ⟨a, e, q⟩ := h.ex; ⟨a, e, t _ _ q⟩
theorem BarAt.stay (t : TupsStay K H H') (h : BarAt K H v b) : BarAt K H' v b := let ⟨a, x, e, q, z⟩ := h.ex; ⟨a, x, e, t _ _ q, z.stay t⟩
theorem BarsAt.stay (t : TupsStay K H H') (h : BarsAt K H v bs) : BarsAt K H' v bs := let ⟨a, xs, e, q, n, z⟩ := h.ex; ⟨a, xs, e, t _ _ q, n, fun i x b h1 h2 => (z i x b h1 h2).stay t⟩
end

end R
namespace R
open PySem PySem.Spec PyProof.Rows L2
/-! ## rules of my own: enumerate over a tuple, lcm of great numbers -/
abbrev itTup (t : Addr) : Obj := { cls := .type "tuple_iterator", data := .fields #[.ref t, .int 0 0] }
abbrev enObj (i : Addr) : Obj := { cls := .type "enumerate", data := .fields #[.none, .bool false, .ref i, rawInt 0, .none, .none] }
abbrev enHeap (h : Heap) (t : Addr) : Heap := (h.push (itTup t)).push (enObj h.objs.size)
theorem meets_enT (t : Addr) (items : Array Value) : Meets (Builtin.«enumerate.__new__» ⟨[.type "enumerate", .ref t], []⟩)
    (fun _ R s => s.heap.IsTuple t items ∧ R (.ok (.ret (.ref (s.heap.push (itTup t)).objs.size))) { s with heap := enHeap s.heap t }) := by
  refine .of_wp fun prog w A R s ⟨ht, h⟩ => ?_
  obtain ⟨hp, g, d, tk, os⟩ := s
  have sub_ := PySem.sub_enumerate
  have it_ : ∀ {A' : Around} {E : Value → Shared → Prop} {Q : Value → Shared → Prop}, Q (.ref hp.objs.size) ⟨hp.push (itTup t), g, d, tk, os⟩ → wpAny (model prog w) A' (pyIter (.ref t)) Q E ⟨hp, g, d, tk, os⟩ :=
    fun q => wpAny_pyIter_tuple ht q
  wp_walk using it_
  refine wpAny_stack_any fun st => wpAny_pure ?_
  split
  · rename_i c _ _ _ _ _
    cases (c == Value.type "enumerate") <;> (wp_walk using it_; exact ⟨_, rfl, h⟩)
  · (wp_walk using it_; exact ⟨_, rfl, h⟩)
theorem call_enT {prog : Program} {w : World} {A : Around} {E : Value → Shared → Prop} {s : Shared} {t : Addr} {items : Array Value} {Q : Value → Shared → Prop} (ht : s.heap.IsTuple t items)
    (h : ∀ h', IsEnum h' (s.heap.objs.size + 1) s.heap.objs.size 0 .none → h'.IsTupleIter s.heap.objs.size t 0 → (∀ b o, s.heap.get? b = some o → h'.get? b = some o) → Q (.ref (s.heap.objs.size + 1)) { s with heap := h' }) :
    wpAny (model prog w) A (call (.type "enumerate") [.ref t]) Q E s := by
  have sz : (s.heap.push (itTup t)).objs.size = s.heap.objs.size + 1 := Heap.size_push ..
  have he : IsEnum (enHeap s.heap t) (s.heap.objs.size + 1) s.heap.objs.size 0 .none := by
    have q := Heap.get?_push_size (s.heap.push (itTup t)) (o := enObj s.heap.objs.size) rfl
    rw [sz] at q
    exact q
  have kp : ∀ b o, s.heap.get? b = some o → (enHeap s.heap t).get? b = some o := fun b o x => Heap.get?_push_of_some _ (Heap.get?_push_of_some _ x)
  refine callType_new F.called_enumerate (by decide) (F.typeCall_enumerate_1 _) (F.newCall_enumerate_1 _) (fun obj => F.args_object_init_2 obj _) F.entry_enumerate_new (meets_enT t items) ⟨ht, ?_⟩
  show _ ∧ _
  rw [sz]
  exact ⟨⟨_, he, rfl⟩, h _ he ⟨_, Heap.get?_push_of_some _ (Heap.get?_push_size _ rfl), rfl, rfl⟩ kp⟩
/-- the tuple at a, each item in a new pair with its place -/
def IteT (K : PySem.W.Frag) (a : Addr) : It :=
  ⟨fun i H => ∃ (xs : List V) (x : V), SqT K H a xs ∧ xs[i]? = some x,
   fun i H v H' => ∃ T x, v = .ref T ∧ H T = none ∧ H' = upd H T (.tup [.int (i : Nat), x]) ∧ ∀ xs, SqT K H a xs → xs[i]? = some x,
   fun i H => ∃ xs : List V, SqT K H a xs ∧ xs.length ≤ i⟩
theorem turn_enT {P : Program} {w : World} {K : PySem.W.Frag} {elts : List Expr} {kk : Nat} {tpos : Pos} (a e it : Addr) :
    Turn P w K (.Tuple elts kk tpos) (IteT K a) [e, it] e (fun i h => (∃ old, IsEnum h e it ((i : Nat) : Int) old) ∧ h.IsTupleIter it a i ∧ e ≠ it) where
  mem := List.mem_cons_self ..
  obj := fun i h ⟨⟨old, he⟩, ⟨o, ho, _, hd⟩, _⟩ b hb => by
    rcases List.mem_cons.mp hb with rfl | hb
    · exact ⟨_, he, fun v q => nomatch q⟩
    · rw [List.mem_singleton.mp hb]
      exact ⟨o, ho, fun v q => by rw [hd] at q; cases q⟩
  keep := fun i h h' ⟨⟨old, he⟩, hi, hne⟩ k => ⟨⟨old, k e (by simp) _ he⟩, hi.at fun o q => k it (by simp) o q, hne⟩
  item := by
    intro X hP hw hK hc i pins s σ H E I hf ⟨⟨old, he⟩, hit, hne⟩ ⟨xs, x, hq, hx⟩
    subst hP hw hK
    obtain ⟨its, rv, p, hz⟩ := I.tuple hq
    have hT : s.heap.IsTuple a its.toArray := p
    have nta : a ≠ it := fun z => by
      subst z
      obtain ⟨o, e1, c1, _⟩ := hT
      obtain ⟨o2, e2, c2, _⟩ := hit
      rw [e1] at e2
      cases e2
      rw [c1] at c2
      exact absurd c2 (by decide)
    have nea : e ≠ a := fun z => by
      subst z
      obtain ⟨o, e1, c1, _⟩ := hT
      rw [he] at e1
      cases e1
      exact absurd (show Value.type "enumerate" = Value.type "tuple" from c1) (by decide)
    have el : e < s.heap.objs.size := Heap.lt_size he
    have il : it < s.heap.objs.size := by obtain ⟨_, q, _⟩ := hit; exact Heap.lt_size q
    have hlt : i < its.toArray.size := by
      have := (List.getElem?_eq_some_iff.mp hx).1
      rw [rv.length] at this
      rw [List.size_toArray]
      exact this
    refine wpAny_pyNext_enum_itemD (Draws.tuple (A := X.A.in1) (I.ok.hd hc) it a nta its.toArray) he ⟨hit, hT⟩ hlt hne (by simp [hne, nea]) fun u h' tk hP ho st' ht' hsz hk => ?_
    obtain ⟨u', hu', ru⟩ := rv.get hx
    have eu : u = u' := by
      rw [List.getElem?_toArray] at hP
      exact Option.some.inj (hP.symm.trans hu')
    subst eu
    refine ⟨_, rfl, wpAny_letOwnedTupleGo_enum (s := { s with heap := h', toks := tk + 1 }) ho fun h2 he2 sb => ?_⟩
    have t2 := (sb.2 _ (Nat.ne_of_gt el)).trans ht'
    have new : ObjOk X.prog X.w (upd H s.heap.objs.size (.tup [.int (i : Nat), x])) h2 s.heap.objs.size (.tup [.int (i : Nat), x]) :=
      ⟨sizeOk (by show (2 : Nat) ≤ 100000; decide), [.int i tk, u], .cons ⟨_, rfl⟩ (.cons ru .nil), _, t2, rfl, _, rfl⟩
    have I1 : Inv X pins σ (upd H s.heap.objs.size (.tup [.int (i : Nat), x])) { s with heap := h2, toks := tk + 1 } := by
      refine I.turnedNew (ch := [e, it]) (fun b ob hb q => ?_) hf (Nat.le_refl _) new
      have hbe : b ≠ e := fun z => hb (by simp [z])
      exact (sb.2 b hbe).trans (hk b ob hbe (fun z => hb (by simp [z])) q)
    refine ⟨.ref s.heap.objs.size, _, I1, rfl, ⟨_, x, rfl, I.hok.fresh (Nat.le_refl _), rfl, fun ys hy => by rw [I.tuple_inj hy hq]; exact hx⟩, ⟨⟨u, ?_⟩, st'.1.at fun o q => (sb.2 it (Ne.symm hne)).trans q, hne⟩, fun b hb => ?_⟩
    · rw [show ((i + 1 : Nat) : Int) = (i : Int) + 1 from rfl]
      exact he2
    · have lt : b < s.heap.objs.size := by
        rcases List.mem_cons.mp hb with rfl | hb
        · exact el
        · rw [List.mem_singleton.mp hb]; exact il
      rw [upd_ne (Nat.ne_of_lt lt)]
      exact (hf b hb).1
  done := by
    intro X hP hw hK hc i pins s σ H E I hf ⟨⟨old, he⟩, hit, hne⟩ ⟨xs, hq, hx⟩
    subst hP hw hK
    obtain ⟨its, rv, p, hz⟩ := I.tuple hq
    have hT : s.heap.IsTuple a its.toArray := p
    obtain ⟨f0, f1, f2, f3, f4, f5⟩ := hf it (by simp)
    have hT' : s.TypeIs (.ref e) "enumerate" := ⟨_, he, rfl⟩
    unfold pyNext
    refine wpAny_bind (wpAny_attempt (wpAny_callSpecial?_slot (name := Str.ofString "__next__") hT' F.slot_enumerate_next (wpAny_call_entry F.slot_enumerate_next hT' F.entry_enumerate_next ?_ (F.args_enumerate_next_1 _))))
    show wpAny _ _ (field (.ref e) 2 >>= _) _ _ _
    refine wpAny_bind (wpAny_field he rfl (x := .ref it) rfl ?_)
    refine wpAny_bind (PySem.wpAny_nextOf_tuple_end (I.ok.hd hc) hit hT (Array.getElem?_eq_none (by rw [List.size_toArray, ← rv.length]; exact hx)) fun h' y eb hy => ?_)
    obtain ⟨o, ho, hcl⟩ := hy
    refine wpAny_bind (wpAny_isInstance (T := "StopIteration") (b := true) ⟨o, ho, hcl⟩ isSubtype_stop ?_)
    exact wpAny_pure ⟨rfl, I.turned (t' := s.toks) (fun b o hb q => eb b o hb q) f0 f1 f3 f4 f5⟩
  self := fun A i s Q E ⟨⟨_, he⟩, _⟩ h => wpAny_pyIter_enum he h
def iEnT (K : PySem.W.Frag) (ta : TA) : TI := fun σ H R => ta σ H fun vs H1 => ∃ a xs, vs = [.ref a] ∧ SqT K H1 a xs ∧ R (IteT K a) H1
theorem pi_enT {X : Cx} {e : Expr} {ta : TA} {p pos tpos : Pos} {elts : List Expr} {kk : Nat} (hg : Gl X "enumerate") (hm : X.mg "enumerate" = none) (ha : PA X [e] ta)
    (hs : starEach [e] X.env = [(false, eval e X.env)] := by rfl) : PI X (.Tuple elts kk tpos) (.Call (.Name "enumerate" p) [e] [] pos) (iEnT X.K ta) := by
  refine ⟨fun pins s σ H R I h => Call_ (ld_blt I hg hm boot_enumerate (PyProof.Rows.callWith_type1 (thn (ha.run pos pins s σ H _ I h) fun us s1 ⟨vs, H1, I1, r1, a, xs, ex, hq, q⟩ => ?_) hs rfl))⟩
  subst ex
  obtain ⟨u, us', rfl⟩ : ∃ u us', us = u :: us' := by
    cases r1 with
    | cons r rr => exact ⟨_, _, rfl⟩
  cases r1 with
  | cons r rr =>
    cases rr
    cases r
    obtain ⟨its, rv, p', hz⟩ := I1.tuple hq
    refine call_enT (show s1.heap.IsTuple a its.toArray from p') fun h' he hit hk => wpAny_pyIter_enum he ?_
    have I2 : Inv X pins σ H1 { s1 with heap := h' } := I1.kept (t' := s1.toks) hk
    refine ⟨s1.heap.objs.size + 1, [s1.heap.objs.size + 1, s1.heap.objs.size], _, _, H1, rfl, I2, turn_enT a _ _, ⟨⟨.none, he⟩, hit, Nat.succ_ne_self _⟩, fun b hb => ?_, q⟩
    have hle : s1.heap.objs.size ≤ b := by
      rcases List.mem_cons.mp hb with rfl | hb
      · exact Nat.le_succ _
      · rw [List.mem_singleton.mp hb]; exact Nat.le_refl _
    exact I1.fpOk hle (I1.hok.fresh hle)
theorem walk_enT {K : PySem.W.Frag} {a : Addr} {xs : List V} : Walk (IteT K a) xs.length (fun H => SqT K H a xs) (YPair (fun i => some (.int (i : Nat))) (fun i => xs[i]?)) := by
  refine ⟨fun i H hi hG => ⟨xs, xs[i], hG, by simp [hi]⟩, fun H hG => ⟨xs, hG, Nat.le_refl _⟩, fun i H x H' hi hG ⟨T, y, h1, h2, h3, h4⟩ => ?_⟩
  exact ⟨T, .int (i : Nat), y, h1, h2, h3, rfl, h4 xs hG⟩
/-- lcm of two numbers below 2 ^ 5000 -/
def rLcmW : List V → Hp → VK → Prop := fun vs H Q => ∃ a b : Nat, vs = [.int a, .int b] ∧ a < 2 ^ 5000 ∧ b < 2 ^ 5000 ∧ Q (.int (Nat.lcm a b : Nat)) H
theorem logLe {n k : Nat} (h : n < 2 ^ (k + 1)) : n.log2 ≤ k := PySem.W.mg_log h
theorem cr_lcmW {X : Cx} : CallR X (.builtin "math.lcm") rLcmW := by
  intro pins s σ H vs us Q I r ⟨a, b, e, ha, hb, q⟩
  subst e
  obtain ⟨t, u, rfl⟩ := Vals.int2 r
  have h1 : (max 1 (a : Int).natAbs).log2 ≤ 4999 := logLe (by rw [Int.natAbs_natCast]; show max 1 a < 2 ^ 5000; have : 1 < 2 ^ 5000 := by decide
                                                              omega)
  have h2 : (max (a : Int).natAbs (b : Int).natAbs).log2 ≤ 4999 := logLe (by rw [Int.natAbs_natCast, Int.natAbs_natCast]; show max a b < 2 ^ 5000; omega)
  have ee : (((Nat.lcm 1 (a : Int).natAbs).lcm (b : Int).natAbs : Nat) : Int) = ((Nat.lcm a b : Nat) : Int) := by
    rw [Int.natAbs_natCast, Int.natAbs_natCast, PySem.W.mc_lcm_one]
  have hm : Nat.lcm a b < 2 ^ 10000 := by
    have h3 : Nat.lcm a b ≤ a * b := Nat.div_le_self _ _
    have h4 : a * b < 2 ^ 5000 * 2 ^ 5000 := Nat.mul_lt_mul'' ha hb
    rw [← Nat.pow_add] at h4
    exact Nat.lt_of_le_of_lt h3 h4
  have hz : ((((Nat.lcm 1 (a : Int).natAbs).lcm (b : Int).natAbs : Nat) : Int)).natAbs.log2 < bitsLine := by
    rw [ee, Int.natAbs_natCast]
    have h5 : (Nat.lcm a b).log2 ≤ 9999 := logLe hm
    rw [PySem.bitsLine_eq]
    omega
  have g := PySem.W.mg_run_lcm a t b u (by omega) (by omega) hz
  rw [ee] at g
  exact PySem.call_function_meets PySem.W.MGF.kind_lcm PySem.W.MGF.plain_lcm PySem.W.MGF.entry_lcm (PySem.W.MGF.args_lcm _ _) g.meets ⟨.int _, H, I.tok _, ⟨_, rfl⟩, q⟩
theorem tyTup {K : PySem.W.Frag} {H : Hp} {a : Addr} {xs : List V} (h : SqT K H a xs) : TyX K H (.ref a) (.type "tuple") := by
  rcases h with (h | ⟨o, h⟩) | ⟨o, its, n, e, c, _⟩
  · exact .base (.tup h)
  · exact .fTuple h
  · exact .kTuple e c

end R
namespace R
open PySem PySem.Spec PyProof.Rows L2
/-! ## an exception that a suite holds -/
def rIsE' (K : PySem.W.Frag) (D a : Addr) (cls : Value) (d : Option Addr) : List V → Hp → VK → Prop := fun xs H Q => cls = .ref D ∧ d = none ∧ rIsE K D a xs H Q
theorem call_isE' {X : Cx} {a D : Addr} {oe : Obj} {pn : List (Addr × Obj)} {cls : Value} {d : Option Addr} (C : ExcC X.K D) (hz : Zc cls d oe) (hf : ∃ vs, oe.data = .fields vs) :
    CallR (X.suite a ((a, oe) :: pn)) (.builtin "isinstance") (rIsE' X.K D a cls d) := by
  intro pins s σ H xs us Q I r h
  obtain ⟨h1, h2, h3⟩ := h
  subst h1 h2
  exact call_isE C hz hf pins s σ H xs us Q I r h3
/-! ## try with several clauses that name the exception -/
abbrev Suites := List (Value × (Addr → Value → Option Addr → TS))
/-- what the clauses wish, one behind the other; the name's slot is i -/
def wAsM (K : PySem.W.Frag) (i : Nat) (Wout : WX) (D : Ends) : Suites → WX
  | [] => Wout
  | p :: r => fun cls d σ H => ∃ b, PySem.W.exmOne K cls p.1 = some b ∧
      (b = true → ∀ a, H a = none → p.2 a cls d ⟨fun τ G => D.nx (τ.set i none) G, D.rt, fun τ G => D.bk (τ.set i none) G, fun τ G => D.ct (τ.set i none) G⟩ (σ.set i (some (.ref a))) H) ∧ (b = false → wAsM K i Wout D r cls d σ H)
/-- the clauses, each «except x as n», with their suites' readings -/
inductive HdsAs (X : Cx) (n : Str) : List ExceptHandler → Suites → Prop
  | nil : HdsAs X n [] []
  | cons {x : Str} {c : Value} {ts : Addr → Value → Option Addr → TS} {b0 : Stmt} {su : List Stmt} {p1 p2 : Pos} {hds : List ExceptHandler} {l : Suites} (hc : Names X x c)
      (hsu : ∀ (a : Addr) (oe : Obj) (cls : Value) (d : Option Addr) (pn : List (Addr × Obj)), Zc cls d oe → (∃ vs, oe.data = .fields vs) → PSs (X.suite a ((a, oe) :: pn)) (b0 :: su) (ts a cls d)) (r : HdsAs X n hds l) :
      HdsAs X n (.ExceptHandler (some (.Name x p1)) (some n) (b0 :: su) p2 :: hds) ((c, ts) :: l)
/-- what is done where the body let an exception out -/
theorem hds_run {X : Cx} {n : Str} {i : Nat} {pins : List (Addr × Obj)} {τ : L2.St} {G : Hp} {D : Ends} {Wout : WX} {e0 : Addr} {B h3 : Heap} {sJ s2 : Shared} {cls : Value} {d : Option Addr} (ok : X.Ok)
    (hst : X.stack = X.env :: X.outer) (hfr : X.env.frame = some X.env.locals) (nod : X.N.Nodup) (hi : X.N[i]? = some n) (hloc : X.env.kindOf n = some .local) (tk : Takes X Wout) (J : Inv X pins τ G sJ)
    (nb : ∀ b o, sJ.heap.get? b = some o → b ∉ frs X.stack → B.get? b = some o) (up : sJ.heap.UpToSlots s2.heap) (up3 : s2.heap.UpToSlots h3) (na : G e0 = none) (os : s2.os = sJ.os) (ag : AllBare s2.gens)
    (fl : HandSPX.FlyingZ B (X.env :: X.outer) e0 (Zc cls d) h3) : ∀ {hds : List ExceptHandler} {l : Suites}, HdsAs X n hds l → wAsM X.K i Wout D l cls d τ G →
      wpAny (model X.prog X.w) X.A (handleBy (.ref e0) X.env hds) (SP X pins D) X.xe { s2 with heap := h3 } := by
  have J3 : Inv X pins τ G { s2 with heap := h3 } := J.landed nb fl.1 (up.trans up3) os ag
  obtain ⟨ob, vb, he3, hz3, hd3⟩ := fl.there
  have out : e0 ∉ frs (X.env :: X.outer) := fun hm => by
    obtain ⟨_, o2, q1, q2⟩ := fl.2.2.1.mem hm
    rw [he3] at q1
    cases q1
    exact q2 _ hd3
  have nL : e0 ≠ X.env.locals := fun z => out (List.mem_filterMap.mpr ⟨_, List.mem_cons_self, z ▸ hfr⟩)
  have nF : e0 ∉ X.fs := fun hm => let ⟨q1, q2, q3⟩ := List.mem_filterMap.mp hm; out (List.mem_filterMap.mpr ⟨q1, List.mem_cons_of_mem _ q2, q3⟩)
  have S3 := J3.suite he3 hd3 na nL nF
  intro hds l hk
  induction hk with
  | nil =>
    intro w
    refine wpAny_handleBy_nil ?_
    obtain ⟨_, _, _, o1, v1, tb, _, _, g1, _, g3, g4, _⟩ := id fl
    unfold PySem.passOn
    refine wpAny_bind (wpAny_field g1 g3 g4 ?_)
    rw [if_neg (by simp : ¬ ((Value.ref tb == Value.none) = true))]
    have last : wpAny (model X.prog X.w) X.A (setFlight (.ref e0) X.env.frame) (fun _ s4 => wpAny (model X.prog X.w) X.A (throw (.ref e0) : Sem Flow) (SP X pins D) X.xe s4) X.xe { s2 with heap := h3 } := by
      rw [hfr]
      refine HandSPX.setFlight_upZ fl fun h4 hh4 up4 => wpAny_throw (tk _ _ ⟨e0, B, sJ, pins, τ, G, cls, d, rfl, J, nb, (up.trans up3).trans up4, .inr (.inr ?_), na, os, ag, w⟩)
      rw [hst]
      exact hh4
    first | exact wpAny_bind (wpAny_pure (wpAny_bind last)) | exact wpAny_bind last
  | @cons x c ts b0 su p1 p2 hds2 l2 hc hsu r ih =>
    rintro ⟨b, hb1, yes, no⟩
    refine wpAny_handleBy_cons (codeAny_handlers_test ?_) (by intro q; cases q)
    have LM := PySem.W.exm_one (M := model X.prog X.w) J3.kIn (fun A Q E s k q => wpAny_typeOf_ref (k _ _ he3) (by rw [hz3.1]; exact q)) hb1
    have named : ∀ {Q E : Value → Shared → Prop}, Q c { s2 with heap := h3 } → wpAny (model X.prog X.w) (X.A.mark (some (.ref e0))) (eval (.Name x p1) X.env) Q E { s2 with heap := h3 } := by
      intro Q E q
      obtain ⟨k1, k2, k3 | ⟨k3, k4, k5⟩⟩ := hc
      · exact ld_glob (X := X.suite e0 ((e0, ob) :: (X.pn ++ pins))) S3 k1 k3 q k2
      · exact ld_blt (X := X.suite e0 ((e0, ob) :: (X.pn ++ pins))) S3 k1 k3 k4 q k5 k2
    refine named (LM.here ?_)
    cases b with
    | false => exact ih (no rfl)
    | true =>
      refine codeAny_handlers_suite_as (HandSPX.lands_againZ fl fun h4 fl4 up4 => ?_)
      have J4 : Inv X pins τ G { s2 with heap := h4 } := J.landed nb fl4.1 ((up.trans up3).trans up4) os ag
      obtain ⟨o4, v4, he4, hz4, hd4⟩ := fl4.there
      refine store_ok (X := X.suite e0 ((e0, o4) :: (X.pn ++ pins))) (v := .ref e0) (J4.suite he4 hd4 na nL nF) nod hi (.inl hloc) rfl (fun s5 S5 => ?_) (.inr hloc)
      refine wpAny_mono ((hsu e0 o4 cls d (X.pn ++ pins) hz4 ⟨_, hd4⟩).run [] s5 _ G _ S5 (yes rfl e0 na)) (fun f s6 sp => ?_) (fun _ _ z => z.elim)
      have close : ∀ {τ6 : L2.St} {G6 : Hp} {Q : Shared → Prop}, Inv (X.suite e0 ((e0, o4) :: (X.pn ++ pins))) [] τ6 G6 s6 → (∀ s7, Inv X pins (τ6.set i none) G6 s7 → Q s7) →
          wpAny (model X.prog X.w) X.A (do bindName X.env n .none; unbindBehindTheSuite X.env n p2) (fun _ s7 => Q s7) X.xe s6 := fun S6 k => gone_ok (S6.unsuite ok) nod hi hloc k
      cases f with
      | ret u => obtain ⟨_, _, _, S6, r6, q6⟩ := sp; exact close S6 fun s7 J7 => ⟨_, _, _, J7, r6, q6⟩
      | next => obtain ⟨_, _, S6, q6⟩ := sp; exact close S6 fun s7 J7 => ⟨_, _, J7, q6⟩
      | brk => obtain ⟨_, _, S6, q6⟩ := sp; exact close S6 fun s7 J7 => ⟨_, _, J7, q6⟩
      | cont => obtain ⟨_, _, S6, q6⟩ := sp; exact close S6 fun s7 J7 => ⟨_, _, J7, q6⟩
theorem ps_try_asM {X : Cx} {n : Str} {i : Nat} {body : List Stmt} {hd : ExceptHandler} {hds : List ExceptHandler} {l : Suites} {pos : Pos} {tb : WX → TS} {Wout : WX} (hst : X.stack = X.env :: X.outer)
    (hfr : X.env.frame = some X.env.locals) (nod : X.N.Nodup) (hi : X.N[i]? = some n) (hloc : X.env.kindOf n = some .local) (tk : Takes X Wout)
    (hb : ∀ (W : WX) (pn : List (Addr × Obj)) (xe : Value → Shared → Prop), Takes (X.tr pn xe) W → PassesOwn (model X.prog X.w) X.A X.env xe → PSs (X.tr pn xe) body (tb W))
    (hh : HdsAs X n (hd :: hds) l) : PS X (.Try body (hd :: hds) [] [] pos) (fun D σ H => tb (wAsM X.K i Wout D l) D σ H) := by
  refine ⟨fun pins s σ H D I h => wpAny_Try_except ?_⟩
  have ok := I.ok
  have fr : X.A.frames = some (X.env :: X.outer) := ok.frames.trans (congrArg some hst)
  let caught : Value → Shared → Prop := fun e s1 => wpAny (model X.prog X.w) X.A (noteFrame e X.env) (fun _ s2 => wpAny (model X.prog X.w) X.A (setFlight e none)
    (fun _ s3 => wpAny (model X.prog X.w) X.A (handleBy e X.env (hd :: hds)) (SP X pins D) X.xe s3) X.xe s2) X.xe s1
  have takes : Takes (X.tr (X.pn ++ pins) caught) (wAsM X.K i Wout D l) := by
    rintro _ s' ⟨a, B, sI, pins', σ', H', cls, d, rfl, J', nb, up, sky, na, os, ag, w⟩
    have sky' : Sky B (X.env :: X.outer) a (Zc cls d) X.env.locals s'.heap := hst ▸ sky
    show wpAny (model X.prog X.w) X.A (noteFrame (.ref a) X.env) _ _ _
    exact Sky.land Zc.steady fr hfr sky' fun h3 fl3 up3 => hds_run ok hst hfr nod hi hloc tk (J'.ofTry ok) nb up up3 na os ag fl3 hh w
  refine wpAny_mono ((hb _ (X.pn ++ pins) caught takes PassesOwn.looking).run [] s σ H D (I.toTry _) h) (fun f s1 sp => ?_) (fun e s1 he => he)
  cases f with
  | ret u => obtain ⟨v, τ, G, J', r, q⟩ := sp; exact ⟨v, τ, G, J'.ofTry ok, r, q⟩
  | next => obtain ⟨τ, G, J', q⟩ := sp; exact wpAny_execs_nil ⟨τ, G, J'.ofTry ok, q⟩
  | brk => obtain ⟨τ, G, J', q⟩ := sp; exact ⟨τ, G, J'.ofTry ok, q⟩
  | cont => obtain ⟨τ, G, J', q⟩ := sp; exact ⟨τ, G, J'.ofTry ok, q⟩

end R
namespace R
open PySem PySem.Spec PyProof.Rows L2
/-! ## the law's draws -/
/-- the row of a law's draws: the script's copy (at L), how far it is read, two numbers -/
structure RowAt (H : Hp) (r L : Addr) : Prop where
  ex : ∃ (ns : List Int) (i : Nat) (b s : Int), H r = some (.lst [.ref L, .int i, .int b, .int s]) ∧ H L = some (.lst (ns.map V.int)) ∧ 0 ≤ b
  ne : L ≠ r
section
variable {H H' : Hp} {r L p : Addr} {o : HO}
theorem RowAt.lst (h : RowAt H r L) : ∃ zs, H r = some (.lst zs) := let ⟨_, _, _, _, e, _⟩ := h.ex; ⟨_, e⟩
theorem RowAt.stay (h : RowAt H r L) (s : Same H H') : RowAt H' r L := by
  obtain ⟨ns, i, b, z, e, q, n⟩ := h.ex
  exact ⟨⟨ns, i, b, z, s _ _ e, s _ _ q, n⟩, h.ne⟩
theorem RowAt.tups {K : PySem.W.Frag} (h : RowAt H r L) (s : Kp r H H') : TupsStay K H H' := let ⟨_, e⟩ := h.lst; .sx s e
theorem RowAt.new (h : RowAt H r L) (hp : H p = none) : p ≠ r ∧ p ≠ L := by
  obtain ⟨ns, i, b, z, e, q, n⟩ := h.ex
  exact ⟨(ne_of_none e hp).symm, (ne_of_none q hp).symm⟩
theorem RowAt.upd (h : RowAt H r L) (n : p ≠ r ∧ p ≠ L) : RowAt (upd H p o) r L := by
  obtain ⟨ns, i, b, z, e, q, h0⟩ := h.ex
  exact ⟨⟨ns, i, b, z, by rw [upd_ne n.1.symm]; exact e, by rw [upd_ne n.2.symm]; exact q, h0⟩, h.ne⟩
end
def sp_l_draws (K : PySem.W.Frag) : Sp := fun vs H Q _ => ∃ (a : Addr) (ns : List Int), vs = [.ref a] ∧ SqL K H a (ns.map V.int) ∧ ∀ r L H', Same H H' → RowAt H' r L → Q (.ref r) H'
def sp_l_pick : Sp := fun vs H Q _ => ∃ (r L : Addr) (m : Int), vs = [.ref r, .int m] ∧ RowAt H r L ∧ 0 < m ∧ m.natAbs < 2 ^ 200 ∧
  ∀ v H', 0 ≤ v → v < m → Kp r H H' → RowAt H' r L → Q (.int v) H'
section
variable {P : Program} {w : World} {K : PySem.W.Frag} {mg : Str → Option Value} {base : Heap}
theorem ok_l_draws (T : Txt K mg) : FnOk P w K mg base CX0 2 T.f_l_draws T.fd_l_draws ["_law_script"] (sp_l_draws K) := by
  refine T.F_l_draws.ok sc_l_draws (fun vs H Q E h => ?_) (fun cdv A outer s H vs Q E hr h => ?_)
  · obtain ⟨a, ns, rfl, _⟩ := h
    rfl
  · obtain ⟨a, ns, rfl, hS, q⟩ := h
    refine ⟨_, (pss_one (ps_ret (pe_lst (pa_cons (pe_callTy call_list_of (by rfl) T.z_list (by decide +kernel) (pa_cons (pv 0) pa_nil)) (pa_cons pe_int (pa_cons pe_int (pa_cons pe_int pa_nil))))))), ?_⟩
    refine ⟨_, rfl, a, _, rfl, .inl hS, fun L nL => ⟨sizeOk (by show (4 : Nat) ≤ 100000; decide), fun r nr => ?_⟩⟩
    have n1 : L ≠ r := fun e => by
      subst e
      rw [upd_same] at nr
      cases nr
    refine q r L _ (Same.trans (same_upd nL) (same_upd nr)) ⟨⟨ns, 0, 0, 7, upd_same, ?_, Int.le_refl 0⟩, n1⟩
    rw [upd_ne n1, upd_same]
theorem ok_l_pick (T : Txt K mg) : FnOk P w K mg base CX0 2 T.f_l_pick T.fd_l_pick ["_law_row", "_law_many"] sp_l_pick := by
  refine T.F_l_pick.ok sc_l_pick (fun vs H Q E h => ?_) (fun cdv A outer s H vs Q E hr h => ?_)
  · obtain ⟨r, L, m, rfl, _⟩ := h
    rfl
  · obtain ⟨r, L, m, rfl, ⟨⟨ns, i, b, z, hr0, hL0, hb⟩, hLr⟩, hm, hm2, q⟩ := h
    have hL : SqL K H L (ns.map V.int) := lstOf hL0
    have S : SqL K H r [.ref L, .int i, .int b, .int z] := lstOf hr0
    refine ⟨_, (C8.pss_cut (ps_if (pt_cmpR op_eq (pe_ix ix_list (pv 0) pe_int (fun _ _ => rfl)) pe_int (nomark _)) (pss_one (ps_if (pt_cmpR op_lt (pe_ix ix_list (pv 0) pe_int (fun _ _ => rfl)) (pe_callB call_len_seq (by rfl) T.z_len (by decide +kernel) (pa_cons (pe_ix ix_list (pv 0) pe_int (fun _ _ => rfl)) pa_nil)) (nomark _)) (pss_cons (ps_set (i := 2) sc_l_pick.nd rfl (by first | exact .inl rfl | exact .inr rfl) (pe_ix ix_list (pe_ix ix_list (pv 0) pe_int (fun _ _ => rfl)) (pe_ix ix_list (pv 0) pe_int (fun _ _ => rfl)) (fun _ _ => rfl)))
      (pss_cons (ps_asg (pe_op op_add (pe_ix ix_list (pv 0) pe_int (fun _ _ => rfl)) pe_int) (pg_sub (pv 0) pe_int set_list))
      (pss_one (ps_if (pt_cmpR op_ge (pv 2) (pe_op op_pow pe_int pe_int) (nomark _)) (pss_one (ps_asg (pv 2) (pg_sub (pv 0) pe_int set_list))) (pss_one (ps_asg (pe_op op_mod (pe_callTy call_int1 (by rfl) T.z_int (by decide +kernel) (pa_cons (pe_op op_add (pe_op op_add (pe_op op_mul (pe_ix ix_list (pv 0) pe_int (fun _ _ => rfl)) pe_int) (pe_op op_mul (pv 2) pe_int)) pe_int) pa_nil)) pe_int) (pg_sub (pv 0) pe_int set_list))))))) (pss_one (ps_asg (pe_op op_mod (pe_callTy call_int1 (by rfl) T.z_int (by decide +kernel) (pa_cons (pe_op op_add (pe_op op_mul (pe_ix ix_list (pv 0) pe_int (fun _ _ => rfl)) pe_int) pe_int) pa_nil)) pe_int) (pg_sub (pv 0) pe_int set_list))))) pss_nil)
      (pss_cons (ps_if (pt_cmpR op_gt (pe_ix ix_list (pv 0) pe_int (fun _ _ => rfl)) pe_int (nomark _)) (pss_cons (ps_set (i := 3) sc_l_pick.nd rfl (by first | exact .inl rfl | exact .inr rfl) (pe_op op_mod (pe_callTy call_int1 (by rfl) T.z_int (by decide +kernel) (pa_cons (pe_ix ix_list (pv 0) pe_int (fun _ _ => rfl)) pa_nil)) (pv 1)))
      (pss_cons (ps_asg (pe_op op_fdivW (pe_ix ix_list (pv 0) pe_int (fun _ _ => rfl)) (pv 1)) (pg_sub (pv 0) pe_int set_list))
      (pss_one (ps_ret (pv 3))))) pss_nil)
      (pss_one (ps_ret (pe_op op_mod (pe_op op_mod (pe_callTy call_int1 (by rfl) T.z_int (by decide +kernel) (pa_cons (pe_op op_mul (pe_ix ix_list (pv 0) pe_int (fun _ _ => rfl)) pe_int) pa_nil)) pe_int) (pv 1)))))), ?_⟩
    refine ⟨fun σ H' => ∃ (c : Option V) (i' : Nat) (b' z' : Int), σ = [some (.ref r), some (.int m), c, none] ∧ Kp r H H' ∧ H' r = some (.lst [.ref L, .int i', .int b', .int z']) ∧ 0 ≤ b', ?_, ?_⟩
    · refine ⟨_, rfl, r, _, 2, _, rfl, rfl, S, atI_nat (j := 2) rfl, rfl, _, rfl, ite2 (fun _ => ?_) (fun _ => ?_)⟩
      · refine ⟨_, rfl, r, _, 1, _, rfl, rfl, S, atI_nat (j := 1) rfl, _, rfl, r, _, 0, _, rfl, rfl, S, atI_nat (j := 0) rfl, L, _, rfl, .inl hL, _, _, rfl, rfl, _, rfl, ite2 (fun e => ?_) (fun e => ?_)⟩
        · have hi : i < ns.length := by
            have e' := of_decide_eq_true e
            rw [List.length_map] at e'
            omega
          refine ⟨_, rfl, r, _, 0, _, rfl, rfl, S, atI_nat (j := 0) rfl, _, rfl, r, _, 1, _, rfl, rfl, S, atI_nat (j := 1) rfl, L, _, i, .int ns[i], rfl, rfl, hL, atI_nat (j := i) (getMapInt hi), ?_⟩
          refine ⟨_, rfl, r, _, 1, _, rfl, rfl, S, atI_nat (j := 1) rfl, _, _, rfl, rfl, _, rfl, r, _, 1, 1, rfl, rfl, hr0, rfl, ?_⟩
          have hr1 : (upd H r (.lst [.ref L, .int ((i : Int) + 1), .int b, .int z])) r = some (.lst [.ref L, .int ((i + 1 : Nat) : Int), .int b, .int z]) := upd_same
          have S1 : SqL K (upd H r (.lst [.ref L, .int ((i : Int) + 1), .int b, .int z])) r _ := lstOf hr1
          have x1 : Kp r H (upd H r (.lst [.ref L, .int ((i : Int) + 1), .int b, .int z])) := Kp.at_
          refine ⟨_, rfl, _, _, rfl, rfl, ⟨by decide, by decide, by decide⟩, _, _, rfl, rfl, _, rfl, ite2 (fun e2 => ?_) (fun e2 => ?_)⟩
          · refine ⟨_, rfl, _, rfl, r, _, 2, 2, rfl, rfl, hr1, rfl, ?_⟩
            refine ⟨_, i + 1, ns[i], z, rfl, fun b o n h => ?_, upd_same, ?_⟩
            · rw [upd_ne n]; exact x1 b o n h
            · have := of_decide_eq_true e2
              have : (0 : Int) ≤ 10 ^ (18 : Int).toNat := by decide
              omega
          · refine ⟨_, rfl, r, _, 3, _, rfl, rfl, S1, atI_nat (j := 3) rfl, _, _, rfl, rfl, .inr (by decide), _, rfl, _, _, rfl, rfl, .inr (by decide), _, _, rfl, rfl, _, _, rfl, rfl, .inl ⟨_, rfl, _, _, rfl, rfl, (show (0 : Int) < 2147483647 by decide), ?_⟩⟩
            refine ⟨_, rfl, r, _, 3, 3, rfl, rfl, hr1, rfl, ?_⟩
            refine ⟨_, i + 1, b, _, rfl, fun b o n h => ?_, upd_same, hb⟩
            rw [upd_ne n]; exact x1 b o n h
        · refine ⟨_, rfl, r, _, 3, _, rfl, rfl, S, atI_nat (j := 3) rfl, _, _, rfl, rfl, .inr (by decide), _, _, rfl, rfl, .inl ⟨_, rfl, _, _, rfl, rfl, (show (0 : Int) < 2147483647 by decide), ?_⟩⟩
          refine ⟨_, rfl, r, _, 3, 3, rfl, rfl, hr0, rfl, ?_⟩
          exact ⟨_, i, b, _, rfl, Kp.at_, upd_same, hb⟩
      · exact ⟨_, i, b, z, rfl, Kp.refl r H, hr0, hb⟩
    · rintro σ H' ⟨c, i', b', z', rfl, sx, hr', hb'⟩
      have S' : SqL K H' r [.ref L, .int i', .int b', .int z'] := lstOf hr'
      have hL' : H' L = some (.lst (ns.map V.int)) := sx _ _ hLr hL0
      refine ⟨_, rfl, r, _, 2, _, rfl, rfl, S', atI_nat (j := 2) rfl, _, _, rfl, rfl, _, rfl, ite2 (fun e => ?_) (fun e => ?_)⟩
      · have e' := of_decide_eq_true e
        refine ⟨_, rfl, r, _, 2, _, rfl, rfl, S', atI_nat (j := 2) rfl, .inl ⟨_, rfl, _, rfl, _, _, rfl, rfl, hm, ?_⟩⟩
        refine ⟨_, rfl, r, _, 2, _, rfl, rfl, S', atI_nat (j := 2) rfl, _, rfl, _, _, rfl, rfl, wide_div hm hm2 (by decide) (by decide), _, rfl, r, _, 2, 2, rfl, rfl, hr', rfl, ?_⟩
        refine ⟨_, rfl, q _ _ (Int.emod_nonneg _ (by omega)) (Int.emod_lt_of_pos _ hm) (fun c o n h => ?_) ⟨⟨ns, i', b' / m, z', upd_same, ?_, Int.ediv_nonneg hb' (by omega)⟩, hLr⟩⟩
        · rw [upd_ne n]; exact sx c o n h
        · rw [upd_ne hLr]; exact hL'
      · refine ⟨_, rfl, r, _, 3, _, rfl, rfl, S', atI_nat (j := 3) rfl, _, _, rfl, rfl, .inr (by decide), .inl ⟨_, rfl, _, _, rfl, rfl, (show (0 : Int) < 2147483629 by decide), _, rfl, _, _, rfl, rfl, hm, ?_⟩⟩
        exact q _ _ (Int.emod_nonneg _ (by omega)) (Int.emod_lt_of_pos _ hm) sx ⟨⟨ns, i', b', z', hr', hL', hb'⟩, hLr⟩
end

end R
namespace R
open PySem PySem.Spec PyProof.Rows L2
/-! ## the law's bars -/
theorem choices_add (bs : List Bar) (b : Bar) : choices (bs ++ [b]) = choices bs * max 1 b.2.length := by
  unfold choices
  rw [List.foldl_append]
  rfl
theorem wh_add (bs : List Bar) (b : Bar) : wh (bs ++ [b]) = Nat.lcm (wh bs) b.1.natAbs := by
  unfold wh
  rw [List.foldl_append]
  rfl
theorem LotAt.mk' {K : PySem.W.Frag} {H : Hp} {a : Addr} {l : List Int} (h : SqT K H a (l.map V.int)) : LotAt K H (.ref a) l := ⟨a, rfl, h⟩
theorem BarsAt.add {K : PySem.W.Frag} {H : Hp} {p : Addr} {xs : List V} {x : V} {bs : List Bar} {b : Bar} (hp : SqT K H p (xs ++ [x])) (n : xs.length = bs.length)
    (h : ∀ (i : Nat) x b, xs[i]? = some x → bs[i]? = some b → BarAt K H x b) (hx : BarAt K H x b) : BarsAt K H (.ref p) (bs ++ [b]) := by
  refine ⟨p, xs ++ [x], rfl, hp, by rw [List.length_append, List.length_append, n]; rfl, fun i y c h1 h2 => ?_⟩
  by_cases hi : i < xs.length
  · rw [List.getElem?_append_left hi] at h1
    rw [List.getElem?_append_left (by omega)] at h2
    exact h i y c h1 h2
  · have hl := (List.getElem?_eq_some_iff.mp h1).1
    rw [List.length_append] at hl
    have e : i = xs.length := by
      have : [x].length = 1 := rfl
      omega
    subst e
    rw [List.getElem?_append_right (Nat.le_refl _), Nat.sub_self] at h1
    rw [n, List.getElem?_append_right (Nat.le_refl _), Nat.sub_self] at h2
    cases Option.some.inj h1
    cases Option.some.inj h2
    exact hx
structure Drawn (most top : Nat) (bs : List Bar) : Prop where
  len : bs.length ≤ most
  bar : ∀ b ∈ bs, 1 ≤ b.1 ∧ b.1 ≤ top ∧ LotOk b.1 b.2
  many : choices bs ≤ 2000
def sp_l_bars (K : PySem.W.Frag) : Sp := fun vs H Q _ => ∃ (r L : Addr) (most top : Nat), vs = [.ref r, .int most, .int top] ∧ RowAt H r L ∧ most ≤ 6 ∧ 1 ≤ top ∧ top ≤ 60 ∧
  ∀ v bs H', Drawn most top bs → BarsAt K H' v bs → Kp r H H' → RowAt H' r L → Q v H'
/-- a lot that grows -/
structure Grown (i : Nat) (l : List Int) : Prop where
  up : l.Pairwise (· < ·)
  ge : ∀ x ∈ l, 0 ≤ x
  lt : ∀ x ∈ l, x < (i : Int)
  len : l.length ≤ i
theorem Grown.skip {i : Nat} {l : List Int} (g : Grown i l) : Grown (i + 1) l := ⟨g.up, g.ge, fun x h => by have := g.lt x h; omega, Nat.le_succ_of_le g.len⟩
theorem Grown.add {i : Nat} {l : List Int} (g : Grown i l) : Grown (i + 1) (l ++ [(i : Int)]) := by
  refine ⟨List.pairwise_append.mpr ⟨g.up, List.pairwise_singleton _ _, fun x h y hy => ?_⟩, fun x h => ?_, fun x h => ?_, ?_⟩
  · rw [List.mem_singleton.mp hy]
    exact g.lt x h
  · rcases List.mem_append.mp h with h | h
    · exact g.ge x h
    · rw [List.mem_singleton.mp h]; omega
  · rcases List.mem_append.mp h with h | h
    · have := g.lt x h; omega
    · rw [List.mem_singleton.mp h]; omega
  · rw [List.length_append]
    have := g.len
    show l.length + 1 ≤ i + 1
    omega
theorem cutOne (l : List Int) : cutV (l.map V.int) none (some 1) = (l.take 1).map V.int := by
  unfold cutV
  rw [HT.sIx_none, show HT.sIx (l.map V.int).length (l.map V.int).length (some 1) = min 1 (l.map V.int).length from HT.sIx_nat _ _ 1]
  cases l with
  | nil => rfl
  | cons x r =>
    rw [show min 1 ((x :: r).map V.int).length = 1 by rw [List.length_map, List.length_cons]; omega]
    rfl
theorem maxIte (n : Nat) : (if (n : Int) > 1 then (n : Int) else 1) = ((max 1 n : Nat) : Int) := by
  split <;> omega

end R
namespace R
open PySem PySem.Spec PyProof.Rows L2
/-! ## the law's own reckoning -/
theorem fade_step {a b i M : Nat} (hb : 0 < b) (hab : b < a) (h : a * b * 2 ^ i < M) : b * (a % b) * 2 ^ (i + 1) < M := by
  have h1 : a % b < b := Nat.mod_lt _ hb
  have h2 := Nat.mod_add_div a b
  have h3 : 1 ≤ a / b := Nat.div_pos (Nat.le_of_lt hab) hb
  have h4 : b * 1 ≤ b * (a / b) := Nat.mul_le_mul_left b h3
  have h5 : (a % b) * 2 ≤ a := by omega
  have h6 : b * ((a % b) * 2) ≤ b * a := Nat.mul_le_mul_left b h5
  have h7 : b * ((a % b) * 2) * 2 ^ i ≤ b * a * 2 ^ i := Nat.mul_le_mul_right _ h6
  have e : b * (a % b) * 2 ^ (i + 1) = b * ((a % b) * 2) * 2 ^ i := by
    rw [Nat.pow_succ, Nat.mul_comm (2 ^ i) 2, ← Nat.mul_assoc, ← Nat.mul_assoc]
  rw [e]
  rw [Nat.mul_comm b a] at h7
  omega
/-- how the two numbers of Euclid's walk fade -/
def Fade (M i a b : Nat) : Prop := (i = 0 ∧ a * b < M ∧ ∀ c, c < b → b * c < M) ∨ (∃ j, i = j + 1 ∧ b < a ∧ a * b * 2 ^ j < M)
theorem Fade.step {M i a b : Nat} (hb : b ≠ 0) (h : Fade M i a b) : Fade M (i + 1) b (a % b) := by
  have hb' : 0 < b := Nat.pos_of_ne_zero hb
  refine .inr ⟨i, rfl, Nat.mod_lt _ hb', ?_⟩
  rcases h with ⟨rfl, h1, h2⟩ | ⟨j, rfl, h1, h2⟩
  · rw [Nat.pow_zero, Nat.mul_one]
    exact h2 _ (Nat.mod_lt _ hb')
  · exact fade_step hb' h1 h2
theorem Fade.end_ {a b : Nat} (h : Fade (2 ^ 280) 300 a b) : b = 0 := by
  rcases h with ⟨h, _⟩ | ⟨j, hj, h1, h2⟩
  · omega
  · obtain rfl : j = 299 := by omega
    by_cases hb : b = 0
    · exact hb
    · have h3 : 1 * 1 ≤ a * b := Nat.mul_le_mul (by omega) (by omega)
      have h4 : 1 * 2 ^ 299 ≤ a * b * 2 ^ 299 := Nat.mul_le_mul_right _ h3
      exact absurd (Nat.lt_of_le_of_lt h4 h2) (by decide)
theorem Fade.start {a b : Nat} (ha : a < 2 ^ 140) (hb : b < 2 ^ 140) : Fade (2 ^ 280) 0 a b := by
  have e : (2 : Nat) ^ 140 * 2 ^ 140 = 2 ^ 280 := by rw [← Nat.pow_add]
  refine .inl ⟨rfl, ?_, fun c hc => ?_⟩
  · rw [← e]
    exact Nat.mul_lt_mul'' ha hb
  · rw [← e]
    exact Nat.mul_lt_mul'' hb (Nat.lt_trans hc hb)
def sp_l_gcd : Sp := fun vs H Q _ => ∃ a b : Nat, vs = [.int a, .int b] ∧ a < 2 ^ 140 ∧ b < 2 ^ 140 ∧ Q (.int (Nat.gcd a b : Nat)) H
theorem modNat (a b : Nat) : (a : Int) % (b : Int) = ((a % b : Nat) : Int) := (Int.natCast_emod a b).symm
theorem divNat (a b : Nat) : (a : Int) / (b : Int) = ((a / b : Nat) : Int) := (Int.natCast_ediv a b).symm
/-! the whole -/
theorem lcm_le_mul (m n : Nat) : Nat.lcm m n ≤ m * n := Nat.div_le_self _ _
theorem lcm_div (w m : Nat) : w / Nat.gcd w m * m = Nat.lcm w m := by
  unfold Nat.lcm
  exact Nat.div_mul_right_comm (Nat.gcd_dvd_left w m) m
theorem snocInd {α : Type} {p : List α → Prop} (h0 : p []) (hs : ∀ l x, p l → p (l ++ [x])) : ∀ l, p l := by
  intro l
  rw [← List.reverse_reverse l]
  induction l.reverse with
  | nil => exact h0
  | cons x r ih =>
    rw [List.reverse_cons]
    exact hs _ _ ih
theorem wh_pos : ∀ (bs : List Bar), (∀ b ∈ bs, 1 ≤ b.1) → 0 < wh bs := by
  refine snocInd (fun _ => by decide) fun bs b ih h => ?_
  · skip
    rw [wh_add]
    have h1 := ih fun c hc => h c (List.mem_append_left _ hc)
    have h2 := h b (List.mem_append_right _ (List.mem_singleton.mpr rfl))
    exact Nat.lcm_pos h1 (by omega)
theorem wh_le : ∀ (bs : List Bar), (∀ b ∈ bs, b.1.natAbs ≤ 1000000) → wh bs ≤ 1000000 ^ bs.length := by
  refine snocInd (fun _ => by decide) fun bs b ih h => ?_
  · skip
    rw [wh_add, List.length_append]
    have h1 := ih fun c hc => h c (List.mem_append_left _ hc)
    have h2 := h b (List.mem_append_right _ (List.mem_singleton.mpr rfl))
    exact Nat.le_trans (lcm_le_mul _ _) (Nat.mul_le_mul h1 h2)
structure ModsOk (bs : List Bar) : Prop where
  six : bs.length ≤ 6
  mod : ∀ b ∈ bs, 1 ≤ b.1 ∧ b.1 ≤ 1000000
theorem ModsOk.lt {bs : List Bar} (h : ModsOk bs) : wh bs < 2 ^ 130 := by
  have h1 := wh_le bs fun b hb => by have := h.mod b hb; omega
  have h2 : (1000000 : Nat) ^ bs.length ≤ 1000000 ^ 6 := Nat.pow_le_pow_right (by decide) h.six
  exact Nat.lt_of_le_of_lt (Nat.le_trans h1 h2) (by decide)
theorem ModsOk.take {bs : List Bar} (h : ModsOk bs) (n : Nat) : ModsOk (bs.take n) := ⟨by rw [List.length_take]; have := h.six; omega, fun b hb => h.mod b (List.mem_of_mem_take hb)⟩
theorem ModsOk.pos {bs : List Bar} (h : ModsOk bs) : 0 < wh bs := wh_pos bs fun b hb => (h.mod b hb).1
def sp_l_whole (K : PySem.W.Frag) : Sp := fun vs H Q _ => ∃ (v : V) (bs : List Bar), vs = [v] ∧ BarsAt K H v bs ∧ ModsOk bs ∧ Q (.int (wh bs : Nat)) H
theorem takeSucc {α : Type} {l : List α} {i : Nat} {x : α} (h : l[i]? = some x) : l.take (i + 1) = l.take i ++ [x] := by
  rw [List.take_add_one, h]
  rfl

/-! what fits -/
theorem inVInt (x : Int) (l : List Int) : inV (.int x) (l.map V.int) = decide (x ∈ l) := by
  unfold inV
  rw [List.any_map]
  by_cases h : x ∈ l
  · rw [decide_eq_true h]
    exact List.any_eq_true.mpr ⟨x, h, by show (x == x) = true; exact beq_self_eq_true x⟩
  · rw [decide_eq_false h]
    refine List.any_eq_false.mpr fun y hy e => h ?_
    have e' : (y == x) = true := e
    rw [← beq_iff_eq.mp e']
    exact hy
theorem fitsB_add (bs : List Bar) (b : Bar) (x : Int) : fitsB (bs ++ [b]) x = (fitsB bs x && decide (x % b.1 ∈ b.2)) := by
  unfold fitsB
  rw [List.all_append]
  simp
theorem fitsB_take {bs : List Bar} {x : Int} {i : Nat} {b : Bar} (hb : bs[i]? = some b) (h : x % b.1 ∉ b.2) : fitsB bs x = false := by
  unfold fitsB
  refine List.all_eq_false.mpr ⟨b, List.mem_of_getElem? hb, ?_⟩
  rw [decide_eq_false h]
  exact Bool.false_ne_true
def sp_l_fits (K : PySem.W.Frag) : Sp := fun vs H Q _ => ∃ (v : V) (bs : List Bar) (x : Int), vs = [v, .int x] ∧ BarsAt K H v bs ∧ (∀ b ∈ bs, 1 ≤ b.1) ∧ Q (.bl (fitsB bs x)) H
def sp_l_own (K : PySem.W.Frag) : Sp := fun vs H Q _ => ∃ (v : V) (bs : List Bar), vs = [v] ∧ BarsAt K H v bs ∧ ModsOk bs ∧ wh bs ≤ 100000 ∧
  ∀ D H', Same H H' → H D = none → H' D = some (.lst ((cls bs).map V.int)) → Q (.ref D) H'
def clsTo (bs : List Bar) (n : Nat) : List Int := ((List.range n).map fun i : Nat => (i : Int)).filter (fitsB bs)
theorem clsTo_succ (bs : List Bar) (n : Nat) : clsTo bs (n + 1) = clsTo bs n ++ (if fitsB bs n = true then [(n : Int)] else []) := by
  unfold clsTo
  rw [List.range_succ, List.map_append, List.filter_append]
  by_cases h : fitsB bs n = true
  · rw [if_pos h, List.map_singleton, List.filter_cons_of_pos h]
    rfl
  · rw [if_neg h, List.map_singleton, List.filter_cons_of_neg h]
    rfl
theorem clsTo_len (bs : List Bar) (n : Nat) : (clsTo bs n).length ≤ n := by
  have h := List.length_filter_le (fitsB bs) ((List.range n).map fun i : Nat => (i : Int))
  rw [List.length_map, List.length_range] at h
  exact h

end R
namespace R
open PySem PySem.Spec PyProof.Rows L2
section
variable {P : Program} {w : World} {K : PySem.W.Frag} {mg : Str → Option Value} {base : Heap}
theorem ok_l_bars (T : Txt K mg) : FnOk P w K mg base CX0 3 T.f_l_bars T.fd_l_bars ["_law_row", "_law_most", "_law_top"] (sp_l_bars K) := by
  refine T.F_l_bars.ok sc_l_bars (fun vs H Q E h => ?_) (fun cdv A outer s H vs Q E hr h => ?_)
  · obtain ⟨r, L, most, top, rfl, _⟩ := h
    rfl
  · obtain ⟨r, L, most, top, rfl, R0, hm, ht0, ht, q⟩ := h
    refine ⟨_, (pss_cons (ps_asg (pe_tup (pa_cons (pe_tup pa_nil) (pa_cons pe_int pa_nil))) (pg_tup (by rfl) (pgs_cons (pg_name (i := 3) sc_l_bars.nd rfl (by first | exact .inl rfl | exact .inr rfl)) (pgs_cons (pg_name (i := 4) sc_l_bars.nd rfl (by first | exact .inl rfl | exact .inr rfl)) pgs_nil))))
      (pss_cons (ps_for PassesOwn.never rfl (pi_range1 (by rfl) T.z_range (pa_cons (pe_call (ok_l_pick T) (hr.mono (by decide)) (by rfl) T.g_l_pick T.F_l_pick.kp T.b_l_pick .nil pass0 (pa_cons (pv 0) (pa_cons (pe_op op_add (pv 1) pe_int) pa_nil))) pa_nil)) (pg_name (i := 5) sc_l_bars.nd rfl (by first | exact .inl rfl | exact .inr rfl)) (pss_cons (ps_set (i := 6) sc_l_bars.nd rfl (by first | exact .inl rfl | exact .inr rfl) (pe_op op_add pe_int (pe_call (ok_l_pick T) (hr.mono (by decide)) (by rfl) T.g_l_pick T.F_l_pick.kp T.b_l_pick .nil pass0 (pa_cons (pv 0) (pa_cons (pv 2) pa_nil)))))
      (pss_cons (ps_set (i := 7) sc_l_bars.nd rfl (by first | exact .inl rfl | exact .inr rfl) (pe_op op_add pe_int (pe_call (ok_l_pick T) (hr.mono (by decide)) (by rfl) T.g_l_pick T.F_l_pick.kp T.b_l_pick .nil pass0 (pa_cons (pv 0) (pa_cons pe_int pa_nil)))))
      (pss_cons (ps_set (i := 8) sc_l_bars.nd rfl (by first | exact .inl rfl | exact .inr rfl) (pe_callTy call_tuple_of (by rfl) T.z_tuple (by decide +kernel) (pa_cons (pe_lc (own := [("_law_rest", 9)]) rfl sc_l_bars.nd (pi_range1 (by rfl) T.z_range (pa_cons (pv 6) pa_nil)) (blkOk_by (N := ["_law_row", "_law_most", "_law_top", "_law_found", "_law_many", "_law_k", "_law_modulus", "_law_thick", "_law_lot", "_law_rest"]) (sc := defScope s_l_bars) (by decide +kernel)) (fun _ _ _ _ _ => (pg_name (i := 9) sc_l_bars.nd rfl (by first | exact .inl rfl | exact .inr rfl))) (fun _ _ _ _ _ => (pts_one (pt_cmpR op_lt (pe_call (ok_l_pick T) (hr.mono (by decide)) (by rfl) T.g_l_pick T.F_l_pick.kp T.b_l_pick .nil pass0 (pa_cons (pv 0) (pa_cons pe_int pa_nil))) (pv 7) (nomark _)))) (fun _ _ _ _ _ => (pv 9))) pa_nil)))
      (C8.pss_cut (ps_if (pt_cmpR op_gt (pe_op op_mulW (pv 4) (pe_callB call_len_seq (by rfl) T.z_len (by decide +kernel) (pa_cons (pv 8) pa_nil))) pe_int (nomark _)) (pss_one (ps_set (i := 8) sc_l_bars.nd rfl (by first | exact .inl rfl | exact .inr rfl) (pe_slice sl_tupA (pv 8) po_none (po_some pe_int)))) pss_nil)
      (pss_cons (ps_set (i := 4) sc_l_bars.nd rfl (by first | exact .inl rfl | exact .inr rfl) (pe_op op_mulW (pv 4) (pe_callB (call_max2 rfl) (by rfl) T.z_max (by decide +kernel) (pa_cons pe_int (pa_cons (pe_callB call_len_seq (by rfl) T.z_len (by decide +kernel) (pa_cons (pv 8) pa_nil)) pa_nil)))))
      (pss_one (ps_set (i := 3) sc_l_bars.nd rfl (by first | exact .inl rfl | exact .inr rfl) (pe_op op_catA (pv 3) (pe_tup (pa_cons (pe_tup (pa_cons (pv 6) (pa_cons (pv 8) pa_nil))) pa_nil)))))))))))
      (pss_one (ps_ret (pv 3))))), ?_⟩
    refine ⟨sizeOk (by show (0 : Nat) ≤ 100000; decide), fun p0 np0 => ⟨sizeOk (by show (2 : Nat) ≤ 100000; decide), fun p1 np1 => ?_⟩⟩
    have s0 : Same H (upd H p0 (.tup [])) := same_upd np0
    have s1 := s0.trans (same_upd np1 (o := .tup [.ref p0, .int 1]))
    refine ⟨p1, _, rfl, tupOf upd_same, rfl, _, _, rfl, _, _, rfl, rfl, ?_⟩
    have n01 : p0 ≠ p1 := fun e => by
      subst e
      rw [upd_same] at np1
      cases np1
    refine ⟨_, rfl, _, rfl, _, _, rfl, rfl, r, L, _, rfl, R0.stay s1, by omega, by omega, fun n H1 hn0 hn1 k1 R1 => ⟨n, rfl, by omega, by omega, ?_⟩⟩
    have kp0 : Kp r H H1 := (Kp.of s1).trans k1
    have b0 : BarsAt K H1 (.ref p0) [] := ⟨p0, [], rfl, (R0.stay s1).tups k1 _ _ (tupOf (by rw [upd_ne n01]; exact upd_same)), rfl, fun i x b h => by simp at h⟩
    refine for_range (lo := 0) (n := n.toNat) (fun i σ H2 => ∃ (v : V) (bs : List Bar) (c : Int) (x5 x6 x7 x8 : Option V), σ = [some (.ref r), some (.int most), some (.int top), some v, some (.int c), x5, x6, x7, x8, none] ∧
        BarsAt K H2 v bs ∧ bs.length = i ∧ (choices bs : Int) = c ∧ Drawn i top bs ∧ Kp r H H2 ∧ RowAt H2 r L)
      ⟨.ref p0, [], 1, none, none, none, none, rfl, b0, rfl, rfl, ⟨Nat.le_refl _, fun b h => by simp at h, by decide⟩, kp0, R1⟩ ?_ ?_
    · rintro i σ H2 hi ⟨v, bs, c, x5, x6, x7, x8, rfl, B2, hl, hc, D2, k2, R2⟩
      -- the modulus
      refine ⟨_, rfl, _, rfl, r, L, _, rfl, R2, by omega, by omega, fun m0 H3 hm0 hm1 k3 R3 => ⟨_, _, rfl, rfl, ?_⟩⟩
      -- how thick
      refine ⟨_, rfl, r, L, 3, rfl, R3, by decide, by decide, fun t0 H4 ht0 ht1 k4 R4 => ⟨_, _, rfl, rfl, ?_⟩⟩
      -- the lot
      refine ⟨_, rfl, 1 + m0, rfl, by omega, by omega, fun D nD => ?_⟩
      have nDr := R4.new nD
      have kD : Kp r H4 (upd H4 D (.lst [])) := Kp.new nD
      refine lc_range (lo := 0) (n := (1 + m0).toNat) (fun j Hj => ∃ l : List Int, Hj D = some (.lst (l.map V.int)) ∧ Grown j l ∧ Kp r H4 Hj ∧ RowAt Hj r L)
        ⟨[], upd_same, ⟨List.Pairwise.nil, fun x h => by simp at h, fun x h => by simp at h, Nat.le_refl _⟩, kD, R4.upd nDr⟩ ?_ ?_
      · rintro j Hj hj ⟨l, ej, gj, kj, Rj⟩
        refine ⟨rfl, _, rfl, r, L, 5, rfl, Rj, by decide, by decide, fun p5 H5 _ _ k5 R5 => ⟨_, rfl, _, _, rfl, rfl, _, rfl, ?_⟩⟩
        have e5 : H5 D = some (.lst (l.map V.int)) := k5 _ _ nDr.1 ej
        refine ite2 (fun _ => ?_) (fun _ => ?_)
        · refine ⟨_, rfl, _, e5, ?_, ?_⟩
          · rw [List.length_map]
            have := gj.len
            exact sizeLt (by omega)
          · refine ⟨l ++ [(j : Int)], ?_, gj.add, fun b o n h => ?_, R5.upd nDr⟩
            · rw [upd_same, List.map_append, Int.zero_add]
              rfl
            · have nb : b ≠ D := ne_of_none h nD
              rw [upd_ne nb]
              exact k5 b o n (kj b o n h)
        · exact ⟨l, e5, gj.skip, kj.trans k5, R5⟩
      · rintro H5 ⟨l, e5, g5, k5, R5⟩
        -- tuple(..)
        refine ⟨D, _, rfl, .inl ⟨lstOf e5, fun t nt => ?_⟩⟩
        have k6 : Kp r H2 (upd H5 t (.tup (l.map V.int))) := ((k3.trans k4).trans k5).trans (Kp.new nt)
        have R6 : RowAt (upd H5 t (.tup (l.map V.int))) r L := R5.upd (R5.new nt)
        have t6 : SqT K (upd H5 t (.tup (l.map V.int))) t (l.map V.int) := tupOf upd_same
        generalize upd H5 t (.tup (l.map V.int)) = H6 at k6 R6 t6 ⊢
        have hm : (1 + m0).toNat ≤ top := by omega
        have ll : l.length ≤ top := Nat.le_trans g5.len hm
        have hc2 := D2.many
        have lot5 : LotOk (1 + m0) l := ⟨g5.up, g5.ge, fun x h => by have := g5.lt x h; omega, by omega⟩
        -- the cut
        refine ⟨fun σ H' => ∃ (a : Addr) (l' : List Int), σ = [some (.ref r), some (.int most), some (.int top), some v, some (.int c), some (.int (0 + (i : Int))), some (.int (1 + m0)), some (.int (2 + t0)), some (.ref a), none] ∧
          SqT K H' a (l'.map V.int) ∧ LotOk (1 + m0) l' ∧ choices bs * max 1 l'.length ≤ 2000 ∧ Kp r H2 H' ∧ RowAt H' r L, ?_, ?_⟩
        · refine ⟨_, rfl, _, rfl, t, _, rfl, .inr t6, _, _, rfl, rfl, wide_mul (a := 12) (b := 12) (by omega) (by rw [List.length_map]; omega) (by decide) (by decide) (by decide), _, _, rfl, rfl, _, rfl, ite2 (fun e => ?_) (fun e => ?_)⟩
          · refine ⟨_, rfl, 1, rfl, t, _, rfl, t6, fun e2 => ?_, fun _ p np => ?_⟩
            · have h1 : min 1 (l.map V.int).length = (l.map V.int).length := Eq.trans (HT.sIx_nat _ _ 1).symm e2.2
              have e' := of_decide_eq_true e
              rw [List.length_map] at h1 e'
              have h2 : l.length = 0 ∨ l.length = 1 := by omega
              rcases h2 with h2 | h2 <;> (rw [h2] at e'; omega)
            · rw [cutOne] at *
              refine ⟨p, l.take 1, rfl, tupOf upd_same, ?_, ?_, k6.trans (Kp.new np), R6.upd (R6.new np)⟩
              · exact ⟨lot5.up.sublist (List.take_sublist _ _), fun x h => lot5.ge x (List.mem_of_mem_take h), fun x h => lot5.lt x (List.mem_of_mem_take h), by rw [List.length_take]; omega⟩
              · have : max 1 (l.take 1).length = 1 := by rw [List.length_take]; omega
                rw [this]
                omega
          · refine ⟨t, l, rfl, t6, lot5, ?_, k6, R6⟩
            have e' : ¬ (2000 < c * ((l.map V.int).length : Int)) := fun h => e (decide_eq_true h)
            rw [List.length_map, ← hc, ← Int.natCast_mul] at e'
            by_cases h0 : l.length = 0
            · rw [h0]
              show choices bs * 1 ≤ 2000
              omega
            · rw [show max 1 l.length = l.length by omega]
              omega
        · rintro σ H' ⟨a, l', rfl, ta, lok, hch, k7, R7⟩
          refine ⟨_, rfl, _, rfl, a, _, rfl, .inr ta, _, _, rfl, _, _, rfl, rfl, wide_mul (a := 12) (b := 12) (by omega) ?_ (by decide) (by decide) (by decide), ?_⟩
          · rw [List.length_map, maxIte]
            have := lok.few
            omega
          · refine ⟨_, rfl, _, rfl, _, rfl, sizeOk (by show (2 : Nat) ≤ 100000; decide), fun p np => ⟨sizeOk (by show (1 : Nat) ≤ 100000; decide), fun p2 np2 => ?_⟩⟩
            obtain ⟨b, xs, rfl, tb, nb, hb⟩ := B2.ex
            have s8 : Same H' (upd H' p (.tup [.int (1 + m0), .ref a])) := same_upd np
            have s9 := s8.trans (same_upd np2 (o := .tup [.ref p]))
            have T9 : TupsStay K H2 _ := fun _ _ h => Same.seqTT s9 (R2.tups k7 _ _ h)
            have np12 : p ≠ p2 := fun e => by
              subst e
              rw [upd_same] at np2
              cases np2
            have bar9 : BarAt K (upd (upd H' p (.tup [.int (1 + m0), .ref a])) p2 (.tup [.ref p])) (.ref p) (1 + m0, l') :=
              ⟨p, .ref a, rfl, tupOf (by rw [upd_ne np12]; exact upd_same), ⟨a, rfl, Same.seqTT s9 ta⟩⟩
            have fin : ∀ (c' : Addr) H9, Same (upd (upd H' p (.tup [.int (1 + m0), .ref a])) p2 (.tup [.ref p])) H9 → SqT K H9 c' (xs ++ [.ref p]) → BarsAt K H9 (.ref c') (bs ++ [(1 + m0, l')]) ∧ (bs ++ [(1 + m0, l')]).length = i + 1 ∧
                ((choices (bs ++ [(1 + m0, l')]) : Nat) : Int) = c * (if ((l'.map V.int).length : Int) > 1 then ((l'.map V.int).length : Int) else 1) ∧ Drawn (i + 1) top (bs ++ [(1 + m0, l')]) ∧ Kp r H H9 ∧ RowAt H9 r L := by
              intro c' H9 s10 t10
              refine ⟨BarsAt.add t10 nb (fun j x d h1 h2 => (hb j x d h1 h2).stay fun _ _ h => Same.seqTT s10 (T9 _ _ h)) (bar9.stay (.same s10)), by rw [List.length_append, hl]; rfl, ?_, ⟨by rw [List.length_append, hl]; exact Nat.le_refl _, fun d h => ?_, ?_⟩, k2.trans (k7.trans ((Kp.of s9).trans (Kp.of s10))), (R7.stay s9).stay s10⟩
              · rw [choices_add, List.length_map, maxIte, ← hc, Int.natCast_mul]
              · rcases List.mem_append.mp h with h | h
                · exact D2.bar d h
                · rw [List.mem_singleton.mp h]
                  exact ⟨by show 1 ≤ 1 + m0; omega, by show 1 + m0 ≤ (top : Int); omega, lok⟩
              · rw [choices_add]
                exact hch
            have hxl : xs.length ≤ 6 := by omega
            refine ⟨b, p2, xs, [.ref p], rfl, rfl, T9 _ _ tb, tupOf upd_same, sizeOk (by show xs.length + 1 ≤ 100000; omega), fun e => ?_, fun _ e => absurd e (List.cons_ne_nil _ _), fun _ _ q' nq' => ?_⟩
            · subst e
              obtain ⟨f1, f2, f3, f4, f5, f6⟩ := fin p2 _ (Same.refl _) (tupOf upd_same)
              exact ⟨_, _, _, _, _, _, _, rfl, f1, f2, f3, f4, f5, f6⟩
            · obtain ⟨f1, f2, f3, f4, f5, f6⟩ := fin q' _ (same_upd nq') (tupOf upd_same)
              exact ⟨_, _, _, _, _, _, _, rfl, f1, f2, f3, f4, f5, f6⟩
    · rintro σ H2 ⟨v, bs, c, x5, x6, x7, x8, rfl, B2, hl, hc, D2, k2, R2⟩
      exact ⟨_, rfl, q v bs H2 ⟨by omega, fun b h => D2.bar b h, D2.many⟩ B2 k2 R2⟩
end

end R
namespace R
open PySem PySem.Spec PyProof.Rows L2
/-! ## joining rests: the mathematics -/
theorem emod_of_dvd_sub {a b m : Int} (h0 : 0 ≤ b) (h1 : b < m) (h : m ∣ a - b) : a % m = b := by
  obtain ⟨k, hk⟩ := h
  have e : a = b + m * k := by omega
  rw [e, Int.add_mul_emod_self_left]
  exact Int.emod_eq_of_lt h0 h1
def rowL (g turns back whole known : Int) (lot : List Int) : List Int := (lot.filter fun r => decide ((r - known) % g = 0)).map fun r => known + whole * ((r - known) / g * back % turns)
def joinL (g turns back whole : Int) (classes lot : List Int) : List Int := classes.flatMap fun k => rowL g turns back whole k lot
theorem rowL_add (g turns back whole known r : Int) (lot : List Int) : rowL g turns back whole known (lot ++ [r]) = rowL g turns back whole known lot ++ (if (r - known) % g = 0 then [known + whole * ((r - known) / g * back % turns)] else []) := by
  unfold rowL
  rw [List.filter_append, List.map_append]
  by_cases h : (r - known) % g = 0
  · rw [if_pos h, List.filter_cons_of_pos (by rw [decide_eq_true h])]
    rfl
  · rw [if_neg h, List.filter_cons_of_neg (by rw [decide_eq_false h]; exact Bool.false_ne_true)]
    rfl
theorem joinL_add (g turns back whole k : Int) (classes lot : List Int) : joinL g turns back whole (classes ++ [k]) lot = joinL g turns back whole classes lot ++ rowL g turns back whole k lot := by
  unfold joinL
  rw [List.flatMap_append]
  congr 1
  exact List.append_nil _
theorem mem_rowL {g turns back whole known y : Int} {lot : List Int} : y ∈ rowL g turns back whole known lot ↔ ∃ r ∈ lot, (r - known) % g = 0 ∧ y = known + whole * ((r - known) / g * back % turns) := by
  unfold rowL
  rw [List.mem_map]
  constructor
  · rintro ⟨r, hr, e⟩
    obtain ⟨h1, h2⟩ := List.mem_filter.mp hr
    exact ⟨r, h1, of_decide_eq_true h2, e.symm⟩
  · rintro ⟨r, h1, h2, e⟩
    exact ⟨r, List.mem_filter.mpr ⟨h1, decide_eq_true h2⟩, e.symm⟩
theorem mem_joinL {g turns back whole y : Int} {classes lot : List Int} : y ∈ joinL g turns back whole classes lot ↔ ∃ k ∈ classes, ∃ r ∈ lot, (r - k) % g = 0 ∧ y = k + whole * ((r - k) / g * back % turns) := by
  unfold joinL
  rw [List.mem_flatMap]
  constructor
  · rintro ⟨k, hk, h⟩
    exact ⟨k, hk, mem_rowL.mp h⟩
  · rintro ⟨k, hk, h⟩
    exact ⟨k, hk, mem_rowL.mpr h⟩
/-- what the joining leans on: g the common measure, w = g * w', m = g * turns, back the inverse of w' by turns -/
structure Meet (g turns back w w' m : Int) : Prop where
  g0 : 0 < g
  t0 : 0 < turns
  w0 : 0 < w
  ew : w = g * w'
  em : m = g * turns
  inv : turns ∣ w' * back - 1
section
variable {g turns back w w' m : Int}
theorem Meet.m0 (M : Meet g turns back w w' m) : 0 < m := by rw [M.em]; exact Int.mul_pos M.g0 M.t0
theorem Meet.out (M : Meet g turns back w w' m) {k r : Int} (hd : (r - k) % g = 0) : m ∣ (k + w * ((r - k) / g * back % turns)) - r := by
  obtain ⟨e, he⟩ := M.inv
  have hq : g * ((r - k) / g) = r - k := Int.mul_ediv_cancel' (Int.dvd_of_emod_eq_zero hd)
  generalize (r - k) / g = q at hq ⊢
  have ht := Int.mul_ediv_add_emod (q * back) turns
  generalize (q * back) % turns = t at ht ⊢
  generalize (q * back) / turns = j at ht
  refine ⟨q * e - w' * j, ?_⟩
  have h1 : w' * t - q = turns * (q * e - w' * j) := by
    have : t = q * back - turns * j := by omega
    rw [this, Int.mul_sub, Int.mul_sub]
    have a1 : w' * (q * back) = q * (w' * back) := by rw [← Int.mul_assoc, Int.mul_comm w' q, Int.mul_assoc]
    have a2 : w' * back = turns * e + 1 := by omega
    have a3 : w' * (turns * j) = turns * (w' * j) := by rw [← Int.mul_assoc, Int.mul_comm w' turns, Int.mul_assoc]
    have a4 : q * (turns * e + 1) = turns * (q * e) + q := by rw [Int.mul_add, Int.mul_one, ← Int.mul_assoc, Int.mul_comm q turns, Int.mul_assoc]
    rw [a1, a2, a3, a4]
    omega
  have h2 : k + w * t - r = g * (w' * t - q) := by
    rw [Int.mul_sub, hq, M.ew, ← Int.mul_assoc]
    omega
  rw [h2, h1, M.em, Int.mul_assoc]
theorem Meet.into (M : Meet g turns back w w' m) {y : Int} (h0 : 0 ≤ y) (h1 : y < w * turns) : (y % m - y % w) % g = 0 ∧ y = y % w + w * ((y % m - y % w) / g * back % turns) := by
  obtain ⟨e, he⟩ := M.inv
  have hw := Int.mul_ediv_add_emod y w
  have hm := Int.mul_ediv_add_emod y m
  have k0 := Int.emod_nonneg y (Int.ne_of_gt M.w0)
  have t0 : 0 ≤ y / w := Int.ediv_nonneg h0 (Int.le_of_lt M.w0)
  have t1 : y / w < turns := Int.ediv_lt_of_lt_mul M.w0 (by rw [Int.mul_comm]; exact h1)
  generalize y / w = t at hw t0 t1
  generalize y / m = s at hm
  generalize y % w = k at hw k0 ⊢
  generalize y % m = r at hm ⊢
  have hd : r - k = g * (w' * t - turns * s) := by
    have a1 : w * t = g * (w' * t) := by rw [M.ew, Int.mul_assoc]
    have a2 : m * s = g * (turns * s) := by rw [M.em, Int.mul_assoc]
    rw [Int.mul_sub, ← a1, ← a2]
    omega
  rw [hd]
  refine ⟨Int.mul_emod_right _ _, ?_⟩
  rw [Int.mul_ediv_cancel_left _ (Int.ne_of_gt M.g0)]
  have hq : (w' * t - turns * s) * back = t + turns * (e * t - s * back) := by
    have a2 : w' * back = turns * e + 1 := by omega
    rw [Int.sub_mul, Int.mul_sub]
    have a3 : w' * t * back = (w' * back) * t := by rw [Int.mul_assoc, Int.mul_comm t back, ← Int.mul_assoc]
    have a4 : (turns * e + 1) * t = turns * (e * t) + t := by rw [Int.add_mul, Int.one_mul, Int.mul_assoc]
    have a5 : turns * s * back = turns * (s * back) := Int.mul_assoc _ _ _
    rw [a3, a2, a4, a5]
    omega
  rw [hq, Int.add_mul_emod_self_left, Int.emod_eq_of_lt t0 t1]
  omega
/-- a number made of known and rest tells both -/
theorem Meet.tells (M : Meet g turns back w w' m) {k r : Int} (hk : 0 ≤ k ∧ k < w) (hr : 0 ≤ r ∧ r < m) (hd : (r - k) % g = 0) :
    (k + w * ((r - k) / g * back % turns)) % w = k ∧ (k + w * ((r - k) / g * back % turns)) % m = r := by
  refine ⟨?_, emod_of_dvd_sub hr.1 hr.2 (M.out hd)⟩
  rw [Int.add_mul_emod_self_left]
  exact Int.emod_eq_of_lt hk.1 hk.2
theorem Meet.rowNodup (M : Meet g turns back w w' m) {k : Int} {lot : List Int} (hk : 0 ≤ k ∧ k < w) (hl : ∀ r ∈ lot, 0 ≤ r ∧ r < m) (nd : lot.Nodup) : (rowL g turns back w k lot).Nodup := by
  unfold rowL
  have nf : (lot.filter fun r => decide ((r - k) % g = 0)).Nodup := nd.filter _
  refine List.pairwise_map.mpr (List.Pairwise.imp_of_mem (fun {a b} ha hb hne e => hne ?_) nf)
  obtain ⟨a1, a2⟩ := List.mem_filter.mp ha
  obtain ⟨b1, b2⟩ := List.mem_filter.mp hb
  have q1 := (M.tells hk (hl _ a1) (of_decide_eq_true a2)).2
  have q2 := (M.tells hk (hl _ b1) (of_decide_eq_true b2)).2
  rw [← q1, ← q2, e]
theorem Meet.joinNodup (M : Meet g turns back w w' m) {cs lot : List Int} (hc : ∀ k ∈ cs, 0 ≤ k ∧ k < w) (nc : cs.Nodup) (hl : ∀ r ∈ lot, 0 ≤ r ∧ r < m) (nd : lot.Nodup) : (joinL g turns back w cs lot).Nodup := by
  induction cs with
  | nil => exact List.nodup_nil
  | cons k r ih =>
    obtain ⟨n1, n2⟩ := List.nodup_cons.mp nc
    show (rowL g turns back w k lot ++ joinL g turns back w r lot).Nodup
    refine List.nodup_append.mpr ⟨M.rowNodup (hc k List.mem_cons_self) hl nd, ih (fun x hx => hc x (List.mem_cons_of_mem _ hx)) n2, fun a ha b hb e => ?_⟩
    obtain ⟨r1, hr1, d1, e1⟩ := mem_rowL.mp ha
    obtain ⟨k2, hk2, r2, hr2, d2, e2⟩ := mem_joinL.mp hb
    have q1 := (M.tells (hc k List.mem_cons_self) (hl _ hr1) d1).1
    have q2 := (M.tells (hc k2 (List.mem_cons_of_mem _ hk2)) (hl _ hr2) d2).1
    rw [← e1] at q1
    rw [← e2] at q2
    rw [e] at q1
    rw [← q1, q2] at n1
    exact n1 hk2
end
/-! what fits by a row of bars hangs on the rest by the whole alone -/
theorem dvd_wh : ∀ (bs : List Bar) (b : Bar), b ∈ bs → b.1.natAbs ∣ wh bs := by
  refine snocInd (fun b h => by simp at h) fun bs c ih b h => ?_
  rw [wh_add]
  rcases List.mem_append.mp h with h | h
  · exact Nat.dvd_trans (ih b h) (Nat.dvd_lcm_left _ _)
  · rw [List.mem_singleton.mp h]
    exact Nat.dvd_lcm_right _ _
theorem emod_emod_wh {bs : List Bar} {b : Bar} (h : b ∈ bs) (x : Int) : x % (wh bs : Int) % b.1 = x % b.1 := by
  refine Int.emod_emod_of_dvd x ?_
  have := dvd_wh bs b h
  exact Int.natAbs_dvd.mp (Int.natCast_dvd_natCast.mpr this)
theorem fitsB_iff {bs : List Bar} {x : Int} : fitsB bs x = true ↔ ∀ b ∈ bs, x % b.1 ∈ b.2 := by
  unfold fitsB
  rw [List.all_eq_true]
  exact ⟨fun h b hb => of_decide_eq_true (h b hb), fun h b hb => decide_eq_true (h b hb)⟩
theorem fitsB_mod (bs : List Bar) (x : Int) : fitsB bs (x % (wh bs : Int)) = fitsB bs x := by
  rw [Bool.eq_iff_iff, fitsB_iff, fitsB_iff]
  exact ⟨fun h b hb => by rw [← emod_emod_wh hb]; exact h b hb, fun h b hb => by rw [emod_emod_wh hb]; exact h b hb⟩
/-- xs: each number from 0 to w - 1 that fits, once -/
structure ClsIs (bs : List Bar) (xs : List Int) : Prop where
  nd : xs.Nodup
  mem : ∀ x, x ∈ xs ↔ 0 ≤ x ∧ x < (wh bs : Int) ∧ fitsB bs x = true
theorem ClsIs.nil : ClsIs [] [0] := by
  refine ⟨by simp, fun x => ?_⟩
  rw [List.mem_singleton]
  have e : (wh [] : Int) = 1 := rfl
  rw [e]
  constructor
  · rintro rfl
    exact ⟨by decide, by decide, rfl⟩
  · rintro ⟨a, b, _⟩
    omega
theorem ClsIs.add {g turns back w' : Int} {bs : List Bar} {b : Bar} {xs : List Int} (M : Meet g turns back (wh bs : Int) w' b.1) (h : ClsIs bs xs) (L : LotOk b.1 b.2) (hw : (wh (bs ++ [b]) : Int) = (wh bs : Int) * turns) :
    ClsIs (bs ++ [b]) (joinL g turns back (wh bs : Int) xs b.2) := by
  have hc : ∀ k ∈ xs, 0 ≤ k ∧ k < (wh bs : Int) := fun k hk => let ⟨a, c, _⟩ := (h.mem k).mp hk; ⟨a, c⟩
  have hl : ∀ r ∈ b.2, 0 ≤ r ∧ r < b.1 := fun r hr => ⟨L.ge r hr, L.lt r hr⟩
  refine ⟨M.joinNodup hc h.nd hl (L.up.imp fun h => Int.ne_of_lt h), fun y => ?_⟩
  rw [mem_joinL, hw, fitsB_add]
  constructor
  · rintro ⟨k, hk, r, hr, hd, e⟩
    obtain ⟨q1, q2⟩ := M.tells (hc k hk) (hl r hr) hd
    obtain ⟨k0, k1, kf⟩ := (h.mem k).mp hk
    have t0 := Int.emod_nonneg ((r - k) / g * back) (Int.ne_of_gt M.t0)
    have t1 := Int.emod_lt_of_pos ((r - k) / g * back) M.t0
    rw [← e] at q1 q2
    generalize (r - k) / g * back % turns = t at e t0 t1
    have p0 : 0 ≤ (wh bs : Int) * t := Int.mul_nonneg (Int.le_of_lt M.w0) t0
    have p1 : (wh bs : Int) * (t + 1) ≤ (wh bs : Int) * turns := Int.mul_le_mul_of_nonneg_left (by omega) (Int.le_of_lt M.w0)
    rw [Int.mul_add, Int.mul_one] at p1
    refine ⟨by omega, by omega, ?_⟩
    rw [q2, decide_eq_true hr, Bool.and_true, ← fitsB_mod, q1]
    exact kf
  · rintro ⟨y0, y1, yf⟩
    obtain ⟨f1, f2⟩ := Bool.and_eq_true_iff.mp yf
    obtain ⟨d1, d2⟩ := M.into y0 y1
    refine ⟨y % (wh bs : Int), (h.mem _).mpr ⟨Int.emod_nonneg _ (Int.ne_of_gt M.w0), Int.emod_lt_of_pos _ M.w0, by rw [fitsB_mod]; exact f1⟩, y % b.1, of_decide_eq_true f2, d1, d2⟩
/-- sorted, it is the list of them in order -/
theorem cls_is (bs : List Bar) : ClsIs bs (cls bs) := by
  refine ⟨?_, fun x => ?_⟩
  · refine List.Pairwise.filter _ (List.pairwise_map.mpr (List.nodup_range.imp fun h e => h (by omega)))
  · unfold cls
    rw [List.mem_filter, List.mem_map]
    constructor
    · rintro ⟨⟨n, hn, rfl⟩, f⟩
      have := List.mem_range.mp hn
      exact ⟨by omega, by omega, f⟩
    · rintro ⟨x0, x1, f⟩
      exact ⟨⟨x.toNat, List.mem_range.mpr (by omega), by omega⟩, f⟩
theorem cls_up (bs : List Bar) : (cls bs).Pairwise (· < ·) := by
  unfold cls
  refine List.Pairwise.filter _ (List.pairwise_map.mpr (List.pairwise_lt_range.imp fun h => by omega))
theorem sorted_unique : ∀ {xs ys : List Int}, xs.Pairwise (· < ·) → ys.Pairwise (· < ·) → (∀ x, x ∈ xs ↔ x ∈ ys) → xs = ys
  | [], [], _, _, _ => rfl
  | [], y :: r, _, _, h => absurd ((h y).mpr List.mem_cons_self) (by simp)
  | x :: r, [], _, _, h => absurd ((h x).mp List.mem_cons_self) (by simp)
  | x :: r, y :: s, p, q, h => by
    obtain ⟨p1, p2⟩ := List.pairwise_cons.mp p
    obtain ⟨q1, q2⟩ := List.pairwise_cons.mp q
    have e : x = y := by
      rcases List.mem_cons.mp ((h x).mp List.mem_cons_self) with e | e
      · exact e
      · rcases List.mem_cons.mp ((h y).mpr List.mem_cons_self) with f | f
        · exact f.symm
        · have := q1 x e
          have := p1 y f
          omega
    subst e
    congr 1
    refine sorted_unique p2 q2 fun z => ⟨fun hz => ?_, fun hz => ?_⟩
    · rcases List.mem_cons.mp ((h z).mp (List.mem_cons_of_mem _ hz)) with e | e
      · have := p1 z hz
        omega
      · exact e
    · rcases List.mem_cons.mp ((h z).mpr (List.mem_cons_of_mem _ hz)) with e | e
      · have := q1 z hz
        omega
      · exact e
theorem le_nodup_lt {xs : List Int} (h : xs.Pairwise (· ≤ ·)) (n : xs.Nodup) : xs.Pairwise (· < ·) := by
  refine (h.and n).imp fun ⟨a, b⟩ => ?_
  omega
theorem ClsIs.sorted {bs : List Bar} {xs ys : List Int} (h : ClsIs bs xs) (p : ys.Perm xs) (s : ys.Pairwise (· ≤ ·)) : ys = cls bs := by
  refine sorted_unique (le_nodup_lt s (p.nodup_iff.mpr h.nd)) (cls_up bs) fun x => ?_
  rw [p.mem_iff, h.mem, (cls_is bs).mem]
theorem joinL_len (g turns back whole : Int) (classes lot : List Int) : (joinL g turns back whole classes lot).length ≤ classes.length * lot.length := by
  induction classes with
  | nil => exact Nat.zero_le _
  | cons k r ih =>
    show (rowL g turns back whole k lot ++ joinL g turns back whole r lot).length ≤ (r.length + 1) * lot.length
    have h1 : (rowL g turns back whole k lot).length ≤ lot.length := by
      unfold rowL
      rw [List.length_map]
      exact List.length_filter_le _ _
    rw [List.length_append, Nat.add_mul, Nat.one_mul]
    omega

end R
namespace R
open PySem PySem.Spec PyProof.Rows L2
/-! ## the program's own: the checks, the joining, the sieve -/
/-- Euclid's walk with its factors: r, a the two numbers, F, G the factors' sizes -/
structure Euc (n m r a F G : Nat) (f g : Int) : Prop where
  r1 : 1 ≤ r
  co : Nat.gcd r a = 1
  sum : r * G + a * F = m
  sg : (f = F ∧ g = -(G : Int)) ∨ (f = -(F : Int) ∧ g = G)
  df : (m : Int) ∣ f * n - r
  dg : (m : Int) ∣ g * n - a
theorem Euc.start {n m : Nat} (h1 : 1 ≤ n) (co : Nat.gcd n m = 1) : Euc n m n m 1 0 1 0 := by
  refine ⟨h1, co, by omega, .inl ⟨rfl, rfl⟩, ⟨0, by omega⟩, ⟨-1, by omega⟩⟩
theorem Euc.step {n m r a F G : Nat} {f g : Int} (E : Euc n m r a F G f g) (ha : a ≠ 0) : Euc n m a (r % a) G (F + r / a * G) g (f - ((r / a : Nat) : Int) * g) := by
  have hd := Nat.div_add_mod r a
  refine ⟨Nat.pos_of_ne_zero ha, ?_, ?_, ?_, E.dg, ?_⟩
  · rw [Nat.gcd_comm a (r % a), ← Nat.gcd_rec, Nat.gcd_comm]
    exact E.co
  · have e := E.sum
    rw [← hd] at e
    rw [← e, Nat.mul_add, Nat.add_mul, Nat.mul_assoc]
    omega
  · rcases E.sg with ⟨h1, h2⟩ | ⟨h1, h2⟩
    · refine .inr ⟨h2, ?_⟩
      rw [h1, h2, Int.mul_neg, Int.natCast_add, Int.natCast_mul]
      omega
    · refine .inl ⟨h2, ?_⟩
      rw [h1, h2, Int.natCast_add, Int.natCast_mul]
      omega
  · obtain ⟨x, hx⟩ := E.df
    obtain ⟨y, hy⟩ := E.dg
    refine ⟨x - ((r / a : Nat) : Int) * y, ?_⟩
    have e1 : ((r : Nat) : Int) = (a : Int) * ((r / a : Nat) : Int) + ((r % a : Nat) : Int) := by
      rw [← Int.natCast_mul, ← Int.natCast_add, hd]
    have e2 : f * n = (m : Int) * x + r := by omega
    have e3 : g * n = (m : Int) * y + a := by omega
    rw [Int.sub_mul, Int.mul_assoc, e2, e3, Int.mul_sub, Int.mul_add]
    have e4 : ((r / a : Nat) : Int) * ((m : Int) * y) = (m : Int) * (((r / a : Nat) : Int) * y) := by rw [← Int.mul_assoc, Int.mul_comm _ (m : Int), Int.mul_assoc]
    have e5 : ((r / a : Nat) : Int) * (a : Int) = (a : Int) * ((r / a : Nat) : Int) := Int.mul_comm _ _
    rw [e4, e5]
    omega
theorem Euc.last {n m r F G : Nat} {f g : Int} (E : Euc n m r 0 F G f g) : (m : Int) ∣ (n : Int) * (f % (m : Int)) - 1 := by
  have h1 := E.co
  rw [Nat.gcd_zero_right] at h1
  obtain ⟨x, hx⟩ := E.df
  have hm := Int.mul_ediv_add_emod f (m : Int)
  generalize f / (m : Int) = q at hm
  refine ⟨x - (n : Int) * q, ?_⟩
  have e : f % (m : Int) = f - (m : Int) * q := by omega
  have e2 : (n : Int) * f = (m : Int) * x + 1 := by
    rw [Int.mul_comm]
    omega
  rw [e, Int.mul_sub, e2, Int.mul_sub]
  have e4 : (n : Int) * ((m : Int) * q) = (m : Int) * ((n : Int) * q) := by rw [← Int.mul_assoc, Int.mul_comm (n : Int), Int.mul_assoc]
  rw [e4]
  omega
def sp_p_inverse : Sp := fun vs H Q _ => ∃ n m : Nat, vs = [.int n, .int m] ∧ 1 ≤ n ∧ n < 2 ^ 150 ∧ 1 ≤ m ∧ m < 2 ^ 150 ∧ Nat.gcd n m = 1 ∧ ∀ (v : Int) (H' : Hp), Same H H' → 0 ≤ v → v < m → (m : Int) ∣ (n : Int) * v - 1 → Q (.int v) H'
section
variable {P : Program} {w : World} {K : PySem.W.Frag} {mg : Str → Option Value} {base : Heap}
theorem ok_p_inverse (T : Txt K mg) : FnOk P w K mg base CX0 2 T.f_p_inverse T.fd_p_inverse ["number", "modulus"] sp_p_inverse := by
  refine T.F_p_inverse.ok sc_p_inverse (fun vs H Q E h => ?_) (fun cdv A outer s H vs Q E hr h => ?_)
  · obtain ⟨n, m, rfl, _⟩ := h
    rfl
  · obtain ⟨n, m, rfl, h1, h2, h3, h4, co, q⟩ := h
    refine ⟨_, (pss_cons (ps_par (i := 2) (j := 3) (by rfl) sc_p_inverse.nd rfl rfl (by decide) rfl rfl (pa_cons (pv 0) (pa_cons (pv 1) pa_nil)) (by rfl))
      (pss_cons (ps_asg (pe_tup (pa_cons pe_int (pa_cons pe_int pa_nil))) (pg_tup (by rfl) (pgs_cons (pg_name (i := 4) sc_p_inverse.nd rfl (by first | exact .inl rfl | exact .inr rfl)) (pgs_cons (pg_name (i := 5) sc_p_inverse.nd rfl (by first | exact .inl rfl | exact .inr rfl)) pgs_nil))))
      (pss_cons (ps_while PassesOwn.never (pt_cmpR op_ne (pv 3) pe_int (nomark _)) (pss_cons (ps_set (i := 6) sc_p_inverse.nd rfl (by first | exact .inl rfl | exact .inr rfl) (pe_op op_fdivW (pv 2) (pv 3)))
      (pss_cons (ps_par (i := 2) (j := 3) (by rfl) sc_p_inverse.nd rfl rfl (by decide) rfl rfl (pa_cons (pv 3) (pa_cons (pe_op op_sub (pv 2) (pe_op op_mulW (pv 6) (pv 3))) pa_nil)) (by rfl))
      (pss_one (ps_par (i := 4) (j := 5) (by rfl) sc_p_inverse.nd rfl rfl (by decide) rfl rfl (pa_cons (pv 5) (pa_cons (pe_op op_sub (pv 4) (pe_op op_mulW (pv 6) (pv 5))) pa_nil)) (by rfl))))))
      (pss_one (ps_ret (pe_op op_mod (pv 4) (pv 1))))))), ?_⟩
    refine ⟨_, rfl, _, rfl, _, _, rfl, ?_⟩
    refine ⟨sizeOk (by show (2 : Nat) ≤ 100000; decide), fun p np => ⟨p, _, rfl, tupOf upd_same, rfl, _, _, rfl, _, _, rfl, rfl, ?_⟩⟩
    have s1 : Same H (upd H p (.tup [.int 1, .int 0])) := same_upd np
    generalize upd H p (.tup [.int 1, .int 0]) = H1 at s1
    refine while_by (fun σ H2 => ∃ (r a F G : Nat) (f g : Int) (x : Option V), σ = [some (.int n), some (.int m), some (.int r), some (.int a), some (.int f), some (.int g), x] ∧ Euc n m r a F G f g ∧ r < 2 ^ 150 ∧ a < 2 ^ 150 ∧ H2 = H1)
      (fun σ _ => match σ with | [_, _, _, some (.int a), _, _, _] => a.toNat | _ => 0) ⟨n, m, 1, 0, 1, 0, none, rfl, Euc.start h1 co, h2, h4, rfl⟩ ?_ ?_
    · rintro σ H2 ⟨r, a, F, G, f, g, x, rfl, U, hr1, ha1, rfl⟩
      refine ⟨_, rfl, rfl, _, rfl, ite2 (fun e => ?_) (fun e => ?_)⟩
      · have h0 : a ≠ 0 := fun z => by
          subst z
          have e' : (!decide (V.int ((0 : Nat) : Int) = V.int 0)) = true := e
          exact absurd e' (by decide)
        have ap : 0 < a := Nat.pos_of_ne_zero h0
        have hd := Nat.div_add_mod r a
        have q1 : r / a ≤ r := Nat.div_le_self _ _
        have sm := U.sum
        have g1 : 1 * G ≤ r * G := Nat.mul_le_mul_right _ U.r1
        have f1 : 1 * F ≤ a * F := Nat.mul_le_mul_right _ ap
        have gl : g.natAbs < 2 ^ 150 := by
          rcases U.sg with ⟨_, z⟩ | ⟨_, z⟩ <;> omega
        refine ⟨_, rfl, _, rfl, _, _, rfl, rfl, wide_div (b := 150) (by omega) (by rw [Int.natAbs_natCast]; exact ha1) (by decide) (by decide), ?_⟩
        refine ⟨_, rfl, _, rfl, _, rfl, _, rfl, _, _, rfl, rfl, ?_, _, _, rfl, rfl, _, _, rfl, ?_⟩
        · rw [divNat]
          exact wide_mul (a := 150) (b := 150) (by rw [Int.natAbs_natCast]; omega) (by rw [Int.natAbs_natCast]; exact ha1) (by decide) (by decide) (by decide)
        refine ⟨_, rfl, _, rfl, _, rfl, _, rfl, _, _, rfl, rfl, ?_, _, _, rfl, rfl, _, _, rfl, ?_, ?_⟩
        · rw [divNat]
          exact wide_mul (a := 150) (b := 150) (by rw [Int.natAbs_natCast]; omega) gl (by decide) (by decide) (by decide)
        · refine ⟨a, r % a, G, F + r / a * G, g, f - ((r / a : Nat) : Int) * g, some (.int ((r / a : Nat) : Int)), ?_, U.step h0, ha1, Nat.lt_of_le_of_lt (Nat.mod_le _ _) hr1, rfl⟩
          have em : (r : Int) - (r : Int) / (a : Int) * (a : Int) = ((r % a : Nat) : Int) := by
            rw [← modNat, Int.emod_def, Int.mul_comm]
          show ([some (.int n), some (.int m), some (.int a), some (.int ((r : Int) - (r : Int) / (a : Int) * (a : Int))), some (.int g), some (.int (f - (r : Int) / (a : Int) * g)), some (.int ((r : Int) / (a : Int)))] : L2.St) = _
          rw [em, divNat]
        · show ((r : Int) - (r : Int) / (a : Int) * (a : Int)).toNat < ((a : Nat) : Int).toNat
          have em : (r : Int) - (r : Int) / (a : Int) * (a : Int) = ((r % a : Nat) : Int) := by
            rw [← modNat, Int.emod_def, Int.mul_comm]
          rw [em, Int.toNat_natCast, Int.toNat_natCast]
          exact Nat.mod_lt _ ap
      · have e' : ¬ (!decide (V.int (a : Int) = V.int 0)) = true := e
        have a0 : a = 0 := by
          by_cases z : V.int (a : Int) = V.int 0
          · have := V.int.inj z
            omega
          · rw [decide_eq_false z] at e'
            exact absurd rfl e'
        subst a0
        refine ⟨_, rfl, _, rfl, _, _, rfl, rfl, by show 0 < (m : Int); omega, ?_⟩
        exact q _ _ s1 (Int.emod_nonneg _ (by omega)) (Int.emod_lt_of_pos _ (by omega)) U.last
    · intro σ H2 Q1 Q2 hQ h
      obtain ⟨v, hv, hs, k, hk, hq⟩ := h
      exact ⟨v, hv, hs, k, hk, hQ _ _ hq⟩
end

end R
namespace R
open PySem PySem.Spec PyProof.Rows L2
theorem samePut {H H' : Hp} {p : Addr} {o : HO} (s : Same H H') (h : H p = none) : Same H (upd H' p o) := fun b u e => by
  rw [upd_ne (ne_of_none e h)]
  exact s b u e
theorem freshOf {H H' : Hp} {p : Addr} (s : Same H H') (h : H' p = none) : H p = none := s.free h
theorem rowL_len (g turns back whole known : Int) (lot : List Int) : (rowL g turns back whole known lot).length ≤ lot.length := by
  unfold rowL
  rw [List.length_map]
  exact List.length_filter_le _ _
theorem joinL_len2 {g turns back whole k : Int} {xs lot : List Int} {i j : Nat} (hi : i < xs.length) : (joinL g turns back whole (xs.take i) lot ++ rowL g turns back whole k (lot.take j)).length ≤ xs.length * lot.length := by
  have h1 := joinL_len g turns back whole (xs.take i) lot
  have h2 := rowL_len g turns back whole k (lot.take j)
  rw [List.length_take] at h1 h2
  rw [List.length_append]
  have h3 : (i + 1) * lot.length ≤ xs.length * lot.length := Nat.mul_le_mul_right _ hi
  rw [Nat.add_mul, Nat.one_mul] at h3
  have h4 : min i xs.length = i := by omega
  rw [h4] at h1
  omega
def sp_p_joined (K : PySem.W.Frag) : Sp := fun vs H Q _ => ∃ (c : Addr) (xs lot : List Int) (w m : Nat) (v : V), vs = [.ref c, .int w, .int m, v] ∧ SqL K H c (xs.map V.int) ∧ LotAt K H v lot ∧ 1 ≤ w ∧ w < 2 ^ 130 ∧ 1 ≤ m ∧ m ≤ 1000000 ∧
  (∀ x ∈ xs, 0 ≤ x ∧ x < (w : Int)) ∧ (∀ r ∈ lot, 0 ≤ r ∧ r < (m : Int)) ∧ xs.length * lot.length ≤ 100000 ∧
  ∀ (D : Addr) (H' : Hp) (g t b w' : Int), Same H H' → Meet g t b w w' m → ((Nat.lcm w m : Nat) : Int) = (w : Int) * t → H' D = some (.lst ((joinL g t b w xs lot).map V.int)) → Q (.ref D) H'
section
variable {P : Program} {w : World} {K : PySem.W.Frag} {mg : Str → Option Value} {base : Heap}
theorem ok_p_joined (T : Txt K mg) : FnOk P w K mg base CX0 3 T.f_p_joined T.fd_p_joined ["classes", "whole", "modulus", "lot"] (sp_p_joined K) := by
  refine T.F_p_joined.ok sc_p_joined (fun vs H Q E h => ?_) (fun cdv A outer s H vs Q E hr h => ?_)
  · obtain ⟨c, xs, lot, W, m, v, rfl, _⟩ := h
    rfl
  · obtain ⟨c, xs, lot, W, m, v, rfl, hc, hL, w1, w2, m1, m2, hx, hl, hsz, q⟩ := h
    refine ⟨_, (pss_cons (ps_set (i := 4) sc_p_joined.nd rfl (by first | exact .inl rfl | exact .inr rfl) (pe_callBfun cr_gcd (by rfl) T.g_gcd (pa_cons (pv 1) (pa_cons (pv 2) pa_nil))))
      (pss_cons (ps_set (i := 5) sc_p_joined.nd rfl (by first | exact .inl rfl | exact .inr rfl) (pe_op op_fdivW (pv 2) (pv 4)))
      (pss_cons (ps_set (i := 6) sc_p_joined.nd rfl (by first | exact .inl rfl | exact .inr rfl) (pe_call (ok_p_inverse T) (hr.mono (by decide)) (by rfl) T.g_p_inverse T.F_p_inverse.kp T.b_p_inverse .nil pass0 (pa_cons (pe_op op_fdivW (pv 1) (pv 4)) (pa_cons (pv 5) pa_nil))))
      (pss_cons (ps_set (i := 7) sc_p_joined.nd rfl (by first | exact .inl rfl | exact .inr rfl) (pe_lst pa_nil))
      (pss_cons (ps_for PassesOwn.never rfl (pi_list (pv 0)) (pg_name (i := 8) sc_p_joined.nd rfl (by first | exact .inl rfl | exact .inr rfl)) (pss_one (ps_for PassesOwn.never rfl (pi_tup (pv 3)) (pg_name (i := 9) sc_p_joined.nd rfl (by first | exact .inl rfl | exact .inr rfl)) (pss_cons (ps_set (i := 10) sc_p_joined.nd rfl (by first | exact .inl rfl | exact .inr rfl) (pe_op op_sub (pv 9) (pv 8)))
      (pss_one (ps_if (pt_cmpR op_eq (pe_op op_mod (pv 10) (pv 4)) pe_int (nomark _)) (pss_one (ps_expr (pe_bm PySem.F.plainAttrs_list PySem.F.slot_list_append PySem.F.type_list_append mt_append (pv 7) (pa_cons (pe_op op_add (pv 8) (pe_op op_mulW (pv 1) (pe_op op_mod (pe_op op_mulW (pe_op op_fdivW (pv 10) (pv 4)) (pv 6)) (pv 5)))) pa_nil)))) pss_nil))))))
      (pss_one (ps_ret (pv 7)))))))), ?_⟩
    have hg : 0 < Nat.gcd W m := Nat.gcd_pos_of_pos_left _ w1
    have gm : Nat.gcd W m ≤ m := Nat.gcd_le_right _ m1
    have gw : Nat.gcd W m ≤ W := Nat.gcd_le_left _ w1
    refine ⟨_, rfl, _, rfl, _, _, rfl, ?_⟩
    rw [Int.natAbs_natCast, Int.natAbs_natCast]
    have ew : Nat.gcd W m * (W / Nat.gcd W m) = W := Nat.mul_div_cancel' (Nat.gcd_dvd_left W m)
    have em : Nat.gcd W m * (m / Nat.gcd W m) = m := Nat.mul_div_cancel' (Nat.gcd_dvd_right W m)
    have cop : Nat.gcd (W / Nat.gcd W m) (m / Nat.gcd W m) = 1 := by rw [Nat.gcd_div (Nat.gcd_dvd_left W m) (Nat.gcd_dvd_right W m)]; exact Nat.div_self hg
    have lcmE : Nat.lcm W m = W * (m / Nat.gcd W m) := Nat.mul_div_assoc W (Nat.gcd_dvd_right W m)
    have t1 : 1 ≤ m / Nat.gcd W m := Nat.div_pos gm hg
    have t2 : m / Nat.gcd W m ≤ m := Nat.div_le_self _ _
    have v1 : 1 ≤ W / Nat.gcd W m := Nat.div_pos gw hg
    have v2 : W / Nat.gcd W m ≤ W := Nat.div_le_self _ _
    generalize Nat.gcd W m = g at *
    generalize ht : m / g = t at *
    generalize hw : W / g = w' at *
    have dm : (m : Int) / (g : Int) = (t : Int) := by rw [divNat, ht]
    have dw : (W : Int) / (g : Int) = (w' : Int) := by rw [divNat, hw]
    refine ⟨_, rfl, _, rfl, _, _, rfl, rfl, wide_div (b := 30) (by omega) (by rw [Int.natAbs_natCast]; omega) (by decide) (by decide), ?_⟩
    refine ⟨_, rfl, _, rfl, _, _, rfl, rfl, wide_div (b := 30) (by omega) (by rw [Int.natAbs_natCast]; omega) (by decide) (by decide), _, rfl, w', t, by rw [← dw, ← dm]; rfl, v1, by omega, t1, by omega, cop, fun back H1 s1 b0 b1 hb => ?_⟩
    have M : Meet (g : Int) (t : Int) back (W : Int) (w' : Int) (m : Int) := ⟨by omega, by omega, by omega, by rw [← Int.natCast_mul, ew], by rw [← Int.natCast_mul, em], hb⟩
    refine ⟨Nat.zero_le _, fun F nF => ?_⟩
    have nF0 := freshOf s1 nF
    obtain ⟨a, rfl, ta⟩ := hL.ex
    have s2 : Same H (upd H1 F (.lst [])) := samePut s1 nF0
    refine ⟨_, rfl, c, rfl, ⟨_, s2.seq hc⟩, for_list (K := K) (a := c) (xs := xs.map V.int) (fun i σ Hj => ∃ (x8 x9 x10 : Option V), σ = [some (.ref c), some (.int W), some (.int m), some (.ref a), some (.int g), some (.int ((m : Int) / (g : Int))), some (.int back), some (.ref F), x8, x9, x10] ∧
      Same H Hj ∧ Hj F = some (.lst ((joinL g t back W (xs.take i) lot).map V.int)))
      ⟨none, none, none, rfl, s2, upd_same⟩ (fun i σ Hj _ ⟨_, _, _, _, sj, _⟩ => sj.seq hc) ?_ ?_⟩
    · rintro i y σ Hj hi ⟨x8, x9, x10, rfl, sj, ej⟩
      obtain ⟨k, hk, rfl⟩ := getMapInt' hi
      have kx := hx k (List.mem_of_getElem? hk)
      refine ⟨_, rfl, a, rfl, ⟨_, Same.seqTT sj ta⟩, for_tup (K := K) (a := a) (xs := lot.map V.int) (fun j σ H2 => ∃ (x9 x10 : Option V), σ = [some (.ref c), some (.int W), some (.int m), some (.ref a), some (.int g), some (.int ((m : Int) / (g : Int))), some (.int back), some (.ref F), some (.int k), x9, x10] ∧
        Same H H2 ∧ H2 F = some (.lst ((joinL g t back W (xs.take i) lot ++ rowL g t back W k (lot.take j)).map V.int)))
        ⟨x9, x10, rfl, sj, by rw [ej]; show _ = some (HO.lst ((_ ++ []).map V.int)); rw [List.append_nil]⟩ (fun j σ H2 _ ⟨_, _, _, s3, _⟩ => Same.seqTT s3 ta) ?_ ?_⟩
      · rintro j z σ H2 hj ⟨y9, y10, rfl, s3, e3⟩
        obtain ⟨r, hr0, rfl⟩ := getMapInt' hj
        have rx := hl r (List.mem_of_getElem? hr0)
        refine ⟨_, rfl, _, rfl, _, _, rfl, rfl, ?_⟩
        refine ⟨_, rfl, _, rfl, _, _, rfl, rfl, by show (0 : Int) < (g : Int); omega, rfl, _, rfl, ite2 (fun e => ?_) (fun e => ?_)⟩
        · have e0 : (r - k) % (g : Int) = 0 := V.int.inj (of_decide_eq_true e)
          have nd : ((r - k) / (g : Int)).natAbs ≤ (r - k).natAbs := Int.natAbs_ediv_le_natAbs _ _
          refine ⟨_, rfl, .inl ⟨rfl, _, lstOf e3⟩, _, rfl, _, rfl, _, rfl, _, rfl, _, _, rfl, rfl, wide_div (b := 30) (by omega) (by rw [Int.natAbs_natCast]; omega) (by decide) (by decide), _, rfl, _, _, rfl, rfl,
            wide_mul (a := 150) (b := 30) (by omega) (by omega) (by decide) (by decide) (by decide), _, rfl, _, _, rfl, rfl, by show (0 : Int) < (m : Int) / (g : Int); rw [dm]; omega, _, _, rfl, rfl, ?_, _, _, rfl, rfl, ?_⟩
          · have u0 := Int.emod_nonneg ((r - k) / (g : Int) * back) (show ((m : Int) / (g : Int)) ≠ 0 by rw [dm]; omega)
            have u1 := Int.emod_lt_of_pos ((r - k) / (g : Int) * back) (show 0 < ((m : Int) / (g : Int)) by rw [dm]; omega)
            rw [dm] at u0 u1 ⊢
            exact wide_mul (a := 150) (b := 30) (by rw [Int.natAbs_natCast]; omega) (by omega) (by decide) (by decide) (by decide)
          · have hlen : (joinL g t back W (xs.take i) lot ++ rowL g t back W k (lot.take j)).length ≤ 100000 := Nat.le_trans (joinL_len2 (List.getElem?_eq_some_iff.mp hk).1) hsz
            refine ⟨F, _, _, rfl, rfl, e3, by rw [List.length_map]; exact sizeLt (by omega), ?_⟩
            refine ⟨_, _, rfl, samePut s3 nF0, ?_⟩
            rw [upd_same, takeSucc hr0, rowL_add, if_pos e0, ← List.append_assoc]
            generalize joinL g t back W (xs.take i) lot ++ rowL g t back W k (lot.take j) = L
            rw [List.map_append, dm]
            rfl
        · have e0 : ¬ (r - k) % (g : Int) = 0 := fun z => e (decide_eq_true (congrArg V.int z))
          refine ⟨_, _, rfl, s3, ?_⟩
          rw [e3, takeSucc hr0, rowL_add, if_neg e0, List.append_nil]
      · rintro σ H2 ⟨y9, y10, rfl, s3, e3⟩
        refine ⟨_, _, _, rfl, s3, ?_⟩
        rw [e3, List.length_map, List.take_length, takeSucc hk, joinL_add]
    · rintro σ H2 ⟨y8, y9, y10, rfl, s3, e3⟩
      rw [List.length_map, List.take_length] at e3
      exact ⟨_, rfl, q F H2 g t back w' s3 M (by rw [lcmE, Int.natCast_mul]) e3⟩
end

end R
namespace R
open PySem PySem.Spec PyProof.Rows L2
/-! ## what any value is: integers, lots, bars -/
def kOdd (K : PySem.W.Frag) (H : Hp) (x : V) : Prop := (∃ b, x = .bl b) ∨ ∃ t, TyX K H x (.type t) ∧ kitB t "int" = some false
theorem kOdd.ni {K : PySem.W.Frag} {H : Hp} {x : V} (h : kOdd K H x) (i : Int) : x ≠ .int i := by
  rintro rfl
  rcases h with ⟨b, e⟩ | ⟨t, h1, h2⟩
  · cases e
  · cases h1 with
    | base h =>
      cases h
      exact absurd h2 (by decide +kernel)
/-- an integer or something else whose kind is known -/
def Itm (K : PySem.W.Frag) (H : Hp) (x : V) : Prop := (∃ i, x = .int i) ∨ kOdd K H x
def NotTup (K : PySem.W.Frag) (H : Hp) (x : V) : Prop := ∃ t, TyX K H x (.type t) ∧ kitB t "tuple" = some false
def ascV (m : Int) : Int → List V → Bool
  | _, [] => true
  | lo, .int i :: r => (decide (lo ≤ i) && decide (i ≤ m - 1)) && ascV m (i + 1) r
  | _, _ :: _ => false
theorem ascV_ni {m lo : Int} {x : V} {r : List V} (h : ∀ i, x ≠ .int i) : ascV m lo (x :: r) = false := by
  cases x with
  | int i => exact absurd rfl (h i)
  | _ => rfl
theorem ascV_int {m lo i : Int} {r : List V} : ascV m lo (.int i :: r) = ((decide (lo ≤ i) && decide (i ≤ m - 1)) && ascV m (i + 1) r) := rfl
theorem ascV_iff {m : Int} : ∀ {l : List Int} {lo : Int}, ascV m lo (l.map V.int) = true ↔ l.Pairwise (· < ·) ∧ (∀ r ∈ l, lo ≤ r) ∧ ∀ r ∈ l, r < m
  | [], lo => ⟨fun _ => ⟨.nil, fun r h => by simp at h, fun r h => by simp at h⟩, fun _ => rfl⟩
  | x :: l, lo => by
    show ((decide (lo ≤ x) && decide (x ≤ m - 1)) && ascV m (x + 1) (l.map V.int)) = true ↔ _
    rw [Bool.and_eq_true, Bool.and_eq_true, decide_eq_true_iff, decide_eq_true_iff, ascV_iff (l := l) (lo := x + 1)]
    constructor
    · rintro ⟨⟨h1, h2⟩, h3, h4, h5⟩
      refine ⟨List.pairwise_cons.mpr ⟨fun z hz => by have := h4 z hz; omega, h3⟩, fun r hr => ?_, fun r hr => ?_⟩
      · rcases List.mem_cons.mp hr with rfl | hr
        · exact h1
        · have := h4 r hr
          omega
      · rcases List.mem_cons.mp hr with rfl | hr
        · omega
        · exact h5 r hr
    · rintro ⟨h1, h2, h3⟩
      obtain ⟨h4, h5⟩ := List.pairwise_cons.mp h1
      have := h3 x List.mem_cons_self
      exact ⟨⟨h2 x List.mem_cons_self, by omega⟩, h5, fun r hr => by have := h4 r hr; omega, fun r hr => h3 r (List.mem_cons_of_mem _ hr)⟩
theorem LotOk.asc {m : Int} {l : List Int} (h : LotOk m l) : ascV m 0 (l.map V.int) = true := ascV_iff.mpr ⟨h.up, h.ge, h.lt⟩
def barV : V → List V → Bool
  | .int m, zs => (decide (1 ≤ m) && decide (m ≤ 1000000)) && (ascV m 0 zs && decide (zs.length ≤ 60))
  | _, _ => false
theorem barV_ni {x : V} {r : List V} (h : ∀ i, x ≠ .int i) : barV x r = false := by
  cases x with
  | int i => exact absurd rfl (h i)
  | _ => rfl
theorem itmInts {K : PySem.W.Frag} {H : Hp} (l : List Int) : ∀ y ∈ l.map V.int, Itm K H y := fun y h => by
  obtain ⟨i, _, rfl⟩ := List.mem_map.mp h
  exact .inl ⟨i, rfl⟩
def sp_p_is_integer (K : PySem.W.Frag) : Sp := fun vs H Q _ => ∃ x : V, vs = [x] ∧ ((∃ i, x = .int i ∧ Q (.bl true) H) ∨ (kOdd K H x ∧ Q (.bl false) H))
def sp_p_integer_within (K : PySem.W.Frag) : Sp := fun vs H Q _ => ∃ (x : V) (lo hi : Int), vs = [x, .int lo, .int hi] ∧ ((∃ i, x = .int i ∧ Q (.bl (decide (lo ≤ i) && decide (i ≤ hi))) H) ∨ (kOdd K H x ∧ Q (.bl false) H))
def sp_p_is_ascending (K : PySem.W.Frag) : Sp := fun vs H Q _ => ∃ (x : V) (m : Int), vs = [x, .int m] ∧ ((NotTup K H x ∧ Q (.bl false) H) ∨ ∃ a xs, x = .ref a ∧ SqT K H a xs ∧ (∀ y ∈ xs, Itm K H y) ∧ Q (.bl (ascV m 0 xs)) H)
def sp_p_is_lot (K : PySem.W.Frag) : Sp := fun vs H Q _ => ∃ (x : V) (m : Int), vs = [x, .int m] ∧ ((NotTup K H x ∧ Q (.bl false) H) ∨ ∃ a xs, x = .ref a ∧ SqT K H a xs ∧ (∀ y ∈ xs, Itm K H y) ∧ Q (.bl (ascV m 0 xs && decide (xs.length ≤ 60))) H)
def sp_p_is_pair (K : PySem.W.Frag) : Sp := fun vs H Q _ => ∃ x : V, vs = [x] ∧ ((NotTup K H x ∧ Q (.bl false) H) ∨ ∃ a xs, x = .ref a ∧ SqT K H a xs ∧ Q (.bl (decide (xs.length = 2))) H)
def sp_p_is_bar (K : PySem.W.Frag) : Sp := fun vs H Q _ => ∃ x : V, vs = [x] ∧ ((NotTup K H x ∧ Q (.bl false) H) ∨ ∃ a xs, x = .ref a ∧ SqT K H a xs ∧ ((xs.length ≠ 2 ∧ Q (.bl false) H) ∨
  ∃ y z, xs = [y, z] ∧ Itm K H y ∧ ((NotTup K H z ∧ Q (.bl false) H) ∨ ∃ c zs, z = .ref c ∧ SqT K H c zs ∧ (∀ u ∈ zs, Itm K H u) ∧ Q (.bl (barV y zs)) H)))
section
variable {P : Program} {w : World} {K : PySem.W.Frag} {mg : Str → Option Value} {base : Heap}
theorem ok_p_is_integer (T : Txt K mg) : FnOk P w K mg base CX0 2 T.f_p_is_integer T.fd_p_is_integer ["value"] (sp_p_is_integer K) := by
  refine T.F_p_is_integer.ok sc_p_is_integer (fun vs H Q E h => ?_) (fun cdv A outer s H vs Q E hr h => ?_)
  · obtain ⟨x, rfl, _⟩ := h
    rfl
  · obtain ⟨x, rfl, h⟩ := h
    refine ⟨_, (pss_one (ps_ret (pe_and (pe_callB call_isi (by rfl) T.z_isinstance (by decide +kernel) (pa_cons (pv 0) (pa_cons (pe_bltn (v := .ty "int") (by rfl) T.z_int (by decide +kernel) rfl) pa_nil))) (pe_one (pe_not (pe_callB call_isi (by rfl) T.z_isinstance (by decide +kernel) (pa_cons (pv 0) (pa_cons (pe_bltn (v := .ty "bool") (by rfl) T.z_bool (by decide +kernel) rfl) pa_nil)))))))), ?_⟩
    rcases h with ⟨x, rfl, q⟩ | ⟨⟨b, rfl⟩ | ⟨t, ht, hk⟩, q⟩
    · refine ⟨_, rfl, _, _, _, _, _, rfl, .ty "int", .base (.int x), kit_ty (r := true) (by decide +kernel), true, rfl, iteT ?_⟩
      exact ⟨_, rfl, _, _, _, _, _, rfl, .ty "bool", .base (.int x), kit_ty (r := false) (by decide +kernel), false, rfl, q⟩
    · refine ⟨_, rfl, _, _, _, _, _, rfl, .ty "int", .base (.bl b), kit_ty (r := true) (by decide +kernel), true, rfl, iteT ?_⟩
      exact ⟨_, rfl, _, _, _, _, _, rfl, .ty "bool", .base (.bl b), kit_ty (r := true) (by decide +kernel), true, rfl, q⟩
    · exact ⟨_, rfl, _, _, _, _, _, rfl, .ty "int", ht, kit_ty (r := false) hk, false, rfl, iteF q⟩
theorem ok_p_integer_within (T : Txt K mg) : FnOk P w K mg base CX0 3 T.f_p_integer_within T.fd_p_integer_within ["value", "least", "greatest"] (sp_p_integer_within K) := by
  refine T.F_p_integer_within.ok sc_p_integer_within (fun vs H Q E h => ?_) (fun cdv A outer s H vs Q E hr h => ?_)
  · obtain ⟨x, lo, hi, rfl, _⟩ := h
    rfl
  · obtain ⟨x, lo, hi, rfl, h⟩ := h
    refine ⟨_, (pss_one (ps_ret (pe_and (pe_call (ok_p_is_integer T) (hr.mono (by decide)) (by rfl) T.g_p_is_integer T.F_p_is_integer.kp T.b_p_is_integer .nil pass0 (pa_cons (pv 0) pa_nil)) (pe_one (pe_chain op_le op_le (pv 1) (pv 0) (pv 2)))))), ?_⟩
    rcases h with ⟨x, rfl, q⟩ | ⟨o, q⟩
    · refine ⟨_, rfl, _, rfl, .inl ⟨x, rfl, true, rfl, iteT ⟨_, rfl, _, rfl, _, _, rfl, rfl, _, rfl, ?_⟩⟩⟩
      by_cases h : lo ≤ x
      · rw [decide_eq_true h] at q ⊢
        exact iteT ⟨_, rfl, _, _, rfl, rfl, q⟩
      · rw [decide_eq_false h] at q ⊢
        exact iteF q
    · exact ⟨_, rfl, _, rfl, .inr ⟨o, false, rfl, iteF q⟩⟩
theorem ok_p_is_ascending (T : Txt K mg) : FnOk P w K mg base CX0 4 T.f_p_is_ascending T.fd_p_is_ascending ["value", "limit"] (sp_p_is_ascending K) := by
  refine T.F_p_is_ascending.ok sc_p_is_ascending (fun vs H Q E h => ?_) (fun cdv A outer s H vs Q E hr h => ?_)
  · obtain ⟨v, m, rfl, _⟩ := h
    rfl
  · obtain ⟨v, m, rfl, h⟩ := h
    refine ⟨_, (pss_cons (ps_if (pt_not (pt_val (pe_callB call_isi (by rfl) T.z_isinstance (by decide +kernel) (pa_cons (pv 0) (pa_cons (pe_bltn (v := .ty "tuple") (by rfl) T.z_tuple (by decide +kernel) rfl) pa_nil))))) (pss_one (ps_ret pe_bl)) pss_nil)
      (pss_cons (ps_set (i := 2) sc_p_is_ascending.nd rfl (by first | exact .inl rfl | exact .inr rfl) pe_int)
      (pss_cons (ps_for PassesOwn.never rfl (pi_tup (pv 0)) (pg_name (i := 3) sc_p_is_ascending.nd rfl (by first | exact .inl rfl | exact .inr rfl)) (pss_cons (ps_if (pt_not (pt_val (pe_call (ok_p_integer_within T) (hr.mono (by decide)) (by rfl) T.g_p_integer_within T.F_p_integer_within.kp T.b_p_integer_within .nil pass0 (pa_cons (pv 3) (pa_cons (pv 2) (pa_cons (pe_op op_sub (pv 1) pe_int) pa_nil)))))) (pss_one (ps_ret pe_bl)) pss_nil)
      (pss_one (ps_set (i := 2) sc_p_is_ascending.nd rfl (by first | exact .inl rfl | exact .inr rfl) (pe_op op_add (pv 3) pe_int)))))
      (pss_one (ps_ret pe_bl))))), ?_⟩
    rcases h with ⟨⟨t, ht, hk⟩, q⟩ | ⟨a, xs, rfl, ta, it, q⟩
    · exact ⟨_, rfl, _, _, _, _, _, rfl, .ty "tuple", ht, kit_ty (r := false) hk, false, rfl, iteT q⟩
    · refine ⟨_, rfl, _, _, _, _, _, rfl, .ty "tuple", tyTup ta, kit_ty (r := true) (by decide +kernel), true, rfl, iteF ?_⟩
      refine ⟨_, rfl, a, rfl, ⟨_, ta⟩, for_tup (K := K) (a := a) (xs := xs) (fun i σ H2 => ∃ (n : Int) (x : Option V), σ = [some (.ref a), some (.int m), some (.int n), x] ∧ ascV m 0 xs = ascV m n (xs.drop i) ∧ H2 = H)
        ⟨0, none, rfl, rfl, rfl⟩ (fun i σ H2 _ ⟨_, _, _, _, e⟩ => by rw [e]; exact ta) ?_ ?_⟩
      · rintro i y σ H2 hi ⟨n, x, rfl, hn, rfl⟩
        have hd : xs.drop i = y :: xs.drop (i + 1) := by
          obtain ⟨h1, h2⟩ := List.getElem?_eq_some_iff.mp hi
          rw [List.drop_eq_getElem_cons h1, h2]
        rw [hd] at hn
        refine ⟨_, rfl, _, rfl, _, rfl, _, _, rfl, rfl, _, _, _, rfl, ?_⟩
        rcases it y (List.mem_of_getElem? hi) with ⟨r, rfl⟩ | o
        · refine .inl ⟨r, rfl, _, rfl, ?_⟩
          rw [ascV_int] at hn
          by_cases h : (decide (n ≤ r) && decide (r ≤ m - 1)) = true
          · rw [h] at hn ⊢
            exact iteF ⟨_, rfl, _, _, rfl, rfl, _, _, rfl, hn, rfl⟩
          · rw [Bool.not_eq_true] at h
            rw [h] at hn ⊢
            rw [Bool.false_and] at hn
            rw [hn] at q
            exact iteT q
        · refine .inr ⟨o, _, rfl, iteT ?_⟩
          rw [hn, ascV_ni o.ni] at q
          exact q
      · rintro σ H2 ⟨n, x, rfl, hn, rfl⟩
        rw [List.drop_length] at hn
        rw [hn] at q
        exact q
theorem ok_p_is_lot (T : Txt K mg) : FnOk P w K mg base CX0 5 T.f_p_is_lot T.fd_p_is_lot ["value", "modulus"] (sp_p_is_lot K) := by
  refine T.F_p_is_lot.ok sc_p_is_lot (fun vs H Q E h => ?_) (fun cdv A outer s H vs Q E hr h => ?_)
  · obtain ⟨v, m, rfl, _⟩ := h
    rfl
  · obtain ⟨v, m, rfl, h⟩ := h
    refine ⟨_, (pss_one (ps_ret (pe_and (pe_call (ok_p_is_ascending T) (hr.mono (by decide)) (by rfl) T.g_p_is_ascending T.F_p_is_ascending.kp T.b_p_is_ascending .nil pass0 (pa_cons (pv 0) (pa_cons (pv 1) pa_nil))) (pe_one (pe_cmpR op_le (pe_callB call_len_seq (by rfl) T.z_len (by decide +kernel) (pa_cons (pv 0) pa_nil)) (pe_glob (v := .int 60) (by rfl) T.c_MOST_RESTS.choose_spec ⟨_, rfl⟩) (nomark _)))))), ?_⟩
    rcases h with ⟨o, q⟩ | ⟨a, xs, rfl, ta, it, q⟩
    · exact ⟨_, rfl, _, rfl, v, m, rfl, .inl ⟨o, false, rfl, iteF q⟩⟩
    · refine ⟨_, rfl, _, rfl, _, m, rfl, .inr ⟨a, xs, rfl, ta, it, _, rfl, ?_⟩⟩
      cases e : ascV m 0 xs with
      | false =>
        rw [e] at q
        exact iteF q
      | true =>
        refine iteT ⟨_, rfl, a, _, rfl, .inr ta, _, _, rfl, rfl, ?_⟩
        rw [e, Bool.true_and] at q
        have e2 : decide ((xs.length : Int) ≤ 60) = decide (xs.length ≤ 60) := by
          rw [Bool.eq_iff_iff, decide_eq_true_iff, decide_eq_true_iff]
          omega
        show Q (.bl (decide ((xs.length : Int) ≤ 60))) H
        rw [e2]
        exact q
theorem ok_p_is_pair (T : Txt K mg) : FnOk P w K mg base CX0 2 T.f_p_is_pair T.fd_p_is_pair ["value"] (sp_p_is_pair K) := by
  refine T.F_p_is_pair.ok sc_p_is_pair (fun vs H Q E h => ?_) (fun cdv A outer s H vs Q E hr h => ?_)
  · obtain ⟨v, rfl, _⟩ := h
    rfl
  · obtain ⟨v, rfl, h⟩ := h
    refine ⟨_, (pss_one (ps_ret (pe_and (pe_callB call_isi (by rfl) T.z_isinstance (by decide +kernel) (pa_cons (pv 0) (pa_cons (pe_bltn (v := .ty "tuple") (by rfl) T.z_tuple (by decide +kernel) rfl) pa_nil))) (pe_one (pe_cmpR op_eq (pe_callB call_len_seq (by rfl) T.z_len (by decide +kernel) (pa_cons (pv 0) pa_nil)) pe_int (nomark _)))))), ?_⟩
    rcases h with ⟨⟨t, ht, hk⟩, q⟩ | ⟨a, xs, rfl, ta, q⟩
    · exact ⟨_, rfl, _, _, _, _, _, rfl, .ty "tuple", ht, kit_ty (r := false) hk, false, rfl, iteF q⟩
    · refine ⟨_, rfl, _, _, _, _, _, rfl, .ty "tuple", tyTup ta, kit_ty (r := true) (by decide +kernel), true, rfl, iteT ?_⟩
      refine ⟨_, rfl, a, _, rfl, .inr ta, rfl, ?_⟩
      have e2 : decide (V.int (xs.length : Int) = V.int 2) = decide (xs.length = 2) := by
        rw [Bool.eq_iff_iff, decide_eq_true_iff, decide_eq_true_iff]
        exact ⟨fun h => by have := V.int.inj h; omega, fun h => by rw [h]; rfl⟩
      show Q (.bl (decide (V.int (xs.length : Int) = V.int 2))) H
      rw [e2]
      exact q
theorem ok_p_is_bar (T : Txt K mg) : FnOk P w K mg base CX0 6 T.f_p_is_bar T.fd_p_is_bar ["value"] (sp_p_is_bar K) := by
  refine T.F_p_is_bar.ok sc_p_is_bar (fun vs H Q E h => ?_) (fun cdv A outer s H vs Q E hr h => ?_)
  · obtain ⟨v, rfl, _⟩ := h
    rfl
  · obtain ⟨v, rfl, h⟩ := h
    refine ⟨_, (pss_cons (ps_if (pt_not (pt_val (pe_call (ok_p_is_pair T) (hr.mono (by decide)) (by rfl) T.g_p_is_pair T.F_p_is_pair.kp T.b_p_is_pair .nil pass0 (pa_cons (pv 0) pa_nil)))) (pss_one (ps_ret pe_bl)) pss_nil)
      (pss_cons (ps_asg (pv 0) (pg_tup (by rfl) (pgs_cons (pg_name (i := 1) sc_p_is_bar.nd rfl (by first | exact .inl rfl | exact .inr rfl)) (pgs_cons (pg_name (i := 2) sc_p_is_bar.nd rfl (by first | exact .inl rfl | exact .inr rfl)) pgs_nil))))
      (pss_one (ps_ret (pe_and (pe_call (ok_p_integer_within T) (hr.mono (by decide)) (by rfl) T.g_p_integer_within T.F_p_integer_within.kp T.b_p_integer_within .nil pass0 (pa_cons (pv 1) (pa_cons pe_int (pa_cons (pe_glob (v := .int 1000000) (by rfl) T.c_GREATEST_MODULUS.choose_spec ⟨_, rfl⟩) pa_nil)))) (pe_one (pe_call (ok_p_is_lot T) (hr.mono (by decide)) (by rfl) T.g_p_is_lot T.F_p_is_lot.kp T.b_p_is_lot .nil pass0 (pa_cons (pv 2) (pa_cons (pv 1) pa_nil))))))))), ?_⟩
    rcases h with ⟨o, q⟩ | ⟨a, xs, rfl, ta, h⟩
    · exact ⟨_, rfl, v, rfl, .inl ⟨o, _, rfl, iteT q⟩⟩
    · refine ⟨_, rfl, _, rfl, .inr ⟨a, xs, rfl, ta, ?_⟩⟩
      rcases h with ⟨h, q⟩ | ⟨y, z, rfl, iy, h⟩
      · rw [decide_eq_false h]
        exact ⟨_, rfl, iteT q⟩
      · refine ⟨_, rfl, iteF ⟨_, rfl, a, _, rfl, ta, rfl, _, _, rfl, _, _, rfl, rfl, ?_⟩⟩
        refine ⟨_, rfl, _, _, _, rfl, ?_⟩
        rcases iy with ⟨m, rfl⟩ | o
        · refine .inl ⟨m, rfl, _, rfl, ?_⟩
          cases e : (decide (1 ≤ m) && decide (m ≤ 1000000)) with
          | false =>
            refine iteF ?_
            rcases h with ⟨_, q⟩ | ⟨c, zs, rfl, tc, iz, q⟩
            · exact q
            · have e3 : barV (.int m) zs = false := by
                show ((decide (1 ≤ m) && decide (m ≤ 1000000)) && _) = false
                rw [e]
                rfl
              rw [e3] at q
              exact q
          | true =>
            refine iteT ⟨_, rfl, _, rfl, z, m, rfl, ?_⟩
            rcases h with ⟨o, q⟩ | ⟨c, zs, rfl, tc, iz, q⟩
            · exact .inl ⟨o, q⟩
            · refine .inr ⟨c, zs, rfl, tc, iz, ?_⟩
              have e3 : barV (.int m) zs = (ascV m 0 zs && decide (zs.length ≤ 60)) := by
                show ((decide (1 ≤ m) && decide (m ≤ 1000000)) && _) = _
                rw [e]
                rfl
              rw [e3] at q
              exact q
        · refine .inr ⟨o, _, rfl, iteF ?_⟩
          rcases h with ⟨_, q⟩ | ⟨c, zs, rfl, tc, iz, q⟩
          · exact q
          · rw [barV_ni o.ni] at q
            exact q
end
theorem BarOk.bar {b : Bar} (h : BarOk b) : barV (.int b.1) (b.2.map V.int) = true := by
  have h1 := h.pos
  have h2 := h.most
  have h3 := h.lot.few
  show ((decide (1 ≤ b.1) && decide (b.1 ≤ 1000000)) && (ascV b.1 0 (b.2.map V.int) && decide ((b.2.map V.int).length ≤ 60))) = true
  rw [decide_eq_true h1, decide_eq_true h2, h.lot.asc, List.length_map, decide_eq_true h3]
  rfl

end R
namespace R
open PySem PySem.Spec PyProof.Rows L2
theorem small5000 {n : Nat} (h : n ≤ 1000000) : n < 2 ^ 5000 := Nat.lt_of_le_of_lt h (by decide)
theorem choices_take_le : ∀ (bs : List Bar) (i : Nat), choices (bs.take i) ≤ choices bs := by
  refine snocInd (fun i => by rw [List.take_nil]; exact Nat.le_refl _) fun bs b ih i => ?_
  rw [choices_add]
  by_cases hi : i ≤ bs.length
  · rw [List.take_append_of_le_length hi]
    have h1 := ih i
    have h2 : choices bs * 1 ≤ choices bs * max 1 b.2.length := Nat.mul_le_mul_left _ (by omega)
    omega
  · rw [List.take_of_length_le (by rw [List.length_append]; show bs.length + 1 ≤ i; omega), choices_add]
    exact Nat.le_refl _
/-- bars that are in order, whatever their whole -/
structure PreOk (bs : List Bar) : Prop where
  six : bs.length ≤ 6
  bar : ∀ b ∈ bs, BarOk b
theorem SvOk.pre {bs : List Bar} (h : SvOk bs) : PreOk bs := ⟨h.six, h.bar⟩
theorem PreOk.mods {bs : List Bar} (h : PreOk bs) : ModsOk bs := ⟨h.six, fun b hb => ⟨(h.bar b hb).pos, (h.bar b hb).most⟩⟩
theorem SvOk.mods {bs : List Bar} (h : SvOk bs) : ModsOk bs := ⟨h.six, fun b hb => ⟨(h.bar b hb).pos, (h.bar b hb).most⟩⟩
theorem Drawn.sv {most top : Nat} {bs : List Bar} (h : Drawn most top bs) (h6 : most ≤ 6) (ht : top ≤ 1000000) (hw : wh bs ≤ 10 ^ 30) : SvOk bs :=
  ⟨Nat.le_trans h.len h6, fun b hb => let ⟨a, c, d⟩ := h.bar b hb; ⟨a, by omega, d⟩, hw, h.many⟩
def sp_p_classes_of (K : PySem.W.Frag) : Sp := fun vs H Q _ => ∃ (v : V) (bs : List Bar), vs = [v] ∧ BarsAt K H v bs ∧ SvOk bs ∧ ∀ t H', Same H H' → H' t = some (.tup ((cls bs).map V.int)) → Q (.ref t) H'
section
variable {P : Program} {w : World} {K : PySem.W.Frag} {mg : Str → Option Value} {base : Heap}
theorem ok_p_classes_of (T : Txt K mg) : FnOk P w K mg base CX0 4 T.f_p_classes_of T.fd_p_classes_of ["bars"] (sp_p_classes_of K) := by
  refine T.F_p_classes_of.ok sc_p_classes_of (fun vs H Q E h => ?_) (fun cdv A outer s H vs Q E hr h => ?_)
  · obtain ⟨v, bs, rfl, _⟩ := h
    rfl
  · obtain ⟨v, bs, rfl, B, S, q⟩ := h
    refine ⟨_, (pss_cons (ps_set (i := 1) sc_p_classes_of.nd rfl (by first | exact .inl rfl | exact .inr rfl) pe_int)
      (pss_cons (ps_set (i := 2) sc_p_classes_of.nd rfl (by first | exact .inl rfl | exact .inr rfl) (pe_lst (pa_cons pe_int pa_nil)))
      (pss_cons (ps_for PassesOwn.never rfl (pi_tup (pv 0)) (pg_tup (by rfl) (pgs_cons (pg_name (i := 3) sc_p_classes_of.nd rfl (by first | exact .inl rfl | exact .inr rfl)) (pgs_cons (pg_name (i := 4) sc_p_classes_of.nd rfl (by first | exact .inl rfl | exact .inr rfl)) pgs_nil))) (pss_cons (ps_set (i := 2) sc_p_classes_of.nd rfl (by first | exact .inl rfl | exact .inr rfl) (pe_call (ok_p_joined T) (hr.mono (by decide)) (by rfl) T.g_p_joined T.F_p_joined.kp T.b_p_joined .nil pass0 (pa_cons (pv 2) (pa_cons (pv 1) (pa_cons (pv 3) (pa_cons (pv 4) pa_nil))))))
      (pss_one (ps_set (i := 1) sc_p_classes_of.nd rfl (by first | exact .inl rfl | exact .inr rfl) (pe_callBfun cr_lcmW (by rfl) T.g_lcm (pa_cons (pv 1) (pa_cons (pv 3) pa_nil)))))))
      (pss_one (ps_ret (pe_callTy call_tuple_of (by rfl) T.z_tuple (by decide +kernel) (pa_cons (pe_callB cr_sortedI (by rfl) T.z_sorted (by decide +kernel) (pa_cons (pv 2) pa_nil)) pa_nil))))))), ?_⟩
    obtain ⟨a, xs, rfl, ta, nx, hx⟩ := B.ex
    have M := S.mods
    refine ⟨sizeOk (by show (1 : Nat) ≤ 100000; decide), fun c0 n0 => ?_⟩
    have s0 : Same H (upd H c0 (.lst [.int 0])) := same_upd n0
    refine ⟨_, rfl, a, rfl, ⟨_, Same.seqTT s0 ta⟩, for_tup (K := K) (a := a) (xs := xs) (fun i σ H2 => ∃ (c : Addr) (ys : List Int) (x y : Option V), σ = [some (.ref a), some (.int (wh (bs.take i) : Nat)), some (.ref c), x, y] ∧
        H2 c = some (.lst (ys.map V.int)) ∧ ClsIs (bs.take i) ys ∧ ys.length ≤ choices (bs.take i) ∧ Same H H2)
      ⟨c0, [0], none, none, rfl, upd_same, ClsIs.nil, Nat.le_refl _, s0⟩ (fun i σ H2 _ ⟨_, _, _, _, _, _, _, _, s2⟩ => Same.seqTT s2 ta) ?_ ?_⟩
    · rintro i x σ H2 hi ⟨c, ys, y1, y2, rfl, ec, C, hlen, s2⟩
      have hl : i < bs.length := by
        have := (List.getElem?_eq_some_iff.mp hi).1
        omega
      have hb : bs[i]? = some bs[i] := List.getElem?_eq_getElem hl
      obtain ⟨p, l, rfl, tp, L⟩ := (hx i x _ hi hb).ex
      have hB := S.bar _ (List.getElem_mem hl)
      have hch := Nat.le_trans (choices_take_le bs i) S.many
      generalize bs[i] = b at hb tp hB L
      have hw := (M.take i).lt
      have hp := (M.take i).pos
      have h1 := hB.pos
      have h2 := hB.most
      have hf := hB.lot.few
      have hmn : b.1 = ((b.1.toNat : Nat) : Int) := by omega
      have hmul : ys.length * b.2.length ≤ choices (bs.take (i + 1)) := by
        rw [takeSucc hb, choices_add]
        exact Nat.mul_le_mul hlen (by omega)
      have hch2 := Nat.le_trans (choices_take_le bs (i + 1)) S.many
      refine ⟨p, [_, _], rfl, Same.seqTT s2 tp, rfl, _, _, rfl, _, _, rfl, rfl, ?_⟩
      refine ⟨_, rfl, _, rfl, _, rfl, _, rfl, c, ys, b.2, wh (bs.take i), b.1.toNat, l, by rw [← hmn]; rfl, lstOf ec, L.stay (.same s2), hp, hw, by omega, by omega, fun z hz => let ⟨q1, q2, _⟩ := (C.mem z).mp hz; ⟨q1, q2⟩,
        fun r hr => ⟨hB.lot.ge r hr, by have := hB.lot.lt r hr; omega⟩, ?_, fun D H3 g t bk w' s3 Mt hlcm eD => ?_⟩
      · omega
      · rw [← hmn] at Mt
        refine ⟨_, rfl, _, rfl, wh (bs.take i), b.1.toNat, by rw [← hmn], Nat.lt_trans hw (by decide), small5000 (by omega), ?_⟩
        have ew : wh (bs.take (i + 1)) = Nat.lcm (wh (bs.take i)) b.1.toNat := by
          rw [takeSucc hb, wh_add, show b.1.natAbs = b.1.toNat by omega]
        refine ⟨D, joinL g t bk (wh (bs.take i) : Nat) ys b.2, some (.int b.1), some l, ?_, eD, ?_, ?_, s2.trans s3⟩
        · rw [ew]
          rfl
        · rw [takeSucc hb]
          refine C.add Mt hB.lot ?_
          rw [← takeSucc hb, ew]
          exact hlcm
        · rw [takeSucc hb, choices_add]
          have j1 := joinL_len g t bk (wh (bs.take i) : Nat) ys b.2
          have j2 : ys.length * b.2.length ≤ choices (bs.take i) * max 1 b.2.length := Nat.mul_le_mul hlen (by omega)
          omega
    · rintro σ H2 ⟨c, ys, y1, y2, rfl, ec, C, hlen, s2⟩
      rw [nx, List.take_length] at C
      refine ⟨_, rfl, c, ys, rfl, lstOf ec, fun zs p pz sz np => ?_⟩
      have e := C.sorted pz sz
      subst e
      refine ⟨p, _, rfl, .inl ⟨lstOf upd_same, fun t nt => ?_⟩⟩
      exact q t _ ((s2.trans (same_upd np)).trans (same_upd nt)) upd_same
end

end R
namespace R
open PySem PySem.Spec PyProof.Rows L2
def sp_p_check_bars (K : PySem.W.Frag) : Sp := fun vs H Q _ => ∃ (v : V) (bs : List Bar), vs = [v] ∧ BarsAt K H v bs ∧ PreOk bs ∧ ∀ H', Same H H' → Q .non H'
section
variable {P : Program} {w : World} {K : PySem.W.Frag} {mg : Str → Option Value} {base : Heap}
theorem ok_p_check_bars (T : Txt K mg) : FnOk P w K mg base CX0 7 T.f_p_check_bars T.fd_p_check_bars ["bars"] (sp_p_check_bars K) := by
  refine T.F_p_check_bars.ok sc_p_check_bars (fun vs H Q E h => ?_) (fun cdv A outer s H vs Q E hr h => ?_)
  · obtain ⟨v, bs, rfl, _⟩ := h
    rfl
  · obtain ⟨v, bs, rfl, B, S, q⟩ := h
    refine ⟨_, (pss_cons (ps_if (PW.pt (pw_or (pt_not (pt_val (pe_callB call_isi (by rfl) T.z_isinstance (by decide +kernel) (pa_cons (pv 0) (pa_cons (pe_bltn (v := .ty "tuple") (by rfl) T.z_tuple (by decide +kernel) rfl) pa_nil))))) (pw_or1 (pt_cmpR op_gt (pe_callB call_len_seq (by rfl) T.z_len (by decide +kernel) (pa_cons (pv 0) pa_nil)) (pe_glob (v := .int 6) (by rfl) T.c_MOST_BARS.choose_spec ⟨_, rfl⟩) (nomark _))))) (pss_one ps_never) pss_nil)
      (pss_one (ps_for PassesOwn.never rfl (pi_enT (by rfl) T.z_enumerate (pa_cons (pv 0) pa_nil)) (pg_tup (by rfl) (pgs_cons (pg_name (i := 1) sc_p_check_bars.nd rfl (by first | exact .inl rfl | exact .inr rfl)) (pgs_cons (pg_name (i := 2) sc_p_check_bars.nd rfl (by first | exact .inl rfl | exact .inr rfl)) pgs_nil))) (pss_one (ps_if (pt_not (pt_val (pe_call (ok_p_is_bar T) (hr.mono (by decide)) (by rfl) T.g_p_is_bar T.F_p_is_bar.kp T.b_p_is_bar .nil pass0 (pa_cons (pv 2) pa_nil)))) (pss_one ps_never) pss_nil))))), ?_⟩
    obtain ⟨a, xs, rfl, ta, nx, hx⟩ := B.ex
    refine ⟨_, rfl, _, _, _, _, _, rfl, .ty "tuple", tyTup ta, kit_ty (r := true) (by decide +kernel), true, rfl, iteF ?_⟩
    refine ⟨_, rfl, a, _, rfl, .inr ta, _, _, rfl, rfl, _, rfl, ite2 (fun e => ?_) (fun e => ?_)⟩
    · have e' := of_decide_eq_true e
      have := S.six
      omega
    · refine ⟨_, rfl, a, xs, rfl, ta, for_it (walk_enT (K := K) (a := a) (xs := xs)) (fun i σ H2 => ∃ (x y : Option V), σ = [some (.ref a), x, y] ∧ Same H H2) ⟨none, none, rfl, Same.refl _⟩ (fun i σ H2 _ ⟨_, _, _, s2⟩ => Same.seqTT s2 ta) ?_ ?_⟩
      · rintro i y σ H2 H3 hi ⟨x1, x2, rfl, s2⟩ ⟨p, z1, z2, rfl, np, rfl, e1, e2⟩
        have s3 := s2.trans (same_upd np (o := .tup [z1, z2]))
        have hl : i < bs.length := by omega
        have hb : bs[i]? = some bs[i] := List.getElem?_eq_getElem hl
        refine ⟨p, _, rfl, tupOf upd_same, rfl, _, _, rfl, _, _, rfl, rfl, ?_⟩
        obtain ⟨a2, x2, rfl, ta2, ⟨c2, rfl, tc2⟩⟩ := ((hx i z2 _ e2 hb).stay (.same s3)).ex
        refine ⟨_, rfl, _, rfl, .inr ⟨a2, _, rfl, ta2, .inr ⟨_, _, rfl, .inl ⟨_, rfl⟩, .inr ⟨c2, _, rfl, tc2, itmInts _, true, congrArg V.bl (S.bar _ (List.getElem_mem hl)).bar, iteF ?_⟩⟩⟩⟩
        exact ⟨_, _, rfl, s3⟩
      · rintro σ H2 ⟨x1, x2, rfl, s2⟩
        exact q _ s2
end

end R
namespace R
open PySem PySem.Spec PyProof.Rows L2
def sp_p_whole_of (K : PySem.W.Frag) : Sp := fun vs H Q _ => ∃ (v : V) (bs : List Bar), vs = [v] ∧ BarsAt K H v bs ∧ SvOk bs ∧ Q (.int (wh bs : Nat)) H
section
variable {P : Program} {w : World} {K : PySem.W.Frag} {mg : Str → Option Value} {base : Heap}
theorem ok_p_whole_of (T : Txt K mg) : FnOk P w K mg base CX0 2 T.f_p_whole_of T.fd_p_whole_of ["bars"] (sp_p_whole_of K) := by
  refine T.F_p_whole_of.ok sc_p_whole_of (fun vs H Q E h => ?_) (fun cdv A outer s H vs Q E hr h => ?_)
  · obtain ⟨v, bs, rfl, _⟩ := h
    rfl
  · obtain ⟨v, bs, rfl, B, S, q⟩ := h
    refine ⟨_, (pss_cons (ps_set (i := 1) sc_p_whole_of.nd rfl (by first | exact .inl rfl | exact .inr rfl) pe_int)
      (pss_cons (ps_for PassesOwn.never rfl (pi_tup (pv 0)) (pg_tup (by rfl) (pgs_cons (pg_name (i := 2) sc_p_whole_of.nd rfl (by first | exact .inl rfl | exact .inr rfl)) (pgs_cons (pg_name (i := 3) sc_p_whole_of.nd rfl (by first | exact .inl rfl | exact .inr rfl)) pgs_nil))) (pss_one (ps_set (i := 1) sc_p_whole_of.nd rfl (by first | exact .inl rfl | exact .inr rfl) (pe_callBfun cr_lcmW (by rfl) T.g_lcm (pa_cons (pv 1) (pa_cons (pv 2) pa_nil))))))
      (pss_cons (ps_if (pt_cmpR op_gt (pv 1) (pe_glob (v := .int 1000000000000000000000000000000) (by rfl) T.c_GREATEST_WHOLE.choose_spec ⟨_, rfl⟩) (nomark _)) (pss_one ps_never) pss_nil)
      (pss_one (ps_ret (pv 1)))))), ?_⟩
    obtain ⟨a, xs, rfl, ta, nx, hx⟩ := B.ex
    have M := S.mods
    refine ⟨_, rfl, a, rfl, ⟨_, ta⟩, for_tup (K := K) (a := a) (xs := xs) (fun i σ H2 => ∃ x y : Option V, σ = [some (.ref a), some (.int (wh (bs.take i) : Nat)), x, y] ∧ H2 = H)
      ⟨none, none, rfl, rfl⟩ (fun i σ H2 _ ⟨_, _, _, e⟩ => by rw [e]; exact ta) ?_ ?_⟩
    · rintro i x σ H2 hi ⟨y1, y2, rfl, rfl⟩
      have hl : i < bs.length := by
        have := (List.getElem?_eq_some_iff.mp hi).1
        omega
      have hb : bs[i]? = some bs[i] := List.getElem?_eq_getElem hl
      obtain ⟨p, l, rfl, tp, _⟩ := (hx i x _ hi hb).ex
      have hm := M.mod _ (List.getElem_mem hl)
      generalize bs[i] = b at hb tp hm
      have hw := (M.take i).lt
      have hmn : b.1 = ((b.1.toNat : Nat) : Int) := by omega
      refine ⟨p, [_, _], rfl, tp, rfl, _, _, rfl, _, _, rfl, rfl, ?_⟩
      refine ⟨_, rfl, _, rfl, wh (bs.take i), b.1.toNat, by rw [← hmn], Nat.lt_trans hw (by decide), small5000 (by omega), ?_⟩
      refine ⟨some (.int b.1), some l, ?_, rfl⟩
      rw [takeSucc hb, wh_add, show b.1.natAbs = b.1.toNat by omega]
      rfl
    · rintro σ H2 ⟨y1, y2, rfl, rfl⟩
      rw [nx, List.take_length]
      refine ⟨_, rfl, _, _, rfl, rfl, _, rfl, ite2 (fun e => ?_) (fun e => ?_)⟩
      · have e' := of_decide_eq_true e
        have := S.great
        omega
      · exact ⟨_, rfl, q⟩
end

end R
namespace R
open PySem PySem.Spec PyProof.Rows L2
def sp_p_check_choices (K : PySem.W.Frag) : Sp := fun vs H Q _ => ∃ (v : V) (bs : List Bar), vs = [v] ∧ BarsAt K H v bs ∧ SvOk bs ∧ Q .non H
section
variable {P : Program} {w : World} {K : PySem.W.Frag} {mg : Str → Option Value} {base : Heap}
theorem ok_p_check_choices (T : Txt K mg) : FnOk P w K mg base CX0 2 T.f_p_check_choices T.fd_p_check_choices ["bars"] (sp_p_check_choices K) := by
  refine T.F_p_check_choices.ok sc_p_check_choices (fun vs H Q E h => ?_) (fun cdv A outer s H vs Q E hr h => ?_)
  · obtain ⟨v, bs, rfl, _⟩ := h
    rfl
  · obtain ⟨v, bs, rfl, B, S, q⟩ := h
    refine ⟨_, (pss_cons (ps_set (i := 1) sc_p_check_choices.nd rfl (by first | exact .inl rfl | exact .inr rfl) pe_int)
      (pss_cons (ps_for PassesOwn.never rfl (pi_tup (pv 0)) (pg_tup (by rfl) (pgs_cons (pg_name (i := 2) sc_p_check_choices.nd rfl (by first | exact .inl rfl | exact .inr rfl)) (pgs_cons (pg_name (i := 3) sc_p_check_choices.nd rfl (by first | exact .inl rfl | exact .inr rfl)) pgs_nil))) (pss_one (ps_set (i := 1) sc_p_check_choices.nd rfl (by first | exact .inl rfl | exact .inr rfl) (pe_op op_mulW (pv 1) (pe_callB (call_max2 rfl) (by rfl) T.z_max (by decide +kernel) (pa_cons pe_int (pa_cons (pe_callB call_len_seq (by rfl) T.z_len (by decide +kernel) (pa_cons (pv 3) pa_nil)) pa_nil)))))))
      (pss_one (ps_if (pt_cmpR op_gt (pv 1) (pe_glob (v := .int 2000) (by rfl) T.c_MOST_CHOICES.choose_spec ⟨_, rfl⟩) (nomark _)) (pss_one ps_never) pss_nil)))), ?_⟩
    obtain ⟨a, xs, rfl, ta, nx, hx⟩ := B.ex
    refine ⟨_, rfl, a, rfl, ⟨_, ta⟩, for_tup (K := K) (a := a) (xs := xs) (fun i σ H2 => ∃ x y : Option V, σ = [some (.ref a), some (.int (choices (bs.take i) : Nat)), x, y] ∧ H2 = H)
      ⟨none, none, rfl, rfl⟩ (fun i σ H2 _ ⟨_, _, _, e⟩ => by rw [e]; exact ta) ?_ ?_⟩
    · rintro i x σ H2 hi ⟨y1, y2, rfl, rfl⟩
      have hl : i < bs.length := by
        have := (List.getElem?_eq_some_iff.mp hi).1
        omega
      have hb : bs[i]? = some bs[i] := List.getElem?_eq_getElem hl
      obtain ⟨p, l, rfl, tp, ⟨c, rfl, tc⟩⟩ := (hx i x _ hi hb).ex
      have hm := (S.bar _ (List.getElem_mem hl)).lot.few
      have hch := Nat.le_trans (choices_take_le bs i) S.many
      generalize bs[i] = b at hb tp hm tc
      refine ⟨p, [_, _], rfl, tp, rfl, _, _, rfl, _, _, rfl, rfl, ?_⟩
      refine ⟨_, rfl, _, rfl, c, _, rfl, .inr tc, _, _, rfl, _, _, rfl, rfl, ?_, ?_⟩
      · rw [List.length_map, maxIte]
        exact wide_mul (a := 20) (b := 20) (by rw [Int.natAbs_natCast]; omega) (by rw [Int.natAbs_natCast]; omega) (by decide) (by decide) (by decide)
      · refine ⟨some (.int b.1), some (.ref c), ?_, rfl⟩
        rw [List.length_map, maxIte, takeSucc hb, choices_add, Int.natCast_mul]
        rfl
    · rintro σ H2 ⟨y1, y2, rfl, rfl⟩
      rw [nx, List.take_length]
      refine ⟨_, rfl, _, _, rfl, rfl, _, rfl, ite2 (fun e => ?_) (fun e => ?_)⟩
      · have e' := of_decide_eq_true e
        have := S.many
        omega
      · exact q
end

end R
namespace R
open PySem PySem.Spec PyProof.Rows L2
/-! ## the sieve as an object -/
theorem putF_len (f : Str) (v : V) : ∀ fs : List (Str × V), (putF f v fs).length ≤ fs.length + 1
  | [] => Nat.le_refl _
  | (g, x) :: r => by
    show (if g = f then (g, v) :: r else (g, x) :: putF f v r).length ≤ r.length + 1 + 1
    split
    · exact Nat.le_succ _
    · exact Nat.succ_le_succ (putF_len f v r)
theorem nBW : ¬ (("_bars" : Str) = "_whole") := by decide +kernel
theorem nBC : ¬ (("_bars" : Str) = "_classes") := by decide +kernel
theorem nWC : ¬ (("_whole" : Str) = "_classes") := by decide +kernel
/-- the attributes in the order in which they are stored -/
def flds (v : V) (n : Int) (t : V) : List (Str × V) := putF "_classes" t (putF "_whole" (.int n) (putF "_bars" v []))
theorem flds_bars (v : V) (n : Int) (t : V) : (flds v n t).lookup ("_bars" : Str) = some v := by
  unfold flds
  rw [lookup_putF, if_neg nBC, lookup_putF, if_neg nBW, lookup_putF, if_pos rfl]
theorem flds_whole (v : V) (n : Int) (t : V) : (flds v n t).lookup ("_whole" : Str) = some (.int n) := by
  unfold flds
  rw [lookup_putF, if_neg nWC, lookup_putF, if_pos rfl]
theorem flds_classes (v : V) (n : Int) (t : V) : (flds v n t).lookup ("_classes" : Str) = some t := by
  unfold flds
  rw [lookup_putF, if_pos rfl]
/-- a Sieve of the bars bs stands at p: v its bars, t its classes -/
structure SvAt (K : PySem.W.Frag) (C : Addr) (H : Hp) (p : Addr) (v : V) (t : Addr) (bs : List Bar) : Prop where
  ob : ∃ dx, H p = some (.ins C dx (flds v (wh bs : Nat) (.ref t)))
  bars : BarsAt K H v bs
  cls : SqT K H t ((cls bs).map V.int)
  ok : SvOk bs
theorem SvAt.stay {K : PySem.W.Frag} {C : Addr} {H H' : Hp} {p : Addr} {v : V} {t : Addr} {bs : List Bar} (h : SvAt K C H p v t bs) (s : Same H H') : SvAt K C H' p v t bs :=
  ⟨let ⟨dx, e⟩ := h.ob; ⟨dx, s _ _ e⟩, h.bars.stay (.same s), Same.seqTT s h.cls, h.ok⟩
theorem SvAt.keep {K : PySem.W.Frag} {C : Addr} {H H' : Hp} {p r : Addr} {v : V} {t : Addr} {bs : List Bar} {L : Addr} (h : SvAt K C H p v t bs) (R : RowAt H r L) (s : Kp r H H') : SvAt K C H' p v t bs := by
  obtain ⟨dx, e⟩ := h.ob
  obtain ⟨zs, er⟩ := R.lst
  refine ⟨⟨dx, s _ _ (ne_of e er (by intro z; cases z)) e⟩, h.bars.stay (R.tups s), R.tups s _ _ h.cls, h.ok⟩
section
variable {P : Program} {w : World} {K : PySem.W.Frag} {mg : Str → Option Value} {base : Heap}
def sp_get (K : PySem.W.Frag) (C : Addr) (f : V → Addr → List Bar → V) : Sp := fun vs H Q _ => ∃ (p : Addr) (v : V) (t : Addr) (bs : List Bar), vs = [.ref p] ∧ SvAt K C H p v t bs ∧ Q (f v t bs) H
theorem ok_m_Sieve_bars (T : Txt K mg) : FnOk P w K mg base CX0 2 T.f_m_Sieve_bars T.fd_m_Sieve_bars ["self"] (sp_get K T.C fun v _ _ => v) := by
  refine T.F_m_Sieve_bars.ok sc_m_Sieve_bars (fun vs H Q E h => ?_) (fun cdv A outer s H vs Q E hr h => ?_)
  · obtain ⟨p, v, t, bs, rfl, _⟩ := h
    rfl
  · obtain ⟨p, v, t, bs, rfl, S, q⟩ := h
    obtain ⟨dx, e⟩ := S.ob
    exact ⟨_, (pss_one (ps_ret (pe_fld (pv 0) rfl))), _, rfl, p, T.C, dx, _, _, rfl, e, T.cl, T.n_bars, flds_bars _ _ _, q⟩
theorem ok_m_Sieve_whole (T : Txt K mg) : FnOk P w K mg base CX0 2 T.f_m_Sieve_whole T.fd_m_Sieve_whole ["self"] (sp_get K T.C fun _ _ bs => .int (wh bs : Nat)) := by
  refine T.F_m_Sieve_whole.ok sc_m_Sieve_whole (fun vs H Q E h => ?_) (fun cdv A outer s H vs Q E hr h => ?_)
  · obtain ⟨p, v, t, bs, rfl, _⟩ := h
    rfl
  · obtain ⟨p, v, t, bs, rfl, S, q⟩ := h
    obtain ⟨dx, e⟩ := S.ob
    exact ⟨_, (pss_one (ps_ret (pe_fld (pv 0) rfl))), _, rfl, p, T.C, dx, _, _, rfl, e, T.cl, T.n_whole, flds_whole _ _ _, q⟩
theorem ok_m_Sieve_classes (T : Txt K mg) : FnOk P w K mg base CX0 2 T.f_m_Sieve_classes T.fd_m_Sieve_classes ["self"] (sp_get K T.C fun _ t _ => .ref t) := by
  refine T.F_m_Sieve_classes.ok sc_m_Sieve_classes (fun vs H Q E h => ?_) (fun cdv A outer s H vs Q E hr h => ?_)
  · obtain ⟨p, v, t, bs, rfl, _⟩ := h
    rfl
  · obtain ⟨p, v, t, bs, rfl, S, q⟩ := h
    obtain ⟨dx, e⟩ := S.ob
    exact ⟨_, (pss_one (ps_ret (pe_fld (pv 0) rfl))), _, rfl, p, T.C, dx, _, _, rfl, e, T.cl, T.n_classes, flds_classes _ _ _, q⟩

end
/-! ## data -/
def okD (n : Nat) (d : PyData) : Prop := d.canLay0 = true ∧ d.depth ≤ n
theorem okD.shaped {n : Nat} {d : PyData} (h : okD n d) (hn : n ≤ 64) : SeqAt.shaped d = true := by
  unfold SeqAt.shaped
  rw [h.1, decide_eq_true (Nat.le_trans h.2 hn)]
  rfl
theorem okD.eqv {n : Nat} {d : PyData} (h : okD n d) : PyData.eqv d d = true := SeqAt.eqv_refl d h.1
theorem okD.int (i : Int) : okD 0 (.int i) := ⟨rfl, Nat.le_refl _⟩
theorem okD.all {n : Nat} : ∀ {ds : List PyData}, (∀ d ∈ ds, okD n d) → PyData.canLayAll0 ds = true ∧ PyData.depthAll ds ≤ n
  | [], _ => ⟨rfl, Nat.zero_le _⟩
  | d :: ds, h => by
    obtain ⟨a, b⟩ := h d List.mem_cons_self
    obtain ⟨c, e⟩ := okD.all fun x hx => h x (List.mem_cons_of_mem d hx)
    refine ⟨?_, ?_⟩
    · rw [PyData.canLayAll0, a, c]
      rfl
    · rw [PyData.depthAll]
      omega
theorem okD.tup {n : Nat} {ds : List PyData} (h : ∀ d ∈ ds, okD n d) : okD (n + 1) (.tuple ds) := by
  obtain ⟨a, b⟩ := okD.all h
  refine ⟨?_, ?_⟩
  · rw [PyData.canLay0]
    exact a
  · rw [PyData.depth]
    omega
theorem okD.lst {n : Nat} {ds : List PyData} (h : ∀ d ∈ ds, okD n d) : okD (n + 1) (.list ds) := by
  obtain ⟨a, b⟩ := okD.all h
  refine ⟨?_, ?_⟩
  · rw [PyData.canLay0]
    exact a
  · rw [PyData.depth]
    omega
theorem dpInts {K : PySem.W.Frag} {H : Hp} : ∀ l : List Int, DpAll K H (l.map V.int) (l.map PyData.int)
  | [] => .nil
  | i :: l => .cons (.int i) (dpInts l)
theorem dpTup {K : PySem.W.Frag} {H : Hp} {a : Addr} {l : List Int} (h : SqT K H a (l.map V.int)) : Dp K H (.ref a) (.tuple (l.map PyData.int)) := .tup h (dpInts l)
theorem dpLst {K : PySem.W.Frag} {H : Hp} {a : Addr} {l : List Int} (h : SqL K H a (l.map V.int)) : Dp K H (.ref a) (.list (l.map PyData.int)) := .lst h (dpInts l)
theorem okInts (l : List Int) : ∀ d ∈ l.map PyData.int, okD 0 d := fun d h => by
  obtain ⟨i, _, rfl⟩ := List.mem_map.mp h
  exact .int i
theorem eqvNil (l : List Int) : PyData.eqv (.list (l.map PyData.int)) (.list []) = decide (l = []) := by
  rw [PyData.eqv]
  cases l with
  | nil => rfl
  | cons x r => rfl
theorem eqvNilT (l : List Int) : PyData.eqv (.tuple (l.map PyData.int)) (.tuple []) = decide (l = []) := by
  rw [PyData.eqv]
  cases l with
  | nil => rfl
  | cons x r => rfl

end R
namespace R
open PySem PySem.Spec PyProof.Rows L2
def sp_m_Sieve_init (K : PySem.W.Frag) (C : Addr) : Sp := fun vs H Q _ => ∃ (p dx : Addr) (v : V) (bs : List Bar), vs = [.ref p, v] ∧ H p = some (.ins C dx []) ∧ BarsAt K H v bs ∧ SvOk bs ∧
  ∀ (t : Addr) (H' : Hp), (∀ b o, b ≠ p → H b = some o → H' b = some o) → SvAt K C H' p v t bs → Q .non H'
section
variable {P : Program} {w : World} {K : PySem.W.Frag} {mg : Str → Option Value} {base : Heap}
theorem ok_m_Sieve_init (T : Txt K mg) : FnOk P w K mg base CX0 8 T.f_m_Sieve_init T.fd_m_Sieve_init ["self", "bars"] (sp_m_Sieve_init K T.C) := by
  refine T.F_m_Sieve_init.ok sc_m_Sieve_init (fun vs H Q E h => ?_) (fun cdv A outer s H vs Q E hr h => ?_)
  · obtain ⟨p, dx, v, bs, rfl, _⟩ := h
    rfl
  · obtain ⟨p, dx, v, bs, rfl, hp, B, S, q⟩ := h
    refine ⟨_, (pss_cons (ps_expr (pe_call (ok_p_check_bars T) (hr.mono (by decide)) (by rfl) T.g_p_check_bars T.F_p_check_bars.kp T.b_p_check_bars .nil pass0 (pa_cons (pv 1) pa_nil)))
      (pss_cons (ps_fld (pv 0) (pv 1) rfl)
      (pss_cons (ps_fld (pv 0) (pe_call (ok_p_whole_of T) (hr.mono (by decide)) (by rfl) T.g_p_whole_of T.F_p_whole_of.kp T.b_p_whole_of .nil pass0 (pa_cons (pv 1) pa_nil)) rfl)
      (pss_cons (ps_expr (pe_call (ok_p_check_choices T) (hr.mono (by decide)) (by rfl) T.g_p_check_choices T.F_p_check_choices.kp T.b_p_check_choices .nil pass0 (pa_cons (pv 1) pa_nil)))
      (pss_one (ps_fld (pv 0) (pe_call (ok_p_classes_of T) (hr.mono (by decide)) (by rfl) T.g_p_classes_of T.F_p_classes_of.kp T.b_p_classes_of .nil pass0 (pa_cons (pv 1) pa_nil)) rfl)))))), ?_⟩
    have st : ∀ {H1 H2 : Hp} {fs fs' : List (Str × V)}, H1 p = some (.ins T.C dx fs) → TupsStay K H1 (upd H1 p (.ins T.C dx fs')) := fun {H1 H2 fs fs'} e a xs h => by
      rcases h with (h | ⟨o, h⟩) | h
      · exact .inl (.inl (by rw [upd_ne (ne_of h e (by intro z; cases z))]; exact h))
      · exact .inl (.inr ⟨o, by rw [upd_ne (ne_of h e (by intro z; cases z))]; exact h⟩)
      · exact .inr h
    refine ⟨_, rfl, v, bs, rfl, B, S.pre, fun H1 s1 => ?_⟩
    have p1 := s1 _ _ hp
    have B1 := B.stay (.same s1)
    refine ⟨_, rfl, _, rfl, p, T.C, dx, [], rfl, p1, T.cl, T.n_bars, (by show 0 < 1000; decide), ?_⟩
    have B2 : BarsAt K _ v bs := B1.stay (st (H2 := H1) (fs' := putF "_bars" v []) p1)
    refine ⟨_, rfl, v, bs, rfl, B2, S, _, rfl, p, T.C, dx, _, rfl, upd_same, T.cl, T.n_whole, (by show 1 < 1000; decide), ?_⟩
    have B3 := B2.stay (st (H2 := H1) (fs' := putF "_whole" (.int (wh bs : Nat)) (putF "_bars" v [])) upd_same)
    refine ⟨_, rfl, v, bs, rfl, B3, S, ?_⟩
    refine ⟨_, rfl, v, bs, rfl, B3, S, fun t H4 s4 e4 => ?_⟩
    have p4 := s4 _ _ (upd_same (H := upd H1 p (.ins T.C dx (putF "_bars" v []))) (a := p) (o := .ins T.C dx (putF "_whole" (.int (wh bs : Nat)) (putF "_bars" v []))))
    refine ⟨_, rfl, p, T.C, dx, _, rfl, p4, T.cl, T.n_classes, ?_, ?_⟩
    · have l1 := putF_len "_whole" (.int (wh bs : Nat)) (putF "_bars" v [])
      have l2 := putF_len "_bars" v []
      have l3 : ([] : List (Str × V)).length = 0 := rfl
      omega
    · have B4 := B3.stay (.same s4)
      refine q t _ (fun b o n e => ?_) ⟨⟨dx, upd_same⟩, B4.stay (st (H2 := H1) p4), st (H2 := H1) p4 _ _ (tupOf e4), S⟩
      rw [upd_ne n]
      refine s4 _ _ ?_
      rw [upd_ne n, upd_ne n]
      exact s1 _ _ e
/-- Sieve(bars) at a new place x -/
theorem make_sieve {C : Addr} {H : Hp} {v : V} {bs : List Bar} {Q : VK} {E : XK} {x dx : Addr} (B : BarsAt K H v bs) (S : SvOk bs) (nx : H x = none) (ndx : H dx = none)
    (k : ∀ t H', Same H H' → SvAt K C H' x v t bs → Q .non H') : sp_m_Sieve_init K C (.ref x :: ([v] ++ [])) (upd (upd H dx (.own x)) x (.ins C dx [])) Q E := by
  have s0 : Same H (upd (upd H dx (.own x)) x (.ins C dx [])) := samePut (same_upd ndx) nx
  exact ⟨x, dx, v, bs, rfl, upd_same, B.stay (.same s0), S, fun t H' s1 A => k t H' (fun b o e => s1 b o (ne_of_none e nx) (s0 b o e)) A⟩
end

end R
namespace R
open PySem PySem.Spec PyProof.Rows L2
/-! ## the law -/
def sp_law (K : PySem.W.Frag) : Sp := fun vs H Q _ => ∃ (a : Addr) (ns : List Int), vs = [.ref a] ∧ SqL K H a (ns.map V.int) ∧ ns.length ≤ 63 ∧ ∀ H', Q (.bl true) H'
theorem powTop {bs : List Bar} {most top : Nat} (D : Drawn most top bs) (h6 : most ≤ 6) (ht : top ≤ 60) : wh bs ≤ top ^ bs.length := by
  have h : ∀ bs : List Bar, (∀ b ∈ bs, b.1.natAbs ≤ top) → wh bs ≤ top ^ bs.length := by
    refine snocInd (fun _ => by rw [List.length_nil, Nat.pow_zero]; decide) fun bs b ih h => ?_
    rw [wh_add, List.length_append]
    exact Nat.le_trans (lcm_le_mul _ _) (Nat.mul_le_mul (ih fun c hc => h c (List.mem_append_left _ hc)) (h b (List.mem_append_right _ (List.mem_singleton.mpr rfl))))
  exact h bs fun b hb => by
    have := D.bar b hb
    omega
theorem powLe {bs : List Bar} {most top N : Nat} (D : Drawn most top bs) (h6 : most ≤ 6) (h1 : 1 ≤ top) (ht : top ≤ 60) (hN : top ^ most ≤ N) : wh bs ≤ N :=
  Nat.le_trans (powTop D h6 ht) (Nat.le_trans (Nat.pow_le_pow_right h1 D.len) hN)
theorem nilOk : SvOk [] := ⟨by decide, fun b h => by simp at h, by decide, by decide⟩
theorem clsNil : cls [] = [0] := rfl

end R
namespace R
open PySem PySem.Spec PyProof.Rows L2
/-! ## walks within a comprehension's block, told over the written part alone -/
theorem pi_tupK {X : Cx} {K : PySem.W.Frag} {tg e : Expr} {te : TE} (hK : X.K = K) (he : PE X e te) : PI X tg e (iTup K te) := by
  subst hK
  exact pi_tup he
theorem pi_listK {X : Cx} {K : PySem.W.Frag} {tg e : Expr} {te : TE} (hK : X.K = K) (he : PE X e te) : PI X tg e (iList K te) := by
  subst hK
  exact pi_list he
def rTupOf (K : PySem.W.Frag) : List V → Hp → VK → Prop := fun vs H Q => ∃ p ys, vs = [.ref p] ∧ ((SqL K H p ys ∧ ∀ l, H l = none → Q (.ref l) (upd H l (.tup ys))) ∨ (SqT K H p ys ∧ Q (.ref p) H))

end R
namespace R
open PySem PySem.Spec PyProof.Rows L2
/-! ## bars as data -/
/-- bars + (a bar,) -/
theorem catBar {K : PySem.W.Frag} {H : Hp} {v : V} {bs : List Bar} {b : Bar} {p p2 : Addr} {Q : V → Hp → Prop} (B : BarsAt K H v bs) (few : bs.length ≤ 1000) (bar : BarAt K H (.ref p) b) (t2 : SqT K H p2 [.ref p])
    (q : ∀ y H', Same H H' → BarsAt K H' y (bs ++ [b]) → Q y H') : rCatA K v (.ref p2) H Q := by
  obtain ⟨a, xs, rfl, tb, nb, hb⟩ := B.ex
  refine ⟨a, p2, xs, [.ref p], rfl, rfl, tb, t2, sizeOk (by show xs.length + 1 ≤ 100000; omega), fun e => ?_, fun _ e => absurd e (List.cons_ne_nil _ _), fun _ _ q' nq' => ?_⟩
  · subst e
    exact q _ _ (Same.refl _) (BarsAt.add (xs := []) t2 nb (fun j x d h1 h2 => by simp at h1) bar)
  · exact q _ _ (same_upd nq') (BarsAt.add (tupOf upd_same) nb (fun j x d h1 h2 => (hb j x d h1 h2).stay (.same (same_upd nq'))) (bar.stay (.same (same_upd nq'))))
def barD (b : Bar) : PyData := .tuple [.int b.1, .tuple (b.2.map PyData.int)]
theorem dpBar {K : PySem.W.Frag} {H : Hp} {v : V} {b : Bar} (h : BarAt K H v b) : Dp K H v (barD b) := by
  obtain ⟨a, x, rfl, ta, ⟨c, rfl, tc⟩⟩ := h.ex
  exact .tup ta (.cons (.int _) (.cons (dpTup tc) .nil))
theorem dpBars {K : PySem.W.Frag} {H : Hp} {v : V} {bs : List Bar} (h : BarsAt K H v bs) : Dp K H v (.tuple (bs.map barD)) := by
  obtain ⟨a, xs, rfl, ta, nx, hx⟩ := h.ex
  refine .tup ta ?_
  clear ta h
  induction xs generalizing bs with
  | nil =>
    cases bs with
    | nil => exact .nil
    | cons b r => cases nx
  | cons x xs ih =>
    cases bs with
    | nil => cases nx
    | cons b r => exact .cons (dpBar (hx 0 x b rfl rfl)) (ih (Nat.succ.inj nx) fun i y d h1 h2 => hx (i + 1) y d h1 h2)
theorem okBars (bs : List Bar) : okD 3 (.tuple (bs.map barD)) := okD.tup fun d h => by
  obtain ⟨b, _, rfl⟩ := List.mem_map.mp h
  refine okD.tup fun d h => ?_
  rcases List.mem_cons.mp h with rfl | h
  · exact ⟨rfl, Nat.zero_le _⟩
  · rw [List.mem_singleton.mp h]
    exact okD.tup (okInts _)

end R
namespace R
open PySem PySem.Spec PyProof.Rows L2
/-! ## data that are equal -/
theorem eqvInts : ∀ xs ys : List Int, PyData.eqvAll (xs.map PyData.int) (ys.map PyData.int) = decide (xs = ys)
  | [], [] => by
    show PyData.eqvAll [] [] = _
    rw [PyData.eqvAll]
    rfl
  | [], y :: ys => by
    show PyData.eqvAll [] (_ :: _) = _
    rw [PyData.eqvAll] <;> first | rfl | simp
  | x :: xs, [] => by
    show PyData.eqvAll (_ :: _) [] = _
    rw [PyData.eqvAll] <;> first | rfl | simp
  | x :: xs, y :: ys => by
    show PyData.eqvAll (PyData.int x :: xs.map PyData.int) (PyData.int y :: ys.map PyData.int) = _
    rw [PyData.eqvAll, eqvInts xs ys, PyData.eqv]
    by_cases h : x = y
    · subst h
      by_cases h2 : xs = ys
      · subst h2
        simp
      · simp [h2]
    · simp [h]
theorem eqvIntsT (xs ys : List Int) : PyData.eqv (.tuple (xs.map PyData.int)) (.tuple (ys.map PyData.int)) = decide (xs = ys) := by
  rw [PyData.eqv]
  exact eqvInts xs ys
theorem eqvIntsL (xs ys : List Int) : PyData.eqv (.list (xs.map PyData.int)) (.list (ys.map PyData.int)) = decide (xs = ys) := by
  rw [PyData.eqv]
  exact eqvInts xs ys
theorem eqvBar (a b : Bar) : PyData.eqv (barD a) (barD b) = decide (a = b) := by
  obtain ⟨m, l⟩ := a
  obtain ⟨n, k⟩ := b
  show PyData.eqv (.tuple [.int m, .tuple (l.map PyData.int)]) (.tuple [.int n, .tuple (k.map PyData.int)]) = _
  rw [PyData.eqv, PyData.eqvAll, PyData.eqvAll, PyData.eqvAll, eqvIntsT, PyData.eqv]
  by_cases h : m = n
  · subst h
    by_cases h2 : l = k
    · subst h2
      simp
    · simp [h2]
  · simp [h]
theorem eqvBarsAll : ∀ xs ys : List Bar, PyData.eqvAll (xs.map barD) (ys.map barD) = decide (xs = ys)
  | [], [] => by
    show PyData.eqvAll [] [] = _
    rw [PyData.eqvAll]
    rfl
  | [], y :: ys => by
    show PyData.eqvAll [] (_ :: _) = _
    rw [PyData.eqvAll] <;> first | rfl | simp
  | x :: xs, [] => by
    show PyData.eqvAll (_ :: _) [] = _
    rw [PyData.eqvAll] <;> first | rfl | simp
  | x :: xs, y :: ys => by
    show PyData.eqvAll (barD x :: xs.map barD) (barD y :: ys.map barD) = _
    rw [PyData.eqvAll, eqvBarsAll xs ys, eqvBar]
    by_cases h : x = y
    · subst h
      by_cases h2 : xs = ys
      · subst h2
        simp
      · simp [h2]
    · simp [h]
theorem eqvBars (xs ys : List Bar) : PyData.eqv (.tuple (xs.map barD)) (.tuple (ys.map barD)) = decide (xs = ys) := by
  rw [PyData.eqv]
  exact eqvBarsAll xs ys

end R
namespace R
open PySem PySem.Spec PyProof.Rows L2
/-! ## == and != by a class's own __eq__ -/
/-- the other side: an object of the class, a text, None, a tuple -/
inductive Oth (K : PySem.W.Frag) (C : Addr) (H : Hp) : V → Value → Prop
  | ins {b dy : Addr} {gs : List (Str × V)} (e : H b = some (.ins C dy gs)) : Oth K C H (.ref b) (.ref C)
  | str (x : Str) : Oth K C H (.str x) (.type "str")
  | non : Oth K C H .non (.type "NoneType")
  | tup {b : Addr} {xs : List V} (e : SqT K H b xs) : Oth K C H (.ref b) (.type "tuple")
def rOwn (K : PySem.W.Frag) (C : Addr) (sp : Sp) (E : XK) (neg : Bool) : R2 := fun x y H Q => ∃ (a dx : Addr) (fs : List (Str × V)) (t : Value), x = .ref a ∧ H a = some (.ins C dx fs) ∧ Oth K C H y t ∧ PySem.W.notFirst K C t = true ∧
  sp [x, y] H (fun v H' => ∃ b, v = .bl b ∧ Q (.bl (if neg then !b else b)) H') E
section
variable {X : Cx} {CX : CXT} {C f : Addr} {fd : FuncData} {ps : List Str} {sp : Sp} {E : XK} {k : Nat}
theorem Oth.looks {M : Model} {pn : List (Addr × Obj)} {σ : L2.St} {H : Hp} {s : Shared} {y : V} {u t : Value} (I : Inv X pn σ H s) (ry : RelV y u) (o : Oth X.K C H y t) : PySem.W.Looks M s.heap (typeOf u) t := by
  cases o with
  | ins e =>
    obtain rfl : u = Value.ref _ := ry
    obtain ⟨_, J, _⟩ := ins_get I.hok e
    obtain ⟨_, J, _⟩ := J.look
    exact J.type
  | str x =>
    obtain ⟨t, rfl⟩ := (show ∃ t, u = Value.str x t from ry)
    exact .of_pure rfl
  | non =>
    obtain rfl : u = Value.none := ry
    exact .of_pure rfl
  | tup e =>
    obtain rfl : u = Value.ref _ := ry
    obtain ⟨its, _, ⟨o, ho, hc, _⟩, _⟩ := I.tuple e
    exact hc ▸ (PySem.W.Looks.ld ho).andThen .now
/-- the own __eq__ called, somewhere below the running body -/
theorem run_own {A : Around} {pn : List (Addr × Obj)} {σ : L2.St} {H : Hp} {s : Shared} {a : Addr} {y : V} {u : Value} {R : Bool → Hp → Prop} {W : Value → Shared → Prop} (G : FnOk X.prog X.w X.K X.mg X.base CX k f fd ps sp) (room : Room k A) (fr : A.frames = X.A.frames)
    (hb : Binds X.K fd ps []) (hx : Passes CX X E) (I : Inv X pn σ H s) (ry : RelV y u) (h : sp [.ref a, y] H (fun v H' => ∃ b, v = .bl b ∧ R b H') E)
    (fin : ∀ b s' H', Inv X pn σ H' s' → R b H' → W (.bool b) s') : wpAny (model X.prog X.w) A (call (.ref f) [.ref a, u]) W X.xe s := by
  have e0 : Env0 X.prog X.w X.K X.mg X.base A X.stack s H := by
    have e := I.env0
    exact ⟨by rw [fr]; exact e.frames, e.mod, e.bs, e.bsz, e.funs, e.frf, e.hok, e.bare⟩
  have len := G.len _ _ _ _ h
  have rv : Vals [V.ref a, y] [Value.ref a, u] := .cons rfl (.cons ry .nil)
  have bind : BindsTo s fd ⟨[.ref a, u], []⟩ (ps.zip [Value.ref a, u]) := by
    have q := hb s [.ref a, u] I.kIn (by simpa using len)
    simpa using q
  refine wpAny_call (codeAny_mono (G.run A X.stack s H ⟨[.ref a, u], []⟩ [.ref a, u] [.ref a, y] _ E room e0 bind rv h) fun r s' q => ?_)
  cases r with
  | error e => exact hx pn σ H s e s' I q
  | ok fl =>
    cases fl with
    | ret z =>
      obtain ⟨v, H', I', rz, b, ev, hR⟩ := I.after q
      subst ev
      obtain rfl : z = Value.bool b := rz
      exact fin b s' H' I' hR
    | next | brk | cont => exact False.elim q
theorem op_eqO (G : FnOk X.prog X.w X.K X.mg X.base CX k f fd ps sp) (hr : Room k X.A) (hs : PySem.W.findIn X.K (.ref C) "__eq__" = some (some (.ref f))) (hf : PySem.W.isFn X.K (.ref f) = true) (hb : Binds X.K fd ps []) (hx : Passes CX X E) :
    OpR X (compareOp .Eq) (rOwn X.K C sp E false) := by
  intro pn s σ H x y v u Q I rx ry h
  obtain ⟨a, dx, fs, t, rfl, ha, o, nf, h⟩ := h
  obtain rfl : v = Value.ref a := rx
  obtain ⟨_, J, _⟩ := ins_get I.hok ha
  obtain ⟨_, J, _⟩ := J.look
  obtain ⟨_, hF⟩ := I.fr
  show wpAny _ X.A (richCompare .Eq (.ref a) u) _ _ _
  refine PySem.W.cmp_K (op := .Eq) (tb := t) hr.units0 hF I.ok.mod.kin J (o.looks I ry) nf hs hf ?_
  exact run_own G hr rfl hb hx I ry h fun b s' H' I' q => ⟨.bl b, H', I', rfl, q⟩
theorem op_neO (G : FnOk X.prog X.w X.K X.mg X.base CX k f fd ps sp) (hr : Room (k + 1) X.A) (hs : PySem.W.findIn X.K (.ref C) "__eq__" = some (some (.ref f))) (hf : PySem.W.isFn X.K (.ref f) = true) (hb : Binds X.K fd ps []) (hx : Passes CX X E)
    (hn : PySem.W.findIn X.K (.ref C) "__ne__" = some (some (.builtin "object.__ne__"))) (hm : PySem.W.mroIn X.K C (.type "object") = some true) : OpR X (compareOp .NotEq) (rOwn X.K C sp E true) := by
  intro pn s σ H x y v u Q I rx ry h
  obtain ⟨a, dx, fs, t, rfl, ha, o, nf, h⟩ := h
  obtain rfl : v = Value.ref a := rx
  obtain ⟨_, J, _⟩ := ins_get I.hok ha
  obtain ⟨_, J, _⟩ := J.look
  have KI := I.kIn
  have unit : X.A.in1.units < cLine := hr.in1.units0
  have inner : wpAny (model X.prog X.w) X.A (call (.builtin "object.__ne__") [.ref a, u]) (fun z s' => ∃ b, z = .bool (!b) ∧ EP X pn σ Q (.bool (!b)) s') X.xe s := by
    refine wpAny_call (codeAny_call_builtin F.cmp_object.ne.plain F.cmpEntry_ne (PySem.W.check_slot F.cmpKind_ne F.cmpSplit_ne (J.type.andThen (PySem.W.looks_mroIn KI hm)) (F.cmpArgs_ne _ _) ?_))
    have eqq : wpAny (model X.prog X.w) X.A.in1 (callSpecialIfBound? (.ref a) "__eq__" [u]) (fun r s' => ∃ b, r = some (.bool b) ∧ EP X pn σ Q (.bool (!b)) s') X.xe s :=
      PySem.W.ifBound_K KI J hs hf (run_own G hr.in1 rfl hb hx I ry h fun b s' H' I' q => ⟨b, rfl, .bl (!b), H', I', rfl, q⟩)
    unfold Builtin.«object.__ne__»
    repeat (first
      | with_reducible refine wpAny_cRoomFor unit ?_
      | (refine wpAny_bind (m := callSpecialIfBound? (.ref a) (Str.ofString "__eq__") [u]) (wpAny_mono eqq (fun r s' hr' => ?_) fun _ _ e => e)
         obtain ⟨b, rfl, q⟩ := hr'
         repeat (first | exact ⟨b, rfl, q⟩ | (refine wpAny_bind (m := truthy (.bool _)) (wpAny_truthy_bool ?_)) | wp_step))
      | wp_step)
  show wpAny _ X.A (richCompare .NotEq (.ref a) u) _ _ _
  have one : wpAny (model X.prog X.w) X.A (tryCompare (.ref a) (cmpInfo .NotEq).2.1 u) (fun r s' => ∃ z, r = some z ∧ EP X pn σ Q z s') X.xe s := by
    unfold tryCompare
    refine wpAny_bind ?_
    simp only [callSpecialIfBound?, bindSpecialIfBound?]
    refine wpAny_holding <| wpAny_bind <| wpAny_bind <| wpAny_bind <| J.type.here <| (PySem.W.looks_findIn KI hn).here ?_
    refine wpAny_bind <| wpAny_askSetting <| wpAny_ite ?_
    have go : wpAny (model X.prog X.w) X.A (call (.builtin "object.__ne__") ([.ref a] ++ [u]) >>= fun v => pure (some v)) (fun r s' => wpAny (model X.prog X.w) X.A (match r with | some .notImplemented | none => pure none | some v => pure (some v)) (fun r s' => ∃ z, r = some z ∧ EP X pn σ Q z s') X.xe s') X.xe s :=
      wpAny_bind (wpAny_mono inner (fun z s' ⟨b, e, q⟩ => by subst e; exact wpAny_pure (wpAny_pure ⟨_, rfl, q⟩)) fun _ _ e => e)
    split
    · rw [F.cmp_object.ne.bind]
      exact wpAny_bind (wpAny_pure (wpAny_pure go))
    · rw [F.cmp_object.ne.bind]
      exact wpAny_tryCatch (wpAny_bind (wpAny_pure (wpAny_pure go)))
  unfold richCompare
  simp only [oneThing_ref]
  refine wpAny_holding (wpAny_bind (wpAny_cRoomFor hr.units0 ?_))
  refine wpAny_bind (J.type.here (wpAny_bind ((o.looks I ry).here ?_)))
  split
  · rename_i q
    have e : PySem.W.subIn X.K t (.ref C) = some false := by
      rcases Bool.or_eq_true_iff.mp nf with e | e
      · rw [beq_iff_eq.mp e] at q
        simp at q
      · exact beq_iff_eq.mp e
    refine wpAny_bind ((PySem.W.looks_subIn KI e).here ?_)
    simp only [Bool.false_eq_true, if_false]
    refine wpAny_bind (wpAny_mono one (fun r s' ⟨z, ez, q⟩ => ?_) fun _ _ e => e)
    subst ez
    exact wpAny_pure q
  · refine wpAny_bind (wpAny_pure ?_)
    simp only [Bool.false_eq_true, if_false]
    refine wpAny_bind (wpAny_mono one (fun r s' ⟨z, ez, q⟩ => ?_) fun _ _ e => e)
    subst ez
    exact wpAny_pure q
end
/-- one of two readings of an operator -/
def rOr (r1 r2 : R2) : R2 := fun x y H Q => r1 x y H Q ∨ r2 x y H Q
theorem op_or {X : Cx} {f : Value → Value → Sem Value} {r1 r2 : R2} (h1 : OpR X f r1) (h2 : OpR X f r2) : OpR X f (rOr r1 r2) := by
  intro pn s σ H x y v u Q I rx ry h
  rcases h with h | h
  · exact h1 pn s σ H x y v u Q I rx ry h
  · exact h2 pn s σ H x y v u Q I rx ry h
theorem kit_same {K : PySem.W.Frag} {C : Addr} : PySem.W.kitOne K (.ref C) (.ref C) = some true := by
  unfold PySem.W.kitOne
  rw [if_pos (by simp)]
theorem kit_no {K : PySem.W.Frag} {C : Addr} {t : String} (h1 : PySem.W.hasDictIn K C = true) (h2 : PySem.W.typeIn K (.ref C) = some (.type "type")) (h3 : PySem.W.subIn K (.type t) (.ref C) = some false) : PySem.W.kitOne K (.type t) (.ref C) = some false := by
  obtain ⟨cd, hc, _⟩ := PySem.W.any_some h1
  unfold PySem.W.kitOne
  rw [if_neg (by simp)]
  show (if ((PySem.W.clsIn K C).isSome && PySem.W.typeIn K (.ref C) == some (.type "type")) = true then PySem.W.subIn K (.type t) (.ref C) else none) = some false
  rw [hc, h2]
  exact h3

end R
namespace R
open PySem PySem.Spec PyProof.Rows L2
/-! ## two sieves compared -/
def sp_m_Sieve_eq (K : PySem.W.Frag) (C : Addr) : Sp := fun vs H Q _ => ∃ (p : Addr) (v : V) (t : Addr) (bs : List Bar) (y : V), vs = [.ref p, y] ∧ SvAt K C H p v t bs ∧
  ((∃ (p' : Addr) (v' : V) (t' : Addr) (bs' : List Bar), y = .ref p' ∧ SvAt K C H p' v' t' bs' ∧ Q (.bl (decide (bs = bs'))) H) ∨ ∃ t : String, TyX K H y (.type t) ∧ PySem.W.subIn K (.type t) (.ref C) = some false ∧ Q (.bl false) H)
section
variable {P : Program} {w : World} {K : PySem.W.Frag} {mg : Str → Option Value} {base : Heap}
theorem SvAt.ty (T : Txt K mg) {H : Hp} {p : Addr} {v : V} {t : Addr} {bs : List Bar} (S : SvAt K T.C H p v t bs) : TyX K H (.ref p) (.ref T.C) := by
  obtain ⟨dx, e⟩ := S.ob
  exact .base (.ins e T.cl T.kt1 T.kt2 T.kt3 T.moC)
theorem ok_m_Sieve_eq (T : Txt K mg) : FnOk P w K mg base CX0 10 T.f_m_Sieve_eq T.fd_m_Sieve_eq ["self", "other"] (sp_m_Sieve_eq K T.C) := by
  refine T.F_m_Sieve_eq.ok sc_m_Sieve_eq (fun vs H Q E h => ?_) (fun cdv A outer s H vs Q E hr h => ?_)
  · obtain ⟨p, v, t, bs, y, rfl, _⟩ := h
    rfl
  · obtain ⟨p, v, t, bs, y, rfl, S, h⟩ := h
    refine ⟨_, (pss_one (ps_ret (pe_and (pe_callB call_isi (by rfl) T.z_isinstance (by decide +kernel) (pa_cons (pv 1) (pa_cons (pe_glob (v := .ref T.C) (by rfl) T.g_Sieve rfl) pa_nil))) (pe_one (pe_cmpR (op_eqD hr.units) (pe_fld (pv 0) rfl) (pe_fld (pv 1) rfl) (nomark _)))))), ?_⟩
    obtain ⟨dx, e⟩ := S.ob
    rcases h with ⟨p', v', t', bs', rfl, S', q⟩ | ⟨ty, hy, hn, q⟩
    · obtain ⟨dx', e'⟩ := S'.ob
      refine ⟨_, rfl, _, _, _, _, _, rfl, .own T.C, S'.ty T, T.isC, true, rfl, iteT ?_⟩
      refine ⟨_, rfl, p, T.C, dx, _, _, rfl, e, T.cl, T.n_bars, flds_bars _ _ _, _, rfl, p', T.C, dx', _, _, rfl, e', T.cl, T.n_bars, flds_bars _ _ _, ?_⟩
      refine ⟨_, _, dpBars S.bars, dpBars S'.bars, (okBars _).shaped (by decide), (okBars _).shaped (by decide), ?_⟩
      rw [eqvBars]
      exact q
    · exact ⟨_, rfl, _, _, _, _, _, rfl, .own T.C, hy, T.noC ty hn, false, rfl, iteF q⟩
end
theorem nf_same {K : PySem.W.Frag} {C : Addr} : PySem.W.notFirst K C (.ref C) = true := by
  unfold PySem.W.notFirst
  simp
/-- two sieves by == or != -/
theorem ownSv {K : PySem.W.Frag} {C : Addr} {H : Hp} {Q : V → Hp → Prop} {E : XK} {neg : Bool} {p p' t t' : Addr} {v v' : V} {bs bs' : List Bar} (S : SvAt K C H p v t bs) (S' : SvAt K C H p' v' t' bs')
    (q : Q (.bl (if neg then !decide (bs = bs') else decide (bs = bs'))) H) : rOwn K C (sp_m_Sieve_eq K C) E neg (.ref p) (.ref p') H Q := by
  obtain ⟨dx, e⟩ := S.ob
  obtain ⟨dx', e'⟩ := S'.ob
  exact ⟨p, dx, _, _, rfl, e, .ins e', nf_same, p, v, t, bs, _, rfl, S, .inl ⟨p', v', t', bs', rfl, S', _, rfl, q⟩⟩
/-- a sieve and a text by == or != -/
theorem ownTx {K : PySem.W.Frag} {mg : Str → Option Value} (T : Txt K mg) {H : Hp} {Q : V → Hp → Prop} {E : XK} {neg : Bool} {p t : Addr} {v : V} {bs : List Bar} (S : SvAt K T.C H p v t bs) (x : Str)
    (q : Q (.bl (if neg then !false else false)) H) : rOwn K T.C (sp_m_Sieve_eq K T.C) E neg (.ref p) (.str x) H Q := by
  obtain ⟨dx, e⟩ := S.ob
  refine ⟨p, dx, _, _, rfl, e, .str x, ?_, p, v, t, bs, _, rfl, S, .inr ⟨"str", .base (.str x), T.suS, _, rfl, q⟩⟩
  unfold PySem.W.notFirst
  rw [T.suS]
  simp

end R
namespace R
open PySem PySem.Spec PyProof.Rows L2
/-! ## places: the fitting numbers in a row -/
def below (c : List Int) (y : Int) : Nat := (c.filter fun z => decide (z < y)).length
/-- the place of the least fitting number from x on -/
def pl (bs : List Bar) (x : Int) : Int := x / (wh bs : Int) * ((cls bs).length : Int) + (below (cls bs) (x % (wh bs : Int)) : Int)
theorem below_succ {c : List Int} (h : c.Pairwise (· < ·)) (y : Int) : below c (y + 1) = below c y + (if y ∈ c then 1 else 0) := by
  induction c with
  | nil => rfl
  | cons a r ih =>
    obtain ⟨h1, h2⟩ := List.pairwise_cons.mp h
    have ih := ih h2
    unfold below at ih ⊢
    by_cases e : a = y
    · subst e
      have n : a ∉ r := fun z => by have := h1 a z; omega
      rw [if_neg n] at ih
      rw [List.filter_cons_of_pos (by simp; omega), List.filter_cons_of_neg (by simp), List.length_cons, if_pos List.mem_cons_self, ih]
    · have em : (y ∈ a :: r) = (y ∈ r) := by
        rw [List.mem_cons]
        exact propext ⟨fun z => z.elim (fun w => absurd w.symm e) id, .inr⟩
      simp only [em]
      by_cases l : a < y
      · rw [List.filter_cons_of_pos (by simp; omega), List.filter_cons_of_pos (by simp; omega), List.length_cons, List.length_cons, ih]
        omega
      · rw [List.filter_cons_of_neg (by simp; omega), List.filter_cons_of_neg (by simp; omega), ih]
theorem below_zero {c : List Int} (h : ∀ z ∈ c, 0 ≤ z) : below c 0 = 0 := by
  unfold below
  rw [List.filter_eq_nil_iff.mpr fun z hz => by have := h z hz; simp; omega]
  rfl
theorem below_all {c : List Int} {w : Int} (h : ∀ z ∈ c, z < w) : below c w = c.length := by
  unfold below
  rw [List.filter_eq_self.mpr fun z hz => by have := h z hz; simp; omega]
theorem cls_mem {bs : List Bar} {x : Int} : x ∈ cls bs ↔ 0 ≤ x ∧ x < (wh bs : Int) ∧ fitsB bs x = true := (cls_is bs).mem x
theorem divStep {x w : Int} (hw : 0 < w) : (x % w + 1 < w ∧ (x + 1) / w = x / w ∧ (x + 1) % w = x % w + 1) ∨ (x % w + 1 = w ∧ (x + 1) / w = x / w + 1 ∧ (x + 1) % w = 0) := by
  have h0 := Int.emod_nonneg x (Int.ne_of_gt hw)
  have h1 := Int.emod_lt_of_pos x hw
  have h2 := Int.mul_ediv_add_emod x w
  by_cases h : x % w + 1 < w
  · refine .inl ⟨h, ?_⟩
    have e : x + 1 = (x % w + 1) + w * (x / w) := by omega
    rw [e, Int.add_mul_ediv_left _ _ (Int.ne_of_gt hw), Int.add_mul_emod_self_left, Int.ediv_eq_zero_of_lt (by omega) h, Int.emod_eq_of_lt (by omega) h]
    exact ⟨by omega, rfl⟩
  · refine .inr ⟨by omega, ?_⟩
    have e : x + 1 = 0 + w * (x / w + 1) := by rw [Int.mul_add]; omega
    rw [e, Int.add_mul_ediv_left _ _ (Int.ne_of_gt hw), Int.add_mul_emod_self_left]
    exact ⟨by rw [Int.zero_ediv, Int.zero_add], Int.zero_emod _⟩
def PosOk (bs : List Bar) : Prop := 0 < wh bs
theorem pl_succ {bs : List Bar} (hw : 0 < wh bs) (x : Int) : pl bs (x + 1) = pl bs x + (if fitsB bs x = true then 1 else 0) := by
  have hw' : (0 : Int) < (wh bs : Int) := by omega
  have r0 := Int.emod_nonneg x (Int.ne_of_gt hw')
  have r1 := Int.emod_lt_of_pos x hw'
  have key : (below (cls bs) (x % (wh bs : Int) + 1) : Int) = (below (cls bs) (x % (wh bs : Int)) : Int) + (if fitsB bs x = true then 1 else 0) := by
    rw [below_succ (cls_up bs)]
    have em : (x % (wh bs : Int) ∈ cls bs) ↔ fitsB bs x = true := by
      rw [cls_mem, fitsB_mod]
      exact ⟨fun h => h.2.2, fun h => ⟨r0, r1, h⟩⟩
    by_cases f : fitsB bs x = true
    · rw [if_pos (em.mpr f), if_pos f]
      rfl
    · rw [if_neg (fun z => f (em.mp z)), if_neg f]
      rfl
  unfold pl
  rcases divStep (x := x) hw' with ⟨_, e1, e2⟩ | ⟨h, e1, e2⟩
  · rw [e1, e2, key]
    omega
  · rw [e1, e2, below_zero fun z hz => (cls_mem.mp hz).1]
    rw [h, below_all fun z hz => (cls_mem.mp hz).2.1] at key
    rw [Int.add_mul, Int.one_mul]
    omega
/-- how many fit from a on, k numbers -/
def cnt (bs : List Bar) (a : Int) (k : Nat) : Nat := ((List.range k).filter fun i : Nat => fitsB bs (a + i)).length
theorem cnt_succ (bs : List Bar) (a : Int) (k : Nat) : cnt bs a (k + 1) = cnt bs a k + (if fitsB bs (a + k) = true then 1 else 0) := by
  unfold cnt
  rw [List.range_succ, List.filter_append, List.length_append]
  by_cases f : fitsB bs (a + k) = true
  · rw [List.filter_cons_of_pos (p := fun i : Nat => fitsB bs (a + i)) f, if_pos f]
    rfl
  · rw [List.filter_cons_of_neg (p := fun i : Nat => fitsB bs (a + i)) f, if_neg f]
    rfl
theorem pl_add {bs : List Bar} (hw : 0 < wh bs) (a : Int) (k : Nat) : pl bs (a + k) = pl bs a + (cnt bs a k : Int) := by
  induction k with
  | zero =>
    show pl bs (a + 0) = pl bs a + ((0 : Nat) : Int)
    rw [Int.add_zero]
    omega
  | succ k ih =>
    rw [cnt_succ, show a + ((k + 1 : Nat) : Int) = (a + k) + 1 by omega, pl_succ hw, ih]
    by_cases f : fitsB bs (a + k) = true
    · rw [if_pos f, if_pos f]
      omega
    · rw [if_neg f, if_neg f]
      omega
theorem pl_whole {bs : List Bar} (hw : 0 < wh bs) (x j : Int) : pl bs (x + j * (wh bs : Int)) = pl bs x + j * ((cls bs).length : Int) := by
  unfold pl
  rw [Int.add_mul_ediv_right _ _ (by omega), Int.add_mul_emod_self_right, Int.add_mul]
  omega
theorem pl_mono {bs : List Bar} (hw : 0 < wh bs) {a b : Int} (h : a ≤ b) : pl bs a ≤ pl bs b := by
  have e := pl_add hw a (b - a).toNat
  rw [show a + (((b - a).toNat : Nat) : Int) = b by omega] at e
  omega
theorem pl_fit {bs : List Bar} (hw : 0 < wh bs) {a b : Int} (f : fitsB bs a = true) (h : a < b) : pl bs a < pl bs b := by
  have e := pl_succ hw a
  rw [if_pos f] at e
  have := pl_mono hw (show a + 1 ≤ b by omega)
  omega
theorem fit_unique {bs : List Bar} (hw : 0 < wh bs) {a b : Int} (fa : fitsB bs a = true) (fb : fitsB bs b = true) (e : pl bs a = pl bs b) : a = b := by
  by_cases h : a = b
  · exact h
  · by_cases l : a < b
    · have := pl_fit hw fa l
      omega
    · have := pl_fit hw fb (show b < a by omega)
      omega
/-- the fitting number at a place -/
def st (bs : List Bar) (q : Int) : Int := q / ((cls bs).length : Int) * (wh bs : Int) + (cls bs).getD (q % ((cls bs).length : Int)).toNat 0
theorem below_at {c : List Int} (h : c.Pairwise (· < ·)) : ∀ {j : Nat} {x : Int}, c[j]? = some x → below c x = j := by
  induction c with
  | nil => intro j x e; simp at e
  | cons a r ih =>
    obtain ⟨h1, h2⟩ := List.pairwise_cons.mp h
    intro j x e
    cases j with
    | zero =>
      cases Option.some.inj e
      unfold below
      rw [List.filter_eq_nil_iff.mpr fun z hz => ?_]
      · rfl
      · rcases List.mem_cons.mp hz with rfl | hz
        · simp
        · have := h1 z hz
          simp
          omega
    | succ j =>
      have e' : r[j]? = some x := e
      have q := ih h2 e'
      have lt := h1 x (List.mem_of_getElem? e')
      unfold below at q ⊢
      rw [List.filter_cons_of_pos (by simp; omega), List.length_cons, q]
section
variable {bs : List Bar} {q : Int}
theorem st_parts (hw : 0 < wh bs) (hn : 0 < (cls bs).length) : ∃ x, (cls bs)[(q % ((cls bs).length : Int)).toNat]? = some x ∧ st bs q = x + q / ((cls bs).length : Int) * (wh bs : Int) ∧ 0 ≤ x ∧ x < (wh bs : Int) ∧ fitsB bs x = true := by
  have r0 := Int.emod_nonneg q (show ((cls bs).length : Int) ≠ 0 by omega)
  have r1 := Int.emod_lt_of_pos q (show (0 : Int) < ((cls bs).length : Int) by omega)
  have hj : (q % ((cls bs).length : Int)).toNat < (cls bs).length := by omega
  have e := List.getElem?_eq_getElem hj
  refine ⟨_, e, ?_, cls_mem.mp (List.mem_of_getElem? e)⟩
  unfold st
  rw [List.getD_eq_getElem?_getD, e, Int.add_comm]
  rfl
theorem fits_st (hw : 0 < wh bs) (hn : 0 < (cls bs).length) : fitsB bs (st bs q) = true := by
  obtain ⟨x, _, e, x0, x1, f⟩ := st_parts (q := q) hw hn
  rw [e, ← fitsB_mod, Int.add_mul_emod_self_right, fitsB_mod]
  exact f
theorem pl_st (hw : 0 < wh bs) (hn : 0 < (cls bs).length) : pl bs (st bs q) = q := by
  obtain ⟨x, h, e, x0, x1, f⟩ := st_parts (q := q) hw hn
  have r0 := Int.emod_nonneg q (show ((cls bs).length : Int) ≠ 0 by omega)
  have d := Int.mul_ediv_add_emod q ((cls bs).length : Int)
  rw [e, pl_whole hw]
  unfold pl
  rw [Int.emod_eq_of_lt x0 x1, Int.ediv_eq_zero_of_lt x0 x1, Int.zero_mul, Int.zero_add, below_at (cls_up bs) h, Int.mul_comm]
  omega
theorem st_pl (hw : 0 < wh bs) {x : Int} (f : fitsB bs x = true) : st bs (pl bs x) = x := by
  have hn : 0 < (cls bs).length := List.length_pos_of_mem (cls_mem.mpr ⟨Int.emod_nonneg x (by omega), Int.emod_lt_of_pos x (by omega), by rw [fitsB_mod]; exact f⟩)
  exact fit_unique hw (fits_st hw hn) f (pl_st hw hn)
end
theorem cls_empty {bs : List Bar} (hw : 0 < wh bs) (h : cls bs = []) (x : Int) : fitsB bs x = false := by
  cases f : fitsB bs x with
  | false => rfl
  | true =>
    have := cls_mem.mpr ⟨Int.emod_nonneg x (show (wh bs : Int) ≠ 0 by omega), Int.emod_lt_of_pos x (show (0 : Int) < (wh bs : Int) by omega), by rw [fitsB_mod]; exact f⟩
    rw [h] at this
    simp at this
theorem cnt_le (bs : List Bar) (a : Int) (k : Nat) : cnt bs a k ≤ k := by
  unfold cnt
  have h := List.length_filter_le (fun i : Nat => fitsB bs (a + i)) (List.range k)
  rw [List.length_range] at h
  exact h
theorem below_le (c : List Int) (y : Int) : below c y ≤ c.length := List.length_filter_le _ _
/-- how great a place may be -/
theorem pl_size {bs : List Bar} (hw : 0 < wh bs) {x : Int} {N : Nat} (hx : x.natAbs ≤ N) : (pl bs x).natAbs ≤ N * (cls bs).length + (cls bs).length := by
  unfold pl
  have h1 : (x / (wh bs : Int)).natAbs ≤ N := Nat.le_trans (Int.natAbs_ediv_le_natAbs _ _) hx
  have h2 := below_le (cls bs) (x % (wh bs : Int))
  have h3 : (x / (wh bs : Int) * ((cls bs).length : Int)).natAbs ≤ N * (cls bs).length := by
    rw [Int.natAbs_mul, Int.natAbs_natCast]
    exact Nat.mul_le_mul_right _ h1
  omega

end R
namespace R
open PySem PySem.Spec PyProof.Rows L2
theorem below_split {c : List Int} {y : Int} {n : Nat} (hn : n ≤ c.length) (h1 : ∀ (j : Nat) x, j < n → c[j]? = some x → x < y) (h2 : ∀ (j : Nat) x, n ≤ j → c[j]? = some x → ¬ x < y) : below c y = n := by
  unfold below
  have e : c = c.take n ++ c.drop n := (List.take_append_drop n c).symm
  rw [e, List.filter_append]
  rw [List.filter_eq_self.mpr fun z hz => ?_, List.filter_eq_nil_iff.mpr fun z hz => ?_, List.append_nil, List.length_take]
  · omega
  · obtain ⟨j, hj, ez⟩ := List.mem_iff_getElem.mp hz
    rw [List.length_drop] at hj
    rw [List.getElem_drop] at ez
    have q := h2 (n + j) z (by omega) (by rw [List.getElem?_eq_getElem (by omega), ez])
    simpa using q
  · obtain ⟨j, hj, ez⟩ := List.mem_iff_getElem.mp hz
    rw [List.length_take] at hj
    rw [List.getElem_take] at ez
    have q := h1 j z (by omega) (by rw [List.getElem?_eq_getElem (by omega), ez])
    simpa using q
theorem ups {c : List Int} (h : c.Pairwise (· < ·)) {i j : Nat} {x y : Int} (hi : c[i]? = some x) (hj : c[j]? = some y) (l : i ≤ j) : x ≤ y := by
  obtain ⟨a, ea⟩ := List.getElem?_eq_some_iff.mp hi
  obtain ⟨b, eb⟩ := List.getElem?_eq_some_iff.mp hj
  by_cases e : i = j
  · subst e
    rw [← ea, ← eb]
    exact Int.le_refl _
  · have := List.pairwise_iff_getElem.mp h i j a b (by omega)
    omega
/-- divmod of numbers that are not too great -/
theorem divp_small {i j : Int} (hj : 0 < j) (hi : i.natAbs < 2 ^ 3000) : CDivP i j := by
  refine divp_ok hj ?_
  have := PyProof.Rows.intBits_le hi
  omega
theorem nodup_len : ∀ {xs ys : List Int}, xs.Nodup → (∀ x ∈ xs, x ∈ ys) → xs.length ≤ ys.length
  | [], _, _, _ => Nat.zero_le _
  | x :: r, ys, n, h => by
    obtain ⟨n1, n2⟩ := List.nodup_cons.mp n
    have hx := h x List.mem_cons_self
    have ih := nodup_len (ys := ys.erase x) n2 fun y hy => (List.mem_erase_of_ne (fun e => n1 (by rw [← e]; exact hy))).mpr (h y (List.mem_cons_of_mem _ hy))
    rw [List.length_erase_of_mem hx] at ih
    have := List.length_pos_of_mem hx
    show r.length + 1 ≤ ys.length
    omega
theorem cls_choices {bs : List Bar} (S : SvOk bs) : (cls bs).length ≤ choices bs := by
  have h : ∀ bs : List Bar, (∀ b ∈ bs, BarOk b) → ∃ xs, ClsIs bs xs ∧ xs.length ≤ choices bs := by
    refine snocInd (fun _ => ⟨[0], ClsIs.nil, Nat.le_refl _⟩) fun bs b ih h => ?_
    obtain ⟨xs, C, hl⟩ := ih fun c hc => h c (List.mem_append_left _ hc)
    have B := h b (List.mem_append_right _ (List.mem_singleton.mpr rfl))
    have w1 : 0 < wh bs := wh_pos bs fun c hc => (h c (List.mem_append_left _ hc)).pos
    have m1 := B.pos
    have hg : 0 < Nat.gcd (wh bs) b.1.toNat := Nat.gcd_pos_of_pos_left _ w1
    obtain ⟨back, hb⟩ : ∃ back : Int, ((b.1.toNat / Nat.gcd (wh bs) b.1.toNat : Nat) : Int) ∣ ((wh bs / Nat.gcd (wh bs) b.1.toNat : Nat) : Int) * back - 1 := by
      have cop : Nat.gcd (wh bs / Nat.gcd (wh bs) b.1.toNat) (b.1.toNat / Nat.gcd (wh bs) b.1.toNat) = 1 := by
        rw [Nat.gcd_div (Nat.gcd_dvd_left _ _) (Nat.gcd_dvd_right _ _)]
        exact Nat.div_self hg
      have v1 : 1 ≤ wh bs / Nat.gcd (wh bs) b.1.toNat := Nat.div_pos (Nat.gcd_le_left _ w1) hg
      generalize wh bs / Nat.gcd (wh bs) b.1.toNat = n at cop v1
      generalize b.1.toNat / Nat.gcd (wh bs) b.1.toNat = m at cop
      have walk : ∀ (k : Nat) (r a F G : Nat) (f g : Int), a ≤ k → Euc n m r a F G f g → ∃ back : Int, (m : Int) ∣ (n : Int) * back - 1 := by
        intro k
        induction k with
        | zero =>
          intro r a F G f g ha E
          obtain rfl : a = 0 := by omega
          exact ⟨_, E.last⟩
        | succ k ih =>
          intro r a F G f g ha E
          by_cases h0 : a = 0
          · subst h0
            exact ⟨_, E.last⟩
          · exact ih _ _ _ _ _ _ (by have := Nat.mod_lt r (Nat.pos_of_ne_zero h0); omega) (E.step h0)
      exact walk m n m 1 0 1 0 (Nat.le_refl _) (Euc.start v1 cop)
    have ew : Nat.gcd (wh bs) b.1.toNat * (wh bs / Nat.gcd (wh bs) b.1.toNat) = wh bs := Nat.mul_div_cancel' (Nat.gcd_dvd_left _ _)
    have em : Nat.gcd (wh bs) b.1.toNat * (b.1.toNat / Nat.gcd (wh bs) b.1.toNat) = b.1.toNat := Nat.mul_div_cancel' (Nat.gcd_dvd_right _ _)
    have t1 : 1 ≤ b.1.toNat / Nat.gcd (wh bs) b.1.toNat := Nat.div_pos (Nat.gcd_le_right _ (by omega)) hg
    have M : Meet (Nat.gcd (wh bs) b.1.toNat : Nat) (b.1.toNat / Nat.gcd (wh bs) b.1.toNat : Nat) back (wh bs : Nat) (wh bs / Nat.gcd (wh bs) b.1.toNat : Nat) b.1 :=
      ⟨by omega, by omega, by omega, by rw [← Int.natCast_mul, ew], by rw [← Int.natCast_mul, em]; omega, hb⟩
    refine ⟨_, C.add M B.lot ?_, ?_⟩
    · rw [wh_add, show b.1.natAbs = b.1.toNat by omega, ← Int.natCast_mul]
      congr 1
      exact Nat.mul_div_assoc _ (Nat.gcd_dvd_right _ _)
    · rw [choices_add]
      exact Nat.le_trans (joinL_len _ _ _ _ _ _) (Nat.mul_le_mul hl (by omega))
  obtain ⟨xs, C, hl⟩ := h bs S.bar
  have h1 := nodup_len (cls_is bs).nd (ys := xs) fun x hx => (C.mem x).mpr ((cls_is bs).mem x |>.mp hx)
  exact Nat.le_trans h1 hl
theorem choices_cls {bs : List Bar} (S : SvOk bs) : (cls bs).length ≤ 2000 := Nat.le_trans (cls_choices S) S.many

end R
namespace R
open PySem PySem.Spec PyProof.Rows L2
/-! ## far numbers -/
def sp_l_far : Sp := fun vs H Q _ => ∃ (r L : Addr), vs = [.ref r] ∧ RowAt H r L ∧ ∀ v H', -(10 ^ 17) < v → v < 10 ^ 17 → Kp r H H' → RowAt H' r L → Q (.int v) H'
theorem pick4 {v : Int} (h0 : 0 ≤ v) (h1 : v < 4) : v = 0 ∨ v = 1 ∨ v = 2 ∨ v = 3 := by omega
theorem pick3 {v : Int} (h0 : 0 ≤ v) (h1 : v < 3) : v = 0 ∨ v = 1 ∨ v = 2 := by omega
section
variable {P : Program} {w : World} {K : PySem.W.Frag} {mg : Str → Option Value} {base : Heap}
theorem ok_l_far (T : Txt K mg) : FnOk P w K mg base CX0 3 T.f_l_far T.fd_l_far ["_law_row"] sp_l_far := by
  refine T.F_l_far.ok sc_l_far (fun vs H Q E h => ?_) (fun cdv A outer s H vs Q E hr h => ?_)
  · obtain ⟨r, L, rfl, _⟩ := h
    rfl
  · obtain ⟨r, L, rfl, R0, q⟩ := h
    refine ⟨_, (pss_cons (ps_set (i := 1) sc_l_far.nd rfl (by first | exact .inl rfl | exact .inr rfl) (pe_ix ix_list (pe_lst (pa_cons pe_int (pa_cons pe_int (pa_cons pe_int (pa_cons pe_int pa_nil))))) (pe_call (ok_l_pick T) (hr.mono (by decide)) (by rfl) T.g_l_pick T.F_l_pick.kp T.b_l_pick .nil pass0 (pa_cons (pv 0) (pa_cons pe_int pa_nil))) (fun _ _ => rfl)))
      (pss_one (ps_ret (pe_op op_mulW (pe_op op_sub (pe_call (ok_l_pick T) (hr.mono (by decide)) (by rfl) T.g_l_pick T.F_l_pick.kp T.b_l_pick .nil pass0 (pa_cons (pv 0) (pa_cons (pv 1) pa_nil))) (pe_op op_fdivW (pv 1) pe_int)) (pe_ix ix_list (pe_lst (pa_cons pe_int (pa_cons pe_int (pa_cons pe_int pa_nil)))) (pe_call (ok_l_pick T) (hr.mono (by decide)) (by rfl) T.g_l_pick T.F_l_pick.kp T.b_l_pick .nil pass0 (pa_cons (pv 0) (pa_cons pe_int pa_nil))) (fun _ _ => rfl)))))), ?_⟩
    refine ⟨sizeOk (by show (4 : Nat) ≤ 100000; decide), fun p np => ?_⟩
    have k0 : Kp r H (upd H p (.lst [.int 40, .int 3000, .int 1000000, .int 100000000000])) := Kp.new np
    have R1 := R0.stay (same_upd np (o := .lst [.int 40, .int 3000, .int 1000000, .int 100000000000]))
    refine ⟨_, rfl, r, L, 4, rfl, R1, by decide, by decide, fun v H2 v0 v1 k2 R2 => ?_⟩
    have e2 : H2 p = some (.lst [.int 40, .int 3000, .int 1000000, .int 100000000000]) := k2 _ _ (R0.new np).1 upd_same
    obtain ⟨wd, hw0, hw1, hat⟩ : ∃ wd : Int, 40 ≤ wd ∧ wd ≤ 100000000000 ∧ atI [V.int 40, V.int 3000, V.int 1000000, V.int 100000000000] v = some (V.int wd) := by
      rcases pick4 v0 v1 with rfl | rfl | rfl | rfl
      · exact ⟨40, by decide, by decide, atI_nat (j := 0) rfl⟩
      · exact ⟨3000, by decide, by decide, atI_nat (j := 1) rfl⟩
      · exact ⟨1000000, by decide, by decide, atI_nat (j := 2) rfl⟩
      · exact ⟨100000000000, by decide, by decide, atI_nat (j := 3) rfl⟩
    refine ⟨p, _, _, .int wd, rfl, rfl, lstOf e2, hat, ?_⟩
    refine ⟨_, rfl, _, rfl, r, L, wd, rfl, R2, by omega, by omega, fun y H3 y0 y1 k3 R3 => ?_⟩
    refine ⟨_, rfl, _, _, rfl, rfl, wide_div (b := 10) (by decide) (by decide) (by decide) (by decide), _, _, rfl, rfl, ?_⟩
    refine ⟨sizeOk (by show (3 : Nat) ≤ 100000; decide), fun p4 np4 => ?_⟩
    have R4 := R3.stay (same_upd np4 (o := .lst [.int 1, .int 1, .int 1000003]))
    refine ⟨_, rfl, r, L, 3, rfl, R4, by decide, by decide, fun z H5 z0 z1 k5 R5 => ?_⟩
    have e5 : H5 p4 = some (.lst [.int 1, .int 1, .int 1000003]) := k5 _ _ (R3.new np4).1 upd_same
    obtain ⟨f, hf0, hf1, hat2⟩ : ∃ f : Int, (f = 1 ∨ f = 1000003) ∧ True ∧ atI [V.int 1, V.int 1, V.int 1000003] z = some (V.int f) := by
      rcases pick3 z0 z1 with rfl | rfl | rfl
      · exact ⟨1, by omega, trivial, atI_nat (j := 0) rfl⟩
      · exact ⟨1, by omega, trivial, atI_nat (j := 1) rfl⟩
      · exact ⟨1000003, by omega, trivial, atI_nat (j := 2) rfl⟩
    refine ⟨p4, _, _, .int f, rfl, rfl, lstOf e5, hat2, _, _, rfl, rfl, wide_mul (a := 60) (b := 30) (by omega) (by omega) (by decide) (by decide) (by decide), ?_⟩
    refine q _ H5 ?_ ?_ ((k0.trans k2).trans ((k3.trans (Kp.new np4)).trans k5)) R5
    · rcases hf0 with rfl | rfl <;> omega
    · rcases hf0 with rfl | rfl <;> omega
end

end R
namespace R
open PySem PySem.Spec PyProof.Rows L2
/-! ## values that are no numbers -/
/-- a value that is no number, index or the like: no integer, or one that is too great -/
def OddV (K : PySem.W.Frag) (H : Hp) (x : V) : Prop := kOdd K H x ∨ x = .int (10 ^ 30 + 1) ∨ x = .int (0 - 10 ^ 30 - 1)
theorem tyKeep {K : PySem.W.Frag} {H H' : Hp} {r L : Addr} {x : V} {t : Value} (h : TyX K H x t) (R : RowAt H r L) (s : Kp r H H') (R' : RowAt H' r L) : TyX K H' x t := by
  obtain ⟨ns, i, b, z, e, _⟩ := R.ex
  obtain ⟨ns', i', b', z', e', _⟩ := R'.ex
  have ne : ∀ {a : Addr} {o : HO}, H a = some o → (∀ zs, o ≠ .lst zs) → a ≠ r := fun {a o} h1 h2 w => by
    subst w
    rw [e] at h1
    exact h2 _ (Option.some.inj h1).symm
  cases h with
  | base h => cases h with
    | non => exact .base .non
    | bl b => exact .base (.bl b)
    | int i => exact .base (.int i)
    | str x => exact .base (.str x)
    | flt x => exact .base (.flt x)
    | lst h =>
      rename_i a xs
      by_cases w : a = r
      · subst w
        exact .base (.lst e')
      · exact .base (.lst (s _ _ w h))
    | frz h => exact .base (.frz (s _ _ (ne h (fun _ w => nomatch w)) h))
    | tup h => exact .base (.tup (s _ _ (ne h (fun _ w => nomatch w)) h))
    | dK h => exact .base (.dK (s _ _ (ne h (fun _ w => nomatch w)) h))
    | dT h => exact .base (.dT (s _ _ (ne h (fun _ w => nomatch w)) h))
    | ins h c1 c2 c3 c4 c5 => exact .base (.ins (s _ _ (ne h (fun _ w => nomatch w)) h) c1 c2 c3 c4 c5)
  | byt b => exact .byt b
  | set h => exact .set (s _ _ (ne h (fun _ w => nomatch w)) h)
  | kList e c => exact .kList e c
  | kTuple e c => exact .kTuple e c
  | kDict e c => exact .kDict e c
  | fTuple h => exact .fTuple (s _ _ (ne h (fun _ w => nomatch w)) h)
  | fDict h => exact .fDict (s _ _ (ne h (fun _ w => nomatch w)) h)
theorem tySame {K : PySem.W.Frag} {H H' : Hp} {x : V} {t : Value} (h : TyX K H x t) (s : Same H H') : TyX K H' x t := by
  cases h with
  | base h => cases h with
    | non => exact .base .non
    | bl b => exact .base (.bl b)
    | int i => exact .base (.int i)
    | str x => exact .base (.str x)
    | flt x => exact .base (.flt x)
    | lst h => exact .base (.lst (s _ _ h))
    | frz h => exact .base (.frz (s _ _ h))
    | tup h => exact .base (.tup (s _ _ h))
    | dK h => exact .base (.dK (s _ _ h))
    | dT h => exact .base (.dT (s _ _ h))
    | ins h c1 c2 c3 c4 c5 => exact .base (.ins (s _ _ h) c1 c2 c3 c4 c5)
  | byt b => exact .byt b
  | set h => exact .set (s _ _ h)
  | kList e c => exact .kList e c
  | kTuple e c => exact .kTuple e c
  | kDict e c => exact .kDict e c
  | fTuple h => exact .fTuple (s _ _ h)
  | fDict h => exact .fDict (s _ _ h)
theorem OddV.keep {K : PySem.W.Frag} {H H' : Hp} {r L : Addr} {x : V} (h : OddV K H x) (R : RowAt H r L) (s : Kp r H H') (R' : RowAt H' r L) : OddV K H' x := by
  rcases h with (h | ⟨t, h1, h2⟩) | h
  · exact .inl (.inl h)
  · exact .inl (.inr ⟨t, tyKeep h1 R s R', h2⟩)
  · exact .inr h
theorem OddV.same {K : PySem.W.Frag} {H H' : Hp} {x : V} (h : OddV K H x) (s : Same H H') : OddV K H' x := by
  rcases h with (h | ⟨t, h1, h2⟩) | h
  · exact .inl (.inl h)
  · exact .inl (.inr ⟨t, tySame h1 s, h2⟩)
  · exact .inr h

end R
namespace R
open PySem PySem.Spec PyProof.Rows L2
/-! ## numbers judged -/
def IsNum (x : Int) : Prop := -1000000000000000000000000000000 ≤ x ∧ x ≤ 1000000000000000000000000000000
theorem IsNum.size {x : Int} (h : IsNum x) : x.natAbs < 2 ^ 200 := by
  have : x.natAbs ≤ 1000000000000000000000000000000 := by
    unfold IsNum at h
    omega
  exact Nat.lt_of_le_of_lt this (by decide)
/-- what may be asked of any value: a number, an integer that is none, or something else -/
theorem OddV.cases {K : PySem.W.Frag} {H : Hp} {x : V} (h : OddV K H x) : kOdd K H x ∨ ∃ i, x = .int i ∧ ¬ IsNum i := by
  rcases h with h | rfl | rfl
  · exact .inl h
  · exact .inr ⟨_, rfl, by unfold IsNum; omega⟩
  · exact .inr ⟨_, rfl, by unfold IsNum; omega⟩
def sp_p_is_number (K : PySem.W.Frag) : Sp := fun vs H Q _ => ∃ x : V, vs = [x] ∧ ((∃ i, x = .int i ∧ IsNum i ∧ Q (.bl true) H) ∨ (OddV K H x ∧ Q (.bl false) H))
section
variable {P : Program} {w : World} {K : PySem.W.Frag} {mg : Str → Option Value} {base : Heap}
theorem ok_p_is_number (T : Txt K mg) : FnOk P w K mg base CX0 4 T.f_p_is_number T.fd_p_is_number ["value"] (sp_p_is_number K) := by
  refine T.F_p_is_number.ok sc_p_is_number (fun vs H Q E h => ?_) (fun cdv A outer s H vs Q E hr h => ?_)
  · obtain ⟨x, rfl, _⟩ := h
    rfl
  · obtain ⟨x, rfl, h⟩ := h
    refine ⟨_, (pss_one (ps_ret (pe_call (ok_p_integer_within T) (hr.mono (by decide)) (by rfl) T.g_p_integer_within T.F_p_integer_within.kp T.b_p_integer_within .nil pass0 (pa_cons (pv 0) (pa_cons (pe_un un_neg (pe_glob (v := .int 1000000000000000000000000000000) (by rfl) T.c_GREATEST_NUMBER.choose_spec ⟨_, rfl⟩)) (pa_cons (pe_glob (v := .int 1000000000000000000000000000000) (by rfl) T.c_GREATEST_NUMBER.choose_spec ⟨_, rfl⟩) pa_nil)))))), ?_⟩
    rcases h with ⟨i, rfl, hi, q⟩ | ⟨o, q⟩
    · refine ⟨_, rfl, _, rfl, _, _, _, rfl, .inl ⟨_, rfl, ?_⟩⟩
      rw [decide_eq_true hi.1, decide_eq_true hi.2]
      exact q
    · rcases o.cases with o | ⟨i, rfl, hi⟩
      · exact ⟨_, rfl, _, rfl, _, _, _, rfl, .inr ⟨o, q⟩⟩
      · refine ⟨_, rfl, _, rfl, _, _, _, rfl, .inl ⟨_, rfl, ?_⟩⟩
        have e : (decide (-1000000000000000000000000000000 ≤ i) && decide (i ≤ 1000000000000000000000000000000)) = false := by
          rw [← Bool.decide_and, decide_eq_false]
          exact hi
        show Q (.bl (decide (-1000000000000000000000000000000 ≤ i) && decide (i ≤ 1000000000000000000000000000000))) H
        rw [e]
        exact q
end

end R
namespace R
open PySem PySem.Spec PyProof.Rows L2
def sp_p_check_number (K : PySem.W.Frag) (B : Addr) : Sp := fun vs H Q E => ∃ x : V, vs = [x] ∧ ((∃ i, x = .int i ∧ IsNum i ∧ Q .non H) ∨ (OddV K H x ∧ E (.ref B) none H))
section
variable {P : Program} {w : World} {K : PySem.W.Frag} {mg : Str → Option Value} {base : Heap}
theorem ok_p_check_number (T : Txt K mg) : FnOk P w K mg base (L2.CX P w) 5 T.f_p_check_number T.fd_p_check_number ["value"] (sp_p_check_number K T.C_BadNumber) := by
  refine T.F_p_check_number.okX sc_p_check_number (fun vs H Q E h => ?_) (fun cdv A outer s H vs Q E hr h => ?_)
  · obtain ⟨x, rfl, _⟩ := h
    rfl
  · obtain ⟨x, rfl, h⟩ := h
    refine ⟨_, (pss_one (ps_if (pt_not (pt_val (pe_call (ok_p_is_number T) (hr.mono (by decide)) (by rfl) T.g_p_is_number T.F_p_is_number.kp T.b_p_is_number .nil pass0 (pa_cons (pv 0) pa_nil)))) (pss_one (ps_raise rfl (takes_of rfl rfl rfl rfl) (pmk_own PySem.F.excBase_ValueError T.x_BadNumber T.g_BadNumber T.k_BadNumber (raises_own T.b_BadNumber T.t_BadNumber) (by rfl)))) pss_nil)), ?_⟩
    rcases h with ⟨i, rfl, hi, q⟩ | ⟨o, q⟩
    · exact ⟨_, rfl, _, rfl, .inl ⟨i, rfl, hi, true, rfl, iteF q⟩⟩
    · exact ⟨_, rfl, _, rfl, .inr ⟨o, false, rfl, iteT q⟩⟩
end

end R
namespace R
open PySem PySem.Spec PyProof.Rows L2
/-! ## fits -/
def sp_p_lets_through (K : PySem.W.Frag) (C : Addr) : Sp := fun vs H Q _ => ∃ (p : Addr) (v : V) (t : Addr) (bs : List Bar) (x : Int), vs = [.ref p, .int x] ∧ SvAt K C H p v t bs ∧ Q (.bl (fitsB bs x)) H
section
variable {P : Program} {w : World} {K : PySem.W.Frag} {mg : Str → Option Value} {base : Heap}
theorem ok_p_lets_through (T : Txt K mg) : FnOk P w K mg base CX0 4 T.f_p_lets_through T.fd_p_lets_through ["sieve", "number"] (sp_p_lets_through K T.C) := by
  refine T.F_p_lets_through.ok sc_p_lets_through (fun vs H Q E h => ?_) (fun cdv A outer s H vs Q E hr h => ?_)
  · obtain ⟨p, v, t, bs, x, rfl, _⟩ := h
    rfl
  · obtain ⟨p, v, t, bs, x, rfl, S, q⟩ := h
    refine ⟨_, (pss_cons (ps_for PassesOwn.never rfl (pi_tup (pe_prop (pv 0) T.cl T.pp_bars (ok_m_Sieve_bars T) (hr.mono (by decide)) T.b_m_Sieve_bars .nil pass0 (by rfl))) (pg_tup (by rfl) (pgs_cons (pg_name (i := 2) sc_p_lets_through.nd rfl (by first | exact .inl rfl | exact .inr rfl)) (pgs_cons (pg_name (i := 3) sc_p_lets_through.nd rfl (by first | exact .inl rfl | exact .inr rfl)) pgs_nil))) (pss_one (ps_if (pt_cmpR op_notIn_seq (pe_op op_mod (pv 1) (pv 2)) (pv 3) (by rfl)) (pss_one (ps_ret pe_bl)) pss_nil)))
      (pss_one (ps_ret pe_bl))), ?_⟩
    obtain ⟨a, xs, rfl, ta, nx, hx⟩ := S.bars.ex
    have M := S.ok.mods
    refine ⟨_, rfl, p, _, _, rfl, S.ob.choose_spec, p, _, t, bs, rfl, S, a, rfl, ⟨_, ta⟩, for_tup (K := K) (a := a) (xs := xs) (fun i σ H2 => ∃ y z : Option V, σ = [some (.ref p), some (.int x), y, z] ∧ fitsB (bs.take i) x = true ∧ H2 = H)
      ⟨none, none, rfl, rfl, rfl⟩ (fun i σ H2 _ ⟨_, _, _, _, e⟩ => by rw [e]; exact ta) ?_ ?_⟩
    · rintro i y σ H2 hi ⟨y1, y2, rfl, hf, rfl⟩
      have hl : i < bs.length := by
        have := (List.getElem?_eq_some_iff.mp hi).1
        omega
      have hb : bs[i]? = some bs[i] := List.getElem?_eq_getElem hl
      obtain ⟨p2, l, rfl, tp, ⟨c, rfl, tc⟩⟩ := (hx i y _ hi hb).ex
      have hm := (S.ok.bar _ (List.getElem_mem hl)).pos
      generalize bs[i] = b at hb tp hm tc
      refine ⟨p2, [_, _], rfl, tp, rfl, _, _, rfl, _, _, rfl, rfl, ?_⟩
      refine ⟨_, rfl, _, rfl, _, _, rfl, rfl, by show 0 < b.1; omega, _, rfl, c, _, rfl, .inr tc, rfl, flatInts _, _, rfl, ite2 (fun e => ?_) (fun e => ?_)⟩
      · have e' : (!inV (.int (x % b.1)) (b.2.map V.int)) = true := e
        rw [inVInt] at e'
        have h : x % b.1 ∉ b.2 := by simpa using e'
        show Q (.bl false) H2
        rw [fitsB_take hb h] at q
        exact q
      · have e' : ¬ (!inV (.int (x % b.1)) (b.2.map V.int)) = true := e
        rw [inVInt] at e'
        have h : x % b.1 ∈ b.2 := by simpa using e'
        refine ⟨_, _, rfl, ?_, rfl⟩
        rw [takeSucc hb, fitsB_add, hf, decide_eq_true h]
        rfl
    · rintro σ H2 ⟨y1, y2, rfl, hf, rfl⟩
      rw [nx, List.take_length] at hf
      rw [hf] at q
      exact q
end

end R
namespace R
open PySem PySem.Spec PyProof.Rows L2
/-! ## fits, asked of any value -/
def sp_p_fits (K : PySem.W.Frag) (C B : Addr) : Sp := fun vs H Q E => ∃ (p : Addr) (x v : V) (t : Addr) (bs : List Bar), vs = [.ref p, x] ∧ SvAt K C H p v t bs ∧
  ((∃ i, x = .int i ∧ IsNum i ∧ ∀ H', Same H H' → Q (.bl (fitsB bs i)) H') ∨ (OddV K H x ∧ E (.ref B) none H))
section
variable {P : Program} {w : World} {K : PySem.W.Frag} {mg : Str → Option Value} {base : Heap}
theorem ok_p_fits (T : Txt K mg) : FnOk P w K mg base (L2.CX P w) 6 T.f_p_fits T.fd_p_fits ["sieve", "number"] (sp_p_fits K T.C T.C_BadNumber) := by
  refine T.F_p_fits.okX sc_p_fits (fun vs H Q E h => ?_) (fun cdv A outer s H vs Q E hr h => ?_)
  · obtain ⟨p, x, v, t, bs, rfl, _⟩ := h
    rfl
  · obtain ⟨p, x, v, t, bs, rfl, S, h⟩ := h
    refine ⟨_, (pss_cons (ps_expr (pe_call (ok_p_check_number T) (hr.mono (by decide)) (by rfl) T.g_p_check_number T.F_p_check_number.kp T.b_p_check_number .nil (passes_call (takes_of rfl rfl rfl rfl) (fun _ _ _ _ h => h)) (pa_cons (pv 1) pa_nil)))
      (pss_one (ps_ret (pe_call (ok_p_lets_through T) (hr.mono (by decide)) (by rfl) T.g_p_lets_through T.F_p_lets_through.kp T.b_p_lets_through .nil pass0 (pa_cons (pv 0) (pa_cons (pv 1) pa_nil)))))), ?_⟩
    rcases h with ⟨i, rfl, hi, q⟩ | ⟨o, q⟩
    · exact ⟨_, rfl, _, rfl, .inl ⟨i, rfl, hi, _, rfl, _, rfl, p, v, t, bs, i, rfl, S, q _ (Same.refl _)⟩⟩
    · exact ⟨_, rfl, _, rfl, .inr ⟨o, q⟩⟩
end

end R
namespace R
open PySem PySem.Spec PyProof.Rows L2
/-! ## integers off their limits -/
/-- no integer from lo to hi -/
def OffI (K : PySem.W.Frag) (H : Hp) (lo hi : Int) (x : V) : Prop := kOdd K H x ∨ ∃ i, x = .int i ∧ ¬ (lo ≤ i ∧ i ≤ hi)
theorem offNo {lo hi i : Int} (h : ¬ (lo ≤ i ∧ i ≤ hi)) : (decide (lo ≤ i) && decide (i ≤ hi)) = false := by
  rw [← Bool.decide_and, decide_eq_false h]
theorem onYes {lo hi i : Int} (h1 : lo ≤ i) (h2 : i ≤ hi) : (decide (lo ≤ i) && decide (i ≤ hi)) = true := by
  rw [decide_eq_true h1, decide_eq_true h2]
  rfl

end R
namespace R
open PySem PySem.Spec PyProof.Rows L2
/-! ## moduli checked -/
def sp_p_check_modulus (K : PySem.W.Frag) (B : Addr) : Sp := fun vs H Q E => ∃ (x : V) (hi : Int), vs = [x, .int hi] ∧ ((∃ i, x = .int i ∧ 1 ≤ i ∧ i ≤ hi ∧ Q .non H) ∨ (OffI K H 1 hi x ∧ E (.ref B) none H))
section
variable {P : Program} {w : World} {K : PySem.W.Frag} {mg : Str → Option Value} {base : Heap}
theorem ok_p_check_modulus (T : Txt K mg) : FnOk P w K mg base (L2.CX P w) 4 T.f_p_check_modulus T.fd_p_check_modulus ["value", "greatest"] (sp_p_check_modulus K T.C_BadModulus) := by
  refine T.F_p_check_modulus.okX sc_p_check_modulus (fun vs H Q E h => ?_) (fun cdv A outer s H vs Q E hr h => ?_)
  · obtain ⟨x, hi, rfl, _⟩ := h
    rfl
  · obtain ⟨x, hi, rfl, h⟩ := h
    refine ⟨_, (pss_one (ps_if (pt_not (pt_val (pe_call (ok_p_integer_within T) (hr.mono (by decide)) (by rfl) T.g_p_integer_within T.F_p_integer_within.kp T.b_p_integer_within .nil pass0 (pa_cons (pv 0) (pa_cons pe_int (pa_cons (pv 1) pa_nil)))))) (pss_one (ps_raise rfl (takes_of rfl rfl rfl rfl) (pmk_own PySem.F.excBase_ValueError T.x_BadModulus T.g_BadModulus T.k_BadModulus (raises_own T.b_BadModulus T.t_BadModulus) (by rfl)))) pss_nil)), ?_⟩
    rcases h with ⟨i, rfl, h1, h2, q⟩ | ⟨o | ⟨i, rfl, o⟩, q⟩
    · refine ⟨_, rfl, _, rfl, _, 1, hi, rfl, .inl ⟨i, rfl, _, rfl, ?_⟩⟩
      rw [onYes h1 h2]
      exact iteF q
    · exact ⟨_, rfl, _, rfl, _, 1, hi, rfl, .inr ⟨o, _, rfl, iteT q⟩⟩
    · refine ⟨_, rfl, _, rfl, _, 1, hi, rfl, .inl ⟨i, rfl, _, rfl, ?_⟩⟩
      rw [offNo o]
      exact iteT q
end

end R
namespace R
open PySem PySem.Spec PyProof.Rows L2
/-! ## an empty set -/
abbrev noSet (w : World) : Obj := { cls := .type "set", dict := none, data := .set #[] 0 (.fresh 0 0 (!w.params.followText "set-order")) }

end R
namespace R
open PySem PySem.Spec PyProof.Rows L2
/-! ## {e for t in it if ..}, e an int -/
open PpSet in
/-- D the new set; W by the turn and a measure -/
def tScI (w : World) (wi : TI) (g : TG) (tt : TT) (te : TE) (vs : List Nat) : TE := fun σ H Q => wi σ H fun J H1 => ∀ D, H1 D = none →
  ∃ W : Nat → Nat → Hp → Prop, (∃ m, W 0 m (upd H1 D (SetO w D (fun _ => false) 0))) ∧ ∀ i m H, W i m H → (J.stop i H ∧ Q (.ref D) H) ∨
    (J.go i H ∧ ∃ Nx : Hp → Prop, (∀ H', Nx H' → ∃ m', m' < m ∧ W (i + 1) m' H') ∧ ∀ x H', J.yld i H x H' → g x (wipe σ vs) H' fun σ2 H2 => wipe σ2 vs = wipe σ vs ∧ tt σ2 H2 fun b H3 =>
      if b = true then te σ2 H3 fun y H4 => ∃ (c : Int) (S : Int → Bool) (n : Nat), y = .int c ∧ H4 D = some (SetO w D S n) ∧ n + 1 < scanBound ∧ Nx (upd H4 D (SetO w D (fun j => S j || decide (j = c)) (if S c = true then n else n + 1))) else Nx H3)
open PpSet in
theorem addI_ok {X : Cx} {pins : List (Addr × Obj)} {σ : L2.St} {H : Hp} {s : Shared} {E : Value → Shared → Prop} {D : Addr} {S : Int → Bool} {n : Nat} {y : Int} {tk : Tok} {Q : Value → Shared → Prop} (I : Inv X pins σ H s)
    (hD : H D = some (SetO X.w D S n)) (room : n + 1 < scanBound) (h : ∀ s', Inv X pins σ (upd H D (SetO X.w D (fun j => S j || decide (j = y)) (if S y = true then n else n + 1))) s' → Q .none s') :
    wpAny (model X.prog X.w) X.A (call (.builtin "set.add") [.ref D, .int y tk]) Q E s := by
  refine setR_add (setO_get I hD) room fun h' sb new => h _ ?_
  obtain ⟨o, _, _, _, ho, _⟩ := id new
  exact I.write (e := D) (t' := s.toks + 1) (by rw [hD]; trivial) (.inl rfl) (fun b u hb hu => (sb.2 b hb).trans hu) ⟨o, ho⟩ (setO_new new)
open PpSet in
set_option maxHeartbeats 8000000 in
theorem scI_core {X : Cx} {pins : List (Addr × Obj)} {s : Shared} {σ : L2.St} {H : Hp} {Q : VK} {elt tg iter : Expr} {ifs : List Expr} {scope : Scope} {own : List (PySem.Str × Nat)} {pos pos' : Pos} {wi : TI} {g : TG} {tt : TT} {te : TE}
    {use : Option (Value → Sem Unit)} {Qf : Value → Shared → Prop} (hc : X.calm = true) (hN : X.N.Nodup) (I : Inv X pins σ H s) (hi : PI X tg iter wi) (ok : BlkOk X.N X.env.scope scope own)
    (hg : ∀ (s : Shared) (H : Hp) (C : Addr) (cl : List (PySem.Str × Addr)) (fp : List Addr), PG (X.blk s H scope (compEnvC scope cl C X.env) fp) tg g)
    (ht : ∀ (s : Shared) (H : Hp) (C : Addr) (cl : List (PySem.Str × Addr)) (fp : List Addr), PTs (X.blk s H scope (compEnvC scope cl C X.env) fp) ifs tt)
    (he : ∀ (s : Shared) (H : Hp) (C : Addr) (cl : List (PySem.Str × Addr)) (fp : List Addr), PE (X.blk s H scope (compEnvC scope cl C X.env) fp) elt te) (hs : ∀ x, foldedSetIterable iter X.env x = pure x)
    (h : tScI X.w wi g tt te (own.map (·.2)) σ H Q)
    (last : ∀ D C s' m H', Inv X pins σ H' s' → Q (.ref D) H' → s'.heap.Ns C m → FpOk X pins H' C → compPost (model X.prog X.w) X.A X.xe use Qf (.ref D) C (.ok .next) s') :
    wpAny (model X.prog X.w) X.A (comprehension (.SetComp elt [⟨tg, iter, ifs, 0⟩] scope pos) scope X.env pos' (newSet (.type "set")) false (eval iter X.env) use) Qf X.xe s := by
  have cap : ∀ y ∈ scope.names, y.2 = .free → ∃ c, X.env.cells.lookup y.1 = some c := fun y hy e => I.ok.has _ (ok.free y hy e)
  refine wpAny_comprehension_free (use := use) rfl hs (closure_ok cap) ok.kind (fun y hy e => by rw [ok.uniq y hy, e]) (thn (hi.run pins s σ H _ I h) fun xv s1 hx => thn hx fun itv s2 h2 => ?_)
  obtain ⟨it, fp, tn, J, H2, e, I2, T, st2, f2, q⟩ := h2
  subst e
  refine newSet_ok (newEnv_comp ?_)
  generalize hD : s2.heap.objs.size = D
  have fresh := I2.hok.fresh (Nat.le_of_eq hD)
  obtain ⟨W, ⟨m0, w0⟩, turn⟩ := q D fresh
  generalize hs3 : ({ s2 with heap := s2.heap.push (noSet X.w) } : Shared) = s3
  have h3 : s3.heap = s2.heap.push (noSet X.w) := hs3 ▸ rfl
  have I3 : Inv X pins σ (upd H2 D (SetO X.w D (fun _ => false) 0)) s3 := by
    rw [← hs3]
    refine I2.laid (t' := s2.toks) (fun b o e => Heap.get?_push_of_some _ e) (Nat.le_of_eq hD) ?_
    subst hD
    exact setO_new (setR_fresh X.w)
  have old : ∀ b ∈ fp, b < s2.heap.objs.size := fun b hb => let ⟨_, e, _⟩ := T.obj _ _ st2 b hb; Heap.lt_size e
  have f3 : ∀ b ∈ fp, FpOk X pins (upd H2 D (SetO X.w D (fun _ => false) 0)) b ∧ b < s3.heap.objs.size := fun b hb => by
    have lt := old b hb
    refine ⟨⟨?_, (f2 b hb).2⟩, h3 ▸ (by rw [Heap.size_push]; exact Nat.lt_succ_of_lt lt)⟩
    rw [upd_ne (hD ▸ Nat.ne_of_lt lt)]
    exact (f2 b hb).1
  have st3 : tn 0 s3.heap := T.keep _ _ _ st2 fun b _ o e => h3 ▸ Heap.get?_push_of_some _ e
  have I4 := block_start I3 ok hN f3
  have pg := hg s3 (upd H2 D (SetO X.w D (fun _ => false) 0)) s3.heap.objs.size (cellsFrom (s3.heap.objs.size + 1) scope.names (cloFrom X.env.cells scope.names [])) fp
  have pt := ht s3 (upd H2 D (SetO X.w D (fun _ => false) 0)) s3.heap.objs.size (cellsFrom (s3.heap.objs.size + 1) scope.names (cloFrom X.env.cells scope.names [])) fp
  have pe := he s3 (upd H2 D (SetO X.w D (fun _ => false) 0)) s3.heap.objs.size (cellsFrom (s3.heap.objs.size + 1) scope.names (cloFrom X.env.cells scope.names [])) fp
  show codeAny _ _ (.compStart (.SetComp elt [⟨tg, iter, ifs, 0⟩] scope pos) 0 (.ref it) (.ref D) (compEnvC scope (cellsFrom (s3.heap.objs.size + 1) scope.names (cloFrom X.env.cells scope.names [])) s3.heap.objs.size X.env))
    (compPost (model X.prog X.w) X.A X.xe use Qf (.ref D) s3.heap.objs.size) { s3 with heap := pushCells (s3.heap.push { cls := .type "dict", data := .dict #[] }) scope.names }
  have none3 : ∀ b ∈ fp, (upd H2 D (SetO X.w D (fun _ => false) 0)) b = none := fun b hb => (f3 b hb).1.1
  generalize hce : compEnvC scope (cellsFrom (s3.heap.objs.size + 1) scope.names (cloFrom X.env.cells scope.names [])) s3.heap.objs.size X.env = ce at I4 pg pt pe ⊢
  have cL : ce.locals = s3.heap.objs.size := hce ▸ rfl
  generalize hH3 : upd H2 D (SetO X.w D (fun _ => false) 0) = H3 at I3 I4 pg pt pe w0 none3 f3
  generalize hs4 : ({ s3 with heap := pushCells (s3.heap.push { cls := .type "dict", data := .dict #[] }) scope.names } : Shared) = s4 at I4 ⊢
  have st4 : tn 0 s4.heap := T.keep _ _ _ st3 fun b _ o e => hs4 ▸ pushCells_keeps _ _ _ _ (Heap.get?_push_of_some _ e)
  have still : ∀ {σ' : L2.St} {H' : Hp} {s' : Shared}, Inv (X.blk s3 H3 scope ce fp) [] σ' H' s' → (∀ b ∈ fp, H' b = none) → ∀ b ∈ fp, FpOk (X.blk s3 H3 scope ce fp) [] H' b := by
    intro σ' H' s' I' hn b hb
    obtain ⟨x1, x2⟩ := I'.ok.exf b hb
    exact ⟨hn b hb, x1, I'.ok.exfs b hb, .inl hb, x2, fun p hp => absurd (show p ∈ ([] : List (Addr × Obj)) ++ [] from hp) (by simp)⟩
  have loop : codeAny (model X.prog X.w) X.A (.compLoop (.SetComp elt [⟨tg, iter, ifs, 0⟩] scope pos) 0 (.ref it) (.ref D) ce) (compPost (model X.prog X.w) X.A X.xe use Qf (.ref D) s3.heap.objs.size) s4 := by
    refine compLoopS_any (fun n s' => ∃ i H', Inv (X.blk s3 H3 scope ce fp) [] (wipe σ (own.map (·.2))) H' s' ∧ tn i s'.heap ∧ (∀ b ∈ fp, H' b = none) ∧ W i n H') ?_ m0 ⟨0, H3, I4, st4, none3, w0⟩
    rintro n s5 ⟨i, H5, I5, st5, n5, w5⟩
    rcases turn i n H5 w5 with ⟨stop, done⟩ | ⟨go, Nx, hNx, step⟩
    · refine thnF (T.done (X.blk s3 H3 scope ce fp) rfl rfl rfl hc i [] s5 _ H5 (fun _ _ => False) I5 (still I5 n5) st5 stop) fun r s6 ⟨hr, I6⟩ => ?_
      subst hr
      have I7 : Inv X pins σ H5 s6 := I3.call' (ch := fp) I6.os I6.base I6.hok I6.bare fun b hb => let z := (f3 b hb).1.2; ⟨z.2.2.1, z.1, z.2.2.2.1, z.2.2.2.2⟩
      have gone : H5 s3.heap.objs.size = none := cL ▸ (show H5 ce.locals = none from I6.free)
      obtain ⟨m, hm, _⟩ := I6.loc
      have hm' : s6.heap.Ns ce.locals m := hm
      rw [cL] at hm'
      exact last D s3.heap.objs.size s6 m H5 I7 done hm' (I3.fpOk (Nat.le_refl _) gone)
    · refine thnF (T.item (X.blk s3 H3 scope ce fp) rfl rfl rfl hc i [] s5 _ H5 (fun _ _ => False) I5 (still I5 n5) st5 go) fun r s6 ⟨u, hr, h6⟩ => ?_
      subst hr
      refine thnF h6 fun _ s7 ⟨x, H7, I7, r7, y7, st7, n7⟩ => ?_
      have I7' := I7.pinned (still I7 n7) (T.obj _ _ st7)
      refine thnF (pg.run _ s7 _ H7 x u _ I7' r7 (step x H7 y7)) fun _ s8 ⟨σ8, H8, I8, hw8, q8⟩ => ?_
      refine thnF (pt.run _ s8 σ8 H8 _ I8 q8) fun b s9 ⟨H9, I9, q9⟩ => ?_
      have fin : ∀ {s' : Shared} {H' : Hp}, Inv (X.blk s3 H3 scope ce fp) ([] ++ pinsAt fp s7.heap) σ8 H' s' → Nx H' →
          ∃ m, m < n ∧ ∃ i H', Inv (X.blk s3 H3 scope ce fp) [] (wipe σ (own.map (·.2))) H' s' ∧ tn i s'.heap ∧ (∀ b ∈ fp, H' b = none) ∧ W i m H' := by
        intro s' H' I' nx
        obtain ⟨m', hm, w'⟩ := hNx H' nx
        have pinned : ∀ b ∈ fp, ∀ o, s7.heap.get? b = some o → s'.heap.get? b = some o ∧ H' b = none := fun b hb o e => by
          have z := I'.pin (b, o) (List.mem_append_right _ (List.mem_append_right _ (mem_pinsAt hb e)))
          exact ⟨z.1, z.2.1⟩
        have len : (wipe σ (own.map (·.2))).length = σ8.length := by rw [← hw8, wipe_length]
        refine ⟨m', hm, i + 1, H', (I'.unpinned (pins := [])).weak len (fun j v e => (wipe_some (hw8 ▸ e)).1), T.keep _ _ _ st7 fun b hb o e => (pinned b hb o e).1, fun b hb => ?_, w'⟩
        obtain ⟨o, e, _⟩ := T.obj _ _ st7 b hb
        exact (pinned b hb o e).2
      cases b with
      | false =>
        rw [if_neg Bool.false_ne_true] at q9 ⊢
        exact fin I9 q9
      | true =>
        rw [if_pos rfl] at q9 ⊢
        refine thnF (pe.run _ s9 σ8 H9 _ I9 q9) fun z s10 ⟨yv, H10, I10, r10, c, S0, n0, ey, hD10, room, nx⟩ => ?_
        subst ey
        obtain ⟨tk, rfl⟩ : ∃ t, z = Value.int c t := r10
        exact addI_ok (X := X.blk s3 H3 scope ce fp) I10 hD10 room fun s11 I11 => fin I11 nx
  exact codeAny_compStart_set loop (T.self X.A 0 _ _ _ st4 loop)
open PpSet in
theorem pe_scI {X : Cx} {elt tg iter : Expr} {ifs : List Expr} {scope : Scope} {own : List (PySem.Str × Nat)} {pos : Pos} {wi : TI} {g : TG} {tt : TT} {te : TE} (hc : X.calm = true) (hN : X.N.Nodup) (hi : PI X tg iter wi)
    (ok : BlkOk X.N X.env.scope scope own) (hg : ∀ (s : Shared) (H : Hp) (C : Addr) (cl : List (PySem.Str × Addr)) (fp : List Addr), PG (X.blk s H scope (compEnvC scope cl C X.env) fp) tg g)
    (ht : ∀ (s : Shared) (H : Hp) (C : Addr) (cl : List (PySem.Str × Addr)) (fp : List Addr), PTs (X.blk s H scope (compEnvC scope cl C X.env) fp) ifs tt)
    (he : ∀ (s : Shared) (H : Hp) (C : Addr) (cl : List (PySem.Str × Addr)) (fp : List Addr), PE (X.blk s H scope (compEnvC scope cl C X.env) fp) elt te) (hs : ∀ x, foldedSetIterable iter X.env x = pure x := by intro _; rfl) :
    PE X (.SetComp elt [⟨tg, iter, ifs, 0⟩] scope pos) (tScI X.w wi g tt te (own.map (·.2))) := by
  refine ⟨fun pins s σ H Q I h => ?_⟩
  rw [eval_SetComp]
  refine scI_core hc hN I hi ok hg ht he hs h fun D C s' m H' I' q hn f => ⟨m, hn, fun h'' sb => ⟨.ref D, H', ?_, rfl, q⟩⟩
  exact I'.turned (t' := s'.toks) (fun b o hb e => (sb.2 b hb).trans e) f.1 f.2.1 f.2.2.2.1 f.2.2.2.2.1 f.2.2.2.2.2
/-- over a tuple that stands still -/
theorem scI_tup {w : World} {K : PySem.W.Frag} {a : Addr} {xs : List V} {g : TG} {tt : TT} {te : TE} {vs : List Nat} {σ : L2.St} {H1 : Hp} {D : Addr} {Qd : Hp → Prop} (Pv : Nat → Hp → Prop) (h0 : Pv 0 (upd H1 D (SetO w D (fun _ => false) 0)))
    (hl : ∀ i H, i ≤ xs.length → Pv i H → SqT K H a xs)
    (hs : ∀ i x H, xs[i]? = some x → Pv i H → g x (wipe σ vs) H fun σ2 H2 => wipe σ2 vs = wipe σ vs ∧ tt σ2 H2 fun b H3 => if b = true then te σ2 H3 fun y H4 =>
      ∃ (c : Int) (S : Int → Bool) (n : Nat), y = .int c ∧ H4 D = some (SetO w D S n) ∧ n + 1 < scanBound ∧ Pv (i + 1) (upd H4 D (SetO w D (fun j => S j || decide (j = c)) (if S c = true then n else n + 1))) else Pv (i + 1) H3)
    (hd : ∀ H, Pv xs.length H → Qd H) : ∃ W : Nat → Nat → Hp → Prop, (∃ m, W 0 m (upd H1 D (SetO w D (fun _ => false) 0))) ∧ ∀ i m H, W i m H → ((Itt K a).stop i H ∧ Qd H) ∨
      ((Itt K a).go i H ∧ ∃ Nx : Hp → Prop, (∀ H', Nx H' → ∃ m', m' < m ∧ W (i + 1) m' H') ∧ ∀ x H', (Itt K a).yld i H x H' → g x (wipe σ vs) H' fun σ2 H2 => wipe σ2 vs = wipe σ vs ∧ tt σ2 H2 fun b H3 =>
        if b = true then te σ2 H3 fun y H4 => ∃ (c : Int) (S : Int → Bool) (n : Nat), y = .int c ∧ H4 D = some (SetO w D S n) ∧ n + 1 < scanBound ∧ Nx (upd H4 D (SetO w D (fun j => S j || decide (j = c)) (if S c = true then n else n + 1))) else Nx H3) := by
  refine ⟨fun i m H => m = xs.length - i ∧ i ≤ xs.length ∧ Pv i H, ⟨_, rfl, Nat.zero_le _, h0⟩, ?_⟩
  rintro i _ H ⟨rfl, hi, p⟩
  by_cases lt : i < xs.length
  · refine .inr ⟨⟨xs, xs[i], hl i H hi p, by simp [lt]⟩, Pv (i + 1), fun H' p' => ⟨xs.length - (i + 1), by omega, rfl, lt, p'⟩, fun x H' ⟨e, y⟩ => ?_⟩
    subst e
    exact hs i x _ (y xs (hl i _ hi p)) p
  · obtain rfl : i = xs.length := by omega
    exact .inl ⟨⟨xs, hl _ H hi p, Nat.le_refl _⟩, hd H p⟩

end R
namespace R
open PySem PySem.Spec PyProof.Rows L2
/-! ## set(xs) of a list of ints, sorted(set(xs)) -/
/-- how many members such a set may have -/
def Capped (w : World) (ns : List Int) (cap : Nat) : Prop := ∀ (i : Nat) (h : Heap) (a : Addr) (c : Nat), SetR w h a (fun j => decide (j ∈ ns.take i)) c → c ≤ cap
theorem nodup_le : ∀ {xs ys : List Int}, xs.Nodup → (∀ x ∈ xs, x ∈ ys) → xs.length ≤ ys.length
  | [], _, _, _ => Nat.zero_le _
  | x :: xs, ys, nd, sub => by
    obtain ⟨n1, n2⟩ := List.nodup_cons.mp nd
    have hx : x ∈ ys := sub x List.mem_cons_self
    have e := nodup_le (ys := ys.erase x) n2 fun z hz => (List.mem_erase_of_ne fun q => n1 (by rw [← q]; exact hz)).mpr (sub z (List.mem_cons_of_mem _ hz))
    rw [List.length_erase_of_mem hx] at e
    have := List.length_pos_of_mem hx
    show xs.length + 1 ≤ ys.length
    omega
theorem capBy {w : World} {ns ys : List Int} (sub : ∀ x ∈ ns, x ∈ ys) : Capped w ns ys.length := by
  rintro i h a c ⟨o, es, ep, t, _, _, _, _, nd, mem, _, _, cnt, _⟩
  have e := nodup_le nd fun x hx => sub x (List.mem_of_mem_take (of_decide_eq_true ((mem x).mpr hx)))
  rw [List.length_map, Array.length_toList, cnt] at e
  exact e
theorem capRange {w : World} {ns : List Int} {m : Nat} (h : ∀ x ∈ ns, 0 ≤ x ∧ x < (m : Int)) : Capped w ns m := by
  have e := capBy (w := w) (ns := ns) (ys := (List.range m).map fun i : Nat => (i : Int)) fun x hx => by
    obtain ⟨h1, h2⟩ := h x hx
    exact List.mem_map.mpr ⟨x.toNat, List.mem_range.mpr (by omega), by omega⟩
  rw [List.length_map, List.length_range] at e
  exact e
theorem capLen {w : World} (ns : List Int) : Capped w ns ns.length := capBy fun _ h => h
/-- the walk of set.update over ints -/
theorem upd_ints {P : Program} {w : World} {A : Around} {I : Addr} {fp wr : List Addr} {G : Array GenState → Array GenState → Prop} {n : Nat} {Pv : Nat → Value → Prop} {St : Nat → Shared → Prop} {R : Result → Shared → Prop}
    (W : WalksS P w A.in1 I fp wr G n Pv St) (S : Addr) (far : S ∉ fp) (ns : List Int) (hn : n = ns.length) (cap : Nat) (few : cap + 1 < scanBound) (cp : Capped w ns cap) (val : ∀ i v, Pv i v → ∃ k t, ns[i]? = some k ∧ v = .int k t) :
    ∀ (k i : Nat) (s : Shared), n - i = k → i ≤ n → St i s → (∃ c, SetR w s.heap S (fun j => decide (j ∈ ns.take i)) c) →
      (∀ s' c, Moved (S :: wr) G s s' → c ≤ cap → SetR w s'.heap S (fun j => decide (j ∈ ns)) c → R (.ok (.ret .none)) s') →
      codeAny (model P w) A (.builtin "set.update.loop" ⟨[.ref S, .ref I], []⟩) R s := by
  have farW : S ∉ wr := fun z => far (W.sub _ z)
  have more : ∀ b ∈ wr, b ∈ S :: wr := fun b z => List.mem_cons_of_mem _ z
  intro k
  induction k with
  | zero =>
    rintro i s ek le st ⟨c, hS⟩ hR
    obtain rfl : i = n := by omega
    refine codeAny_builtin F.entry_set_update_loop ?_
    rw [Around.under_plainId F.plain_set_update_loop _]
    show wpAny _ A.in1 (pyNext (.ref I) >>= _) _ _ s
    refine wpAny_bind (W.done s _ _ st fun s' mv => ?_)
    show wpAny _ A.in1 (ret Value.none) _ _ s'
    rw [List.take_of_length_le (by omega)] at hS
    have hS' := hS.at (h' := s'.heap) fun o e => mv.heap S o farW e
    exact wpAny_pure (hR s' c (mv.mono more) (cp ns.length _ S c (by rw [List.take_length]; exact hS')) hS')
  | succ k ih =>
    rintro i s ek le st ⟨c, hS⟩ hR
    have lt : i < n := by omega
    refine codeAny_builtin F.entry_set_update_loop ?_
    rw [Around.under_plainId F.plain_set_update_loop _]
    show wpAny _ A.in1 (pyNext (.ref I) >>= _) _ _ s
    refine wpAny_bind (W.item i s _ _ lt st fun v s' pv st' mv => ?_)
    obtain ⟨z, t, hz, rfl⟩ := val i v pv
    have hS1 : SetR w s'.heap S (fun j => decide (j ∈ ns.take i)) c := hS.at fun o e => mv.heap S o farW e
    have hc := cp i _ S c hS1
    show wpAny _ A.in1 (holding [Value.int z t] (setAdd S (.int z t)) >>= _) _ _ s'
    refine wpAny_bind (wpAny_holding ?_)
    unfold setAdd
    refine wpAny_holding (wpAny_bind ((intKind P w).pyHash (k := z) (intKind_is _ _ _ _) ?_))
    refine setR_add_hashed (s := { s' with toks := s'.toks + 1 }) hS1 (by omega) fun h' sb hS2 => ?_
    have hS3 := hS2.congr (S' := fun j => decide (j ∈ ns.take (i + 1))) fun j => by
      rw [List.take_add_one, hz]
      simp [List.mem_append]
    refine wpAny_pure ⟨plainId_quiet F.plain_set_update_loop _, ih (i + 1) _ (by omega) lt (W.frame _ s' _ _ st' (Nat.le_succ _) fun b hb o e => ?_) ⟨_, hS3⟩ fun s2 c2 mv2 hc2 hS4 => ?_⟩
    · rw [sb.2 b (fun q : b = S => far (by rw [← q]; exact hb))]; exact e
    · refine hR s2 c2 (Moved.trans W.gtrans ((mv.mono more).then_heap (Nat.le_succ _) fun b o hb e => ?_) mv2) hc2 hS4
      rw [sb.2 b (fun q : b = S => hb (by rw [q]; exact List.mem_cons_self))]; exact e
set_option maxHeartbeats 8000000 in
theorem call_setG {P : Program} {w : World} {A : Around} {E : Value → Shared → Prop} {s : Shared} {l : Addr} {items : Array Value} (ns : List Int) {Q : Value → Shared → Prop} (hh : A.handled = none) (hl : s.heap.IsList l items)
    (hit : IntsAre items.toList ns) (cap : Nat) (few : cap + 1 < scanBound) (cp : Capped w ns cap)
    (h : ∀ (h' : Heap) (tk c : Nat), c ≤ cap → SetR w h' s.heap.objs.size (fun j => decide (j ∈ ns)) c → (∀ b o, s.heap.get? b = some o → h'.get? b = some o) → Q (.ref s.heap.objs.size) { s with heap := h', toks := tk }) :
    wpAny (model P w) A (call (.type "set") [.ref l]) Q E s := by
  have size_ : items.size = ns.length := Array.length_toList.symm.trans (IntsAre.length hit)
  obtain ⟨c, tl, hmro⟩ := F.called_set.mro
  have m1 := F.called_set.made
  have m2 := F.called_set.sub
  refine wpAny_call (codeAny_of_tree (show wpAny _ _ (callAny (.type "set") _) _ _ _ from wpAny_pure ⟨Code.quiet_builtin _ (by decide +kernel), codeAny_builtin F.entry_type_call ?_⟩))
  rw [Around.under_plain (weight_type_call_type "set" [.ref l] []) rfl]
  have m3 := F.called_set.notType
  have m4 := F.called_set.canCreate
  have m5 := F.typeCall_set_1 (.ref l)
  repeat (any_goals (first | assumption | wp_step))
  refine codeAny_mono (code_set_led1 (.ref l) (E := E) (Q₁ := fun ob s1 => ob = .ref s.heap.objs.size ∧ s1 = { s with heap := s.heap.push (noSet w) }) ⟨rfl, rfl⟩) fun r s1 hr => ?_
  cases r with
  | error e => exact hr
  | ok fl =>
    cases fl with
    | ret ob =>
      obtain ⟨rfl, rfl⟩ := hr
      have gS : (s.heap.push (noSet w)).get? s.heap.objs.size = some (noSet w) := Heap.get?_push_size _ rfl
      have tS : Shared.TypeIs { s with heap := s.heap.push (noSet w) } (.ref s.heap.objs.size) "set" := ⟨_, gS, rfl⟩
      have m6 := F.called_set.init.lookup
      have m7 := F.called_set.init.bind (.ref s.heap.objs.size)
      repeat (any_goals (first | assumption | wp_step))
      refine codeAny_mono (codeAny_call_builtin (R := wants (fun r s2 => r = .none ∧ ∃ h' tk c, s2 = { s with heap := h', toks := tk } ∧ c ≤ cap ∧ SetR w h' s.heap.objs.size (fun j => decide (j ∈ ns)) c ∧ (∀ b o, s.heap.get? b = some o → h'.get? b = some o)) E)
        F.called_set.init.plain F.entry_set_init (check_set_init_1 tS ?_)) fun r2 s2 hr2 => ?_
      · obtain ⟨⟨oc, od, odt, osl⟩, gL, e1, nl, e2⟩ := hl
        dsimp only at e1 e2
        subst e1 e2
        have gL' : (s.heap.push (noSet w)).get? l = some { cls := .type "list", dict := od, data := .seq items nl, slots := osl } := Heap.get?_push_of_some _ gL
        have n1 := F.sub_list_set
        have n2 := F.sub_list_frozenset
        have n3 : (Value.type "list" == Value.type "dict") = false := by decide
        have lL : (s.heap.push (noSet w)).IsList l items := ⟨_, gL', rfl, nl, rfl⟩
        unfold Builtin.«set.__init__» noKeywords Builtin.Frozenset.updateFrom
        generalize iter_ : pyIter = PI
        wp_walk
        subst iter_
        refine wpAny_pyIter_list lL (wpAny_bind (wpAny_runValue ?_))
        have lt : l < s.heap.objs.size := Heap.lt_size gL
        have sz : (s.heap.push (noSet w)).objs.size = s.heap.objs.size + 1 := Heap.size_push ..
        have far : l ≠ (s.heap.push (noSet w)).objs.size := by rw [sz]; exact Nat.ne_of_lt (Nat.lt_succ_of_lt lt)
        have out : s.heap.objs.size ∉ [(s.heap.push (noSet w)).objs.size, l] := by
          rw [sz]
          simp only [List.mem_cons, List.not_mem_nil, or_false, not_or]
          exact ⟨Nat.ne_of_lt (Nat.lt_succ_self _), Nat.ne_of_gt lt⟩
        have val : ∀ (i : Nat) (v : Value), items[i]? = some v → ∃ k t, ns[i]? = some k ∧ v = .int k t := fun i v hv => by
          have hi : i < ns.length := size_ ▸ (Array.getElem?_eq_some_iff.mp hv).1
          obtain ⟨t, e⟩ := PyProof.Rows.IntsAre.int_at hit i v (by rw [Array.getElem?_toList]; exact hv)
          exact ⟨ns[i], t, List.getElem?_eq_getElem hi, by rw [e, List.getD_eq_getElem?_getD, List.getElem?_eq_getElem hi]; rfl⟩
        refine upd_ints ((Walks.list (A := A.in1.in1.in1) (by simp [hh]) _ l far items).toS) s.heap.objs.size out ns size_ cap few cp val (items.size - 0) 0 _ (by omega) (Nat.zero_le _)
          ⟨⟨_, Heap.get?_push_size _ rfl, rfl, rfl⟩, lL.push _⟩ ⟨0, setR_new_at (Heap.get?_push_of_some _ gS)⟩ fun s' c' mv hc' hS' => ?_
        obtain ⟨h', g2, d', tk', os'⟩ := s'
        obtain rfl : g2 = s.gens := mv.gens
        obtain rfl : d' = s.drawn := mv.drawn
        obtain rfl : os' = s.os := mv.os
        refine wpAny_pure (show wpAny _ _ (ret Value.none) _ _ _ from wpAny_pure ⟨rfl, h', tk', c', rfl, hc', hS', fun b o e => ?_⟩)
        have b0 : b < s.heap.objs.size := Heap.lt_size e
        refine mv.heap b o ?_ (Heap.get?_push_of_some _ (Heap.get?_push_of_some _ e))
        rw [sz]
        simp only [List.mem_cons, List.not_mem_nil, or_false, not_or]
        exact ⟨Nat.ne_of_lt b0, Nat.ne_of_lt (Nat.lt_succ_of_lt b0)⟩
      · cases r2 with
        | error e => exact hr2
        | ok fl2 =>
          cases fl2 with
          | ret r =>
            obtain ⟨rfl, h', tk, c', rfl, hc', hS', hk'⟩ := hr2
            repeat (any_goals (first | assumption | wp_step))
            exact h _ _ _ hc' hS' hk'
          | _ => exact hr2.elim
    | _ => exact hr.elim
/-- set(xs), xs a list of ints -/
def rSetG (K : PySem.W.Frag) (w : World) : List V → Hp → VK → Prop := fun vs H Q => ∃ (a : Addr) (ns : List Int) (cap : Nat), vs = [.ref a] ∧ SqL K H a (ns.map V.int) ∧ Capped w ns cap ∧ cap ≤ 4000 ∧
  ∀ p c, c ≤ cap → H p = none → Q (.ref p) (upd H p (SetO w p (fun j => decide (j ∈ ns)) c))
theorem cr_setG {X : Cx} (hc : X.calm = true) : CallR X (.type "set") (rSetG X.K X.w) := by
  intro pn st σ H vs us Q I r h
  obtain ⟨a, ns, cap, rfl, ha, cp, few, q⟩ := h
  rw [Vals.ref1 r]
  obtain ⟨its, rv, p, _⟩ := I.list ha
  have new : H st.heap.objs.size = none := I.hok.fresh (Nat.le_refl _)
  have b4 : (4001 : Nat) < scanBound := by decide
  refine call_setG ns (I.ok.hd hc) p.isList (by simpa using ints_of_vals rv) cap (by omega) cp fun h' tk c hc R k => ?_
  exact ⟨.ref _, _, I.laid (t' := tk) k (Nat.le_refl _) (setO_new R), rfl, q _ _ hc new⟩

end R
namespace R
open PySem PySem.Spec PyProof.Rows L2
/-! ## sorted of a set of ints, any number of them -/
theorem run_sortedS {P : Program} {w : World} {A : Around} {E : Value → Shared → Prop} {st : Shared} {a : Addr} {S : Int → Bool} {n : Nat} {Q : Value → Shared → Prop} (R : SetR w st.heap a S n) (nh : A.handled = none)
    (fin : ∀ s' p (out : Array Value) (c : Nat) (ns : List Int), (∀ b o, st.heap.get? b = some o → s'.heap.get? b = some o) → s'.gens = st.gens → s'.os = st.os → st.heap.objs.size ≤ p →
      s'.heap.get? p = some (seqObj "list" out c) → IntsAre out.toList ns → ns.Pairwise (· < ·) ∧ (∀ k, k ∈ ns ↔ S k = true) ∧ ns.length = n → Q (.ref p) s') :
    wpAny (model P w) A (call (.builtin "sorted") [.ref a]) Q E st := by
  obtain ⟨o, es, ep, t, ho, hex, hd, g, nd, mem, bound, fit, cnt, ris, led⟩ := R
  refine Calls.call_function_entry PyProof.Rows.kind_sorted PyProof.Rows.plain_sorted PyProof.Rows.entry_sorted (PyProof.Rows.args_sorted1 _) ?_
  unfold Builtin.«sorted»
  refine wpAny_bind (m := checkCount "sorted" 1 1 _) <| wpAny_pure ?_
  refine wpAny_bind (collect_set (A := A.in1) nh ⟨o, ho, hex.1, hd⟩ fit bound ris led fun s1 vs kp sz gn os pm => ?_)
  have lv : vs.length = n := by rw [pm.length_eq, List.length_map, Array.length_toList, cnt]
  have iv : IntsAre vs (vs.map Builtin.Re.reRawOf) := L2.ints_of vs fun v hv => by
    obtain ⟨e, he, ev⟩ := List.mem_map.mp (pm.mem_iff.mp hv)
    obtain ⟨k, tk, ek, _⟩ := g e he
    exact ⟨k, tk, ev ▸ ek⟩
  have kk : (vs.map Builtin.Re.reRawOf).Perm (es.toList.map keyOf) := by
    have q := pm.map Builtin.Re.reRawOf
    rw [List.map_map] at q
    exact q
  have small : vs.length ≤ sizeLine := by
    rw [lv, ← cnt]
    exact fits_of_scanBound bound
  refine wpAny_bind (wpAny_newList ?_ small)
  have at1 : (s1.heap.push (seqObj "list" vs.toArray 0)).get? s1.heap.objs.size = some (seqObj "list" vs.toArray 0) := Heap.get?_push_size _ rfl
  refine wpAny_bind (wpAny_holding (wpAny_call_entry PyProof.Rows.slot_list_sort ⟨_, at1, rfl⟩ PyProof.Rows.entry_list_sort
    (SrtO.list_sort_ord SrtO.swo_int at1 small (fun two => SrtO.ints_sortable iv two) fun out o1 o2 => ⟨_, rfl, ?_⟩) (PyProof.Rows.args_list_sort _)))
  obtain ⟨c, hc⟩ := PyProof.Rows.sortedHeap_at (vs := vs) (out := out.toArray) at1
  obtain ⟨k1, k2, k3⟩ := SrtO.ints_out iv o1 o2
  have pn := k2.trans kk
  refine wpAny_pure ⟨_, rfl, fin _ s1.heap.objs.size out.toArray c (out.map SrtO.iv) (fun b u e => ?_) gn os sz hc k1 ⟨L2.lt_of_le_nodup _ k3 (pn.nodup_iff.mpr nd), fun k => by rw [pn.mem_iff, ← mem k], ?_⟩⟩
  · have q := kp b u e
    have lt := Heap.lt_size q
    show (PyProof.Rows.sortedHeap (s1.heap.push (seqObj "list" vs.toArray 0)) s1.heap.objs.size vs out.toArray).get? b = some u
    rw [PyProof.Rows.sortedHeap_old (Nat.ne_of_lt lt) (by rw [size_push']; exact Nat.lt_succ_of_lt lt)]
    exact Heap.get?_push_of_some _ q
  · rw [pn.length_eq, List.length_map, Array.length_toList]; exact cnt
def rSortedSL (w : World) : List V → Hp → VK → Prop := fun vs H Q => ∃ (a : Addr) (S : Int → Bool) (n : Nat), vs = [V.ref a] ∧ H a = some (SetO w a S n) ∧ n ≤ 100000 ∧
  ∀ (ns : List Int) (p : Addr), ns.Pairwise (· < ·) → (∀ k : Int, k ∈ ns ↔ S k = true) → ns.length = n → H p = none → Q (.ref p) (upd H p (.lst (ns.map V.int)))
theorem cr_sortedSL {X : Cx} (hc : X.calm = true) : CallR X (.builtin "sorted") (rSortedSL X.w) := by
  intro pn st σ H vs us Q I r h
  obtain ⟨a, S, n, rfl, ha, few, q⟩ := h
  rw [Vals.ref1 r]
  refine run_sortedS (setO_get I ha) (I.ok.hd hc) fun s' p out c ns k g o hp hg hi ⟨h1, h2, h3⟩ => ?_
  have new : H p = none := I.hok.fresh hp
  have small : (ns.map V.int).length ≤ sizeLine := by rw [List.length_map, h3]; exact sizeOk few
  have J : Inv X pn σ (upd H p (.lst (ns.map V.int))) { st with heap := s'.heap, gens := s'.gens, drawn := s'.drawn, toks := s'.toks } :=
    I.call (ch := []) (Un.laid k hp new) (I.hok.laid k hp ⟨small, out.toList, c, vals_of_ints hi, hg⟩) (by rw [g]; exact I.bare) fun _ z => nomatch z
  have e : s' = { st with heap := s'.heap, gens := s'.gens, drawn := s'.drawn, toks := s'.toks } := by
    cases s'
    cases st
    cases o
    rfl
  rw [e]
  exact ⟨.ref p, _, J, rfl, q ns p h1 h2 h3 new⟩

end R
namespace R
open PySem PySem.Spec PyProof.Rows L2
/-! ## numbers by two moduli -/
theorem bezout (a b : Nat) : ∃ x y : Int, (a : Int) * x + (b : Int) * y = (Nat.gcd a b : Nat) := by
  refine Nat.gcd.induction (P := fun a b => ∃ x y : Int, (a : Int) * x + (b : Int) * y = (Nat.gcd a b : Nat)) a b (fun n => ⟨0, 1, ?_⟩) fun m n hm ih => ?_
  · rw [Nat.gcd_zero_left, Int.mul_one, Int.mul_zero, Int.zero_add]
  · obtain ⟨x, y, e⟩ := ih
    refine ⟨y - ((n / m : Nat) : Int) * x, x, ?_⟩
    rw [Nat.gcd_rec m n, ← e]
    have d : (n : Int) = (m : Int) * ((n / m : Nat) : Int) + ((n % m : Nat) : Int) := by
      rw [← Int.natCast_mul, ← Int.natCast_add, Nat.div_add_mod]
    have d2 : (n : Int) * x = (m : Int) * (((n / m : Nat) : Int) * x) + ((n % m : Nat) : Int) * x := by
      rw [← Int.mul_assoc, ← Int.add_mul, ← d]
    rw [Int.mul_sub, d2]
    omega
theorem lcm_pos' {w m : Nat} (hw : 0 < w) (hm : 0 < m) : 0 < Nat.lcm w m := Nat.lcm_pos hw hm
theorem crt {w m : Nat} (hw : 0 < w) (hm : 0 < m) {a r : Int} (h : ((Nat.gcd w m : Nat) : Int) ∣ r - a) : ∃ x : Int, 0 ≤ x ∧ x < (Nat.lcm w m : Nat) ∧ x % (w : Int) = a % (w : Int) ∧ x % (m : Int) = r % (m : Int) := by
  obtain ⟨k, hk⟩ := h
  obtain ⟨u, v, e⟩ := bezout w m
  have hl : 0 < Nat.lcm w m := Nat.lcm_pos hw hm
  have dw : (w : Int) ∣ ((Nat.lcm w m : Nat) : Int) := Int.natCast_dvd_natCast.mpr (Nat.dvd_lcm_left w m)
  have dm : (m : Int) ∣ ((Nat.lcm w m : Nat) : Int) := Int.natCast_dvd_natCast.mpr (Nat.dvd_lcm_right w m)
  refine ⟨(a + (w : Int) * (u * k)) % ((Nat.lcm w m : Nat) : Int), Int.emod_nonneg _ (by omega), Int.emod_lt_of_pos _ (by omega), ?_, ?_⟩
  · rw [Int.emod_emod_of_dvd _ dw, Int.add_mul_emod_self_left]
  · rw [Int.emod_emod_of_dvd _ dm]
    refine Int.emod_eq_emod_iff_emod_sub_eq_zero.mpr (Int.emod_eq_zero_of_dvd ⟨-(v * k), ?_⟩)
    have e1 : (w : Int) * (u * k) + (m : Int) * (v * k) = r - a := by
      rw [← Int.mul_assoc, ← Int.mul_assoc, ← Int.add_mul, e, hk]
    rw [Int.mul_neg]
    omega
/-- two numbers below the least common multiple that leave the same by both are one -/
theorem crt_one {w m : Nat} {x y : Int} (hx : 0 ≤ x ∧ x < (Nat.lcm w m : Nat)) (hy : 0 ≤ y ∧ y < (Nat.lcm w m : Nat)) (h1 : x % (w : Int) = y % (w : Int)) (h2 : x % (m : Int) = y % (m : Int)) : x = y := by
  have d1 : (w : Int) ∣ x - y := Int.dvd_of_emod_eq_zero (Int.emod_eq_emod_iff_emod_sub_eq_zero.mp h1)
  have d2 : (m : Int) ∣ x - y := Int.dvd_of_emod_eq_zero (Int.emod_eq_emod_iff_emod_sub_eq_zero.mp h2)
  have d3 : ((Nat.lcm w m : Nat) : Int) ∣ x - y := by
    rw [← Int.dvd_natAbs] at d1 d2 ⊢
    exact Int.natCast_dvd_natCast.mpr (Nat.lcm_dvd (Int.natCast_dvd_natCast.mp d1) (Int.natCast_dvd_natCast.mp d2))
  rcases Int.lt_or_le x y with l | l
  · have := Int.le_of_dvd (a := ((Nat.lcm w m : Nat) : Int)) (b := y - x) (by omega) (by obtain ⟨c, e⟩ := d3; exact ⟨-c, by rw [Int.mul_neg]; omega⟩)
    omega
  · rcases Int.lt_or_le y x with l2 | l2
    · have := Int.le_of_dvd (a := ((Nat.lcm w m : Nat) : Int)) (b := x - y) (by omega) d3
      omega
    · omega
/-- the rest r by m is left by a fitting number just if some class agrees with it by the common measure -/
def agrees (bs : List Bar) (m : Nat) (r : Int) : Bool := (cls bs).any fun c => decide (c % ((Nat.gcd (wh bs) m : Nat) : Int) = r % ((Nat.gcd (wh bs) m : Nat) : Int))
theorem agrees_iff {bs : List Bar} {m : Nat} {r : Int} : agrees bs m r = true ↔ ∃ c ∈ cls bs, c % ((Nat.gcd (wh bs) m : Nat) : Int) = r % ((Nat.gcd (wh bs) m : Nat) : Int) := by
  unfold agrees
  rw [List.any_eq_true]
  constructor
  · rintro ⟨c, h1, h2⟩
    exact ⟨c, h1, of_decide_eq_true h2⟩
  · rintro ⟨c, h1, h2⟩
    exact ⟨c, h1, decide_eq_true h2⟩
theorem gcd_dvd_int (w m : Nat) : ((Nat.gcd w m : Nat) : Int) ∣ (w : Int) ∧ ((Nat.gcd w m : Nat) : Int) ∣ (m : Int) :=
  ⟨Int.natCast_dvd_natCast.mpr (Nat.gcd_dvd_left w m), Int.natCast_dvd_natCast.mpr (Nat.gcd_dvd_right w m)⟩
theorem emod_cls {bs : List Bar} (hp : 0 < wh bs) {x : Int} (f : fitsB bs x = true) : x % (wh bs : Int) ∈ cls bs := by
  refine (cls_is bs).mem _ |>.mpr ⟨Int.emod_nonneg _ (by omega), Int.emod_lt_of_pos _ (by omega), ?_⟩
  rw [fitsB_mod]
  exact f
theorem leaves_iff {bs : List Bar} {m : Nat} (hp : 0 < wh bs) (hm : 0 < m) {r : Int} :
    agrees bs m r = true ↔ ∃ x : Int, 0 ≤ x ∧ x < (Nat.lcm (wh bs) m : Nat) ∧ fitsB bs x = true ∧ x % (m : Int) = r % (m : Int) := by
  obtain ⟨g1, g2⟩ := gcd_dvd_int (wh bs) m
  rw [agrees_iff]
  constructor
  · rintro ⟨c, hc, e⟩
    obtain ⟨c1, c2, c3⟩ := ((cls_is bs).mem c).mp hc
    obtain ⟨x, x1, x2, x3, x4⟩ := crt hp hm (a := c) (r := r) (Int.dvd_of_emod_eq_zero (Int.emod_eq_emod_iff_emod_sub_eq_zero.mp e.symm))
    refine ⟨x, x1, x2, ?_, x4⟩
    rw [← fitsB_mod, x3, fitsB_mod]
    exact c3
  · rintro ⟨x, _, _, f, e⟩
    refine ⟨_, emod_cls hp f, ?_⟩
    rw [Int.emod_emod_of_dvd _ g1, ← Int.emod_emod_of_dvd x g2, e, Int.emod_emod_of_dvd _ g2]
/-- the rests of some classes by g -/
def modsTo (c : List Int) (g : Int) (n : Nat) : List Int := (c.take n).map (· % g)
theorem modsTo_succ {c : List Int} {g x : Int} {n : Nat} (h : c[n]? = some x) : modsTo c g (n + 1) = modsTo c g n ++ [x % g] := by
  unfold modsTo
  rw [takeSucc h, List.map_append]
  rfl

end R
namespace R
open PySem PySem.Spec PyProof.Rows L2
/-! ## the rests that fitting numbers leave -/
def restsTo (bs : List Bar) (m n : Nat) : List Int := ((List.range n).filter fun r : Nat => agrees bs m r).map fun r : Nat => (r : Int)
theorem restsTo_succ (bs : List Bar) (m n : Nat) : restsTo bs m (n + 1) = restsTo bs m n ++ (if agrees bs m n = true then [(n : Int)] else []) := by
  unfold restsTo
  rw [List.range_succ, List.filter_append, List.map_append]
  by_cases h : agrees bs m n = true
  · rw [if_pos h, show List.filter (fun r : Nat => agrees bs m r) [n] = [n] from List.filter_cons_of_pos h]
    rfl
  · rw [if_neg h, show List.filter (fun r : Nat => agrees bs m r) [n] = [] from List.filter_cons_of_neg h]
    rfl
theorem restsTo_len (bs : List Bar) (m n : Nat) : (restsTo bs m n).length ≤ n := by
  unfold restsTo
  rw [List.length_map]
  have h := List.length_filter_le (fun r : Nat => agrees bs m r) (List.range n)
  rw [List.length_range] at h
  exact h
def restsL (bs : List Bar) (m : Nat) : List Int := restsTo bs m m
theorem mem_restsL {bs : List Bar} {m : Nat} {r : Int} : r ∈ restsL bs m ↔ 0 ≤ r ∧ r < (m : Int) ∧ agrees bs m r = true := by
  unfold restsL restsTo
  rw [List.mem_map]
  constructor
  · rintro ⟨j, hj, rfl⟩
    obtain ⟨h1, h2⟩ := List.mem_filter.mp hj
    have := List.mem_range.mp h1
    exact ⟨by omega, by omega, h2⟩
  · rintro ⟨h1, h2, h3⟩
    refine ⟨r.toNat, List.mem_filter.mpr ⟨List.mem_range.mpr (by omega), ?_⟩, by omega⟩
    rw [Int.toNat_of_nonneg h1]
    exact h3
theorem restsL_up (bs : List Bar) (m : Nat) : (restsL bs m).Pairwise (· < ·) := by
  unfold restsL restsTo
  rw [List.pairwise_map]
  exact (List.pairwise_lt_range.filter _).imp fun h => by omega
def sp_p_rests (K : PySem.W.Frag) (C B : Addr) : Sp := fun vs H Q E => ∃ (p : Addr) (v : V) (t : Addr) (bs : List Bar) (x : V), vs = [.ref p, x] ∧ SvAt K C H p v t bs ∧
  ((OffI K H 1 1000 x ∧ E (.ref B) none H) ∨ ∃ m : Nat, x = .int m ∧ 1 ≤ m ∧ m ≤ 1000 ∧ ∀ D H', Same H H' → H D = none → H' D = some (.lst ((restsL bs m).map V.int)) → Q (.ref D) H')
section
variable {P : Program} {w : World} {K : PySem.W.Frag} {mg : Str → Option Value} {base : Heap}
theorem ok_p_rests (T : Txt K mg) : FnOk P w K mg base (L2.CX P w) 5 T.f_p_rests T.fd_p_rests ["sieve", "modulus"] (sp_p_rests K T.C T.C_BadModulus) := by
  refine T.F_p_rests.okX sc_p_rests (fun vs H Q E h => ?_) (fun cdv A outer s H vs Q E hr h => ?_)
  · obtain ⟨p, v, t, bs, x, rfl, _⟩ := h
    rfl
  · obtain ⟨p, v, t, bs, x, rfl, S, h⟩ := h
    refine ⟨_, (pss_cons (ps_expr (pe_call (ok_p_check_modulus T) (hr.mono (by decide)) (by rfl) T.g_p_check_modulus T.F_p_check_modulus.kp T.b_p_check_modulus .nil (passes_call (takes_of rfl rfl rfl rfl) (fun _ _ _ _ h => h)) (pa_cons (pv 1) (pa_cons (pe_glob (v := .int 1000) (by rfl) T.c_GREATEST_LISTED_BY.choose_spec ⟨_, rfl⟩) pa_nil))))
      (pss_cons (ps_set (i := 2) sc_p_rests.nd rfl (by first | exact .inl rfl | exact .inr rfl) (pe_callBfun cr_gcd (by rfl) T.g_gcd (pa_cons (pe_prop (pv 0) T.cl T.pp_whole (ok_m_Sieve_whole T) (hr.mono (by decide)) T.b_m_Sieve_whole .nil pass0 (by rfl)) (pa_cons (pv 1) pa_nil))))
      (pss_cons (ps_set (i := 3) sc_p_rests.nd rfl (by first | exact .inl rfl | exact .inr rfl) (pe_scI (own := [("number", 4)]) rfl sc_p_rests.nd (pi_tup (pe_prop (pv 0) T.cl T.pp_classes (ok_m_Sieve_classes T) (hr.mono (by decide)) T.b_m_Sieve_classes .nil pass0 (by rfl))) (blkOk_by (N := ["sieve", "modulus", "common", "left", "number", "rest"]) (sc := defScope s_p_rests) (by decide +kernel)) (fun _ _ _ _ _ => (pg_name (i := 4) sc_p_rests.nd rfl (by first | exact .inl rfl | exact .inr rfl))) (fun _ _ _ _ _ => pts_nil) (fun _ _ _ _ _ => (pe_op op_mod (pv 4) (pv 2)))))
      (pss_one (ps_ret (pe_lc (own := [("rest", 5)]) rfl sc_p_rests.nd (pi_range1 (by rfl) T.z_range (pa_cons (pv 1) pa_nil)) (blkOk_by (N := ["sieve", "modulus", "common", "left", "number", "rest"]) (sc := defScope s_p_rests) (by decide +kernel)) (fun _ _ _ _ _ => (pg_name (i := 5) sc_p_rests.nd rfl (by first | exact .inl rfl | exact .inr rfl))) (fun _ _ _ _ _ => (pts_one (pt_cmpR (r := rSIn w) or_sin (pe_op op_mod (pv 5) (pv 2)) (pv 3) (by rfl)))) (fun _ _ _ _ _ => (pv 5)))))))), ?_⟩
    rcases h with ⟨o, q⟩ | ⟨m, rfl, m1, m2, q⟩
    · exact ⟨_, rfl, x, _, rfl, .inr ⟨o, q⟩⟩
    · refine ⟨_, rfl, _, _, rfl, .inl ⟨m, rfl, by omega, by show (m : Int) ≤ 1000; omega, ?_⟩⟩
      have few := choices_cls S.ok
      have hp := S.ok.mods.pos
      have hg : 0 < Nat.gcd (wh bs) m := Nat.gcd_pos_of_pos_left _ hp
      refine ⟨_, rfl, p, _, _, rfl, S.ob.choose_spec, p, v, t, bs, rfl, S, _, rfl, _, _, rfl, ?_⟩
      rw [Int.natAbs_natCast, Int.natAbs_natCast]
      refine ⟨_, rfl, p, _, _, rfl, S.ob.choose_spec, p, v, t, bs, rfl, S, t, rfl, ⟨_, S.cls⟩, fun D nD => ?_⟩
      refine scI_tup (K := K) (a := t) (xs := (cls bs).map V.int) (fun i Hi => ∃ n, n ≤ i ∧ Hi D = some (SetO w D (fun j => decide (j ∈ modsTo (cls bs) (Nat.gcd (wh bs) m : Nat) i)) n) ∧ Same H Hi)
        ⟨0, Nat.le_refl _, by rw [upd_same]; exact congrArg some (congrArg (SetO w D · 0) (funext fun j => (decide_eq_false (by unfold modsTo; simp)).symm)), same_upd nD⟩ (fun i Hi _ ⟨_, _, _, si⟩ => Same.seqTT si S.cls) ?_ ?_
      · rintro i y Hi hi ⟨n, ni, ei, si⟩
        obtain ⟨c, hc, rfl⟩ := getMapInt' hi
        have il := (List.getElem?_eq_some_iff.mp hc).1
        refine ⟨rfl, _, rfl, _, rfl, _, _, rfl, rfl, by show (0 : Int) < ((Nat.gcd (wh bs) m : Nat) : Int); omega, ?_⟩
        refine ⟨_, _, n, rfl, ei, Nat.lt_of_le_of_lt (show n + 1 ≤ 2001 by omega) (by decide), (if decide (c % ((Nat.gcd (wh bs) m : Nat) : Int) ∈ modsTo (cls bs) (Nat.gcd (wh bs) m : Nat) i) = true then n else n + 1), ?_, ?_, samePut si nD⟩
        · split <;> omega
        · rw [upd_same, modsTo_succ hc]
          refine congrArg some (congrArg (SetO w D · _) (funext fun j => ?_))
          rw [← Bool.decide_or]
          exact decide_eq_decide.mpr (by rw [List.mem_append, List.mem_singleton])
      · rintro H1 ⟨n, _, e1, s1⟩
        rw [List.length_map] at e1
        have nDn : ∀ {b : Addr} {u : HO}, H b = some u → b ≠ D := fun e => ne_of_none e nD
        refine ⟨_, rfl, (m : Int), rfl, by omega, by omega, fun F nF => ?_⟩
        rw [Int.toNat_natCast]
        refine lc_range (lo := 0) (n := m) (fun k Hk => Hk F = some (.lst ((restsTo bs m k).map V.int)) ∧ Same H1 Hk) ⟨upd_same, same_upd nF⟩ ?_ ?_
        · rintro k Hk hk ⟨ek, sk⟩
          refine ⟨rfl, _, rfl, _, rfl, _, _, rfl, rfl, by show (0 : Int) < ((Nat.gcd (wh bs) m : Nat) : Int); omega, _, rfl, _, _, _, _, rfl, rfl, sk _ _ e1, _, rfl, ?_⟩
          have eg : decide ((0 + (k : Int)) % ((Nat.gcd (wh bs) m : Nat) : Int) ∈ modsTo (cls bs) (Nat.gcd (wh bs) m : Nat) (cls bs).length) = agrees bs m k := by
            rw [Int.zero_add, Bool.eq_iff_iff, decide_eq_true_iff, agrees_iff]
            unfold modsTo
            rw [List.take_length, List.mem_map]
          rw [eg]
          refine ite2 (fun e => ?_) (fun e => ?_)
          · refine ⟨_, rfl, _, ek, ?_, ?_, samePut sk nF⟩
            · rw [List.length_map]
              have := restsTo_len bs m k
              exact sizeLt (by omega)
            · rw [upd_same, restsTo_succ, if_pos e, List.map_append, Int.zero_add]
              rfl
          · refine ⟨?_, sk⟩
            rw [ek, restsTo_succ, if_neg e, List.append_nil]
        · rintro Hk ⟨ek, sk⟩
          exact q F Hk (s1.trans sk) (s1.free nF) ek
end

end R
namespace R
open PySem PySem.Spec PyProof.Rows L2
/-! a list of pairs of ints -/
structure PrAt (H : Hp) (xs : List V) (ms : List (Int × Int)) : Prop where
  len : xs.length = ms.length
  at_ : ∀ (i : Nat) x m, xs[i]? = some x → ms[i]? = some m → ∃ t, x = .ref t ∧ H t = some (.tup [.int m.1, .int m.2])
theorem PrAt.nil (H : Hp) : PrAt H [] [] := ⟨rfl, fun i x m h _ => by simp at h⟩
theorem PrAt.stay {H H' : Hp} {xs : List V} {ms : List (Int × Int)} (h : PrAt H xs ms) (s : ∀ t u, H t = some (.tup u) → H' t = some (.tup u)) : PrAt H' xs ms :=
  ⟨h.len, fun i x m a b => let ⟨t, e, q⟩ := h.at_ i x m a b; ⟨t, e, s _ _ q⟩⟩
theorem PrAt.app {H : Hp} {xs ys : List V} {ms ns : List (Int × Int)} (h : PrAt H xs ms) (k : PrAt H ys ns) : PrAt H (xs ++ ys) (ms ++ ns) := by
  refine ⟨by rw [List.length_append, List.length_append, h.len, k.len], fun i x m a b => ?_⟩
  by_cases l : i < xs.length
  · rw [List.getElem?_append_left l] at a
    rw [List.getElem?_append_left (by rw [← h.len]; exact l)] at b
    exact h.at_ i x m a b
  · rw [List.getElem?_append_right (by omega)] at a
    rw [List.getElem?_append_right (by rw [← h.len]; omega), ← h.len] at b
    exact k.at_ _ x m a b
theorem PrAt.one {H : Hp} {t : Addr} {m : Int × Int} (h : H t = some (.tup [.int m.1, .int m.2])) : PrAt H [.ref t] [m] := by
  refine ⟨rfl, fun i x n a b => ?_⟩
  cases i with
  | zero =>
    cases Option.some.inj a
    cases Option.some.inj b
    exact ⟨t, rfl, h⟩
  | succ i => simp at a
/-- what a pair on the heap tells -/
def prOf (H : Hp) (x : V) : Int × Int := match x with
  | .ref t => match H t with
    | some (.tup [.int a, .int b]) => (a, b)
    | _ => (0, 0)
  | _ => (0, 0)
theorem prOf_at {H : Hp} {t : Addr} {m : Int × Int} (h : H t = some (.tup [.int m.1, .int m.2])) : prOf H (.ref t) = m := by
  show (match H t with | some (.tup [.int a, .int b]) => (a, b) | _ => (0, 0)) = m
  rw [h]
theorem PrAt.map {H : Hp} {xs : List V} {ms : List (Int × Int)} (h : PrAt H xs ms) : xs.map (prOf H) = ms := by
  refine List.ext_getElem? fun i => ?_
  rw [List.getElem?_map]
  cases a : xs[i]? with
  | none =>
    have := List.getElem?_eq_none_iff.mp a
    rw [List.getElem?_eq_none_iff.mpr (by rw [← h.len]; exact this)]
    rfl
  | some x =>
    have l := (List.getElem?_eq_some_iff.mp a).1
    have b : ms[i]? = some (ms[i]'(by rw [← h.len]; exact l)) := List.getElem?_eq_getElem _
    obtain ⟨t, rfl, e⟩ := h.at_ i x _ a b
    rw [b]
    exact congrArg some (prOf_at e)
theorem PrAt.all {H : Hp} {xs : List V} {ms : List (Int × Int)} (h : PrAt H xs ms) : ∀ x ∈ xs, ∃ t, x = V.ref t ∧ H t = some (.tup [.int (prOf H x).1, .int (prOf H x).2]) := fun x hx => by
  obtain ⟨i, hi⟩ := List.getElem?_of_mem hx
  have l := (List.getElem?_eq_some_iff.mp hi).1
  obtain ⟨t, rfl, e⟩ := h.at_ i x _ hi (List.getElem?_eq_getElem (by rw [← h.len]; exact l))
  exact ⟨t, rfl, by rw [prOf_at e]; exact e⟩
theorem PrAt.of {H : Hp} {ys : List V} (h : ∀ x ∈ ys, ∃ t, x = V.ref t ∧ H t = some (.tup [.int (prOf H x).1, .int (prOf H x).2])) : PrAt H ys (ys.map (prOf H)) := by
  refine ⟨(List.length_map ..).symm, fun i x m a b => ?_⟩
  rw [List.getElem?_map, a] at b
  obtain ⟨t, rfl, e⟩ := h x (List.mem_of_getElem? a)
  exact ⟨t, rfl, by rw [← Option.some.inj b]; exact e⟩
/-- the marks of one side as they grow -/
def MarksTo (H0 : Hp) (F : Addr) (l : List (Int × Int)) (H : Hp) : Prop := ∃ xs : List V, H F = some (.lst xs) ∧ PrAt H xs l ∧ ∀ b o, b ≠ F → H0 b = some o → H b = some o
theorem MarksTo.start {H : Hp} {F : Addr} (n : H F = none) : MarksTo H F [] (upd H F (.lst [])) := ⟨[], upd_same, PrAt.nil _, fun b o nb e => by rw [upd_ne nb]; exact e⟩
theorem MarksTo.add {H0 H : Hp} {F t : Addr} {l : List (Int × Int)} {m : Int × Int} {xs : List V} (e : H F = some (.lst xs)) (pr : PrAt H xs l) (k : ∀ b o, b ≠ F → H0 b = some o → H b = some o) (nt : H t = none) :
    upd H t (.tup [.int m.1, .int m.2]) F = some (.lst xs) ∧ MarksTo H0 F (l ++ [m]) (upd (upd H t (.tup [.int m.1, .int m.2])) F (.lst (xs ++ [.ref t]))) := by
  have ntF : t ≠ F := fun z => by rw [z, e] at nt; cases nt
  refine ⟨by rw [upd_ne (Ne.symm ntF)]; exact e, xs ++ [.ref t], upd_same, ?_, fun b o nb q => ?_⟩
  · refine PrAt.app (pr.stay fun a u q => ?_) (PrAt.one ?_)
    · rw [upd_ne (fun z => by rw [z, e] at q; cases q), upd_ne (ne_of_none q nt)]
      exact q
    · rw [upd_ne ntF]
      exact upd_same
  · rw [upd_ne nb, upd_ne (ne_of_none (k b o nb q) nt)]
    exact k b o nb q
/-! as data -/
def prD (m : Int × Int) : PyData := .tuple [.int m.1, .int m.2]
theorem dpPr {K : PySem.W.Frag} {H : Hp} : ∀ {xs : List V} {ms : List (Int × Int)}, PrAt H xs ms → DpAll K H xs (ms.map prD)
  | [], [], _ => .nil
  | [], m :: ms, h => nomatch h.len
  | x :: xs, [], h => nomatch h.len
  | x :: xs, m :: ms, h => by
    obtain ⟨t, rfl, e⟩ := h.at_ 0 x m rfl rfl
    exact .cons (.tup (tupOf e) (.cons (.int _) (.cons (.int _) .nil))) (dpPr ⟨Nat.succ.inj h.len, fun i y n a b => h.at_ (i + 1) y n a b⟩)
theorem okPr (ms : List (Int × Int)) : ∀ d ∈ ms.map prD, okD 1 d := fun d h => by
  obtain ⟨m, _, rfl⟩ := List.mem_map.mp h
  refine okD.tup fun d h => ?_
  rcases List.mem_cons.mp h with rfl | h
  · exact ⟨rfl, Nat.zero_le _⟩
  · rw [List.mem_singleton.mp h]
    exact ⟨rfl, Nat.zero_le _⟩
theorem eqvPrNil (ms : List (Int × Int)) : PyData.eqv (.list (ms.map prD)) (.list []) = decide (ms = []) := by
  rw [PyData.eqv]
  cases ms with
  | nil => rfl
  | cons x r => rfl
theorem eqvPr (m n : Int × Int) : PyData.eqv (prD m) (prD n) = decide (m = n) := by
  obtain ⟨a, b⟩ := m
  obtain ⟨c, d⟩ := n
  show PyData.eqv (.tuple [.int a, .int b]) (.tuple [.int c, .int d]) = _
  rw [PyData.eqv, PyData.eqvAll, PyData.eqvAll, PyData.eqvAll, PyData.eqv, PyData.eqv]
  by_cases h : a = c
  · subst h
    by_cases h2 : b = d
    · subst h2
      simp
    · simp [h2]
  · simp [h]
theorem inPr {m : Int × Int} {ms : List (Int × Int)} (h : m ∈ ms) : ((ms.map prD).any fun z => PyData.eqv z (prD m)) = true := by
  rw [List.any_map, List.any_eq_true]
  refine ⟨m, h, ?_⟩
  show PyData.eqv (prD m) (prD m) = true
  rw [eqvPr]
  exact decide_eq_true rfl

end R
namespace R
open PySem PySem.Spec PyProof.Rows L2
/-! ## all pairs of rests, their sums and products -/
def prodL (as bs : List Int) : List (Int × Int) := as.flatMap fun a => bs.map fun b => (a, b)
theorem prodL_app (as cs bs : List Int) : prodL (as ++ cs) bs = prodL as bs ++ prodL cs bs := List.flatMap_append
theorem prodL_one (a : Int) (bs : List Int) : prodL [a] bs = bs.map fun b => (a, b) := by
  unfold prodL
  rw [List.flatMap_cons, List.flatMap_nil, List.append_nil]
theorem prodL_len (bs : List Int) : ∀ as : List Int, (prodL as bs).length = as.length * bs.length
  | [] => by rw [List.length_nil, Nat.zero_mul]; rfl
  | a :: as => by
    rw [show a :: as = [a] ++ as from rfl, prodL_app, List.length_append, prodL_len bs as, prodL_one, List.length_map, List.length_append, Nat.add_mul]
    show _ = 1 * _ + _
    rw [Nat.one_mul]
theorem mem_prodL {as bs : List Int} {m : Int × Int} : m ∈ prodL as bs ↔ m.1 ∈ as ∧ m.2 ∈ bs := by
  unfold prodL
  rw [List.mem_flatMap]
  constructor
  · rintro ⟨a, ha, h⟩
    obtain ⟨b, hb, rfl⟩ := List.mem_map.mp h
    exact ⟨ha, hb⟩
  · rintro ⟨h1, h2⟩
    exact ⟨m.1, h1, List.mem_map.mpr ⟨m.2, h2, rfl⟩⟩
theorem restsL_len (bs : List Bar) (m : Nat) : (restsL bs m).length ≤ m := restsTo_len bs m m
def sp_p_pairs_of_rests (K : PySem.W.Frag) (C B : Addr) : Sp := fun vs H Q E => ∃ (p : Addr) (v : V) (t : Addr) (bs : List Bar) (p2 : Addr) (v2 : V) (t2 : Addr) (cs : List Bar) (x : V), vs = [.ref p, .ref p2, x] ∧ SvAt K C H p v t bs ∧ SvAt K C H p2 v2 t2 cs ∧
  ((OffI K H 1 200 x ∧ E (.ref B) none H) ∨ ∃ m : Nat, x = .int m ∧ 1 ≤ m ∧ m ≤ 200 ∧ ∀ D H' xs, Same H H' → H D = none → H' D = some (.lst xs) → PrAt H' xs (prodL (restsL bs m) (restsL cs m)) → Q (.ref D) H')
section
variable {P : Program} {w : World} {K : PySem.W.Frag} {mg : Str → Option Value} {base : Heap}
theorem ok_p_pairs_of_rests (T : Txt K mg) : FnOk P w K mg base (L2.CX P w) 6 T.f_p_pairs_of_rests T.fd_p_pairs_of_rests ["one", "other", "modulus"] (sp_p_pairs_of_rests K T.C T.C_BadModulus) := by
  refine T.F_p_pairs_of_rests.okX sc_p_pairs_of_rests (fun vs H Q E h => ?_) (fun cdv A outer s H vs Q E hr h => ?_)
  · obtain ⟨p, v, t, bs, p2, v2, t2, cs, x, rfl, _⟩ := h
    rfl
  · obtain ⟨p, v, t, bs, p2, v2, t2, cs, x, rfl, S, S2, h⟩ := h
    refine ⟨_, (pss_cons (ps_expr (pe_call (ok_p_check_modulus T) (hr.mono (by decide)) (by rfl) T.g_p_check_modulus T.F_p_check_modulus.kp T.b_p_check_modulus .nil (passes_call (takes_of rfl rfl rfl rfl) (fun _ _ _ _ h => h)) (pa_cons (pv 2) (pa_cons (pe_glob (v := .int 200) (by rfl) T.c_GREATEST_RECKONED_BY.choose_spec ⟨_, rfl⟩) pa_nil))))
      (pss_cons (ps_set (i := 3) sc_p_pairs_of_rests.nd rfl (by first | exact .inl rfl | exact .inr rfl) (pe_call (ok_p_rests T) (hr.mono (by decide)) (by rfl) T.g_p_rests T.F_p_rests.kp T.b_p_rests .nil (passes_call (takes_of rfl rfl rfl rfl) (fun _ _ _ _ h => h)) (pa_cons (pv 1) (pa_cons (pv 2) pa_nil))))
      (pss_one (ps_ret (pe_lc2 (own := [("first", 4), ("second", 5)]) (vs1 := [5]) rfl sc_p_pairs_of_rests.nd (pi_list (pe_call (ok_p_rests T) (hr.mono (by decide)) (by rfl) T.g_p_rests T.F_p_rests.kp T.b_p_rests .nil passL (pa_cons (pv 0) (pa_cons (pv 2) pa_nil)))) (blkOk_by (N := ["one", "other", "modulus", "of_other", "first", "second"]) (sc := defScope s_p_pairs_of_rests) (by decide +kernel)) (by decide) (fun _ _ _ _ _ => (pg_name (i := 4) sc_p_pairs_of_rests.nd rfl (by first | exact .inl rfl | exact .inr rfl))) (fun _ _ _ _ _ => pts_nil) (fun _ _ _ _ _ => (pi_listK (K := K) rfl (pv 3))) (fun _ _ _ _ _ => (pg_name (i := 5) sc_p_pairs_of_rests.nd rfl (by first | exact .inl rfl | exact .inr rfl))) (fun _ _ _ _ _ => pts_nil) (fun _ _ _ _ _ => (pe_tup (pa_cons (pv 4) (pa_cons (pv 5) pa_nil))))))))), ?_⟩
    rcases h with ⟨o, q⟩ | ⟨m, rfl, m1, m2, q⟩
    · exact ⟨_, rfl, x, _, rfl, .inr ⟨o, q⟩⟩
    · refine ⟨_, rfl, _, _, rfl, .inl ⟨m, rfl, by omega, by show (m : Int) ≤ 200; omega, ?_⟩⟩
      refine ⟨_, rfl, _, rfl, p2, v2, t2, cs, _, rfl, S2, .inr ⟨m, rfl, m1, by omega, fun D1 H1 s1 n1 e1 => ?_⟩⟩
      refine ⟨_, rfl, _, rfl, p, v, t, bs, _, rfl, S.stay s1, .inr ⟨m, rfl, m1, by omega, fun D2 H2 s2 n2 e2 => ?_⟩⟩
      refine ⟨D2, rfl, ⟨_, lstOf e2⟩, fun F nF => ?_⟩
      have la := restsL_len bs m
      have lb := restsL_len cs m
      have f1 := s2 _ _ e1
      generalize restsL bs m = as at *
      generalize restsL cs m = ds at *
      have ss : ∀ {l : List (Int × Int)} {Hj : Hp}, MarksTo H2 F l Hj → Same H2 Hj := fun ⟨_, _, _, k⟩ b o e => k b o (ne_of_none e nF) e
      have ll : (as.map V.int).length = as.length := List.length_map ..
      have l2 : (ds.map V.int).length = ds.length := List.length_map ..
      refine ⟨fun i n H => n = as.length - i ∧ i ≤ as.length ∧ MarksTo H2 F (prodL (as.take i) ds) H, ⟨_, rfl, Nat.zero_le _, MarksTo.start nF⟩, ?_⟩
      rintro i _ Hi ⟨rfl, hi, pv⟩
      have si := lstOf (K := K) (ss pv _ _ e2)
      by_cases lt : i < as.length
      · refine .inr ⟨⟨_, _, si, getMapInt lt⟩, MarksTo H2 F (prodL (as.take (i + 1)) ds), fun H' p' => ⟨as.length - (i + 1), by omega, rfl, lt, p'⟩, ?_⟩
        rintro x _ ⟨rfl, y⟩
        have hx := y _ si
        rw [getMapInt lt] at hx
        obtain rfl := Option.some.inj hx
        have ha : as[i]? = some as[i] := List.getElem?_eq_getElem lt
        generalize as[i] = a at ha
        have step : prodL (as.take (i + 1)) ds = prodL (as.take i) ds ++ ds.map fun b => (a, b) := by rw [takeSucc ha, prodL_app, prodL_one]
        refine ⟨rfl, ?_⟩
        refine ⟨_, rfl, D1, rfl, ⟨_, lstOf (ss pv _ _ f1)⟩, ?_⟩
        refine ⟨fun j n H => n = ds.length - j ∧ j ≤ ds.length ∧ MarksTo H2 F (prodL (as.take i) ds ++ (ds.take j).map fun b => (a, b)) H, ⟨_, rfl, Nat.zero_le _, by rw [List.take_zero, List.map_nil, List.append_nil]; exact pv⟩, ?_⟩
        rintro j _ Hj ⟨rfl, hj, pw⟩
        have sj := lstOf (K := K) (ss pw _ _ f1)
        by_cases lj : j < ds.length
        · refine .inr ⟨⟨_, _, sj, getMapInt lj⟩, MarksTo H2 F (prodL (as.take i) ds ++ (ds.take (j + 1)).map fun b => (a, b)), fun H' p' => ⟨ds.length - (j + 1), by omega, rfl, lj, p'⟩, ?_⟩
          rintro z _ ⟨rfl, y2⟩
          have hz := y2 _ sj
          rw [getMapInt lj] at hz
          obtain rfl := Option.some.inj hz
          have hb : ds[j]? = some ds[j] := List.getElem?_eq_getElem lj
          generalize ds[j] = b at hb
          refine ⟨rfl, ?_⟩
          refine ⟨_, rfl, _, rfl, sizeOk (by show (2 : Nat) ≤ 100000; decide), fun e ne => ?_⟩
          obtain ⟨xs, ex, px, kx⟩ := pw
          obtain ⟨g1, g2⟩ := MarksTo.add (m := (a, b)) ex px kx ne
          refine ⟨_, g1, ?_, ?_⟩
          · rw [px.len, List.length_append, prodL_len, List.length_map, List.length_take, List.length_take]
            have h1 : min i as.length * ds.length ≤ 200 * 200 := Nat.mul_le_mul (by omega) (by omega)
            exact sizeLt (by omega)
          · rw [takeSucc hb, List.map_append, ← List.append_assoc]
            exact g2
        · obtain rfl : j = ds.length := by omega
          rw [List.take_length, ← step] at pw
          exact .inl ⟨⟨_, sj, by rw [l2]; exact Nat.le_refl _⟩, pw⟩
      · obtain rfl : i = as.length := by omega
        rw [List.take_length] at pv
        have sv := ss pv
        obtain ⟨xs, ex, px, _⟩ := pv
        exact .inl ⟨⟨_, si, by rw [ll]; exact Nat.le_refl _⟩, q F Hi xs (s1.trans (s2.trans sv)) ((s1.trans s2).free nF) ex px⟩
end

end R
namespace R
open PySem PySem.Spec PyProof.Rows L2
/-! a dict that is known by its int keys -/
structure DOn (H : Hp) (d : Addr) (S : List Int) : Prop where
  ex : ∃ (kvs : List (Key × V)) (ks : List Int), H d = some (.dK kvs) ∧ kvs.map (·.1) = ks.map Sum.inl ∧ ks.Nodup ∧ ∀ k, k ∈ ks ↔ k ∈ S
theorem DOn.nil {H : Hp} {d : Addr} (h : H d = some (.dK [])) : DOn H d [] := ⟨[], [], h, rfl, List.nodup_nil, fun _ => Iff.rfl⟩
theorem DOn.stay {H H' : Hp} {d : Addr} {S : List Int} (h : DOn H d S) (s : ∀ u, H d = some u → H' d = some u) : DOn H' d S := by
  obtain ⟨kvs, ks, e, r⟩ := h.ex
  exact ⟨kvs, ks, s _ e, r⟩
theorem putK_old {kvs : List (Key × V)} {k : Key} {v : V} (m : k ∈ kvs.map (·.1)) : (putK kvs k v).map (·.1) = kvs.map (·.1) := by
  obtain ⟨kv, m, e⟩ := List.mem_map.mp m
  unfold putK
  rw [if_pos (List.any_eq_true.mpr ⟨kv, m, decide_eq_true e⟩), List.map_map]
  refine List.map_congr_left fun x _ => ?_
  show (if x.1 = k then (x.1, v) else x).1 = x.1
  split <;> rfl
theorem putK_add {kvs : List (Key × V)} {k : Key} {v : V} (m : k ∉ kvs.map (·.1)) : (putK kvs k v).map (·.1) = kvs.map (·.1) ++ [k] := by
  unfold putK
  rw [if_neg, List.map_append]
  · rfl
  · intro q
    obtain ⟨kv, q, e⟩ := List.any_eq_true.mp q
    exact m (List.mem_map.mpr ⟨kv, q, of_decide_eq_true e⟩)
theorem len_range {ks : List Int} {m : Nat} (nd : ks.Nodup) (h : ∀ k ∈ ks, 0 ≤ k ∧ k < (m : Int)) : ks.length ≤ m := by
  have e := nodup_le nd (ys := (List.range m).map fun i : Nat => (i : Int)) fun k hk => by
    obtain ⟨h1, h2⟩ := h k hk
    exact List.mem_map.mpr ⟨k.toNat, List.mem_range.mpr (by omega), by omega⟩
  rw [List.length_map, List.length_range] at e
  exact e
theorem DOn.put {H : Hp} {d : Addr} {S : List Int} {m : Nat} (h : DOn H d S) (hS : ∀ k ∈ S, 0 ≤ k ∧ k < (m : Int)) (hm : m ≤ 100000) (k : Int) (v : V) :
    ∃ H', DPut H d (.int k) v H' ∧ (∀ b o, b ≠ d → H b = some o → H' b = some o) ∧ DOn H' d (S ++ [k]) := by
  obtain ⟨kvs, ks, e, hk, nd, mem⟩ := h.ex
  have hl : kvs.length ≤ m := by
    have e2 := congrArg List.length hk
    rw [List.length_map, List.length_map] at e2
    rw [e2]
    exact len_range nd fun k hk => hS k ((mem k).mp hk)
  refine ⟨_, DPut.k (k := Sum.inl k) e (sizeLt (by omega)), fun b o nb q => by rw [upd_ne nb]; exact q, ⟨_, if k ∈ ks then ks else ks ++ [k], upd_same, ?_, ?_, ?_⟩⟩
  · have e3 : (Sum.inl k : Key) ∈ kvs.map (·.1) ↔ k ∈ ks := by
      rw [hk, List.mem_map]
      exact ⟨fun ⟨a, b, c⟩ => Sum.inl.inj c ▸ b, fun b => ⟨k, b, rfl⟩⟩
    by_cases q : k ∈ ks
    · rw [if_pos q, putK_old (e3.mpr q), hk]
    · rw [if_neg q, putK_add (fun z => q (e3.mp z)), hk, List.map_append]
      rfl
  · split
    · exact nd
    · rename_i q
      refine List.nodup_append.mpr ⟨nd, by simp, fun a ha b hb => ?_⟩
      rw [List.mem_singleton.mp hb]
      exact fun z => q (z ▸ ha)
  · intro j
    rw [List.mem_append, List.mem_singleton, ← mem j]
    split
    · rename_i q
      exact ⟨.inl, fun z => z.elim id fun z => z ▸ q⟩
    · rw [List.mem_append, List.mem_singleton]
theorem upOf {ys ks : List Int} (p : ys.Perm ks) (nd : ks.Nodup) (up : ys.Pairwise (· ≤ ·)) : ys.Pairwise (· < ·) := by
  have n2 := p.nodup_iff.mpr nd
  exact (List.pairwise_and_iff.mpr ⟨up, n2⟩).imp fun ⟨a, b⟩ => by omega

end R
namespace R
open PySem PySem.Spec PyProof.Rows L2
/-! a set comprehension over a list -/
theorem scI_list {w : World} {K : PySem.W.Frag} {a : Addr} {xs : List V} {g : TG} {tt : TT} {te : TE} {vs : List Nat} {σ : L2.St} {H1 : Hp} {D : Addr} {Qd : Hp → Prop} (Pv : Nat → Hp → Prop) (h0 : Pv 0 (upd H1 D (SetO w D (fun _ => false) 0)))
    (hl : ∀ i H, i ≤ xs.length → Pv i H → SqL K H a xs)
    (hs : ∀ i x H, xs[i]? = some x → Pv i H → g x (wipe σ vs) H fun σ2 H2 => wipe σ2 vs = wipe σ vs ∧ tt σ2 H2 fun b H3 => if b = true then te σ2 H3 fun y H4 =>
      ∃ (c : Int) (S : Int → Bool) (n : Nat), y = .int c ∧ H4 D = some (SetO w D S n) ∧ n + 1 < scanBound ∧ Pv (i + 1) (upd H4 D (SetO w D (fun j => S j || decide (j = c)) (if S c = true then n else n + 1))) else Pv (i + 1) H3)
    (hd : ∀ H, Pv xs.length H → Qd H) : ∃ W : Nat → Nat → Hp → Prop, (∃ m, W 0 m (upd H1 D (SetO w D (fun _ => false) 0))) ∧ ∀ i m H, W i m H → ((Itl K a).stop i H ∧ Qd H) ∨
      ((Itl K a).go i H ∧ ∃ Nx : Hp → Prop, (∀ H', Nx H' → ∃ m', m' < m ∧ W (i + 1) m' H') ∧ ∀ x H', (Itl K a).yld i H x H' → g x (wipe σ vs) H' fun σ2 H2 => wipe σ2 vs = wipe σ vs ∧ tt σ2 H2 fun b H3 =>
        if b = true then te σ2 H3 fun y H4 => ∃ (c : Int) (S : Int → Bool) (n : Nat), y = .int c ∧ H4 D = some (SetO w D S n) ∧ n + 1 < scanBound ∧ Nx (upd H4 D (SetO w D (fun j => S j || decide (j = c)) (if S c = true then n else n + 1))) else Nx H3) := by
  refine ⟨fun i m H => m = xs.length - i ∧ i ≤ xs.length ∧ Pv i H, ⟨_, rfl, Nat.zero_le _, h0⟩, ?_⟩
  rintro i _ H ⟨rfl, hi, p⟩
  by_cases lt : i < xs.length
  · refine .inr ⟨⟨xs, xs[i], hl i H hi p, by simp [lt]⟩, Pv (i + 1), fun H' p' => ⟨xs.length - (i + 1), by omega, rfl, lt, p'⟩, fun x H' ⟨e, y⟩ => ?_⟩
    subst e
    exact hs i x _ (y xs (hl i _ hi p)) p
  · obtain rfl : i = xs.length := by omega
    exact .inl ⟨⟨xs, hl _ H hi p, Nat.le_refl _⟩, hd H p⟩
def sumM (m : Nat) (z : Int × Int) : Int := (z.1 + z.2) % (m : Int)
def mulM (m : Nat) (z : Int × Int) : Int := z.1 * z.2 % (m : Int)
def sp_p_sums (K : PySem.W.Frag) (C B : Addr) : Sp := fun vs H Q E => ∃ (p : Addr) (v : V) (t : Addr) (bs : List Bar) (p2 : Addr) (v2 : V) (t2 : Addr) (cs : List Bar) (x : V), vs = [.ref p, .ref p2, x] ∧ SvAt K C H p v t bs ∧ SvAt K C H p2 v2 t2 cs ∧
  ((OffI K H 1 200 x ∧ E (.ref B) none H) ∨ ∃ m : Nat, x = .int m ∧ 1 ≤ m ∧ m ≤ 200 ∧ ∀ (ns : List Int) D H', Same H H' → H D = none → ns.Pairwise (· < ·) → (∀ k, k ∈ ns ↔ k ∈ (prodL (restsL bs m) (restsL cs m)).map (sumM m)) → H' D = some (.lst (ns.map V.int)) → Q (.ref D) H')
def sp_p_products (K : PySem.W.Frag) (C B : Addr) : Sp := fun vs H Q E => ∃ (p : Addr) (v : V) (t : Addr) (bs : List Bar) (p2 : Addr) (v2 : V) (t2 : Addr) (cs : List Bar) (x : V), vs = [.ref p, .ref p2, x] ∧ SvAt K C H p v t bs ∧ SvAt K C H p2 v2 t2 cs ∧
  ((OffI K H 1 200 x ∧ E (.ref B) none H) ∨ ∃ m : Nat, x = .int m ∧ 1 ≤ m ∧ m ≤ 200 ∧ ∀ (ns : List Int) D H', Same H H' → H D = none → ns.Pairwise (· < ·) → (∀ k, k ∈ ns ↔ k ∈ (prodL (restsL bs m) (restsL cs m)).map (mulM m)) → H' D = some (.lst (ns.map V.int)) → Q (.ref D) H')
section
variable {P : Program} {w : World} {K : PySem.W.Frag} {mg : Str → Option Value} {base : Heap}
theorem ok_p_sums (T : Txt K mg) : FnOk P w K mg base (L2.CX P w) 7 T.f_p_sums T.fd_p_sums ["one", "other", "modulus"] (sp_p_sums K T.C T.C_BadModulus) := by
  refine T.F_p_sums.okX sc_p_sums (fun vs H Q E h => ?_) (fun cdv A outer s H vs Q E hr h => ?_)
  · obtain ⟨p, v, t, bs, p2, v2, t2, cs, x, rfl, _⟩ := h
    rfl
  · obtain ⟨p, v, t, bs, p2, v2, t2, cs, x, rfl, S, S2, h⟩ := h
    refine ⟨_, (pss_one (ps_ret (pe_callB (cr_sortedSL rfl) (by rfl) T.z_sorted (by decide +kernel) (pa_cons (pe_scI (own := [("first", 3), ("second", 4)]) (g := gTup K 2 (gCons (gName 3) (gCons (gName 4) (gNil)))) rfl sc_p_sums.nd (pi_list (pe_call (ok_p_pairs_of_rests T) (hr.mono (by decide)) (by rfl) T.g_p_pairs_of_rests T.F_p_pairs_of_rests.kp T.b_p_pairs_of_rests .nil (passes_call (takes_of rfl rfl rfl rfl) (fun _ _ _ _ h => h)) (pa_cons (pv 0) (pa_cons (pv 1) (pa_cons (pv 2) pa_nil))))) (blkOk_by (N := ["one", "other", "modulus", "first", "second"]) (sc := defScope s_p_sums) (by decide +kernel)) (fun _ _ _ _ _ => (pg_tup (by rfl) (pgs_cons (pg_name (i := 3) sc_p_sums.nd rfl (by first | exact .inl rfl | exact .inr rfl)) (pgs_cons (pg_name (i := 4) sc_p_sums.nd rfl (by first | exact .inl rfl | exact .inr rfl)) pgs_nil)))) (fun _ _ _ _ _ => pts_nil) (fun _ _ _ _ _ => (pe_op op_mod (pe_op op_add (pv 3) (pv 4)) (pv 2)))) pa_nil)))), ?_⟩
    rcases h with ⟨o, q⟩ | ⟨m, rfl, m1, m2, q⟩
    · exact ⟨_, rfl, _, rfl, _, rfl, p, v, t, bs, p2, v2, t2, cs, x, rfl, S, S2, .inl ⟨o, q⟩⟩
    · refine ⟨_, rfl, _, rfl, _, rfl, p, v, t, bs, p2, v2, t2, cs, _, rfl, S, S2, .inr ⟨m, rfl, m1, m2, fun D1 H1 xs s1 n1 e1 px => ?_⟩⟩
      have bnd : ∀ z ∈ prodL (restsL bs m) (restsL cs m), (0 ≤ z.1 ∧ z.1 < (m : Int)) ∧ 0 ≤ z.2 ∧ z.2 < (m : Int) := fun z hz => by
        obtain ⟨h1, h2⟩ := mem_prodL.mp hz
        obtain ⟨a1, a2, _⟩ := mem_restsL.mp h1
        obtain ⟨b1, b2, _⟩ := mem_restsL.mp h2
        exact ⟨⟨a1, a2⟩, b1, b2⟩
      have few : (prodL (restsL bs m) (restsL cs m)).length ≤ 40000 := by
        rw [prodL_len]
        exact Nat.mul_le_mul (Nat.le_trans (restsL_len bs m) m2) (Nat.le_trans (restsL_len cs m) m2)
      generalize prodL (restsL bs m) (restsL cs m) = ps at *
      have lx := px.len
      refine ⟨D1, rfl, ⟨_, lstOf e1⟩, fun D nD => ?_⟩
      refine scI_list (K := K) (a := D1) (xs := xs) (fun i Hi => ∃ l : List Int, l.Nodup ∧ (∀ k, k ∈ l ↔ k ∈ (ps.take i).map (sumM m)) ∧ Hi D = some (SetO w D (fun j => decide (j ∈ (ps.take i).map (sumM m))) l.length) ∧ Same H1 Hi)
        ⟨[], List.nodup_nil, fun k => Iff.rfl, by rw [upd_same]; exact congrArg some (congrArg (SetO w D · 0) (funext fun j => (decide_eq_false (by simp)).symm)), same_upd nD⟩ (fun i Hi _ ⟨_, _, _, _, si⟩ => lstOf (si _ _ e1)) ?_ ?_
      · rintro i y Hi hi ⟨l, nl, ml, ei, si⟩
        have il := (List.getElem?_eq_some_iff.mp hi).1
        have hz : ps[i]? = some ps[i] := List.getElem?_eq_getElem (by omega)
        generalize ps[i] = z at hz
        obtain ⟨u, rfl, tu⟩ := px.at_ i y z hi hz
        obtain ⟨⟨a1, a2⟩, b1, b2⟩ := bnd z (List.mem_of_getElem? hz)
        refine ⟨u, _, rfl, tupOf (si _ _ tu), rfl, _, _, rfl, _, _, rfl, rfl, rfl, ?_⟩
        refine ⟨_, rfl, _, rfl, _, _, rfl, rfl, ?_⟩
        refine ⟨_, rfl, _, _, rfl, rfl, by show (0 : Int) < (m : Int); omega, ?_⟩
        have hl : l.length ≤ m := len_range nl fun k hk => by
          obtain ⟨y, _, rfl⟩ := List.mem_map.mp ((ml k).mp hk)
          exact ⟨Int.emod_nonneg _ (by omega), Int.emod_lt_of_pos _ (by omega)⟩
        refine ⟨sumM m z, _, l.length, rfl, ei, Nat.lt_of_le_of_lt (show l.length + 1 ≤ 201 by omega) (by decide), (if sumM m z ∈ l then l else l ++ [sumM m z]), ?_, ?_, ?_, samePut si nD⟩
        · split
          · exact nl
          · rename_i q
            refine List.nodup_append.mpr ⟨nl, by simp, fun a ha b hb => ?_⟩
            rw [List.mem_singleton.mp hb]
            exact fun e => q (e ▸ ha)
        · intro k
          rw [takeSucc hz, List.map_append, List.mem_append, ← ml k, List.map_singleton, List.mem_singleton]
          split
          · rename_i q
            exact ⟨.inl, fun e => e.elim id fun e => e ▸ q⟩
          · rw [List.mem_append, List.mem_singleton]
        · have en : (if decide (sumM m z ∈ (ps.take i).map (sumM m)) = true then l.length else l.length + 1) = (if sumM m z ∈ l then l else l ++ [sumM m z]).length := by
            by_cases q : sumM m z ∈ l
            · rw [if_pos q, if_pos (decide_eq_true ((ml _).mp q))]
            · rw [if_neg q, if_neg (fun e => q ((ml _).mpr (of_decide_eq_true e))), List.length_append]
              rfl
          rw [upd_same, en, takeSucc hz, List.map_append]
          refine congrArg some (congrArg (SetO w D · _) (funext fun j => ?_))
          rw [← Bool.decide_or]
          exact decide_eq_decide.mpr (by rw [List.mem_append, List.map_singleton, List.mem_singleton])
      · rintro H2 ⟨l, nl, ml, e2, s2⟩
        have hl : l.length ≤ m := len_range nl fun k hk => by
          obtain ⟨y, _, rfl⟩ := List.mem_map.mp ((ml k).mp hk)
          exact ⟨Int.emod_nonneg _ (by omega), Int.emod_lt_of_pos _ (by omega)⟩
        rw [lx, List.take_length] at e2
        refine ⟨D, _, l.length, rfl, e2, by omega, fun ns F up mem _ nF => ?_⟩
        exact q ns F _ (s1.trans (samePut s2 (s2.free nF))) ((s1.trans s2).free nF) up (fun k => by rw [mem, decide_eq_true_iff]) upd_same
theorem ok_p_products (T : Txt K mg) : FnOk P w K mg base (L2.CX P w) 7 T.f_p_products T.fd_p_products ["one", "other", "modulus"] (sp_p_products K T.C T.C_BadModulus) := by
  refine T.F_p_products.okX sc_p_products (fun vs H Q E h => ?_) (fun cdv A outer s H vs Q E hr h => ?_)
  · obtain ⟨p, v, t, bs, p2, v2, t2, cs, x, rfl, _⟩ := h
    rfl
  · obtain ⟨p, v, t, bs, p2, v2, t2, cs, x, rfl, S, S2, h⟩ := h
    refine ⟨_, (pss_one (ps_ret (pe_callB (cr_sortedSL rfl) (by rfl) T.z_sorted (by decide +kernel) (pa_cons (pe_scI (own := [("first", 3), ("second", 4)]) (g := gTup K 2 (gCons (gName 3) (gCons (gName 4) (gNil)))) rfl sc_p_products.nd (pi_list (pe_call (ok_p_pairs_of_rests T) (hr.mono (by decide)) (by rfl) T.g_p_pairs_of_rests T.F_p_pairs_of_rests.kp T.b_p_pairs_of_rests .nil (passes_call (takes_of rfl rfl rfl rfl) (fun _ _ _ _ h => h)) (pa_cons (pv 0) (pa_cons (pv 1) (pa_cons (pv 2) pa_nil))))) (blkOk_by (N := ["one", "other", "modulus", "first", "second"]) (sc := defScope s_p_products) (by decide +kernel)) (fun _ _ _ _ _ => (pg_tup (by rfl) (pgs_cons (pg_name (i := 3) sc_p_products.nd rfl (by first | exact .inl rfl | exact .inr rfl)) (pgs_cons (pg_name (i := 4) sc_p_products.nd rfl (by first | exact .inl rfl | exact .inr rfl)) pgs_nil)))) (fun _ _ _ _ _ => pts_nil) (fun _ _ _ _ _ => (pe_op op_mod (pe_op op_mulW (pv 3) (pv 4)) (pv 2)))) pa_nil)))), ?_⟩
    rcases h with ⟨o, q⟩ | ⟨m, rfl, m1, m2, q⟩
    · exact ⟨_, rfl, _, rfl, _, rfl, p, v, t, bs, p2, v2, t2, cs, x, rfl, S, S2, .inl ⟨o, q⟩⟩
    · refine ⟨_, rfl, _, rfl, _, rfl, p, v, t, bs, p2, v2, t2, cs, _, rfl, S, S2, .inr ⟨m, rfl, m1, m2, fun D1 H1 xs s1 n1 e1 px => ?_⟩⟩
      have bnd : ∀ z ∈ prodL (restsL bs m) (restsL cs m), (0 ≤ z.1 ∧ z.1 < (m : Int)) ∧ 0 ≤ z.2 ∧ z.2 < (m : Int) := fun z hz => by
        obtain ⟨h1, h2⟩ := mem_prodL.mp hz
        obtain ⟨a1, a2, _⟩ := mem_restsL.mp h1
        obtain ⟨b1, b2, _⟩ := mem_restsL.mp h2
        exact ⟨⟨a1, a2⟩, b1, b2⟩
      have few : (prodL (restsL bs m) (restsL cs m)).length ≤ 40000 := by
        rw [prodL_len]
        exact Nat.mul_le_mul (Nat.le_trans (restsL_len bs m) m2) (Nat.le_trans (restsL_len cs m) m2)
      generalize prodL (restsL bs m) (restsL cs m) = ps at *
      have lx := px.len
      refine ⟨D1, rfl, ⟨_, lstOf e1⟩, fun D nD => ?_⟩
      refine scI_list (K := K) (a := D1) (xs := xs) (fun i Hi => ∃ l : List Int, l.Nodup ∧ (∀ k, k ∈ l ↔ k ∈ (ps.take i).map (mulM m)) ∧ Hi D = some (SetO w D (fun j => decide (j ∈ (ps.take i).map (mulM m))) l.length) ∧ Same H1 Hi)
        ⟨[], List.nodup_nil, fun k => Iff.rfl, by rw [upd_same]; exact congrArg some (congrArg (SetO w D · 0) (funext fun j => (decide_eq_false (by simp)).symm)), same_upd nD⟩ (fun i Hi _ ⟨_, _, _, _, si⟩ => lstOf (si _ _ e1)) ?_ ?_
      · rintro i y Hi hi ⟨l, nl, ml, ei, si⟩
        have il := (List.getElem?_eq_some_iff.mp hi).1
        have hz : ps[i]? = some ps[i] := List.getElem?_eq_getElem (by omega)
        generalize ps[i] = z at hz
        obtain ⟨u, rfl, tu⟩ := px.at_ i y z hi hz
        obtain ⟨⟨a1, a2⟩, b1, b2⟩ := bnd z (List.mem_of_getElem? hz)
        refine ⟨u, _, rfl, tupOf (si _ _ tu), rfl, _, _, rfl, _, _, rfl, rfl, rfl, ?_⟩
        refine ⟨_, rfl, _, rfl, _, _, rfl, rfl, wide_mul (a := 22) (b := 22) (by omega) (by omega) (by decide) (by decide) (by decide), ?_⟩
        refine ⟨_, rfl, _, _, rfl, rfl, by show (0 : Int) < (m : Int); omega, ?_⟩
        have hl : l.length ≤ m := len_range nl fun k hk => by
          obtain ⟨y, _, rfl⟩ := List.mem_map.mp ((ml k).mp hk)
          exact ⟨Int.emod_nonneg _ (by omega), Int.emod_lt_of_pos _ (by omega)⟩
        refine ⟨mulM m z, _, l.length, rfl, ei, Nat.lt_of_le_of_lt (show l.length + 1 ≤ 201 by omega) (by decide), (if mulM m z ∈ l then l else l ++ [mulM m z]), ?_, ?_, ?_, samePut si nD⟩
        · split
          · exact nl
          · rename_i q
            refine List.nodup_append.mpr ⟨nl, by simp, fun a ha b hb => ?_⟩
            rw [List.mem_singleton.mp hb]
            exact fun e => q (e ▸ ha)
        · intro k
          rw [takeSucc hz, List.map_append, List.mem_append, ← ml k, List.map_singleton, List.mem_singleton]
          split
          · rename_i q
            exact ⟨.inl, fun e => e.elim id fun e => e ▸ q⟩
          · rw [List.mem_append, List.mem_singleton]
        · have en : (if decide (mulM m z ∈ (ps.take i).map (mulM m)) = true then l.length else l.length + 1) = (if mulM m z ∈ l then l else l ++ [mulM m z]).length := by
            by_cases q : mulM m z ∈ l
            · rw [if_pos q, if_pos (decide_eq_true ((ml _).mp q))]
            · rw [if_neg q, if_neg (fun e => q ((ml _).mpr (of_decide_eq_true e))), List.length_append]
              rfl
          rw [upd_same, en, takeSucc hz, List.map_append]
          refine congrArg some (congrArg (SetO w D · _) (funext fun j => ?_))
          rw [← Bool.decide_or]
          exact decide_eq_decide.mpr (by rw [List.mem_append, List.map_singleton, List.mem_singleton])
      · rintro H2 ⟨l, nl, ml, e2, s2⟩
        have hl : l.length ≤ m := len_range nl fun k hk => by
          obtain ⟨y, _, rfl⟩ := List.mem_map.mp ((ml k).mp hk)
          exact ⟨Int.emod_nonneg _ (by omega), Int.emod_lt_of_pos _ (by omega)⟩
        rw [lx, List.take_length] at e2
        refine ⟨D, _, l.length, rfl, e2, by omega, fun ns F up mem _ nF => ?_⟩
        exact q ns F _ (s1.trans (samePut s2 (s2.free nF))) ((s1.trans s2).free nF) up (fun k => by rw [mem, decide_eq_true_iff]) upd_same
end

end R
namespace R
open PySem PySem.Spec PyProof.Rows L2
def sp_p_check_some (K : PySem.W.Frag) (C B : Addr) : Sp := fun vs H Q E => ∃ (p : Addr) (v : V) (t : Addr) (bs : List Bar), vs = [.ref p] ∧ SvAt K C H p v t bs ∧
  ((cls bs ≠ [] ∧ ∀ H', Same H H' → Q .non H') ∨ (cls bs = [] ∧ ∀ H', Same H H' → E (.ref B) none H'))
section
variable {P : Program} {w : World} {K : PySem.W.Frag} {mg : Str → Option Value} {base : Heap}
theorem ok_p_check_some (T : Txt K mg) : FnOk P w K mg base (L2.CX P w) 4 T.f_p_check_some T.fd_p_check_some ["sieve"] (sp_p_check_some K T.C T.C_Nothing) := by
  refine T.F_p_check_some.okX sc_p_check_some (fun vs H Q E h => ?_) (fun cdv A outer s H vs Q E hr h => ?_)
  · obtain ⟨p, v, t, bs, rfl, _⟩ := h
    rfl
  · obtain ⟨p, v, t, bs, rfl, S, h⟩ := h
    refine ⟨_, (pss_one (ps_if (pt_cmpR (op_eqD hr.units) (pe_prop (pv 0) T.cl T.pp_classes (ok_m_Sieve_classes T) (hr.mono (by decide)) T.b_m_Sieve_classes .nil pass0 (by rfl)) (pe_tup pa_nil) (nomark _)) (pss_one (ps_raise rfl (takes_of rfl rfl rfl rfl) (pmk_own PySem.F.excBase_ValueError T.x_Nothing T.g_Nothing T.k_Nothing (raises_own T.b_Nothing T.t_Nothing) (by rfl)))) pss_nil)), ?_⟩
    refine ⟨_, rfl, p, _, _, rfl, S.ob.choose_spec, p, v, t, bs, rfl, S, sizeOk (by show (0 : Nat) ≤ 100000; decide), fun d nd => ?_⟩
    have s1 : Same H (upd H d (.tup [])) := same_upd nd
    refine ⟨_, _, dpTup (Same.seqTT s1 S.cls), .tup (tupOf upd_same) .nil, (okD.tup (okInts _)).shaped (by decide), by decide, _, rfl, ?_⟩
    rw [eqvNilT]
    rcases h with ⟨h, q⟩ | ⟨h, q⟩
    · rw [decide_eq_false h]
      exact iteF (q _ s1)
    · rw [decide_eq_true h]
      exact iteT (q _ s1)
end

end R
namespace R
open PySem PySem.Spec PyProof.Rows L2
/-! ## rows of bars cut and joined -/
theorem cutTake (xs : List V) {i : Nat} (h : i ≤ xs.length) : cutV xs none (some (i : Int)) = xs.take i := by
  unfold cutV
  rw [HT.sIx_none, HT.sIx_nat, List.drop_zero, Nat.sub_zero, Nat.min_eq_left h]
theorem cutDrop (xs : List V) {i : Nat} (h : i ≤ xs.length) : cutV xs (some (i : Int)) none = xs.drop i := by
  unfold cutV
  rw [HT.sIx_none, HT.sIx_nat, Nat.min_eq_left h, List.take_of_length_le (by rw [List.length_drop]; exact Nat.le_refl _)]
theorem cutTake' (xs : List V) (i : Nat) : cutV xs none (some (i : Int)) = xs.take i := by
  unfold cutV
  rw [HT.sIx_none, HT.sIx_nat, List.drop_zero, Nat.sub_zero, ← List.take_take, List.take_length]
theorem barsTake' {K : PySem.W.Frag} {H : Hp} {v : V} {bs : List Bar} {i : Nat} {Q : V → Hp → Prop} (B : BarsAt K H v bs) (q : ∀ y H', Same H H' → BarsAt K H' y (bs.take i) → Q y H') : rSlA K v none (some (i : Int)) H Q := by
  obtain ⟨a, xs, rfl, tb, nb, hb⟩ := B.ex
  refine ⟨a, xs, rfl, tb, fun h => ?_, fun _ p np => ?_⟩
  · have h2 := h.2
    rw [HT.sIx_nat] at h2
    have e : bs.take i = bs := List.take_of_length_le (by omega)
    exact q _ _ (Same.refl _) (by rw [e]; exact B)
  · refine q _ _ (same_upd np) ?_
    rw [cutTake' xs i]
    refine ⟨p, _, rfl, tupOf upd_same, by rw [List.length_take, List.length_take, nb], fun j x b h1 h2 => ?_⟩
    rw [List.getElem?_take] at h1 h2
    by_cases hj : j < i
    · rw [if_pos hj] at h1 h2
      exact (hb j x b h1 h2).stay (.same (same_upd np))
    · rw [if_neg hj] at h1
      cases h1
theorem barsTake {K : PySem.W.Frag} {H : Hp} {v : V} {bs : List Bar} {i : Nat} {Q : V → Hp → Prop} (B : BarsAt K H v bs) (_ : i ≤ bs.length) (q : ∀ y H', Same H H' → BarsAt K H' y (bs.take i) → Q y H') : rSlA K v none (some (i : Int)) H Q := barsTake' B q
theorem barsDrop {K : PySem.W.Frag} {H : Hp} {v : V} {bs : List Bar} {i : Nat} {Q : V → Hp → Prop} (B : BarsAt K H v bs) (hi : i ≤ bs.length) (q : ∀ y H', Same H H' → BarsAt K H' y (bs.drop i) → Q y H') : rSlA K v (some (i : Int)) none H Q := by
  obtain ⟨a, xs, rfl, tb, nb, hb⟩ := B.ex
  refine ⟨a, xs, rfl, tb, fun h => ?_, fun _ p np => ?_⟩
  · have h1 := h.1
    rw [HT.sIx_nat] at h1
    by_cases z : i = 0
    · subst z
      exact q _ _ (Same.refl _) B
    · have e : bs = [] := List.length_eq_zero_iff.mp (by omega)
      subst e
      rw [List.drop_nil] at q
      exact q _ _ (Same.refl _) B
  · refine q _ _ (same_upd np) ?_
    rw [cutDrop xs (by omega)]
    refine ⟨p, _, rfl, tupOf upd_same, by rw [List.length_drop, List.length_drop, nb], fun j x b h1 h2 => ?_⟩
    rw [List.getElem?_drop] at h1 h2
    exact (hb _ x b h1 h2).stay (.same (same_upd np))
theorem catBars {K : PySem.W.Frag} {H : Hp} {v u : V} {bs cs : List Bar} {Q : V → Hp → Prop} (B : BarsAt K H v bs) (C : BarsAt K H u cs) (few : bs.length + cs.length ≤ 1000) (q : ∀ y H', Same H H' → BarsAt K H' y (bs ++ cs) → Q y H') : rCatA K v u H Q := by
  obtain ⟨a, xs, rfl, tb, nb, hb⟩ := B.ex
  obtain ⟨c, ys, rfl, tc, nc, hc⟩ := C.ex
  refine ⟨a, c, xs, ys, rfl, rfl, tb, tc, sizeOk (by omega), fun e => ?_, fun _ e => ?_, fun _ _ p np => ?_⟩
  · subst e
    have e2 : bs = [] := List.length_eq_zero_iff.mp nb.symm
    subst e2
    exact q _ _ (Same.refl _) C
  · subst e
    have e2 : cs = [] := List.length_eq_zero_iff.mp nc.symm
    subst e2
    rw [List.append_nil] at q
    exact q _ _ (Same.refl _) B
  · refine q _ _ (same_upd np) ⟨p, _, rfl, tupOf upd_same, by rw [List.length_append, List.length_append, nb, nc], fun j x b h1 h2 => ?_⟩
    by_cases hj : j < xs.length
    · rw [List.getElem?_append_left hj] at h1
      rw [List.getElem?_append_left (by omega)] at h2
      exact (hb j x b h1 h2).stay (.same (same_upd np))
    · rw [List.getElem?_append_right (by omega)] at h1
      rw [List.getElem?_append_right (by omega), ← nb] at h2
      exact (hc _ x b h1 h2).stay (.same (same_upd np))
/-- (a bar,) -/
theorem oneBar {K : PySem.W.Frag} {H : Hp} {p : Addr} {x : V} {b : Bar} (t : SqT K H p [x]) (h : BarAt K H x b) : BarsAt K H (.ref p) [b] :=
  ⟨p, [x], rfl, t, rfl, fun j y c h1 h2 => by
    cases j with
    | zero =>
      cases Option.some.inj h1
      cases Option.some.inj h2
      exact h
    | succ j => simp at h1⟩
theorem choices_app (xs : List Bar) : ∀ ys : List Bar, choices (xs ++ ys) = choices xs * choices ys := by
  refine snocInd (by rw [List.append_nil]; exact (Nat.mul_one _).symm) fun ys b ih => ?_
  rw [← List.append_assoc, choices_add, choices_add, ih, Nat.mul_assoc]
theorem choices_pos : ∀ ys : List Bar, 1 ≤ choices ys := by
  refine snocInd (Nat.le_refl _) fun ys b ih => ?_
  rw [choices_add]
  exact Nat.mul_le_mul ih (show 1 ≤ max 1 b.2.length by omega)
theorem wh_app (xs : List Bar) : ∀ ys : List Bar, wh (xs ++ ys) = Nat.lcm (wh xs) (wh ys) := by
  refine snocInd (by rw [List.append_nil]; exact (Nat.lcm_one_right _).symm) fun ys b ih => ?_
  rw [← List.append_assoc, wh_add, wh_add, ih, Nat.lcm_assoc]
theorem cutAt {bs : List Bar} {i : Nat} {b : Bar} (h : bs[i]? = some b) : bs = bs.take i ++ [b] ++ bs.drop (i + 1) := by
  obtain ⟨h1, h2⟩ := List.getElem?_eq_some_iff.mp h
  rw [← takeSucc h, List.take_append_drop]
theorem wh_out {xs ys : List Bar} {b : Bar} : wh (xs ++ ys) ∣ wh (xs ++ [b] ++ ys) := by
  rw [wh_app, wh_app, wh_app]
  exact Nat.lcm_dvd (Nat.dvd_trans (Nat.dvd_lcm_left _ _) (Nat.dvd_lcm_left _ _)) (Nat.dvd_lcm_right _ _)
/-- a bar left out -/
theorem SvOk.less {xs ys : List Bar} {b : Bar} (S : SvOk (xs ++ [b] ++ ys)) : SvOk (xs ++ ys) := by
  have hp : 0 < wh (xs ++ [b] ++ ys) := wh_pos _ fun c hc => (S.bar c hc).pos
  refine ⟨?_, fun c hc => S.bar c ?_, Nat.le_trans (Nat.le_of_dvd hp wh_out) S.great, ?_⟩
  · have := S.six
    rw [List.length_append, List.length_append] at this
    rw [List.length_append]
    omega
  · rcases List.mem_append.mp hc with h | h
    · exact List.mem_append_left _ (List.mem_append_left _ h)
    · exact List.mem_append_right _ h
  · have := S.many
    rw [choices_app, choices_app] at this
    rw [choices_app]
    have h1 : choices [b] = max 1 b.2.length := by
      show 1 * max 1 b.2.length = _
      rw [Nat.one_mul]
    have h2 := choices_pos xs
    refine Nat.le_trans (Nat.mul_le_mul_right _ ?_) this
    exact Nat.le_mul_of_pos_right _ (choices_pos [b])
/-- a bar with fewer rests in its place -/
theorem SvOk.swap {xs ys : List Bar} {b c : Bar} (S : SvOk (xs ++ [b] ++ ys)) (e : c.1 = b.1) (o : BarOk c) (l : c.2.length ≤ b.2.length) : SvOk (xs ++ [c] ++ ys) := by
  refine ⟨?_, fun d hd => ?_, ?_, ?_⟩
  · have := S.six
    rw [List.length_append, List.length_append] at this ⊢
    exact this
  · rcases List.mem_append.mp hd with h | h
    · rcases List.mem_append.mp h with h | h
      · exact S.bar d (List.mem_append_left _ (List.mem_append_left _ h))
      · rw [List.mem_singleton.mp h]
        exact o
    · exact S.bar d (List.mem_append_right _ h)
  · have := S.great
    rw [wh_app, wh_add] at this ⊢
    rw [e]
    exact this
  · have := S.many
    rw [choices_app, choices_add] at this ⊢
    exact Nat.le_trans (Nat.mul_le_mul_right _ (Nat.mul_le_mul_left _ (show max 1 c.2.length ≤ max 1 b.2.length by omega))) this
theorem LotOk.len {m : Int} {l : List Int} (h : LotOk m l) : l.length ≤ m.toNat := by
  have := nodup_len (ys := (List.range m.toNat).map fun i : Nat => (i : Int)) (h.up.imp fun {a b} (lt : a < b) => Int.ne_of_lt lt) fun x hx => by
    have h1 := h.ge x hx
    have h2 := h.lt x hx
    exact List.mem_map.mpr ⟨x.toNat, List.mem_range.mpr (by omega), by omega⟩
  rwa [List.length_map, List.length_range] at this
theorem choicesPow {N : Nat} : ∀ bs : List Bar, (∀ b ∈ bs, max 1 b.2.length ≤ N) → choices bs ≤ N ^ bs.length := by
  refine snocInd (fun _ => by rw [List.length_nil, Nat.pow_zero]; decide) fun bs b ih h => ?_
  rw [choices_add, List.length_append]
  exact Nat.mul_le_mul (ih fun c hc => h c (List.mem_append_left _ hc)) (h b (List.mem_append_right _ (List.mem_singleton.mpr rfl)))

end R
namespace R
open PySem PySem.Spec PyProof.Rows L2
/-! ## a bar that all fitting numbers keep to -/
def agC (g : Int) (lot : List Int) (n : Nat) (k : Int) : Nat := ((lot.take n).filter fun r => decide (r % g = k)).length
theorem agC_succ {g k x : Int} {lot : List Int} {n : Nat} (h : lot[n]? = some x) : agC g lot (n + 1) k = agC g lot n k + (if x % g = k then 1 else 0) := by
  unfold agC
  rw [takeSucc h, List.filter_append, List.length_append]
  congr 1
  by_cases e : x % g = k
  · rw [if_pos e, show List.filter (fun r => decide (r % g = k)) [x] = [x] from List.filter_cons_of_pos (decide_eq_true e)]
    rfl
  · rw [if_neg e, show List.filter (fun r => decide (r % g = k)) [x] = [] from List.filter_cons_of_neg (by rw [decide_eq_false e]; simp)]
    rfl
theorem agC_le (g k : Int) (lot : List Int) (n : Nat) : agC g lot n k ≤ lot.length := by
  unfold agC
  refine Nat.le_trans (List.length_filter_le _ _) ?_
  rw [List.length_take]
  omega
/-- the dict tells f, 0 where it has no key -/
def Tells (kvs : List (L2.Key × V)) (f : Int → Nat) : Prop := ∀ k : Int, (valV kvs (Sum.inl k)).getD (V.int 0) = V.int (f k : Nat)
theorem Tells.nil {g : Int} {lot : List Int} : Tells [] (agC g lot 0) := fun k => by
  rw [valV_nil]
  rfl
theorem Tells.put {kvs : List (L2.Key × V)} {g x : Int} {lot : List Int} {n : Nat} (h : Tells kvs (agC g lot n)) (hx : lot[n]? = some x) :
    Tells (putK kvs (Sum.inl (x % g)) (.int ((agC g lot n (x % g) : Nat) + 1))) (agC g lot (n + 1)) := fun k => by
  rw [valV_put, agC_succ hx]
  by_cases e : x % g = k
  · subst e
    rw [if_pos rfl, if_pos rfl]
    rfl
  · rw [if_neg (fun z => e (Sum.inl.inj z).symm), if_neg e]
    exact h k
def keepsB (bs : List Bar) (b : Bar) : Bool := (cls bs).all fun c => decide (agC ((Nat.gcd (wh bs) b.1.natAbs : Nat) : Int) b.2 b.2.length (c % ((Nat.gcd (wh bs) b.1.natAbs : Nat) : Int)) = b.1.natAbs / Nat.gcd (wh bs) b.1.natAbs)
theorem nodup_in {xs ys : List Int} (h : xs.Nodup) (sub : ∀ x ∈ xs, x ∈ ys) (len : ys.length ≤ xs.length) : ∀ y ∈ ys, y ∈ xs := fun y hy => by
  by_cases m : y ∈ xs
  · exact m
  · have := nodup_len (xs := y :: xs) (List.nodup_cons.mpr ⟨m, h⟩) (ys := ys) fun z hz => by
      rcases List.mem_cons.mp hz with rfl | hz
      · exact hy
      · exact sub z hz
    have e : (y :: xs).length = xs.length + 1 := rfl
    omega
theorem keeps_iff {bs : List Bar} {b : Bar} (hp : 0 < wh bs) (o : BarOk b) : keepsB bs b = true ↔ ∀ x, fitsB bs x = true → x % b.1 ∈ b.2 := by
  obtain ⟨m, hm⟩ : ∃ m : Nat, b.1 = (m : Int) := ⟨b.1.toNat, by have := o.pos; omega⟩
  have m1 : 0 < m := by have := o.pos; omega
  have lo := o.lot
  unfold keepsB
  rw [hm, Int.natAbs_natCast] at *
  have g0 : 0 < Nat.gcd (wh bs) m := Nat.gcd_pos_of_pos_left _ hp
  have dg : Nat.gcd (wh bs) m ∣ m := Nat.gcd_dvd_right _ _
  have dw : Nat.gcd (wh bs) m ∣ wh bs := Nat.gcd_dvd_left _ _
  have ew : Nat.gcd (wh bs) m * (m / Nat.gcd (wh bs) m) = m := Nat.mul_div_cancel' dg
  have nd : b.2.Nodup := lo.up.imp fun {a b} (lt : a < b) => Int.ne_of_lt lt
  -- all the rests that agree
  have full : ∀ k : Int, 0 ≤ k → k < (Nat.gcd (wh bs) m : Nat) → ∃ ys : List Int, ys.Nodup ∧ ys.length = m / Nat.gcd (wh bs) m ∧ ∀ r, r ∈ ys ↔ 0 ≤ r ∧ r < (m : Int) ∧ r % ((Nat.gcd (wh bs) m : Nat) : Int) = k := by
    intro k k0 k1
    generalize Nat.gcd (wh bs) m = g at *
    generalize m / g = q at *
    refine ⟨(List.range q).map fun j : Nat => k + (g : Int) * (j : Int), ?_, by rw [List.length_map, List.length_range], fun r => ?_⟩
    · unfold List.Nodup
      rw [List.pairwise_map]
      refine List.pairwise_lt_range.imp fun {a b} lt e => ?_
      have : (g : Int) * (a : Int) = (g : Int) * (b : Int) := by omega
      have := Int.eq_of_mul_eq_mul_left (by omega) this
      omega
    · rw [List.mem_map]
      constructor
      · rintro ⟨j, hj, rfl⟩
        have hj' := List.mem_range.mp hj
        have h1 : (g : Int) * ((j : Int) + 1) ≤ (g : Int) * (q : Int) := Int.mul_le_mul_of_nonneg_left (by omega) (by omega)
        have h2 : (g : Int) * (q : Int) = (m : Int) := by rw [← Int.natCast_mul, ew]
        have h3 : 0 ≤ (g : Int) * (j : Int) := Int.mul_nonneg (by omega) (by omega)
        rw [Int.mul_add, Int.mul_one] at h1
        refine ⟨by omega, by omega, ?_⟩
        rw [Int.add_mul_emod_self_left]
        exact Int.emod_eq_of_lt k0 k1
      · rintro ⟨r0, r1, rk⟩
        have e := Int.emod_add_mul_ediv r (g : Int)
        rw [rk] at e
        have d0 : 0 ≤ r / (g : Int) := Int.ediv_nonneg r0 (by omega)
        have d1 : r / (g : Int) < (q : Int) := by
          refine Int.ediv_lt_of_lt_mul (by omega) ?_
          rw [Int.mul_comm, ← Int.natCast_mul, ew]
          exact r1
        exact ⟨(r / (g : Int)).toNat, List.mem_range.mpr (by omega), by rw [Int.toNat_of_nonneg d0]; exact e⟩
  have agk : ∀ k : Int, agC ((Nat.gcd (wh bs) m : Nat) : Int) b.2 b.2.length k = (b.2.filter fun r => decide (r % ((Nat.gcd (wh bs) m : Nat) : Int) = k)).length := fun k => by
    unfold agC
    rw [List.take_length]
  rw [List.all_eq_true]
  constructor
  · intro h x fx
    have hc := h _ (emod_cls hp fx)
    rw [decide_eq_true_iff, agk] at hc
    have k0 := Int.emod_nonneg (x % (wh bs : Int)) (show ((Nat.gcd (wh bs) m : Nat) : Int) ≠ 0 by omega)
    have k1 := Int.emod_lt_of_pos (x % (wh bs : Int)) (show (0 : Int) < (Nat.gcd (wh bs) m : Nat) by omega)
    obtain ⟨ys, _, yl, ym⟩ := full _ k0 k1
    have inn := nodup_in (nd.filter _) (ys := ys) (fun r hr => by
      obtain ⟨h1, h2⟩ := List.mem_filter.mp hr
      exact (ym r).mpr ⟨lo.ge r h1, lo.lt r h1, of_decide_eq_true h2⟩) (by rw [yl, hc]; exact Nat.le_refl _)
    have xm : x % (m : Int) ∈ ys := (ym _).mpr ⟨Int.emod_nonneg _ (by omega), Int.emod_lt_of_pos _ (by omega), by
      rw [Int.emod_emod_of_dvd x (Int.natCast_dvd_natCast.mpr dg), Int.emod_emod_of_dvd x (Int.natCast_dvd_natCast.mpr dw)]⟩
    exact (List.mem_filter.mp (inn _ xm)).1
  · intro h c hc
    obtain ⟨c0, c1, fc⟩ := cls_mem.mp hc
    rw [decide_eq_true_iff, agk]
    have k0 := Int.emod_nonneg c (show ((Nat.gcd (wh bs) m : Nat) : Int) ≠ 0 by omega)
    have k1 := Int.emod_lt_of_pos c (show (0 : Int) < (Nat.gcd (wh bs) m : Nat) by omega)
    obtain ⟨ys, yn, yl, ym⟩ := full _ k0 k1
    rw [← yl]
    refine Nat.le_antisymm (nodup_len (nd.filter _) fun r hr => ?_) (nodup_len yn fun r hr => ?_)
    · obtain ⟨h1, h2⟩ := List.mem_filter.mp hr
      exact (ym r).mpr ⟨lo.ge r h1, lo.lt r h1, of_decide_eq_true h2⟩
    · obtain ⟨r0, r1, rk⟩ := (ym r).mp hr
      obtain ⟨x, x0, x1, xw, xm⟩ := crt hp m1 (a := c) (r := r) (Int.dvd_of_emod_eq_zero (Int.emod_eq_emod_iff_emod_sub_eq_zero.mp rk))
      have fx : fitsB bs x = true := by
        rw [← fitsB_mod, xw, fitsB_mod]
        exact fc
      have := h x fx
      rw [xm, Int.emod_eq_of_lt r0 r1] at this
      exact List.mem_filter.mpr ⟨this, decide_eq_true rk⟩
def withinB (bs cs : List Bar) : Bool := cs.all (keepsB bs)
theorem within_iff {bs cs : List Bar} (hp : 0 < wh bs) (o : ∀ b ∈ cs, BarOk b) : withinB bs cs = true ↔ ∀ x, fitsB bs x = true → fitsB cs x = true := by
  unfold withinB fitsB
  rw [List.all_eq_true]
  constructor
  · intro h x fx
    rw [List.all_eq_true]
    exact fun b hb => decide_eq_true ((keeps_iff hp (o b hb)).mp (h b hb) x fx)
  · intro h b hb
    refine (keeps_iff hp (o b hb)).mpr fun x fx => ?_
    have := h x fx
    rw [List.all_eq_true] at this
    exact of_decide_eq_true (this b hb)
def sp_p_keeps_to (K : PySem.W.Frag) (C : Addr) : Sp := fun vs H Q _ => ∃ (p : Addr) (v : V) (t : Addr) (bs : List Bar) (x : V) (b : Bar), vs = [.ref p, x] ∧ SvAt K C H p v t bs ∧ BarAt K H x b ∧ BarOk b ∧ ∀ H', Same H H' → Q (.bl (keepsB bs b)) H'
def sp_two (K : PySem.W.Frag) (C : Addr) (f : List Bar → List Bar → Bool) : Sp := fun vs H Q _ => ∃ (p : Addr) (v : V) (t : Addr) (bs : List Bar) (p2 : Addr) (v2 : V) (t2 : Addr) (cs : List Bar), vs = [.ref p, .ref p2] ∧ SvAt K C H p v t bs ∧ SvAt K C H p2 v2 t2 cs ∧
  ∀ H', Same H H' → Q (.bl (f bs cs)) H'
section
variable {P : Program} {w : World} {K : PySem.W.Frag} {mg : Str → Option Value} {base : Heap}
theorem ok_p_keeps_to (T : Txt K mg) : FnOk P w K mg base CX0 4 T.f_p_keeps_to T.fd_p_keeps_to ["sieve", "bar"] (sp_p_keeps_to K T.C) := by
  refine T.F_p_keeps_to.ok sc_p_keeps_to (fun vs H Q E h => ?_) (fun cdv A outer s H vs Q E hr h => ?_)
  · obtain ⟨p, v, t, bs, x, b, rfl, _⟩ := h
    rfl
  · obtain ⟨p, v, t, bs, x, b, rfl, S, B, o, q⟩ := h
    refine ⟨_, (pss_cons (ps_asg (pv 1) (pg_tup (by rfl) (pgs_cons (pg_name (i := 2) sc_p_keeps_to.nd rfl (by first | exact .inl rfl | exact .inr rfl)) (pgs_cons (pg_name (i := 3) sc_p_keeps_to.nd rfl (by first | exact .inl rfl | exact .inr rfl)) pgs_nil))))
      (pss_cons (ps_set (i := 4) sc_p_keeps_to.nd rfl (by first | exact .inl rfl | exact .inr rfl) (pe_callBfun cr_gcd (by rfl) T.g_gcd (pa_cons (pe_prop (pv 0) T.cl T.pp_whole (ok_m_Sieve_whole T) (hr.mono (by decide)) T.b_m_Sieve_whole .nil pass0 (by rfl)) (pa_cons (pv 2) pa_nil))))
      (pss_cons (ps_set (i := 5) sc_p_keeps_to.nd rfl (by first | exact .inl rfl | exact .inr rfl) pe_dnewK)
      (pss_cons (ps_for PassesOwn.never rfl (pi_tup (pv 3)) (pg_name (i := 6) sc_p_keeps_to.nd rfl (by first | exact .inl rfl | exact .inr rfl)) (pss_one (ps_asg (pe_op op_add (pe_dget2 (hu_of hr) (pv 5) (pe_op op_mod (pv 6) (pv 4)) pe_int ⟨by rfl, by rfl, by rfl, by rfl⟩) pe_int) (pg_sub (pv 5) (pe_op op_mod (pv 6) (pv 4)) (set_dict (hu_of hr))))))
      (pss_cons (ps_set (i := 7) sc_p_keeps_to.nd rfl (by first | exact .inl rfl | exact .inr rfl) (pe_op op_fdivW (pv 2) (pv 4)))
      (pss_one (ps_ret (pe_callB (cr_all rfl) (by rfl) T.z_all (by decide +kernel) (pa_cons (pe_lc (own := [("number", 8)]) rfl sc_p_keeps_to.nd (pi_tup (pe_prop (pv 0) T.cl T.pp_classes (ok_m_Sieve_classes T) (hr.mono (by decide)) T.b_m_Sieve_classes .nil pass0 (by rfl))) (blkOk_by (N := ["sieve", "bar", "modulus", "lot", "common", "agreeing", "rest", "needed", "number"]) (sc := defScope s_p_keeps_to) (by decide +kernel)) (fun _ _ _ _ _ => (pg_name (i := 8) sc_p_keeps_to.nd rfl (by first | exact .inl rfl | exact .inr rfl))) (fun _ _ _ _ _ => pts_nil) (fun _ _ _ _ _ => (pe_cmpR op_eq (pe_dget2 (hu_of hr) (pv 5) (pe_op op_mod (pv 8) (pv 4)) pe_int ⟨by rfl, by rfl, by rfl, by rfl⟩) (pv 7) (nomark _)))) pa_nil))))))))), ?_⟩
    obtain ⟨pb, lv, rfl, tp, ⟨lc, rfl, tc⟩⟩ := B.ex
    have b1 := o.pos
    have b2 := o.most
    have b60 := o.lot.few
    have hp := S.ok.mods.pos
    have hw := S.ok.mods.lt
    have g0 : 0 < Nat.gcd (wh bs) b.1.natAbs := Nat.gcd_pos_of_pos_left _ hp
    have few := choices_cls S.ok
    refine ⟨_, rfl, pb, _, rfl, tp, rfl, _, _, rfl, _, _, rfl, rfl, ?_⟩
    refine ⟨_, rfl, p, _, _, rfl, S.ob.choose_spec, p, v, t, bs, rfl, S, _, rfl, _, _, rfl, ?_⟩
    rw [Int.natAbs_natCast]
    obtain ⟨g, hg⟩ : ∃ g : Nat, g = Nat.gcd (wh bs) b.1.natAbs := ⟨_, rfl⟩
    have gl : g ≤ b.1.natAbs := by rw [hg]; exact Nat.gcd_le_right _ (by omega)
    rw [← hg] at g0 ⊢
    refine fun D nD => ?_
    have hmod : b.1 = ((b.1.natAbs : Nat) : Int) := by omega
    have s0 := same_upd nD (o := .dK [])
    refine ⟨_, rfl, lc, rfl, ⟨_, Same.seqTT s0 tc⟩, for_tup (K := K) (a := lc) (xs := b.2.map V.int) (fun i σ Hi => ∃ (x6 : Option V) (kvs : List (L2.Key × V)), σ = [some (.ref p), some (.ref pb), some (.int b.1), some (.ref lc), some (.int (g : Nat)), some (.ref D), x6, none, none] ∧ Hi D = some (.dK kvs) ∧ Tells kvs (agC g b.2 i) ∧ kvs.length ≤ i ∧ Same H Hi)
      ⟨none, [], rfl, upd_same, Tells.nil, Nat.le_refl _, s0⟩ (fun i σ Hi _ ⟨_, _, _, _, _, _, si⟩ => Same.seqTT si tc) ?_ ?_⟩
    · rintro i y σ Hi hi ⟨x6, kvs, rfl, ei, ti, li, si⟩
      obtain ⟨x, hx, rfl⟩ := getMapInt' hi
      have il := (List.getElem?_eq_some_iff.mp hx).1
      refine ⟨_, rfl, D, rfl, .inl ⟨kvs, .inl ei⟩, _, rfl, _, rfl, _, _, rfl, rfl, by show (0 : Int) < (g : Int); omega, _, DGet.k (k := Sum.inl (x % (g : Int))) ei, ?_⟩
      rw [ti (x % (g : Int))]
      refine ⟨_, _, rfl, rfl, _, rfl, _, rfl, _, rfl, _, _, rfl, rfl, by show (0 : Int) < (g : Int); omega, D, _, rfl, DPut.k (k := Sum.inl (x % (g : Int))) ei (sizeLt (by omega)), ?_⟩
      exact ⟨_, _, rfl, upd_same, Tells.put ti hx, Nat.le_trans (length_putK _ _ _) (by omega), samePut si nD⟩
    · rintro σ H1 ⟨x6, kvs, rfl, e1, t1, _, s1⟩
      rw [List.length_map] at t1
      refine ⟨_, rfl, _, rfl, _, _, rfl, rfl, wide_div (b := 131) (by omega) (by omega) (by decide) (by decide), ?_⟩
      have S1 := S.stay s1
      refine ⟨_, rfl, p, _, _, rfl, S1.ob.choose_spec, p, v, t, bs, rfl, S1, t, rfl, ⟨_, S1.cls⟩, fun F nF => ?_⟩
      refine lc_tup (K := K) (a := t) (xs := (cls bs).map V.int) (fun k Hk => Hk F = some (.lst ((((cls bs).take k).map fun c => decide (agC g b.2 b.2.length (c % (g : Int)) = b.1.natAbs / g)).map V.bl)) ∧ Same H1 Hk) ⟨upd_same, same_upd nF⟩ (fun k Hk _ ⟨_, sk⟩ => (S1.stay sk).cls) ?_ ?_
      · rintro k y Hk hk ⟨ek, sk⟩
        obtain ⟨c, hc, rfl⟩ := getMapInt' hk
        have kl := (List.getElem?_eq_some_iff.mp hc).1
        refine ⟨rfl, _, rfl, D, rfl, .inl ⟨kvs, .inl (sk _ _ e1)⟩, _, rfl, _, rfl, _, _, rfl, rfl, by show (0 : Int) < (g : Int); omega, _, DGet.k (k := Sum.inl (c % (g : Int))) (sk _ _ e1), ?_⟩
        rw [t1 (c % (g : Int))]
        refine ⟨_, rfl, rfl, _, ek, ?_, ?_, samePut sk nF⟩
        · rw [List.length_map, List.length_map, List.length_take]
          exact sizeLt (by omega)
        · rw [upd_same, takeSucc hc, List.map_append, List.map_append, List.map_cons, List.map_nil, List.map_cons, List.map_nil]
          refine congrArg (fun z => some (HO.lst (_ ++ [V.bl z]))) ?_
          rw [Bool.eq_iff_iff, decide_eq_true_iff, decide_eq_true_iff]
          have ed : b.1 / (g : Int) = ((b.1.natAbs / g : Nat) : Int) := by
            rw [hmod, divNat, Int.natAbs_natCast]
          show V.int _ = V.int (b.1 / (g : Int)) ↔ _
          rw [ed]
          exact ⟨fun z => by have := V.int.inj z; omega, fun z => by rw [z]⟩
      · rintro Hk ⟨ek, sk⟩
        rw [List.length_map, List.take_length] at ek
        refine ⟨F, _, rfl, lstOf ek, ?_⟩
        have ea : (((cls bs).map fun c => decide (agC g b.2 b.2.length (c % (g : Int)) = b.1.natAbs / g)).all id) = keepsB bs b := by
          rw [List.all_map, hg]
          rfl
        rw [ea]
        exact q _ (s1.trans sk)
theorem ok_p_within (T : Txt K mg) : FnOk P w K mg base CX0 5 T.f_p_within T.fd_p_within ["one", "other"] (sp_two K T.C withinB) := by
  refine T.F_p_within.ok sc_p_within (fun vs H Q E h => ?_) (fun cdv A outer s H vs Q E hr h => ?_)
  · obtain ⟨p, v, t, bs, p2, v2, t2, cs, rfl, _⟩ := h
    rfl
  · obtain ⟨p, v, t, bs, p2, v2, t2, cs, rfl, S, S2, q⟩ := h
    refine ⟨_, (pss_one (ps_ret (pe_callB (cr_all rfl) (by rfl) T.z_all (by decide +kernel) (pa_cons (pe_lc (own := [("bar", 2)]) rfl sc_p_within.nd (pi_tup (pe_prop (pv 1) T.cl T.pp_bars (ok_m_Sieve_bars T) (hr.mono (by decide)) T.b_m_Sieve_bars .nil pass0 (by rfl))) (blkOk_by (N := ["one", "other", "bar"]) (sc := defScope s_p_within) (by decide +kernel)) (fun _ _ _ _ _ => (pg_name (i := 2) sc_p_within.nd rfl (by first | exact .inl rfl | exact .inr rfl))) (fun _ _ _ _ _ => pts_nil) (fun _ _ _ _ _ => (pe_call (ok_p_keeps_to T) (hr.mono (by decide)) (by rfl) T.g_p_keeps_to T.F_p_keeps_to.kp T.b_p_keeps_to .nil pass0 (pa_cons (pv 0) (pa_cons (pv 2) pa_nil))))) pa_nil)))), ?_⟩
    obtain ⟨va, xs, rfl, ta, nx, hx⟩ := S2.bars.ex
    have six := S2.ok.six
    refine ⟨_, rfl, p2, _, _, rfl, S2.ob.choose_spec, p2, _, t2, cs, rfl, S2, va, rfl, ⟨_, ta⟩, fun F nF => ?_⟩
    refine lc_tup (K := K) (a := va) (xs := xs) (fun k Hk => Hk F = some (.lst (((cs.take k).map (keepsB bs)).map V.bl)) ∧ Same H Hk) ⟨upd_same, same_upd nF⟩ (fun k Hk _ ⟨_, sk⟩ => Same.seqTT sk ta) ?_ ?_
    · rintro k y Hk hk ⟨ek, sk⟩
      have kl : k < cs.length := by
        have := (List.getElem?_eq_some_iff.mp hk).1
        omega
      have hb : cs[k]? = some cs[k] := List.getElem?_eq_getElem kl
      refine ⟨rfl, _, rfl, _, rfl, p, v, t, bs, y, cs[k], rfl, S.stay sk, (hx k y _ hk hb).stay (.same sk), S2.ok.bar _ (List.getElem_mem kl), fun H2 s2 => ?_⟩
      refine ⟨_, s2 _ _ ek, ?_, ?_, samePut (sk.trans s2) nF⟩
      · rw [List.length_map, List.length_map, List.length_take]
        exact sizeLt (by omega)
      · rw [upd_same, takeSucc hb, List.map_append, List.map_append]
        rfl
    · rintro Hk ⟨ek, sk⟩
      rw [nx, List.take_length] at ek
      refine ⟨F, _, rfl, lstOf ek, ?_⟩
      have ea : ((cs.map (keepsB bs)).all id) = withinB bs cs := by
        rw [List.all_map]
        rfl
      rw [ea]
      exact q _ sk
end

end R
namespace R
open PySem PySem.Spec PyProof.Rows L2
/-! ## alike -/
section
variable {P : Program} {w : World} {K : PySem.W.Frag} {mg : Str → Option Value} {base : Heap}
theorem ok_p_alike (T : Txt K mg) : FnOk P w K mg base CX0 6 T.f_p_alike T.fd_p_alike ["one", "other"] (sp_two K T.C fun bs cs => withinB bs cs && withinB cs bs) := by
  refine T.F_p_alike.ok sc_p_alike (fun vs H Q E h => ?_) (fun cdv A outer s H vs Q E hr h => ?_)
  · obtain ⟨p, v, t, bs, p2, v2, t2, cs, rfl, _⟩ := h
    rfl
  · obtain ⟨p, v, t, bs, p2, v2, t2, cs, rfl, S, S2, q⟩ := h
    refine ⟨_, (pss_one (ps_ret (pe_and (pe_call (ok_p_within T) (hr.mono (by decide)) (by rfl) T.g_p_within T.F_p_within.kp T.b_p_within .nil pass0 (pa_cons (pv 0) (pa_cons (pv 1) pa_nil))) (pe_one (pe_call (ok_p_within T) (hr.mono (by decide)) (by rfl) T.g_p_within T.F_p_within.kp T.b_p_within .nil pass0 (pa_cons (pv 1) (pa_cons (pv 0) pa_nil))))))), ?_⟩
    refine ⟨_, rfl, _, rfl, p, v, t, bs, p2, v2, t2, cs, rfl, S, S2, fun H1 s1 => ⟨_, rfl, ?_⟩⟩
    cases e : withinB bs cs with
    | false =>
      refine iteF ?_
      have this : Q (.bl (withinB bs cs && withinB cs bs)) H1 := q _ s1
      rw [e] at this
      exact this
    | true =>
      refine iteT ⟨_, rfl, _, rfl, p2, v2, t2, cs, p, v, t, bs, rfl, S2.stay s1, S.stay s1, fun H2 s2 => ?_⟩
      have this : Q (.bl (withinB bs cs && withinB cs bs)) H2 := q _ (s1.trans s2)
      rw [e, Bool.true_and] at this
      exact this
end

end R
namespace R
open PySem PySem.Spec PyProof.Rows L2
/-! ## the law's own search for a number that fits one and not the other -/
def oInt : Option Int → V
  | some x => .int x
  | none => .non
def outside (bs cs : List Bar) (x : Int) : Bool := fitsB bs x && !fitsB cs x
def outTo (bs cs : List Bar) (n : Nat) : Option Int := ((List.range n).map fun i : Nat => (i : Int)).find? (outside bs cs)
def outF (bs cs : List Bar) : Option Int := outTo bs cs (wh (bs ++ cs))
theorem outTo_succ (bs cs : List Bar) (n : Nat) : outTo bs cs (n + 1) = (outTo bs cs n).or (if outside bs cs n = true then some (n : Int) else none) := by
  unfold outTo
  rw [List.range_succ, List.map_append, List.find?_append]
  congr 1
  by_cases h : outside bs cs n = true
  · rw [if_pos h]
    exact List.find?_cons_of_pos h
  · rw [if_neg h]
    exact List.find?_cons_of_neg h
theorem outTo_some {bs cs : List Bar} {n : Nat} {x : Int} (h : outTo bs cs n = some x) : ∀ m, n ≤ m → outTo bs cs m = some x := by
  intro m hm
  induction m with
  | zero =>
    obtain rfl : n = 0 := by omega
    exact h
  | succ m ih =>
    by_cases e : n = m + 1
    · rw [← e]
      exact h
    · rw [outTo_succ, ih (by omega)]
      rfl
theorem outF_none {bs cs : List Bar} (hp : 0 < wh (bs ++ cs)) : outF bs cs = none ↔ ∀ x, fitsB bs x = true → fitsB cs x = true := by
  unfold outF outTo
  rw [List.find?_eq_none]
  have hd1 : wh bs ∣ wh (bs ++ cs) := by rw [wh_app]; exact Nat.dvd_lcm_left _ _
  have hd2 : wh cs ∣ wh (bs ++ cs) := by rw [wh_app]; exact Nat.dvd_lcm_right _ _
  constructor
  · intro h x fx
    have x0 := Int.emod_nonneg x (show ((wh (bs ++ cs) : Nat) : Int) ≠ 0 by omega)
    have x1 := Int.emod_lt_of_pos x (show (0 : Int) < (wh (bs ++ cs) : Nat) by omega)
    have k1 : fitsB bs (x % ((wh (bs ++ cs) : Nat) : Int)) = fitsB bs x := by
      rw [← fitsB_mod bs, Int.emod_emod_of_dvd x (Int.natCast_dvd_natCast.mpr hd1), fitsB_mod]
    have k2 : fitsB cs (x % ((wh (bs ++ cs) : Nat) : Int)) = fitsB cs x := by
      rw [← fitsB_mod cs, Int.emod_emod_of_dvd x (Int.natCast_dvd_natCast.mpr hd2), fitsB_mod]
    have := h _ (List.mem_map.mpr ⟨(x % ((wh (bs ++ cs) : Nat) : Int)).toNat, List.mem_range.mpr (by omega), rfl⟩)
    rw [Int.toNat_of_nonneg x0] at this
    unfold outside at this
    rw [k1, k2, fx] at this
    simpa using this
  · intro h y hy
    unfold outside
    cases f : fitsB bs y with
    | false => simp
    | true =>
      rw [h y f]
      simp

end R
namespace R
open PySem PySem.Spec PyProof.Rows L2
/-! ## min of a list of ints that may be empty, with a default -/
theorem minD_args (x d : Value) : argsOk "min" ⟨[x], [(Str.ofString "default", d)]⟩ := by
  unfold argsOk
  kernel_rfl
theorem minD_name : (toString "min" ++ toString ".loop" : String) = "min.loop" := by decide
section
variable {prog : Program} {w : World} {A : Around} {R : Result → Shared → Prop} {it : Addr} {fp wr : List Addr} {n : Nat} {P : Nat → Value → Prop} {St : Nat → Heap → Prop} {kw : List (Str × Value)}
theorem minD_loop (W : Walks prog w A.in1 it fp wr n P St) (less : Nat → Nat → Bool) (cmp : CmpOf prog w A.in1 .Lt P less) (B : Addr) (nB : B ∉ fp) :
    ∀ (k j : Nat) (u : Shared) (x : Value) (c : Nat), n - (j + 1) = k → j + 1 ≤ n → St (j + 1) u.heap → P (argBest less j) x →
    u.heap.get? B = some { cls := .type "list", dict := none, data := .seq #[x, x] c, slots := #[] } →
    (∀ v h' tk, P (argBest less (n - 1)) v → (∀ b o, b ∉ wr → b ≠ B → u.heap.get? b = some o → h'.get? b = some o) → R (.ok (.ret v)) { u with heap := h', toks := tk }) →
    codeAny (model prog w) A (.builtin "min.loop" ⟨[.ref it, .none, .ref B], kw⟩) R u := by
  have nW : B ∉ wr := fun h => nB (W.sub _ h)
  intro k
  induction k with
  | zero =>
    intro j u x c hk hj ust ux uB fin
    have last : j + 1 = n := by omega
    refine codeAny_builtin F.entry_min_loop ?_
    rw [Around.under_plainId F.plain_min_loop _]
    show wpAny _ A.in1 (seqItems? (.ref B) >>= _) _ _ u
    refine wpAny_bind (wpAny_seqItems uB rfl ?_)
    show wpAny _ A.in1 (tryCatch (pyNext (.ref it)) _ >>= _) _ _ u
    refine wpAny_bind (wpAny_tryCatch (W.done u _ _ (last ▸ ust) fun h1 tk kp => ?_))
    have B1 := kp B _ nW uB
    show wpAny _ A.in1 (updateSeq B (fun _ => #[]) >>= _) _ _ _
    refine wpAny_bind ?_
    refine wpAny_updateSeq B1 rfl (wpAny_bind (wpAny_letGo (wpAny_pure ?_)))
    exact fin x _ tk (by rw [← last]; exact ux) fun b o b1 b2 e => (Heap.get?_update_other _ _ (Ne.symm b2)).trans (kp b o b1 e)
  | succ k ih =>
    intro j u x c hk hj ust ux uB fin
    have more : j + 1 < n := by omega
    refine codeAny_builtin F.entry_min_loop ?_
    rw [Around.under_plainId F.plain_min_loop _]
    show wpAny _ A.in1 (seqItems? (.ref B) >>= _) _ _ u
    refine wpAny_bind (wpAny_seqItems uB rfl ?_)
    show wpAny _ A.in1 (tryCatch (pyNext (.ref it)) _ >>= _) _ _ u
    refine wpAny_bind (wpAny_tryCatch (W.item (j + 1) u _ _ more ust fun y h1 tk Py st1 kp => ?_))
    have B1 := kp B _ nW uB
    show wpAny _ A.in1 (tryCatch (holding [y, y] (richCompare .Lt y x >>= _)) _ >>= _) _ _ _
    refine wpAny_bind (wpAny_tryCatch (wpAny_holding (wpAny_bind (cmp (j + 1) (argBest less j) y x _ _ _ Py ux ?_))))
    refine wpAny_bind (wpAny_holding (wpAny_truthy_bool ?_))
    refine wpAny_bind (wpAny_letGo (wpAny_pure ?_))
    cases lt : less (j + 1) (argBest less j) with
    | true =>
      simp only [if_true]
      refine wpAny_bind ?_
      refine wpAny_updateSeq B1 rfl (wpAny_bind (wpAny_letGo ?_))
      rw [minD_name]
      refine wpAny_pure ⟨plainId_quiet F.plain_min_loop _, ih (j + 1) _ y _ (by omega) more (W.frame _ _ _ st1 fun b bf o e => ?_) (by simp only [argBest, lt, if_true]; exact Py) (Heap.get?_update_self _ B1 rfl) fun z h2 tk2 Pz kp2 => ?_⟩
      · exact (Heap.get?_update_other _ _ (fun h : B = b => nB (by rw [h]; exact bf))).trans e
      · exact fin z h2 tk2 Pz fun b o b1 b2 e => kp2 b o b1 b2 ((Heap.get?_update_other _ _ (Ne.symm b2)).trans (kp b o b1 e))
    | false =>
      simp only [Bool.false_eq_true, if_false]
      refine wpAny_bind (wpAny_letGo ?_)
      rw [minD_name]
      refine wpAny_pure ⟨plainId_quiet F.plain_min_loop _, ih (j + 1) _ x c (by omega) more st1 (by simp only [argBest, lt, Bool.false_eq_true, if_false]; exact ux) B1 fun z h2 tk2 Pz kp2 => ?_⟩
      exact fin z h2 tk2 Pz fun b o b1 b2 e => kp2 b o b1 b2 (kp b o b1 e)
theorem minD_first (W : Walks prog w A.in1 it fp wr n P St) (less : Nat → Nat → Bool) (cmp : CmpOf prog w A.in1 .Lt P less) (B : Addr) (nB : B ∉ fp) (pos : 0 < n) {u : Shared} {c : Nat} (ust : St 0 u.heap)
    (uB : u.heap.get? B = some { cls := .type "list", dict := none, data := .seq #[] c, slots := #[] })
    (fin : ∀ v h' tk, P (argBest less (n - 1)) v → (∀ b o, b ∉ wr → b ≠ B → u.heap.get? b = some o → h'.get? b = some o) → R (.ok (.ret v)) { u with heap := h', toks := tk }) :
    codeAny (model prog w) A (.builtin "min.loop" ⟨[.ref it, .none, .ref B], kw⟩) R u := by
  have nW : B ∉ wr := fun h => nB (W.sub _ h)
  refine codeAny_builtin F.entry_min_loop ?_
  rw [Around.under_plainId F.plain_min_loop _]
  show wpAny _ A.in1 (seqItems? (.ref B) >>= _) _ _ u
  refine wpAny_bind (wpAny_seqItems uB rfl ?_)
  show wpAny _ A.in1 (tryCatch (pyNext (.ref it)) _ >>= _) _ _ u
  refine wpAny_bind (wpAny_tryCatch (W.item 0 u _ _ pos ust fun y h1 tk Py st1 kp => ?_))
  have B1 := kp B _ nW uB
  show wpAny _ A.in1 (updateSeq B (fun _ => #[y, y]) >>= _) _ _ _
  refine wpAny_bind ?_
  refine wpAny_updateSeq B1 rfl ?_
  rw [minD_name]
  refine wpAny_pure ⟨plainId_quiet F.plain_min_loop _, minD_loop W less cmp B nB _ 0 _ y _ rfl pos (W.frame _ _ _ st1 fun b bf o e => ?_) Py (Heap.get?_update_self _ B1 rfl) fun z h2 tk2 Pz kp2 => ?_⟩
  · exact (Heap.get?_update_other _ _ (fun h : B = b => nB (by rw [h]; exact bf))).trans e
  · exact fin z h2 tk2 Pz fun b o b1 b2 e => kp2 b o b1 b2 ((Heap.get?_update_other _ _ (Ne.symm b2)).trans (kp b o b1 e))
theorem minD_empty {key : Str} {d : Value} (W : Walks prog w A.in1 it fp wr 0 P St) (B : Addr) (nB : B ∉ fp) {u : Shared} {c : Nat} (ust : St 0 u.heap)
    (uB : u.heap.get? B = some { cls := .type "list", dict := none, data := .seq #[] c, slots := #[] })
    (fin : ∀ h' tk, (∀ b o, b ∉ wr → b ≠ B → u.heap.get? b = some o → h'.get? b = some o) → R (.ok (.ret d)) { u with heap := h', toks := tk }) :
    codeAny (model prog w) A (.builtin "min.loop" ⟨[.ref it, .none, .ref B], [(key, d)]⟩) R u := by
  refine codeAny_builtin F.entry_min_loop ?_
  rw [Around.under_plainId F.plain_min_loop _]
  show wpAny _ A.in1 (seqItems? (.ref B) >>= _) _ _ u
  refine wpAny_bind (wpAny_seqItems uB rfl ?_)
  show wpAny _ A.in1 (tryCatch (pyNext (.ref it)) _ >>= _) _ _ u
  refine wpAny_bind (wpAny_tryCatch (W.done u _ _ ust fun h1 tk kp => ?_))
  refine wpAny_bind (wpAny_rule (wpAny_pure ?_))
  exact fin h1 tk fun b o b1 _ e => kp b o b1 e
end
section
variable {prog : Program} {w : World} {A : Around} {E : Value → Shared → Prop} {s : Shared}
theorem minD_raw {l : Addr} {xs : Array (Int × Tok)} {d : Value} {Q : Value → Shared → Prop} (hh : A.handled = none) (hl : s.heap.IsList l (intItems xs))
    (h0 : xs.size = 0 → ∀ h' tk, (∀ b o, s.heap.get? b = some o → h'.get? b = some o) → Q d { s with heap := h', toks := tk })
    (h1 : 0 < xs.size → ∀ v h' tk, (intItems xs)[argBest (fun i j => decide (numAt xs i < numAt xs j)) (xs.size - 1)]? = some v → (∀ b o, s.heap.get? b = some o → h'.get? b = some o) → Q v { s with heap := h', toks := tk }) :
    wpAny (model prog w) A (call (.builtin "min") [.ref l] [(Str.ofString "default", d)]) Q E s := by
  refine kmk_tree PySem.F.kind_min PySem.F.plain_min PySem.F.entry_min (minD_args _ _) ?_
  show wpAny _ A.in1 (Builtin.Builtins.bindParams "min" ["key", "default"] 0 ⟨[], [(Str.ofString "default", d)]⟩ >>= _) _ _ s
  refine wpAny_bind (wpAny_of_eq (show Builtin.Builtins.bindParams "min" ["key", "default"] 0 ⟨[], [(Str.ofString "default", d)]⟩ = pure [none, some d] from rfl) ?_)
  refine wpAny_bind (wpAny_pure ?_)
  refine wpAny_bind (iter_intList hl fun u e ust ufp ne => ?_)
  subst e
  have sz : (intItems xs).size = xs.size := by simp [intItems]
  have W := Walks.list (prog := prog) (w := w) (A := A.in1) hh _ l ne (intItems xs)
  refine wpAny_bind (wpAny_newObj_type ?_)
  rw [minD_name]
  have nB := fun hm => Nat.lt_irrefl _ (ufp _ hm)
  by_cases z : xs.size = 0
  · have W0 := W
    rw [sz, z] at W0
    refine wpAny_pure ⟨plainId_quiet F.plain_min_loop _, minD_empty W0 _ nB (W.frame _ _ _ ust fun b _ o e => Heap.get?_push_of_some _ e) (Heap.get?_push_size _ rfl) fun h' tk kp => ?_⟩
    exact h0 z h' tk (old_kept fun b o b1 e => kp b o b1 (Nat.ne_of_lt (Heap.lt_size e)) (Heap.get?_push_of_some _ e))
  · refine wpAny_pure ⟨plainId_quiet F.plain_min_loop _, minD_first W _ (CmpOf.ints_lt (numAt xs) (fun _ _ => intItems_at)) _ nB (by rw [sz]; omega) (W.frame _ _ _ ust fun b _ o e => Heap.get?_push_of_some _ e) (Heap.get?_push_size _ rfl) fun v h' tk Pv kp => ?_⟩
    exact h1 (by omega) v h' tk (by rw [sz] at Pv; exact Pv) (old_kept fun b o b1 e => kp b o b1 (Nat.ne_of_lt (Heap.lt_size e)) (Heap.get?_push_of_some _ e))
end
def rMinD (K : PySem.W.Frag) : List V → List V → Hp → VK → Prop := fun vs zs H Q => ∃ (a : Addr) (ns : List Int) (d : V), vs = [V.ref a] ∧ zs = [d] ∧ SqL K H a (ns.map V.int) ∧ (ns = [] → Q d H) ∧ ∀ m, m ∈ ns → (∀ y, y ∈ ns → m ≤ y) → Q (.int m) H
theorem cr_minD {X : Cx} (hc : X.calm = true) : CallRK X (.builtin "min") [Str.ofString "default"] (rMinD X.K) := by
  intro pn s σ H vs zs us ws Q I r rz h
  obtain ⟨a, ns, d, rfl, rfl, hs, q0, q1⟩ := h
  obtain ⟨its, rv, hl, _⟩ := I.list hs
  obtain rfl := Vals.ref1 r
  obtain ⟨w1, rfl, e1⟩ := vals1 rz
  have hi := rv.ints
  obtain ⟨xs, e⟩ := hi.allInts.items
  have hn : numsOf (intItems xs).toList = ns := by rw [← e]; exact hi.numsOf
  rw [nums_intItems] at hn
  have hl' := hl.isList
  rw [e] at hl'
  have len : ns.length = xs.size := by rw [← hn, List.length_map, Array.length_toList]
  refine minD_raw (I.ok.hd hc) hl' (fun z h' tk kp => ?_) (fun z v h' tk hv kp => ?_)
  · exact ⟨d, H, I.kept kp, e1, q0 (List.length_eq_zero_iff.mp (by omega))⟩
  · obtain ⟨t, rfl⟩ := intItems_at hv
    obtain ⟨g1, g2⟩ := argBest_lt (numAt xs) (xs.size - 1)
    refine ⟨.int _, H, I.kept kp, ⟨_, rfl⟩, q1 _ ?_ fun y hy => ?_⟩
    · rw [numAt_eq, ← hn]
      exact PySem.getD_mem (by rw [List.length_map, Array.length_toList]; omega)
    · rw [← hn] at hy
      obtain ⟨j, hj, rfl⟩ := mem_getD hy
      rw [List.length_map, Array.length_toList] at hj
      rw [← numAt_eq]
      exact g2 j (by omega)

end R
namespace R
open PySem PySem.Spec PyProof.Rows L2
/-! ## the least number that fits just one of two -/
theorem outTo_spec {bs cs : List Bar} {n : Nat} {m : Int} (h : outTo bs cs n = some m) : 0 ≤ m ∧ outside bs cs m = true ∧ ∀ x, 0 ≤ x → x < m → outside bs cs x = false := by
  induction n with
  | zero => cases h
  | succ n ih =>
    rw [outTo_succ] at h
    cases e : outTo bs cs n with
    | some k =>
      rw [e] at h
      exact ih (e.trans h)
    | none =>
      rw [e, Option.none_or] at h
      by_cases f : outside bs cs n = true
      · rw [if_pos f] at h
        cases h
        refine ⟨by omega, f, fun x x0 x1 => ?_⟩
        have := List.find?_eq_none.mp e x (List.mem_map.mpr ⟨x.toNat, List.mem_range.mpr (by omega), Int.toNat_of_nonneg x0⟩)
        exact Bool.not_eq_true _ ▸ this
      · rw [if_neg f] at h
        cases h
def unL (bs cs : List Bar) : Option Int := match outF bs cs, outF cs bs with
  | some a, some b => some (min a b)
  | some a, none => some a
  | none, b => b
theorem outF_is {bs cs : List Bar} {m : Int} (h : outF bs cs = some m) : 0 ≤ m ∧ outside bs cs m = true ∧ ∀ x, 0 ≤ x → x < m → outside bs cs x = false := outTo_spec h
theorem within_out {bs cs : List Bar} (S : SvOk bs) (S2 : SvOk cs) : withinB bs cs = decide (outF bs cs = none) := by
  have hp : 0 < wh (bs ++ cs) := wh_pos _ fun b hb => by
    rcases List.mem_append.mp hb with hb | hb
    · exact (S.bar b hb).pos
    · exact (S2.bar b hb).pos
  rw [Bool.eq_iff_iff, decide_eq_true_iff, within_iff S.mods.pos S2.bar, outF_none hp]
def sp_p_first_outside (K : PySem.W.Frag) (C : Addr) : Sp := fun vs H Q _ => ∃ (p : Addr) (v : V) (t : Addr) (bs : List Bar) (p2 : Addr) (v2 : V) (t2 : Addr) (cs : List Bar) (m : Int), vs = [.ref p, .ref p2] ∧ SvAt K C H p v t bs ∧ SvAt K C H p2 v2 t2 cs ∧
  outF bs cs = some m ∧ Q (.int m) H
def sp_p_first_unlike (K : PySem.W.Frag) (C : Addr) : Sp := fun vs H Q _ => ∃ (p : Addr) (v : V) (t : Addr) (bs : List Bar) (p2 : Addr) (v2 : V) (t2 : Addr) (cs : List Bar), vs = [.ref p, .ref p2] ∧ SvAt K C H p v t bs ∧ SvAt K C H p2 v2 t2 cs ∧
  ∀ H', Same H H' → Q (oInt (unL bs cs)) H'
section
variable {P : Program} {w : World} {K : PySem.W.Frag} {mg : Str → Option Value} {base : Heap}
theorem ok_p_first_outside (T : Txt K mg) : FnOk P w K mg base CX0 5 T.f_p_first_outside T.fd_p_first_outside ["one", "other"] (sp_p_first_outside K T.C) := by
  refine T.F_p_first_outside.ok sc_p_first_outside (fun vs H Q E h => ?_) (fun cdv A outer s H vs Q E hr h => ?_)
  · obtain ⟨p, v, t, bs, p2, v2, t2, cs, m, rfl, _⟩ := h
    rfl
  · obtain ⟨p, v, t, bs, p2, v2, t2, cs, m, rfl, S, S2, hm, q⟩ := h
    refine ⟨_, (pss_cons (ps_set (i := 2) sc_p_first_outside.nd rfl (by first | exact .inl rfl | exact .inr rfl) pe_int)
      (pss_one (ps_while PassesOwn.never (pt_val pe_bl) (pss_cons (ps_for PassesOwn.never rfl (pi_tup (pe_prop (pv 0) T.cl T.pp_classes (ok_m_Sieve_classes T) (hr.mono (by decide)) T.b_m_Sieve_classes .nil pass0 (by rfl))) (pg_name (i := 3) sc_p_first_outside.nd rfl (by first | exact .inl rfl | exact .inr rfl)) (pss_one (ps_if (pt_not (pt_val (pe_call (ok_p_lets_through T) (hr.mono (by decide)) (by rfl) T.g_p_lets_through T.F_p_lets_through.kp T.b_p_lets_through .nil pass0 (pa_cons (pv 1) (pa_cons (pe_op op_add (pv 2) (pv 3)) pa_nil))))) (pss_one (ps_ret (pe_op op_add (pv 2) (pv 3)))) pss_nil)))
      (pss_one (ps_set (i := 2) sc_p_first_outside.nd rfl (by first | exact .inl rfl | exact .inr rfl) (pe_op op_add (pv 2) (pe_prop (pv 0) T.cl T.pp_whole (ok_m_Sieve_whole T) (hr.mono (by decide)) T.b_m_Sieve_whole .nil pass0 (by rfl))))))))), ?_⟩
    obtain ⟨m0, mo, mleast⟩ := outF_is hm
    have hp := S.ok.mods.pos
    have hw : (0 : Int) < ((wh bs : Nat) : Int) := by omega
    have mfit : fitsB bs m = true := by
      unfold outside at mo
      exact (Bool.and_eq_true_iff.mp mo).1
    refine while_by (fun σ H2 => ∃ (j : Nat) (x3 : Option V), σ = [some (.ref p), some (.ref p2), some (.int ((j : Int) * ((wh bs : Nat) : Int))), x3] ∧ (j : Int) * ((wh bs : Nat) : Int) ≤ m ∧ H2 = H)
      (fun σ _ => match σ with | [_, _, some (.int k), _] => (m + 1 - k).toNat | _ => 0) ⟨0, none, by rw [show ((0 : Nat) : Int) * ((wh bs : Nat) : Int) = 0 by omega]; rfl, by omega, rfl⟩ ?_ ?_
    · rintro σ H2 ⟨j, x3, rfl, hj, rfl⟩
      refine ⟨_, rfl, iteT ?_⟩
      refine ⟨_, rfl, p, _, _, rfl, S.ob.choose_spec, p, v, t, bs, rfl, S, t, rfl, ⟨_, S.cls⟩, for_tup (K := K) (a := t) (xs := (cls bs).map V.int) (fun i σ Hi => ∃ x3 : Option V, σ = [some (.ref p), some (.ref p2), some (.int ((j : Int) * ((wh bs : Nat) : Int))), x3] ∧
        (∀ c ∈ (cls bs).take i, (j : Int) * ((wh bs : Nat) : Int) + c ≠ m) ∧ Hi = H2) ⟨_, rfl, fun c hc => by simp at hc, rfl⟩ (fun i σ Hi _ ⟨_, _, _, e⟩ => by rw [e]; exact S.cls) ?_ ?_⟩
      · rintro i y σ Hi hi ⟨x3, rfl, none, rfl⟩
        obtain ⟨c, hc, rfl⟩ := getMapInt' hi
        have cm := List.mem_of_getElem? hc
        obtain ⟨c0, c1, cf⟩ := cls_mem.mp cm
        refine ⟨_, rfl, _, rfl, _, rfl, _, _, rfl, rfl, p2, v2, t2, cs, _, rfl, S2, ?_⟩
        refine ⟨_, rfl, ?_⟩
        have bf : fitsB bs ((j : Int) * ((wh bs : Nat) : Int) + c) = true := by
          rw [← fitsB_mod, Int.add_comm, Int.add_mul_emod_self_right, fitsB_mod]
          exact cf
        have j0 : 0 ≤ (j : Int) * ((wh bs : Nat) : Int) := Int.mul_nonneg (by omega) (by omega)
        cases f : fitsB cs ((j : Int) * ((wh bs : Nat) : Int) + c) with
        | true =>
          refine iteF ⟨_, rfl, fun d hd => ?_, rfl⟩
          rw [takeSucc hc] at hd
          rcases List.mem_append.mp hd with hd | hd
          · exact none d hd
          · rw [List.mem_singleton.mp hd]
            intro z
            rw [← z] at mo
            unfold outside at mo
            rw [f] at mo
            simp at mo
        | false =>
          refine iteT ⟨_, rfl, _, rfl, _, _, rfl, rfl, ?_⟩
          have ox : outside bs cs ((j : Int) * ((wh bs : Nat) : Int) + c) = true := by
            unfold outside
            rw [bf, f]
            rfl
          have ge : m ≤ (j : Int) * ((wh bs : Nat) : Int) + c := by
            rcases Int.lt_or_le ((j : Int) * ((wh bs : Nat) : Int) + c) m with l | l
            · rw [mleast _ (by omega) l] at ox
              cases ox
            · exact l
          have le : (j : Int) * ((wh bs : Nat) : Int) + c ≤ m := by
            rcases Int.lt_or_le m ((j : Int) * ((wh bs : Nat) : Int) + c) with l | l
            · -- m stands in this turn, at a class ahead of c
              have mc : m - (j : Int) * ((wh bs : Nat) : Int) ∈ cls bs := cls_mem.mpr ⟨by omega, by omega, by
                rw [← fitsB_mod, show m - (j : Int) * ((wh bs : Nat) : Int) = m + (-(j : Int)) * ((wh bs : Nat) : Int) by rw [Int.neg_mul]; omega, Int.add_mul_emod_self_right, fitsB_mod]
                exact mfit⟩
              obtain ⟨k, hk⟩ := List.getElem?_of_mem mc
              have ki : k < i := by
                rcases Nat.lt_or_ge k i with z | z
                · exact z
                · exfalso
                  rcases Nat.lt_or_ge i k with z2 | z2
                  · obtain ⟨kl, ke⟩ := List.getElem?_eq_some_iff.mp hk
                    obtain ⟨il, ie⟩ := List.getElem?_eq_some_iff.mp hc
                    have := List.pairwise_iff_getElem.mp (cls_up bs) i k il kl z2
                    rw [ke, ie] at this
                    omega
                  · obtain rfl : k = i := by omega
                    rw [hk] at hc
                    have := Option.some.inj hc
                    omega
              refine absurd ?_ (none (m - (j : Int) * ((wh bs : Nat) : Int)) (List.mem_of_getElem? (i := k) (by rw [List.getElem?_take, if_pos ki]; exact hk)))
              omega
            · exact l
          show Q (.int ((j : Int) * ((wh bs : Nat) : Int) + c)) Hi
          rw [show (j : Int) * ((wh bs : Nat) : Int) + c = m by omega]
          exact q
      · rintro σ Hi ⟨x3, rfl, none, rfl⟩
        rw [List.length_map, List.take_length] at none
        refine ⟨_, rfl, _, rfl, p, _, _, rfl, S.ob.choose_spec, p, v, t, bs, rfl, S, _, _, rfl, rfl, ⟨j + 1, x3, ?_, ?_, rfl⟩, ?_⟩
        · rw [show ((j + 1 : Nat) : Int) = (j : Int) + 1 from rfl, Int.add_mul, Int.one_mul]
          rfl
        · rw [show ((j + 1 : Nat) : Int) = (j : Int) + 1 from rfl, Int.add_mul, Int.one_mul]
          rcases Int.lt_or_le m ((j : Int) * ((wh bs : Nat) : Int) + ((wh bs : Nat) : Int)) with l | l
          · refine absurd ?_ (none (m - (j : Int) * ((wh bs : Nat) : Int)) (cls_mem.mpr ⟨by omega, by omega, by
                rw [← fitsB_mod, show m - (j : Int) * ((wh bs : Nat) : Int) = m + (-(j : Int)) * ((wh bs : Nat) : Int) by rw [Int.neg_mul]; omega, Int.add_mul_emod_self_right, fitsB_mod]
                exact mfit⟩))
            omega
          · exact l
        · show (m + 1 - ((j : Int) * ((wh bs : Nat) : Int) + ((wh bs : Nat) : Int))).toNat < (m + 1 - (j : Int) * ((wh bs : Nat) : Int)).toNat
          omega
    · intro σ H2 Q1 Q2 hQ h
      obtain ⟨b, hb, hq⟩ := h
      exact ⟨b, hb, hQ _ _ hq⟩
theorem ok_p_first_unlike (T : Txt K mg) : FnOk P w K mg base CX0 6 T.f_p_first_unlike T.fd_p_first_unlike ["one", "other"] (sp_p_first_unlike K T.C) := by
  refine T.F_p_first_unlike.ok sc_p_first_unlike (fun vs H Q E h => ?_) (fun cdv A outer s H vs Q E hr h => ?_)
  · obtain ⟨p, v, t, bs, p2, v2, t2, cs, rfl, _⟩ := h
    rfl
  · obtain ⟨p, v, t, bs, p2, v2, t2, cs, rfl, S, S2, q⟩ := h
    refine ⟨_, (pss_cons (ps_set (i := 2) sc_p_first_unlike.nd rfl (by first | exact .inl rfl | exact .inr rfl) (pe_lst pa_nil))
      (C8.pss_cut (ps_if (pt_not (pt_val (pe_call (ok_p_within T) (hr.mono (by decide)) (by rfl) T.g_p_within T.F_p_within.kp T.b_p_within .nil pass0 (pa_cons (pv 0) (pa_cons (pv 1) pa_nil))))) (pss_one (ps_expr (pe_bm PySem.F.plainAttrs_list PySem.F.slot_list_append PySem.F.type_list_append mt_append (pv 2) (pa_cons (pe_call (ok_p_first_outside T) (hr.mono (by decide)) (by rfl) T.g_p_first_outside T.F_p_first_outside.kp T.b_p_first_outside .nil pass0 (pa_cons (pv 0) (pa_cons (pv 1) pa_nil))) pa_nil)))) pss_nil)
      (C8.pss_cut (ps_if (pt_not (pt_val (pe_call (ok_p_within T) (hr.mono (by decide)) (by rfl) T.g_p_within T.F_p_within.kp T.b_p_within .nil pass0 (pa_cons (pv 1) (pa_cons (pv 0) pa_nil))))) (pss_one (ps_expr (pe_bm PySem.F.plainAttrs_list PySem.F.slot_list_append PySem.F.type_list_append mt_append (pv 2) (pa_cons (pe_call (ok_p_first_outside T) (hr.mono (by decide)) (by rfl) T.g_p_first_outside T.F_p_first_outside.kp T.b_p_first_outside .nil pass0 (pa_cons (pv 1) (pa_cons (pv 0) pa_nil))) pa_nil)))) pss_nil)
      (pss_one (ps_ret (pe_callBK (cr_minD rfl) (by rfl) T.z_min (by decide +kernel) (pa_cons (pv 2) pa_nil) (pk_cons pe_non pk_nil))))))), ?_⟩
    refine ⟨Nat.zero_le _, fun d nd => ?_⟩
    have s1 := same_upd nd (o := .lst [])
    have e1 := upd_same (H := H) (a := d) (o := .lst [])
    generalize upd H d (.lst []) = H1 at s1 e1 ⊢
    refine ⟨fun σ H' => σ = [some (.ref p), some (.ref p2), some (.ref d)] ∧ H' d = some (.lst ((outF bs cs).toList.map V.int)) ∧ Same H H', ?_, ?_⟩
    · refine ⟨_, rfl, _, rfl, p, v, t, bs, p2, v2, t2, cs, rfl, S.stay s1, S2.stay s1, fun H2 s2 => ?_⟩
      have s12 := s1.trans s2
      refine ⟨_, rfl, ?_⟩
      rw [within_out S.ok S2.ok]
      cases e : outF bs cs with
      | none =>
        refine iteF ⟨rfl, s2 _ _ e1, s12⟩
      | some m =>
        refine iteT ⟨_, rfl, .inl ⟨rfl, _, lstOf (s2 _ _ e1)⟩, _, rfl, _, rfl, p, v, t, bs, p2, v2, t2, cs, m, rfl, S.stay s12, S2.stay s12, e, d, _, _, rfl, rfl, s2 _ _ e1, sizeLt (by decide), ?_⟩
        exact ⟨rfl, upd_same, samePut s12 nd⟩
    · rintro σ H2 ⟨rfl, e2, s2⟩
      refine ⟨fun σ H' => ∃ l : List Int, σ = [some (.ref p), some (.ref p2), some (.ref d)] ∧ H' d = some (.lst (l.map V.int)) ∧ l = (outF bs cs).toList ++ (outF cs bs).toList ∧ Same H H', ?_, ?_⟩
      · refine ⟨_, rfl, _, rfl, p2, v2, t2, cs, p, v, t, bs, rfl, S2.stay s2, S.stay s2, fun H3 s3 => ?_⟩
        have s13 := s2.trans s3
        refine ⟨_, rfl, ?_⟩
        rw [within_out S2.ok S.ok]
        cases e : outF cs bs with
        | none =>
          refine iteF ⟨_, rfl, s3 _ _ e2, by simp, s13⟩
        | some m =>
          refine iteT ⟨_, rfl, .inl ⟨rfl, _, lstOf (s3 _ _ e2)⟩, _, rfl, _, rfl, p2, v2, t2, cs, p, v, t, bs, m, rfl, S2.stay s13, S.stay s13, e, d, _, _, rfl, rfl, s3 _ _ e2, ?_, ?_⟩
          · rw [List.length_map]
            cases outF bs cs with
            | none => exact sizeLt (by show (0 : Nat) ≤ 100000; decide)
            | some _ => exact sizeLt (by show (1 : Nat) ≤ 100000; decide)
          · exact ⟨(outF bs cs).toList ++ [m], rfl, by rw [upd_same, List.map_append]; rfl, rfl, samePut s13 nd⟩
      · rintro σ H3 ⟨l, rfl, e3, el, s3⟩
        have q' := q _ s3
        unfold unL at q'
        refine ⟨_, rfl, d, l, _, rfl, rfl, lstOf e3, fun z => ?_, fun m hm hl => ?_⟩
        · rw [z] at el
          cases e4 : outF bs cs with
          | some a => rw [e4] at el; cases el
          | none =>
            cases e5 : outF cs bs with
            | some a => rw [e4, e5] at el; cases el
            | none =>
              rw [e4, e5] at q'
              exact q'
        · subst el
          cases e4 : outF bs cs with
          | some a =>
            cases e5 : outF cs bs with
            | some b =>
              rw [e4, e5] at q' hm hl
              have h1 := hl a (by simp)
              have h2 := hl b (by simp)
              have h3 : m = a ∨ m = b := by simpa using hm
              have q2 : Q (oInt (some (min a b))) H3 := q'
              rw [show min a b = m by omega] at q2
              exact q2
            | none =>
              rw [e4, e5] at q' hm
              have h3 : m = a := by simpa using hm
              rw [h3]
              exact q'
          | none =>
            cases e5 : outF cs bs with
            | some b =>
              rw [e4, e5] at q' hm
              have h3 : m = b := by simpa using hm
              rw [h3]
              exact q'
            | none =>
              rw [e4, e5] at hm
              simp at hm
end

end R
namespace R
open PySem PySem.Spec PyProof.Rows L2
/-! ## bars taken by times and moved -/
def scB (k o : Int) (b : Bar) : Bar := (b.1 * k, b.2.map fun r => r * k + o)
theorem whPow {N : Nat} : ∀ bs : List Bar, (∀ b ∈ bs, b.1.natAbs ≤ N) → wh bs ≤ N ^ bs.length := by
  refine snocInd (fun _ => by rw [List.length_nil, Nat.pow_zero]; decide) fun bs b ih h => ?_
  rw [wh_add, List.length_append]
  exact Nat.le_trans (lcm_le_mul _ _) (Nat.mul_le_mul (ih fun c hc => h c (List.mem_append_left _ hc)) (h b (List.mem_append_right _ (List.mem_singleton.mpr rfl))))
theorem scB_lot {k o m : Int} {l : List Int} (h : LotOk m l) (k1 : 1 ≤ k) (o0 : 0 ≤ o) (o1 : o < k) : LotOk (m * k) (l.map fun r => r * k + o) := by
  refine ⟨List.pairwise_map.mpr (h.up.imp fun {x y} lt => ?_), fun r hr => ?_, fun r hr => ?_, by rw [List.length_map]; exact h.few⟩
  · have := Int.mul_lt_mul_of_pos_right lt (show 0 < k by omega)
    omega
  · obtain ⟨x, hx, rfl⟩ := List.mem_map.mp hr
    have := Int.mul_nonneg (h.ge x hx) (show 0 ≤ k by omega)
    omega
  · obtain ⟨x, hx, rfl⟩ := List.mem_map.mp hr
    have h1 := h.lt x hx
    have h2 : (x + 1) * k ≤ m * k := Int.mul_le_mul_of_nonneg_right (by omega) (by omega)
    rw [Int.add_mul, Int.one_mul] at h2
    omega
theorem choices_sc (k o : Int) : ∀ bs : List Bar, choices (bs.map (scB k o)) = choices bs := by
  refine snocInd rfl fun bs b ih => ?_
  rw [List.map_append, choices_add, ← ih]
  show choices (bs.map (scB k o) ++ [scB k o b]) = _
  rw [choices_add]
  show _ * max 1 ((b.2.map _).length) = _
  rw [List.length_map]
theorem scB_one (bs : List Bar) : bs.map (scB 1 0) = bs := by
  have h : ∀ b : Bar, scB 1 0 b = b := fun b => by
    unfold scB
    rw [Int.mul_one, show (fun r : Int => r * 1 + 0) = id from funext fun r => by show r * 1 + 0 = r; omega, List.map_id]
  rw [show scB 1 0 = id from funext h, List.map_id]
theorem Drawn.scaled {most top : Nat} {bs : List Bar} {k o : Int} (D : Drawn most top bs) (h6 : most ≤ 3) (ht : top ≤ 60) (k1 : 1 ≤ k) (k2 : k ≤ 60) (o0 : 0 ≤ o) (o1 : o < k) :
    SvOk (bs.map (scB k o)) ∧ ∀ b ∈ bs.map (scB k o), 1 ≤ b.1 ∧ b.1 ≤ (top : Int) * k := by
  have mods : ∀ b ∈ bs.map (scB k o), 1 ≤ b.1 ∧ b.1 ≤ (top : Int) * k := fun b hb => by
    obtain ⟨c, hc, rfl⟩ := List.mem_map.mp hb
    obtain ⟨c1, c2, _⟩ := D.bar c hc
    have h1 : 1 * 1 ≤ c.1 * k := Int.mul_le_mul c1 k1 (by decide) (by omega)
    have h2 : c.1 * k ≤ (top : Int) * k := Int.mul_le_mul_of_nonneg_right c2 (by omega)
    exact ⟨by show 1 ≤ c.1 * k; omega, h2⟩
  have top60 : (top : Int) * k ≤ 60 * 60 := Int.mul_le_mul (by omega) k2 (by omega) (by decide)
  have len : (bs.map (scB k o)).length ≤ 3 := by
    rw [List.length_map]
    exact Nat.le_trans D.len h6
  refine ⟨⟨by omega, fun b hb => ?_, ?_, by rw [choices_sc]; exact D.many⟩, mods⟩
  · obtain ⟨h1, h2⟩ := mods b hb
    refine ⟨h1, by omega, ?_⟩
    obtain ⟨c, hc, rfl⟩ := List.mem_map.mp hb
    exact scB_lot (D.bar c hc).2.2 k1 o0 o1
  · have h := whPow (N := 3600) (bs.map (scB k o)) fun b hb => by have := mods b hb; omega
    exact Nat.le_trans h (Nat.le_trans (Nat.pow_le_pow_right (by decide) len) (by decide))
/-- a list of bars under way -/
structure BarLst (K : PySem.W.Frag) (H : Hp) (D : Addr) (bs : List Bar) : Prop where
  ex : ∃ ys : List V, H D = some (.lst ys) ∧ ys.length = bs.length ∧ ∀ (i : Nat) x b, ys[i]? = some x → bs[i]? = some b → BarAt K H x b
theorem BarLst.nil {K : PySem.W.Frag} {H : Hp} {D : Addr} (h : H D = some (.lst [])) : BarLst K H D [] := ⟨[], h, rfl, fun i x b a _ => by simp at a⟩
theorem BarLst.add {K : PySem.W.Frag} {H H' : Hp} {D : Addr} {bs : List Bar} {b : Bar} {ys : List V} {x : V} (n : ys.length = bs.length) (f : ∀ (i : Nat) x b, ys[i]? = some x → bs[i]? = some b → BarAt K H x b) (t : TupsStay K H H')
    (e : H' D = some (.lst (ys ++ [x]))) (hb : BarAt K H' x b) : BarLst K H' D (bs ++ [b]) := by
  refine ⟨ys ++ [x], e, by rw [List.length_append, List.length_append, n]; rfl, fun i u c h1 h2 => ?_⟩
  by_cases h : i < ys.length
  · rw [List.getElem?_append_left h] at h1
    rw [List.getElem?_append_left (by omega)] at h2
    exact (f i u c h1 h2).stay t
  · rw [List.getElem?_append_right (by omega)] at h1
    rw [List.getElem?_append_right (by omega), ← n] at h2
    cases z : i - ys.length with
    | zero =>
      rw [z] at h1 h2
      cases Option.some.inj h1
      cases Option.some.inj h2
      exact hb
    | succ j => rw [z] at h1; simp at h1
theorem BarLst.tup {K : PySem.W.Frag} {H : Hp} {u : Addr} {ys : List V} {bs : List Bar} (n : ys.length = bs.length) (f : ∀ (i : Nat) x b, ys[i]? = some x → bs[i]? = some b → BarAt K H x b) (nu : H u = none) :
    BarsAt K (upd H u (.tup ys)) (.ref u) bs := ⟨u, ys, rfl, tupOf upd_same, n, fun i x b h1 h2 => (f i x b h1 h2).stay (.same (same_upd nu))⟩
/-- a list's change leaves the tuples -/
theorem lstTups {K : PySem.W.Frag} {H : Hp} {D : Addr} {ys zs : List V} (e : H D = some (.lst ys)) : TupsStay K H (upd H D (.lst zs)) := fun b xs h => by
  rcases h with (h | ⟨o, h⟩) | h
  · exact .inl (.inl (by rw [upd_ne (ne_of h e (by intro z; cases z))]; exact h))
  · exact .inl (.inr ⟨o, by rw [upd_ne (ne_of h e (by intro z; cases z))]; exact h⟩)
  · exact .inr h

end R
namespace R
open PySem PySem.Spec PyProof.Rows L2
/-! ## a lot made by sorting -/
theorem sorted_lot {m : Int} {ns ns' : List Int} (p : ns'.Perm ns) (s : ns'.Pairwise (· ≤ ·)) (nd : ns.Nodup) (h : ∀ x ∈ ns, 0 ≤ x ∧ x < m) (few : ns.length ≤ 60) : LotOk m ns' :=
  ⟨L2.lt_of_le_nodup _ s (p.nodup_iff.mpr nd), fun r hr => (h r (p.mem_iff.mp hr)).1, fun r hr => (h r (p.mem_iff.mp hr)).2, by rw [p.length_eq]; exact few⟩
theorem LotOk.nodup {m : Int} {l : List Int} (h : LotOk m l) : l.Nodup := h.up.imp fun {a b} (lt : a < b) => Int.ne_of_lt lt
theorem wh_dvd {N : Nat} : ∀ bs : List Bar, (∀ b ∈ bs, b.1.natAbs ∣ N) → wh bs ∣ N := by
  refine snocInd (fun _ => Nat.one_dvd _) fun bs b ih h => ?_
  rw [wh_add]
  exact Nat.lcm_dvd (ih fun c hc => h c (List.mem_append_left _ hc)) (h b (List.mem_append_right _ (List.mem_singleton.mpr rfl)))
/-- bars of which one is changed -/
theorem barsSwap {bs : List Bar} {i : Nat} {b : Bar} {P : Bar → Prop} (h : ∀ c ∈ bs, P c) (hb : P b) : ∀ c ∈ bs.take i ++ [b] ++ bs.drop (i + 1), P c := fun c hc => by
  rcases List.mem_append.mp hc with hc | hc
  · rcases List.mem_append.mp hc with hc | hc
    · exact h c (List.mem_of_mem_take hc)
    · rw [List.mem_singleton.mp hc]
      exact hb
  · exact h c (List.mem_of_mem_drop hc)
/-- a < m and x not in lot, as a value -/
theorem andIn {K : PySem.W.Frag} {σ : L2.St} {H : Hp} {R : VK} {y m : Int} {i j : Nat} {lc : Addr} {l : List Int} (hi : σ[i]? = some (some (.int y))) (hj : σ[j]? = some (some (.ref lc))) (t : SqT K H lc (l.map V.int))
    (k : ∀ n : Bool, (n = true → y < m ∧ y ∉ l) → R (.bl n) H) : if decide (y < m) = true then tOp (rIn K true) (tVar i) (tVar j) σ H R else R (.bl false) H := by
  refine ite2 (fun e => ?_) (fun _ => k false (fun z => nomatch z))
  refine ⟨_, hi, _, hj, lc, _, rfl, .inr t, rfl, flatInts _, k _ fun z => ⟨of_decide_eq_true e, ?_⟩⟩
  have z' : (!inV (.int y) (l.map V.int)) = true := z
  rw [inVInt] at z'
  simpa using z'

end R
namespace R
open PySem PySem.Spec PyProof.Rows L2
/-! ## bars moved and turned -/
theorem asc_eq : ∀ {xs ys : List Int}, xs.Pairwise (· < ·) → ys.Pairwise (· < ·) → (∀ x, x ∈ xs ↔ x ∈ ys) → xs = ys
  | [], [], _, _, _ => rfl
  | [], y :: ys, _, _, m => absurd ((m y).mpr List.mem_cons_self) (by simp)
  | x :: xs, [], _, _, m => absurd ((m x).mp List.mem_cons_self) (by simp)
  | x :: xs, y :: ys, h, k, m => by
    obtain ⟨h1, h2⟩ := List.pairwise_cons.mp h
    obtain ⟨k1, k2⟩ := List.pairwise_cons.mp k
    have e : x = y := by
      rcases List.mem_cons.mp ((m x).mp List.mem_cons_self) with e | hx
      · exact e
      · rcases List.mem_cons.mp ((m y).mpr List.mem_cons_self) with e | hy
        · exact e.symm
        · have := h1 y hy
          have := k1 x hx
          omega
    subst e
    refine congrArg (x :: ·) (asc_eq h2 k2 fun z => ⟨fun hz => ?_, fun hz => ?_⟩)
    · rcases List.mem_cons.mp ((m z).mp (List.mem_cons_of_mem _ hz)) with e | hz'
      · have := h1 z hz
        omega
      · exact hz'
    · rcases List.mem_cons.mp ((m z).mpr (List.mem_cons_of_mem _ hz)) with e | hz'
      · have := k1 z hz
        omega
      · exact hz'
/-- a turned bar: s times its numbers, and o -/
structure TurnB (s o : Int) (b c : Bar) : Prop where
  mod : c.1 = b.1
  lot : LotOk c.1 c.2
  len : c.2.length = b.2.length
  mem : ∀ x, x ∈ c.2 ↔ ∃ r ∈ b.2, x = (s * r + o) % b.1
structure TurnL (s o : Int) (bs cs : List Bar) : Prop where
  len : cs.length = bs.length
  at_ : ∀ (i : Nat) b c, bs[i]? = some b → cs[i]? = some c → TurnB s o b c
theorem TurnL.nil (s o : Int) : TurnL s o [] [] := ⟨rfl, fun i b c h _ => by simp at h⟩
theorem TurnL.add {s o : Int} {bs cs : List Bar} {b c : Bar} (h : TurnL s o bs cs) (k : TurnB s o b c) : TurnL s o (bs ++ [b]) (cs ++ [c]) := by
  refine ⟨by rw [List.length_append, List.length_append, h.len]; rfl, fun i x y h1 h2 => ?_⟩
  by_cases l : i < bs.length
  · rw [List.getElem?_append_left l] at h1
    rw [List.getElem?_append_left (by rw [h.len]; exact l)] at h2
    exact h.at_ i x y h1 h2
  · rw [List.getElem?_append_right (by omega)] at h1
    rw [List.getElem?_append_right (by rw [h.len]; omega), h.len] at h2
    cases z : i - bs.length with
    | zero =>
      rw [z] at h1 h2
      cases Option.some.inj h1
      cases Option.some.inj h2
      exact k
    | succ j => rw [z] at h1; simp at h1
theorem TurnL.ind {s o : Int} {motive : List Bar → List Bar → Prop} (h0 : motive [] []) (hs : ∀ bs cs b c, TurnL s o bs cs → TurnB s o b c → motive bs cs → motive (bs ++ [b]) (cs ++ [c])) : ∀ {bs cs : List Bar}, TurnL s o bs cs → motive bs cs := by
  have go : ∀ bs : List Bar, ∀ cs, TurnL s o bs cs → motive bs cs := by
   refine snocInd (fun cs h => ?_) fun bs b ih cs h => ?_
   · have : cs = [] := List.length_eq_zero_iff.mp h.len
     rw [this]
     exact h0
   · have l := h.len
     rw [List.length_append] at l
     obtain ⟨ds, c, rfl⟩ : ∃ ds c, cs = ds ++ [c] := by
       rcases List.eq_nil_or_concat cs with e | ⟨ds, c, e⟩
       · rw [e] at l
         simp at l
       · exact ⟨ds, c, by simpa using e⟩
     have ld : ds.length = bs.length := by
       rw [List.length_append] at l
       have h1 : [c].length = 1 := rfl
       have h2 : [b].length = 1 := rfl
       omega
     have hd : TurnL s o bs ds := ⟨ld, fun i x y h1 h2 => by
       have il := (List.getElem?_eq_some_iff.mp h1).1
       exact h.at_ i x y (by rw [List.getElem?_append_left il]; exact h1) (by rw [List.getElem?_append_left (by omega)]; exact h2)⟩
     refine hs bs ds b c hd (h.at_ bs.length b c (by simp) (by rw [← ld]; simp)) (ih _ hd)
  exact fun {bs cs} h => go bs cs h
theorem TurnL.wh {s o : Int} {bs cs : List Bar} (h : TurnL s o bs cs) : R.wh cs = R.wh bs := by
  refine TurnL.ind (s := s) (o := o) (motive := fun bs cs => R.wh cs = R.wh bs) rfl (fun bs cs b c _ k ih => ?_) h
  rw [wh_add, wh_add, ih, k.mod]
theorem TurnL.choices {s o : Int} {bs cs : List Bar} (h : TurnL s o bs cs) : R.choices cs = R.choices bs := by
  refine TurnL.ind (s := s) (o := o) (motive := fun bs cs => R.choices cs = R.choices bs) rfl (fun bs cs b c _ k ih => ?_) h
  rw [choices_add, choices_add, ih, k.len]
theorem TurnL.sv {s o : Int} {bs cs : List Bar} (h : TurnL s o bs cs) (S : SvOk bs) : SvOk cs := by
  refine ⟨by rw [h.len]; exact S.six, fun c hc => ?_, by rw [h.wh]; exact S.great, by rw [h.choices]; exact S.many⟩
  obtain ⟨i, hi⟩ := List.getElem?_of_mem hc
  have il := (List.getElem?_eq_some_iff.mp hi).1
  have hb : bs[i]? = some (bs[i]'(by rw [← h.len]; exact il)) := List.getElem?_eq_getElem _
  have k := h.at_ i _ c hb hi
  have ob := S.bar _ (List.mem_of_getElem? hb)
  exact ⟨by rw [k.mod]; exact ob.pos, by rw [k.mod]; exact ob.most, k.lot⟩
theorem TurnB.one {s o : Int} {b c d : Bar} (h : TurnB s o b c) (k : TurnB s o b d) : c = d :=
  Prod.ext (h.mod.trans k.mod.symm) (asc_eq h.lot.up k.lot.up fun x => (h.mem x).trans (k.mem x).symm)
theorem TurnL.one {s o : Int} {bs cs ds : List Bar} (h : TurnL s o bs cs) (k : TurnL s o bs ds) : cs = ds := by
  refine List.ext_getElem? fun i => ?_
  by_cases l : i < bs.length
  · have h1 : cs[i]? = some (cs[i]'(by rw [h.len]; exact l)) := List.getElem?_eq_getElem _
    have h2 : ds[i]? = some (ds[i]'(by rw [k.len]; exact l)) := List.getElem?_eq_getElem _
    have h0 : bs[i]? = some bs[i] := List.getElem?_eq_getElem l
    rw [h1, h2]
    exact congrArg some ((h.at_ i _ _ h0 h1).one (k.at_ i _ _ h0 h2))
  · rw [List.getElem?_eq_none_iff.mpr (by rw [h.len]; omega), List.getElem?_eq_none_iff.mpr (by rw [k.len]; omega)]
/-- s is 1 or -1 -/
def Sg (s : Int) : Prop := s = 1 ∨ s = -1
theorem turn_dvd {s o x y m : Int} (hs : Sg s) : (s * x + o) % m = (s * y + o) % m ↔ x % m = y % m := by
  rw [Int.emod_eq_emod_iff_emod_sub_eq_zero, Int.emod_eq_emod_iff_emod_sub_eq_zero (m := x)]
  have d : ∀ z : Int, z % m = 0 ↔ m ∣ z := fun z => ⟨Int.dvd_of_emod_eq_zero, Int.emod_eq_zero_of_dvd⟩
  rw [d, d]
  rcases hs with rfl | rfl
  · rw [show 1 * x + o - (1 * y + o) = x - y by omega]
  · rw [show -1 * x + o - (-1 * y + o) = -(x - y) by omega, Int.dvd_neg]
theorem TurnB.lets {s o : Int} {b c : Bar} (h : TurnB s o b c) (hs : Sg s) (lo : LotOk b.1 b.2) (x : Int) : (s * x + o) % c.1 ∈ c.2 ↔ x % b.1 ∈ b.2 := by
  rw [h.mem, h.mod]
  constructor
  · rintro ⟨r, hr, e⟩
    rw [turn_dvd hs] at e
    rw [e, Int.emod_eq_of_lt (lo.ge r hr) (lo.lt r hr)]
    exact hr
  · intro hx
    refine ⟨x % b.1, hx, ?_⟩
    rw [turn_dvd hs, Int.emod_emod]
theorem TurnL.fits {s o : Int} {bs cs : List Bar} (h : TurnL s o bs cs) (hs : Sg s) (S : SvOk bs) (x : Int) : fitsB cs (s * x + o) = fitsB bs x := by
  unfold fitsB
  rw [Bool.eq_iff_iff, List.all_eq_true, List.all_eq_true]
  constructor
  · intro f b hb
    obtain ⟨i, hi⟩ := List.getElem?_of_mem hb
    have il := (List.getElem?_eq_some_iff.mp hi).1
    have hc : cs[i]? = some (cs[i]'(by rw [h.len]; exact il)) := List.getElem?_eq_getElem _
    have := f _ (List.mem_of_getElem? hc)
    rw [decide_eq_true_iff] at this ⊢
    exact ((h.at_ i b _ hi hc).lets hs (S.bar b hb).lot x).mp this
  · intro f c hc
    obtain ⟨i, hi⟩ := List.getElem?_of_mem hc
    have il := (List.getElem?_eq_some_iff.mp hi).1
    have hb : bs[i]? = some (bs[i]'(by rw [← h.len]; exact il)) := List.getElem?_eq_getElem _
    have hbm := List.mem_of_getElem? hb
    have := f _ hbm
    rw [decide_eq_true_iff] at this ⊢
    exact ((h.at_ i _ c hb hi).lets hs (S.bar _ hbm).lot x).mpr this
theorem Sg.sq {s x o : Int} (hs : Sg s) : s * (s * (x - o)) + o = x := by rcases hs with rfl | rfl <;> omega
theorem TurnL.fits' {s o : Int} {bs cs : List Bar} (h : TurnL s o bs cs) (hs : Sg s) (S : SvOk bs) (y : Int) : fitsB cs y = fitsB bs (s * (y - o)) := by
  have := h.fits hs S (s * (y - o))
  rw [hs.sq] at this
  exact this
/-- the classes are the old ones, turned -/
theorem TurnL.cls {s o : Int} {bs cs : List Bar} (h : TurnL s o bs cs) (hs : Sg s) (S : SvOk bs) : (R.cls cs).Perm ((R.cls bs).map fun x => (s * x + o) % ((R.wh bs : Nat) : Int)) := by
  have hw : (0 : Int) < ((R.wh bs : Nat) : Int) := by have := S.mods.pos; omega
  have n1 : (R.cls cs).Nodup := (cls_up cs).imp fun {a b} (lt : a < b) => Int.ne_of_lt lt
  have n2 : ((R.cls bs).map fun x => (s * x + o) % ((R.wh bs : Nat) : Int)).Nodup := by
    unfold List.Nodup
    rw [List.pairwise_map]
    refine List.Pairwise.imp_of_mem (fun {a b} ha hb lt e => ?_) (cls_up bs)
    obtain ⟨a0, a1, _⟩ := cls_mem.mp ha
    obtain ⟨b0, b1, _⟩ := cls_mem.mp hb
    rw [turn_dvd hs, Int.emod_eq_of_lt a0 a1, Int.emod_eq_of_lt b0 b1] at e
    omega
  refine (List.perm_ext_iff_of_nodup n1 n2).mpr fun y => ?_
  rw [cls_mem, List.mem_map, h.wh]
  constructor
  · rintro ⟨y0, y1, f⟩
    rw [h.fits' hs S] at f
    refine ⟨(s * (y - o)) % ((R.wh bs : Nat) : Int), cls_mem.mpr ⟨Int.emod_nonneg _ (by omega), Int.emod_lt_of_pos _ hw, by rw [fitsB_mod]; exact f⟩, ?_⟩
    have : (s * (s * (y - o) % ((R.wh bs : Nat) : Int)) + o) % ((R.wh bs : Nat) : Int) = (s * (s * (y - o)) + o) % ((R.wh bs : Nat) : Int) := (turn_dvd hs).mpr (Int.emod_emod _ _)
    rw [this, hs.sq]
    exact Int.emod_eq_of_lt y0 y1
  · rintro ⟨x, hx, rfl⟩
    refine ⟨Int.emod_nonneg _ (by omega), Int.emod_lt_of_pos _ hw, ?_⟩
    rw [← h.wh, fitsB_mod, h.fits hs S]
    exact (cls_mem.mp hx).2.2
theorem TurnL.clsLen {s o : Int} {bs cs : List Bar} (h : TurnL s o bs cs) (hs : Sg s) (S : SvOk bs) : (R.cls cs).length = (R.cls bs).length := by
  rw [(h.cls hs S).length_eq, List.length_map]
/-- a lot that is turned and sorted -/
theorem turn_lot {s o : Int} {b : Bar} {ns : List Int} (hs : Sg s) (ob : BarOk b) (p : ns.Perm (b.2.map fun r => (s * r + o) % b.1)) (up : ns.Pairwise (· ≤ ·)) : TurnB s o b (b.1, ns) := by
  have hm : 0 < b.1 := by have := ob.pos; omega
  refine ⟨rfl, sorted_lot p up ?_ (fun x hx => ?_) (by rw [List.length_map]; exact ob.lot.few), by show ns.length = _; rw [p.length_eq, List.length_map], fun x => ?_⟩
  · unfold List.Nodup
    rw [List.pairwise_map]
    refine List.Pairwise.imp_of_mem (fun {x y} hx hy lt e => ?_) ob.lot.up
    rw [turn_dvd hs, Int.emod_eq_of_lt (ob.lot.ge x hx) (ob.lot.lt x hx), Int.emod_eq_of_lt (ob.lot.ge y hy) (ob.lot.lt y hy)] at e
    omega
  · obtain ⟨r, _, rfl⟩ := List.mem_map.mp hx
    exact ⟨Int.emod_nonneg _ (by omega), Int.emod_lt_of_pos _ hm⟩
  · show x ∈ ns ↔ _
    rw [p.mem_iff, List.mem_map]
    exact ⟨fun ⟨r, h, e⟩ => ⟨r, h, e.symm⟩, fun ⟨r, h, e⟩ => ⟨r, h, e.symm⟩⟩

end R
namespace R
open PySem PySem.Spec PyProof.Rows L2
/-! ## turned, moved, taken_from -/
def sp_p_turned (K : PySem.W.Frag) (C : Addr) : Sp := fun vs H Q _ => ∃ (p : Addr) (v : V) (t : Addr) (bs : List Bar) (s o : Int), vs = [.ref p, .int s, .int o] ∧ SvAt K C H p v t bs ∧ Sg s ∧
  ∀ p' v' t' cs H', Same H H' → TurnL s o bs cs → SvAt K C H' p' v' t' cs → Q (.ref p') H'
def sp_turn (K : PySem.W.Frag) (C B : Addr) (s : Int) : Sp := fun vs H Q E => ∃ (p : Addr) (x v : V) (t : Addr) (bs : List Bar), vs = [.ref p, x] ∧ SvAt K C H p v t bs ∧
  ((∃ o, x = .int o ∧ IsNum o ∧ ∀ p' v' t' cs H', Same H H' → TurnL s o bs cs → SvAt K C H' p' v' t' cs → Q (.ref p') H') ∨ (OddV K H x ∧ E (.ref B) none H))
section
variable {P : Program} {w : World} {K : PySem.W.Frag} {mg : Str → Option Value} {base : Heap}
theorem ok_p_turned (T : Txt K mg) : FnOk P w K mg base CX0 12 T.f_p_turned T.fd_p_turned ["sieve", "sign", "by"] (sp_p_turned K T.C) := by
  refine T.F_p_turned.ok sc_p_turned (fun vs H Q E h => ?_) (fun cdv A outer s H vs Q E hr h => ?_)
  · obtain ⟨p, v, t, bs, s', o, rfl, _⟩ := h
    rfl
  · obtain ⟨p, v, t, bs, sg, o, rfl, S, hs, q⟩ := h
    refine ⟨_, (pss_cons (ps_set (i := 3) sc_p_turned.nd rfl (by first | exact .inl rfl | exact .inr rfl) (pe_lst pa_nil))
      (pss_cons (ps_for PassesOwn.never rfl (pi_tup (pe_prop (pv 0) T.cl T.pp_bars (ok_m_Sieve_bars T) (hr.mono (by decide)) T.b_m_Sieve_bars .nil pass0 (by rfl))) (pg_tup (by rfl) (pgs_cons (pg_name (i := 4) sc_p_turned.nd rfl (by first | exact .inl rfl | exact .inr rfl)) (pgs_cons (pg_name (i := 5) sc_p_turned.nd rfl (by first | exact .inl rfl | exact .inr rfl)) pgs_nil))) (pss_one (ps_expr (pe_bm PySem.F.plainAttrs_list PySem.F.slot_list_append PySem.F.type_list_append mt_append (pv 3) (pa_cons (pe_tup (pa_cons (pv 4) (pa_cons (pe_callTy call_tuple_of (by rfl) T.z_tuple (by decide +kernel) (pa_cons (pe_callB cr_sortedI (by rfl) T.z_sorted (by decide +kernel) (pa_cons (pe_lc (own := [("rest", 6)]) rfl sc_p_turned.nd (pi_tup (pv 5)) (blkOk_by (N := ["sieve", "sign", "by", "bars", "modulus", "lot", "rest"]) (sc := defScope s_p_turned) (by decide +kernel)) (fun _ _ _ _ _ => (pg_name (i := 6) sc_p_turned.nd rfl (by first | exact .inl rfl | exact .inr rfl))) (fun _ _ _ _ _ => pts_nil) (fun _ _ _ _ _ => (pe_op op_mod (pe_op op_add (pe_op op_mulW (pv 1) (pv 6)) (pv 2)) (pv 4)))) pa_nil)) pa_nil)) pa_nil))) pa_nil)))))
      (pss_one (ps_ret (pe_make T.mkC (ok_m_Sieve_init T) (hr.mono (by decide)) (by rfl) T.g_Sieve T.b_m_Sieve_init .nil pass0 (pa_cons (pe_callTy call_tuple_of (by rfl) T.z_tuple (by decide +kernel) (pa_cons (pv 3) pa_nil)) pa_nil)))))), ?_⟩
    have six := S.ok.six
    refine ⟨Nat.zero_le _, fun D nD => ?_⟩
    have s0 := same_upd nD (o := .lst [])
    have S0 := S.stay s0
    obtain ⟨va, xs, rfl, ta, nx, hx⟩ := S.bars.ex
    refine ⟨_, rfl, p, _, _, rfl, S0.ob.choose_spec, p, _, t, bs, rfl, S0, va, rfl, ⟨_, Same.seqTT s0 ta⟩, for_tup (K := K) (a := va) (xs := xs) (fun i σ Hi => ∃ (x4 x5 : Option V) (cs : List Bar), σ = [some (.ref p), some (.int sg), some (.int o), some (.ref D), x4, x5, none] ∧ TurnL sg o (bs.take i) cs ∧ BarLst K Hi D cs ∧ Same H Hi)
      ⟨none, none, [], rfl, TurnL.nil _ _, BarLst.nil upd_same, s0⟩ (fun i σ Hi _ ⟨_, _, _, _, _, _, si⟩ => Same.seqTT si ta) ?_ ?_⟩
    · rintro i x σ Hi hi ⟨x4, x5, cs, rfl, Tu, ⟨ys, ey, ny, fy⟩, si⟩
      have il : i < bs.length := by
        have := (List.getElem?_eq_some_iff.mp hi).1
        omega
      have hb : bs[i]? = some bs[i] := List.getElem?_eq_getElem il
      have ob := S.ok.bar _ (List.getElem_mem il)
      obtain ⟨pb, lv, rfl, tp, ⟨lc, rfl, tc⟩⟩ := ((hx i x _ hi hb).stay (.same si)).ex
      generalize bs[i] = b at hb tp tc ob
      have hm : 0 < b.1 := by have := ob.pos; omega
      have l60 := ob.lot.few
      have lcs : cs.length ≤ 6 := by
        rw [Tu.len, List.length_take]
        omega
      refine ⟨pb, _, rfl, tp, rfl, _, _, rfl, _, _, rfl, rfl, ?_⟩
      refine ⟨_, rfl, .inl ⟨rfl, _, lstOf ey⟩, _, rfl, _, rfl, lc, rfl, ⟨_, tc⟩, fun F nF => ?_⟩
      refine lc_tup (K := K) (a := lc) (xs := b.2.map V.int) (fun k Hk => Hk F = some (.lst (((b.2.take k).map fun r => (sg * r + o) % b.1).map V.int)) ∧ Same Hi Hk) ⟨upd_same, same_upd nF⟩ (fun k Hk _ ⟨_, sk⟩ => Same.seqTT sk tc) ?_ ?_
      · rintro k y Hk hk ⟨ek, sk⟩
        obtain ⟨x, hx', rfl⟩ := getMapInt' hk
        have x0 := ob.lot.ge x (List.mem_of_getElem? hx')
        have x1 := ob.lot.lt x (List.mem_of_getElem? hx')
        have x2 := ob.most
        refine ⟨rfl, _, rfl, _, rfl, _, _, rfl, rfl, wide_mul (a := 12) (b := 22) (by rcases hs with e | e <;> (rw [e]; decide)) (by omega) (by decide) (by decide) (by decide), _, rfl, _, _, rfl, rfl, _, rfl, _, _, rfl, rfl, hm, _, ek, ?_, ?_, samePut sk nF⟩
        · rw [List.length_map, List.length_map, List.length_take]
          exact sizeLt (by omega)
        · rw [upd_same, takeSucc hx', List.map_append, List.map_append]
          rfl
      · rintro Hk ⟨ek, sk⟩
        rw [List.length_map, List.take_length] at ek
        refine ⟨F, _, rfl, lstOf ek, fun ns p1 perm pw n1 => ⟨p1, _, rfl, .inl ⟨lstOf upd_same, fun u nu => ⟨sizeOk (by show (2 : Nat) ≤ 100000; decide), fun d nd => ?_⟩⟩⟩⟩
        have g1 := same_upd n1 (o := .lst (ns.map V.int))
        have g2 := same_upd nu (o := .tup (ns.map V.int))
        have g3 := same_upd nd (o := .tup [.int b.1, .ref u])
        have fu := g3 _ _ (upd_same (H := upd Hk p1 (.lst (ns.map V.int))) (a := u) (o := .tup (ns.map V.int)))
        have fd := upd_same (H := upd (upd Hk p1 (.lst (ns.map V.int))) u (.tup (ns.map V.int))) (a := d) (o := .tup [.int b.1, .ref u])
        have s3 := sk.trans (g1.trans (g2.trans g3))
        generalize upd (upd (upd Hk p1 (.lst (ns.map V.int))) u (.tup (ns.map V.int))) d (.tup [.int b.1, .ref u]) = H3 at s3 fu fd ⊢
        have e3 := s3 _ _ ey
        refine ⟨D, _, _, rfl, rfl, e3, by rw [ny]; exact sizeLt (by omega), _, _, cs ++ [(b.1, ns)], rfl, ?_, ?_, samePut (si.trans s3) nD⟩
        · rw [takeSucc hb]
          exact Tu.add (turn_lot hs ob perm pw)
        · exact BarLst.add (H := H3) ny (fun i x b h1 h2 => (fy i x b h1 h2).stay (.same s3)) (lstTups e3) upd_same (BarAt.stay (lstTups e3) ⟨d, .ref u, rfl, tupOf fd, ⟨u, rfl, tupOf fu⟩⟩)
    · rintro σ Hi ⟨x4, x5, cs, rfl, Tu, ⟨ys, ey, ny, fy⟩, si⟩
      rw [nx, List.take_length] at Tu
      refine ⟨_, rfl, D, ys, rfl, .inl ⟨lstOf ey, fun u nu => ?_⟩⟩
      have B := BarLst.tup ny fy nu
      exact fun y dy ny' ndy _ => make_sieve B (Tu.sv S.ok) ny' ndy fun t' H' s' A => ⟨rfl, q _ _ _ _ _ (si.trans ((same_upd nu).trans s')) Tu A⟩
end

end R
namespace R
open PySem PySem.Spec PyProof.Rows L2
section
variable {P : Program} {w : World} {K : PySem.W.Frag} {mg : Str → Option Value} {base : Heap}
theorem ok_p_moved (T : Txt K mg) : FnOk P w K mg base (L2.CX P w) 13 T.f_p_moved T.fd_p_moved ["sieve", "by"] (sp_turn K T.C T.C_BadNumber 1) := by
  refine T.F_p_moved.okX sc_p_moved (fun vs H Q E h => ?_) (fun cdv A outer s H vs Q E hr h => ?_)
  · obtain ⟨p, x, v, t, bs, rfl, _⟩ := h
    rfl
  · obtain ⟨p, x, v, t, bs, rfl, S, h⟩ := h
    refine ⟨_, (pss_cons (ps_expr (pe_call (ok_p_check_number T) (hr.mono (by decide)) (by rfl) T.g_p_check_number T.F_p_check_number.kp T.b_p_check_number .nil (passes_call (takes_of rfl rfl rfl rfl) (fun _ _ _ _ h => h)) (pa_cons (pv 1) pa_nil)))
      (pss_one (ps_ret (pe_call (ok_p_turned T) (hr.mono (by decide)) (by rfl) T.g_p_turned T.F_p_turned.kp T.b_p_turned .nil pass0 (pa_cons (pv 0) (pa_cons pe_int (pa_cons (pv 1) pa_nil))))))), ?_⟩
    rcases h with ⟨o, rfl, ho, q⟩ | ⟨o, q⟩
    · exact ⟨_, rfl, _, rfl, .inl ⟨o, rfl, ho, _, rfl, _, rfl, p, v, t, bs, 1, o, rfl, S, .inl rfl, q⟩⟩
    · exact ⟨_, rfl, _, rfl, .inr ⟨o, q⟩⟩
end

end R
namespace R
open PySem PySem.Spec PyProof.Rows L2
section
variable {P : Program} {w : World} {K : PySem.W.Frag} {mg : Str → Option Value} {base : Heap}
theorem ok_p_taken_from (T : Txt K mg) : FnOk P w K mg base (L2.CX P w) 13 T.f_p_taken_from T.fd_p_taken_from ["sieve", "number"] (sp_turn K T.C T.C_BadNumber (-1)) := by
  refine T.F_p_taken_from.okX sc_p_taken_from (fun vs H Q E h => ?_) (fun cdv A outer s H vs Q E hr h => ?_)
  · obtain ⟨p, x, v, t, bs, rfl, _⟩ := h
    rfl
  · obtain ⟨p, x, v, t, bs, rfl, S, h⟩ := h
    refine ⟨_, (pss_cons (ps_expr (pe_call (ok_p_check_number T) (hr.mono (by decide)) (by rfl) T.g_p_check_number T.F_p_check_number.kp T.b_p_check_number .nil (passes_call (takes_of rfl rfl rfl rfl) (fun _ _ _ _ h => h)) (pa_cons (pv 1) pa_nil)))
      (pss_one (ps_ret (pe_call (ok_p_turned T) (hr.mono (by decide)) (by rfl) T.g_p_turned T.F_p_turned.kp T.b_p_turned .nil pass0 (pa_cons (pv 0) (pa_cons (pe_un un_neg pe_int) (pa_cons (pv 1) pa_nil))))))), ?_⟩
    rcases h with ⟨o, rfl, ho, q⟩ | ⟨o, q⟩
    · exact ⟨_, rfl, _, rfl, .inl ⟨o, rfl, ho, _, rfl, _, rfl, _, rfl, p, v, t, bs, -1, o, rfl, S, .inr rfl, q⟩⟩
    · exact ⟨_, rfl, _, rfl, .inr ⟨o, q⟩⟩
end

end R
namespace R
open PySem PySem.Spec PyProof.Rows L2
/-! ## bars stretched -/
def strB (k : Int) (bs : List Bar) : List Bar := if bs = [] then [(k, [0])] else bs.map (scB k 0)
theorem wh_sc {k : Nat} : ∀ {bs : List Bar}, bs ≠ [] → (∀ b ∈ bs, 1 ≤ b.1) → wh (bs.map (scB (k : Int) 0)) = wh bs * k := by
  have go : ∀ bs : List Bar, bs ≠ [] → (∀ b ∈ bs, 1 ≤ b.1) → wh (bs.map (scB (k : Int) 0)) = wh bs * k := by
    refine snocInd (fun h => absurd rfl h) fun bs b ih _ hb => ?_
    have b1 := hb b (List.mem_append_right _ (List.mem_singleton.mpr rfl))
    have eb : (scB (k : Int) 0 b).1.natAbs = b.1.natAbs * k := by
      show (b.1 * (k : Int)).natAbs = _
      rw [Int.natAbs_mul, Int.natAbs_natCast]
    rw [List.map_append, List.map_cons, List.map_nil, wh_add, wh_add, eb]
    by_cases h : bs = []
    · subst h
      show Nat.lcm 1 _ = Nat.lcm 1 _ * k
      rw [Nat.lcm_one_left, Nat.lcm_one_left]
    · rw [ih h fun c hc => hb c (List.mem_append_left _ hc), Nat.lcm_mul_right]
  exact fun {bs} h k => go bs h k
theorem wh_str {k : Nat} {bs : List Bar} (hb : ∀ b ∈ bs, 1 ≤ b.1) : wh (strB (k : Int) bs) = wh bs * k := by
  unfold strB
  by_cases h : bs = []
  · rw [if_pos h, h]
    show Nat.lcm 1 (k : Int).natAbs = 1 * k
    rw [Int.natAbs_natCast, Nat.lcm_one_left, Nat.one_mul]
  · rw [if_neg h]
    exact wh_sc h hb
theorem sc_one {k m x : Int} {l : List Int} (hk : 0 < k) (lo : LotOk m l) : x % (m * k) ∈ l.map (fun r => r * k + 0) ↔ x % k = 0 ∧ (x / k) % m ∈ l := by
  rw [List.mem_map]
  constructor
  · rintro ⟨r, hr, e⟩
    rw [Int.add_zero] at e
    have d : x = k * (r + m * (x / (m * k))) := by
      have h := Int.emod_add_mul_ediv x (m * k)
      rw [← e] at h
      rw [Int.mul_add, Int.mul_comm k r, ← Int.mul_assoc, Int.mul_comm k m]
      omega
    have hd : x / k = r + m * (x / (m * k)) := by
      have h2 := congrArg (fun z => z / k) d
      simp only [Int.mul_ediv_cancel_left _ (Int.ne_of_gt hk)] at h2
      exact h2
    refine ⟨by rw [d]; exact Int.mul_emod_right _ _, ?_⟩
    rw [hd, Int.add_mul_emod_self_left, Int.emod_eq_of_lt (lo.ge r hr) (lo.lt r hr)]
    exact hr
  · rintro ⟨h0, h1⟩
    refine ⟨_, h1, ?_⟩
    have e : x = k * (x / k) := (Int.mul_ediv_cancel' (Int.dvd_of_emod_eq_zero h0)).symm
    have e2 : x % (m * k) = (k * (x / k)) % (k * m) := by rw [← e, Int.mul_comm k m]
    rw [e2, Int.mul_emod_mul_of_pos _ _ hk, Int.add_zero, Int.mul_comm]
theorem fits_str {k : Int} {bs : List Bar} (hk : 0 < k) (hb : ∀ b ∈ bs, LotOk b.1 b.2) (x : Int) : fitsB (strB k bs) x = true ↔ x % k = 0 ∧ fitsB bs (x / k) = true := by
  unfold strB
  by_cases h : bs = []
  · rw [if_pos h, h]
    unfold fitsB
    simp
  · rw [if_neg h]
    obtain ⟨c, hc⟩ := List.exists_mem_of_ne_nil _ h
    unfold fitsB
    rw [List.all_eq_true, List.all_eq_true]
    constructor
    · intro f
      refine ⟨?_, fun b hb' => ?_⟩
      · have := f _ (List.mem_map.mpr ⟨c, hc, rfl⟩)
        exact ((sc_one hk (hb c hc)).mp (of_decide_eq_true this)).1
      · have := f _ (List.mem_map.mpr ⟨b, hb', rfl⟩)
        exact decide_eq_true ((sc_one hk (hb b hb')).mp (of_decide_eq_true this)).2
    · rintro ⟨h0, f⟩ c hc
      obtain ⟨b, hb', rfl⟩ := List.mem_map.mp hc
      exact decide_eq_true ((sc_one hk (hb b hb')).mpr ⟨h0, of_decide_eq_true (f b hb')⟩)
theorem cls_str {k : Nat} {bs : List Bar} (hk : 0 < k) (S : SvOk bs) : cls (strB (k : Int) bs) = (cls bs).map fun c => c * (k : Int) := by
  have ew := wh_str (k := k) (bs := bs) fun b hb => (S.bar b hb).pos
  refine asc_eq (cls_up _) ?_ fun x => ?_
  · rw [List.pairwise_map]
    exact (cls_up bs).imp fun {a b} lt => Int.mul_lt_mul_of_pos_right lt (by omega)
  · rw [cls_mem, fits_str (by omega) (fun b hb => (S.bar b hb).lot), ew, List.mem_map]
    constructor
    · rintro ⟨x0, x1, h0, f⟩
      have e : (x / (k : Int)) * (k : Int) = x := by
        have := Int.mul_ediv_cancel' (Int.dvd_of_emod_eq_zero h0)
        rw [Int.mul_comm]
        exact this
      refine ⟨x / (k : Int), cls_mem.mpr ⟨Int.ediv_nonneg x0 (by omega), ?_, f⟩, e⟩
      refine Int.ediv_lt_of_lt_mul (by omega) ?_
      rw [Int.natCast_mul] at x1
      exact x1
    · rintro ⟨c, hc, rfl⟩
      obtain ⟨c0, c1, f⟩ := cls_mem.mp hc
      refine ⟨Int.mul_nonneg c0 (by omega), ?_, Int.mul_emod_left _ _, ?_⟩
      · rw [Int.natCast_mul]
        exact Int.mul_lt_mul_of_pos_right c1 (by omega)
      · rw [Int.mul_ediv_cancel _ (by omega)]
        exact f
theorem str_ok {k : Int} {bs : List Bar} (S : SvOk bs) (l5 : bs.length ≤ 5) (k1 : 1 ≤ k) (kk : k ≤ 1000000) (h : ∀ b ∈ bs, b.1 * k ≤ 1000000) : SvOk (strB k bs) := by
  have bars : ∀ b ∈ strB k bs, BarOk b := fun b hb => by
    unfold strB at hb
    by_cases e : bs = []
    · rw [if_pos e] at hb
      rw [List.mem_singleton.mp hb]
      exact ⟨k1, kk, ⟨by simp, by simp, by simp; omega, by simp⟩⟩
    · rw [if_neg e] at hb
      obtain ⟨c, hc, rfl⟩ := List.mem_map.mp hb
      have o := S.bar c hc
      have h1 : 1 * 1 ≤ c.1 * k := Int.mul_le_mul o.pos k1 (by decide) (by have := o.pos; omega)
      exact ⟨by show 1 ≤ c.1 * k; omega, h c hc, scB_lot o.lot k1 (Int.le_refl 0) (by omega)⟩
  have len : (strB k bs).length ≤ 5 := by
    unfold strB
    split
    · exact (by decide : (1 : Nat) ≤ 5)
    · rw [List.length_map]
      exact l5
  refine ⟨by omega, bars, ?_, ?_⟩
  · have := wh_le (strB k bs) fun b hb => by have := bars b hb; have := this.pos; have := (bars b hb).most; omega
    exact Nat.le_trans this (Nat.le_trans (Nat.pow_le_pow_right (by decide) len) (by decide))
  · unfold strB
    split
    · exact (by decide : (1 : Nat) * max 1 [(0 : Int)].length ≤ 2000)
    · rw [choices_sc]
      exact S.many
/-! ## bars shared -/
structure ShB (k : Nat) (b c : Bar) : Prop where
  mod : c.1 = b.1 / ((Nat.gcd b.1.natAbs k : Nat) : Int)
  pos : 1 ≤ c.1
  most : c.1 ≤ b.1
  lot : LotOk c.1 c.2
  len : c.2.length ≤ b.2.length
  mem : ∀ x, x % c.1 ∈ c.2 ↔ (x * (k : Int)) % b.1 ∈ b.2
theorem ShB.one {k : Nat} {b c d : Bar} (h : ShB k b c) (g : ShB k b d) : c = d := by
  have e : c.1 = d.1 := h.mod.trans g.mod.symm
  refine Prod.ext e (asc_eq h.lot.up g.lot.up fun x => ⟨fun hx => ?_, fun hx => ?_⟩)
  · have x0 := h.lot.ge x hx
    have x1 := h.lot.lt x hx
    have := (g.mem x).mpr ((h.mem x).mp (by rw [Int.emod_eq_of_lt x0 x1]; exact hx))
    rwa [← e, Int.emod_eq_of_lt x0 x1] at this
  · have x0 := g.lot.ge x hx
    have x1 := g.lot.lt x hx
    have := (h.mem x).mpr ((g.mem x).mp (by rw [Int.emod_eq_of_lt x0 x1]; exact hx))
    rwa [e, Int.emod_eq_of_lt x0 x1] at this
structure ShL (k : Nat) (bs cs : List Bar) : Prop where
  len : cs.length = bs.length
  at_ : ∀ (i : Nat) b c, bs[i]? = some b → cs[i]? = some c → ShB k b c
theorem ShL.nil (k : Nat) : ShL k [] [] := ⟨rfl, fun i b c h _ => by simp at h⟩
theorem ShL.add {k : Nat} {bs cs : List Bar} {b c : Bar} (h : ShL k bs cs) (g : ShB k b c) : ShL k (bs ++ [b]) (cs ++ [c]) := by
  refine ⟨by rw [List.length_append, List.length_append, h.len]; rfl, fun i x y h1 h2 => ?_⟩
  by_cases l : i < bs.length
  · rw [List.getElem?_append_left l] at h1
    rw [List.getElem?_append_left (by rw [h.len]; exact l)] at h2
    exact h.at_ i x y h1 h2
  · rw [List.getElem?_append_right (by omega)] at h1
    rw [List.getElem?_append_right (by rw [h.len]; omega), h.len] at h2
    cases z : i - bs.length with
    | zero =>
      rw [z] at h1 h2
      cases Option.some.inj h1
      cases Option.some.inj h2
      exact g
    | succ j => rw [z] at h1; simp at h1
theorem ShL.at {k : Nat} {bs cs : List Bar} (h : ShL k bs cs) {c : Bar} (hc : c ∈ cs) : ∃ b ∈ bs, ShB k b c := by
  obtain ⟨i, hi⟩ := List.getElem?_of_mem hc
  have il := (List.getElem?_eq_some_iff.mp hi).1
  have hb : bs[i]? = some (bs[i]'(by rw [← h.len]; exact il)) := List.getElem?_eq_getElem _
  exact ⟨_, List.mem_of_getElem? hb, h.at_ i _ c hb hi⟩
theorem ShL.at' {k : Nat} {bs cs : List Bar} (h : ShL k bs cs) {b : Bar} (hb : b ∈ bs) : ∃ c ∈ cs, ShB k b c := by
  obtain ⟨i, hi⟩ := List.getElem?_of_mem hb
  have il := (List.getElem?_eq_some_iff.mp hi).1
  have hc : cs[i]? = some (cs[i]'(by rw [h.len]; exact il)) := List.getElem?_eq_getElem _
  exact ⟨_, List.mem_of_getElem? hc, h.at_ i b _ hi hc⟩
theorem ShL.fits {k : Nat} {bs cs : List Bar} (h : ShL k bs cs) (x : Int) : fitsB cs x = fitsB bs (x * (k : Int)) := by
  unfold fitsB
  rw [Bool.eq_iff_iff, List.all_eq_true, List.all_eq_true]
  constructor
  · intro f b hb
    obtain ⟨c, hc, g⟩ := h.at' hb
    exact decide_eq_true ((g.mem x).mp (of_decide_eq_true (f c hc)))
  · intro f c hc
    obtain ⟨b, hb, g⟩ := h.at hc
    exact decide_eq_true ((g.mem x).mpr (of_decide_eq_true (f b hb)))
theorem ShL.wh {k : Nat} : ∀ {bs cs : List Bar}, ShL k bs cs → (∀ b ∈ bs, 1 ≤ b.1) → R.wh cs ∣ R.wh bs := by
  intro bs cs h hb
  have each : ∀ c ∈ cs, c.1.natAbs ∣ R.wh bs := fun c hc => by
    obtain ⟨b, hb', g⟩ := h.at hc
    have d1 : c.1 ∣ b.1 := by
      rw [g.mod]
      refine ⟨((Nat.gcd b.1.natAbs k : Nat) : Int), (Int.ediv_mul_cancel ?_).symm⟩
      rw [← Int.dvd_natAbs]
      exact Int.natCast_dvd_natCast.mpr (Nat.gcd_dvd_left _ _)
    exact Nat.dvd_trans (Int.natAbs_dvd_natAbs.mpr d1) (dvd_wh bs b hb')
  exact wh_dvd cs each
theorem ShL.choices {k : Nat} {bs cs : List Bar} (h : ShL k bs cs) : R.choices cs ≤ R.choices bs := by
  have go : ∀ n, R.choices (cs.take n) ≤ R.choices (bs.take n) := by
    intro n
    induction n with
    | zero => exact Nat.le_refl _
    | succ n ih =>
      by_cases l : n < bs.length
      · have hb : bs[n]? = some bs[n] := List.getElem?_eq_getElem l
        have hc : cs[n]? = some (cs[n]'(by rw [h.len]; exact l)) := List.getElem?_eq_getElem _
        rw [takeSucc hb, takeSucc hc, choices_add, choices_add]
        have := (h.at_ n _ _ hb hc).len
        exact Nat.mul_le_mul ih (by omega)
      · rw [List.take_of_length_le (by rw [h.len]; omega), List.take_of_length_le (by omega)]
        rw [List.take_of_length_le (by rw [h.len]; omega), List.take_of_length_le (by omega)] at ih
        exact ih
  have := go bs.length
  rw [List.take_length, ← h.len, List.take_length] at this
  exact this
theorem ShL.sv {k : Nat} {bs cs : List Bar} (h : ShL k bs cs) (S : SvOk bs) : SvOk cs := by
  refine ⟨by rw [h.len]; exact S.six, fun c hc => ?_, ?_, Nat.le_trans h.choices S.many⟩
  · obtain ⟨b, hb, g⟩ := h.at hc
    have := (S.bar b hb).most
    have := g.most
    exact ⟨g.pos, by omega, g.lot⟩
  · exact Nat.le_trans (Nat.le_of_dvd S.mods.pos (h.wh fun b hb => (S.bar b hb).pos)) S.great
/-- the lot that shared_bar makes -/
theorem sh_lot {k : Nat} {b : Bar} {back : Int} {ns : List Int} (hk : 1 ≤ k) (ob : BarOk b) (hi : b.1 / ((Nat.gcd b.1.natAbs k : Nat) : Int) ∣ ((k / Nat.gcd b.1.natAbs k : Nat) : Int) * back - 1)
    (p : ns.Perm ((b.2.filter fun r => decide (r % ((Nat.gcd b.1.natAbs k : Nat) : Int) = 0)).map fun r => r / ((Nat.gcd b.1.natAbs k : Nat) : Int) * back % (b.1 / ((Nat.gcd b.1.natAbs k : Nat) : Int)))) (up : ns.Pairwise (· ≤ ·)) :
    ShB k b (b.1 / ((Nat.gcd b.1.natAbs k : Nat) : Int), ns) := by
  have b1 := ob.pos
  have g0 : 0 < Nat.gcd b.1.natAbs k := Nat.gcd_pos_of_pos_right _ (by omega)
  have dm : Nat.gcd b.1.natAbs k ∣ b.1.natAbs := Nat.gcd_dvd_left _ _
  have dk : Nat.gcd b.1.natAbs k ∣ k := Nat.gcd_dvd_right _ _
  generalize hg : Nat.gcd b.1.natAbs k = g at *
  obtain ⟨s, hs⟩ := dm
  obtain ⟨k', hk'⟩ := dk
  have eb : b.1 = (g : Int) * (s : Int) := by
    rw [← Int.natCast_mul, ← hs]
    omega
  have es : b.1 / (g : Int) = (s : Int) := by rw [eb]; exact Int.mul_ediv_cancel_left _ (by omega)
  have ek : ((k / g : Nat) : Int) = (k' : Int) := by rw [hk', Nat.mul_div_cancel_left _ g0]
  have ekk : (k : Int) = (g : Int) * (k' : Int) := by rw [hk']; exact Int.natCast_mul _ _
  have s0 : 0 < s := by
    rcases Nat.eq_zero_or_pos s with z | z
    · rw [z] at eb
      omega
    · exact z
  rw [es] at hi p ⊢
  rw [ek] at hi
  -- from a lot's rest to the new one and back
  have to : ∀ r : Int, r % (g : Int) = 0 → 0 ≤ r → r < b.1 → ((r / (g : Int) * back % (s : Int)) * (k : Int)) % b.1 = r := by
    intro r hr r0 r1
    have er : r = (g : Int) * (r / (g : Int)) := (Int.mul_ediv_cancel' (Int.dvd_of_emod_eq_zero hr)).symm
    have h0 : 0 ≤ r / (g : Int) := Int.ediv_nonneg r0 (by omega)
    have h1 : r / (g : Int) < (s : Int) := Int.ediv_lt_of_lt_mul (by omega) (by rw [Int.mul_comm, ← eb]; exact r1)
    generalize r / (g : Int) = t at er h0 h1 ⊢
    rw [ekk, eb, show t * back % (s : Int) * ((g : Int) * (k' : Int)) = (g : Int) * ((t * back % (s : Int)) * (k' : Int)) by rw [Int.mul_left_comm], Int.mul_emod_mul_of_pos _ _ (by omega), er]
    congr 1
    rw [Int.mul_emod, Int.emod_emod, ← Int.mul_emod]
    obtain ⟨e, he⟩ := hi
    have : t * back * (k' : Int) = t + (s : Int) * (t * e) := by
      have h2 : (k' : Int) * back = 1 + (s : Int) * e := by omega
      rw [Int.mul_assoc, Int.mul_comm back, h2, Int.mul_add, Int.mul_one, Int.mul_left_comm]
    rw [this, Int.add_mul_emod_self_left, Int.emod_eq_of_lt h0 h1]
  have mem : ∀ x, 0 ≤ x → x < (s : Int) → (x ∈ ns ↔ (x * (k : Int)) % b.1 ∈ b.2) := by
    intro x x0 x1
    rw [p.mem_iff, List.mem_map]
    constructor
    · rintro ⟨r, hr, rfl⟩
      obtain ⟨h1, h2⟩ := List.mem_filter.mp hr
      rw [to r (of_decide_eq_true h2) (ob.lot.ge r h1) (ob.lot.lt r h1)]
      exact h1
    · intro h
      refine ⟨_, List.mem_filter.mpr ⟨h, ?_⟩, ?_⟩
      · refine decide_eq_true ?_
        rw [ekk, eb, Int.mul_left_comm, Int.mul_emod_mul_of_pos _ _ (by omega)]
        exact Int.mul_emod_right _ _
      · rw [ekk, eb, Int.mul_left_comm, Int.mul_emod_mul_of_pos _ _ (by omega), Int.mul_ediv_cancel_left _ (by omega), Int.mul_emod, Int.emod_emod, ← Int.mul_emod]
        obtain ⟨e, he⟩ := hi
        have : x * (k' : Int) * back = x + (s : Int) * (x * e) := by
          have h2 : (k' : Int) * back = 1 + (s : Int) * e := by omega
          rw [Int.mul_assoc, h2, Int.mul_add, Int.mul_one, Int.mul_left_comm]
        rw [this, Int.add_mul_emod_self_left, Int.emod_eq_of_lt x0 x1]
  have lot : LotOk (s : Int) ns := by
    refine sorted_lot p up ?_ (fun x hx => ?_) ?_
    · unfold List.Nodup
      rw [List.pairwise_map]
      refine List.Pairwise.imp_of_mem (fun {x y} hx hy lt e => ?_) (ob.lot.up.filter _)
      obtain ⟨h1, h2⟩ := List.mem_filter.mp hx
      obtain ⟨h3, h4⟩ := List.mem_filter.mp hy
      have e1 := to x (of_decide_eq_true h2) (ob.lot.ge x h1) (ob.lot.lt x h1)
      have e2 := to y (of_decide_eq_true h4) (ob.lot.ge y h3) (ob.lot.lt y h3)
      rw [e, e2] at e1
      omega
    · obtain ⟨r, _, rfl⟩ := List.mem_map.mp hx
      exact ⟨Int.emod_nonneg _ (by omega), Int.emod_lt_of_pos _ (by omega)⟩
    · rw [List.length_map]
      have h1 := List.length_filter_le (fun r => decide (r % (g : Int) = 0)) b.2
      have h2 := ob.lot.few
      omega
  refine ⟨by show (s : Int) = b.1 / ((Nat.gcd b.1.natAbs k : Nat) : Int); rw [hg, es], by show 1 ≤ (s : Int); omega, ?_, lot, ?_, fun x => ?_⟩
  · show (s : Int) ≤ b.1
    rw [eb]
    have : (1 : Int) * (s : Int) ≤ (g : Int) * (s : Int) := Int.mul_le_mul_of_nonneg_right (by omega) (by omega)
    omega
  · show ns.length ≤ _
    rw [p.length_eq, List.length_map]
    exact List.length_filter_le _ _
  · show x % (s : Int) ∈ ns ↔ _
    rw [mem _ (Int.emod_nonneg _ (by omega)) (Int.emod_lt_of_pos _ (by omega))]
    have : (x % (s : Int) * (k : Int)) % b.1 = (x * (k : Int)) % b.1 := by
      rw [ekk, eb, Int.mul_left_comm, Int.mul_left_comm x, Int.mul_emod_mul_of_pos _ _ (by omega), Int.mul_emod_mul_of_pos _ _ (by omega), Int.mul_emod, Int.emod_emod, ← Int.mul_emod]
    rw [this]

end R
namespace R
open PySem PySem.Spec PyProof.Rows L2
/-! ## factors checked -/
def sp_p_check_factor (K : PySem.W.Frag) (B : Addr) : Sp := fun vs H Q E => ∃ x : V, vs = [x] ∧ ((∃ i, x = .int i ∧ 1 ≤ i ∧ i ≤ 1000 ∧ Q .non H) ∨ (OffI K H 1 1000 x ∧ E (.ref B) none H))
section
variable {P : Program} {w : World} {K : PySem.W.Frag} {mg : Str → Option Value} {base : Heap}
theorem ok_p_check_factor (T : Txt K mg) : FnOk P w K mg base (L2.CX P w) 4 T.f_p_check_factor T.fd_p_check_factor ["value"] (sp_p_check_factor K T.C_BadNumber) := by
  refine T.F_p_check_factor.okX sc_p_check_factor (fun vs H Q E h => ?_) (fun cdv A outer s H vs Q E hr h => ?_)
  · obtain ⟨x, rfl, _⟩ := h
    rfl
  · obtain ⟨x, rfl, h⟩ := h
    refine ⟨_, (pss_one (ps_if (pt_not (pt_val (pe_call (ok_p_integer_within T) (hr.mono (by decide)) (by rfl) T.g_p_integer_within T.F_p_integer_within.kp T.b_p_integer_within .nil pass0 (pa_cons (pv 0) (pa_cons pe_int (pa_cons (pe_glob (v := .int 1000) (by rfl) T.c_GREATEST_FACTOR.choose_spec ⟨_, rfl⟩) pa_nil)))))) (pss_one (ps_raise rfl (takes_of rfl rfl rfl rfl) (pmk_own PySem.F.excBase_ValueError T.x_BadNumber T.g_BadNumber T.k_BadNumber (raises_own T.b_BadNumber T.t_BadNumber) (by rfl)))) pss_nil)), ?_⟩
    rcases h with ⟨i, rfl, h1, h2, q⟩ | ⟨o | ⟨i, rfl, o⟩, q⟩
    · refine ⟨_, rfl, _, 1, 1000, rfl, .inl ⟨i, rfl, _, rfl, ?_⟩⟩
      rw [onYes h1 h2]
      exact iteF q
    · exact ⟨_, rfl, _, 1, 1000, rfl, .inr ⟨o, _, rfl, iteT q⟩⟩
    · refine ⟨_, rfl, _, 1, 1000, rfl, .inl ⟨i, rfl, _, rfl, ?_⟩⟩
      rw [offNo o]
      exact iteT q
end

end R
namespace R
open PySem PySem.Spec PyProof.Rows L2
/-! ## stretched -/
def sp_p_stretched (K : PySem.W.Frag) (C B G : Addr) : Sp := fun vs H Q E => ∃ (p : Addr) (x v : V) (t : Addr) (bs : List Bar), vs = [.ref p, x] ∧ SvAt K C H p v t bs ∧
  ((OffI K H 1 1000 x ∧ E (.ref B) none H) ∨ ∃ k : Int, x = .int k ∧ 1 ≤ k ∧ k ≤ 1000 ∧ (((∃ b ∈ bs, 1000000 < b.1 * k) ∧ ∀ H', Same H H' → E (.ref G) none H') ∨
    (bs.length ≤ 5 ∧ (∀ b ∈ bs, b.1 * k ≤ 1000000) ∧ ∀ p' v' t' H', Same H H' → SvAt K C H' p' v' t' (strB k bs) → Q (.ref p') H')))
section
variable {P : Program} {w : World} {K : PySem.W.Frag} {mg : Str → Option Value} {base : Heap}
theorem ok_p_stretched (T : Txt K mg) : FnOk P w K mg base (L2.CX P w) 12 T.f_p_stretched T.fd_p_stretched ["sieve", "by"] (sp_p_stretched K T.C T.C_BadNumber T.C_TooGreat) := by
  refine T.F_p_stretched.okX sc_p_stretched (fun vs H Q E h => ?_) (fun cdv A outer s H vs Q E hr h => ?_)
  · obtain ⟨p, x, v, t, bs, rfl, _⟩ := h
    rfl
  · obtain ⟨p, x, v, t, bs, rfl, S, h⟩ := h
    refine ⟨_, (pss_cons (ps_expr (pe_call (ok_p_check_factor T) (hr.mono (by decide)) (by rfl) T.g_p_check_factor T.F_p_check_factor.kp T.b_p_check_factor .nil (passes_call (takes_of rfl rfl rfl rfl) (fun _ _ _ _ h => h)) (pa_cons (pv 1) pa_nil)))
      (pss_cons (ps_if (pt_cmpR (op_eqD hr.units) (pe_prop (pv 0) T.cl T.pp_bars (ok_m_Sieve_bars T) (hr.mono (by decide)) T.b_m_Sieve_bars .nil pass0 (by rfl)) (pe_tup pa_nil) (nomark _)) (pss_one (ps_ret (pe_make T.mkC (ok_m_Sieve_init T) (hr.mono (by decide)) (by rfl) T.g_Sieve T.b_m_Sieve_init .nil pass0 (pa_cons (pe_tup (pa_cons (pe_tup (pa_cons (pv 1) (pa_cons (pe_tup (pa_cons pe_int pa_nil)) pa_nil))) pa_nil)) pa_nil)))) pss_nil)
      (pss_cons (ps_setLc (i := 2) (own := [("modulus", 3), ("lot", 4)]) (g := gTup K 2 (gCons (gName 3) (gCons (gName 4) (gNil)))) rfl sc_p_stretched.nd rfl rfl (sw_true rfl rfl rfl (by decide +kernel)) (pi_tup (pe_prop (pv 0) T.cl T.pp_bars (ok_m_Sieve_bars T) (hr.mono (by decide)) T.b_m_Sieve_bars .nil pass0 (by rfl))) (blkOk_by (N := ["sieve", "by", "bars", "modulus", "lot", "rest", "_"]) (sc := defScope s_p_stretched) (by decide +kernel)) (fun _ _ _ _ _ => (pg_tup (by rfl) (pgs_cons (pg_name (i := 3) sc_p_stretched.nd rfl (by first | exact .inl rfl | exact .inr rfl)) (pgs_cons (pg_name (i := 4) sc_p_stretched.nd rfl (by first | exact .inl rfl | exact .inr rfl)) pgs_nil)))) (fun _ _ _ _ _ => pts_nil) (fun _ _ _ _ _ => (pe_tup (pa_cons (pe_op op_mulW (pv 3) (pv 1)) (pa_cons (pe_callTy (r := rTupOf K) call_tuple_of (by rfl) T.z_tuple (by decide +kernel) (pa_cons (by exact (pe_lc (own := [("rest", 5)]) rfl sc_p_stretched.nd (pi_tupK (K := K) rfl (pv 4)) (blkOk_by (N := ["sieve", "by", "bars", "modulus", "lot", "rest", "_"]) (by kernel_rfl)) (fun _ _ _ _ _ => (pg_name (i := 5) sc_p_stretched.nd rfl (by first | exact .inl rfl | exact .inr rfl))) (fun _ _ _ _ _ => pts_nil) (fun _ _ _ _ _ => (pe_op op_mulW (pv 5) (pv 1))))) pa_nil)) pa_nil)))))
      (pss_cons (ps_if (pt_cmpR op_gt (pe_callB (cr_max rfl) (by rfl) T.z_max (by decide +kernel) (pa_cons (pe_lc (own := [("modulus", 3), ("_", 6)]) (g := gTup K 2 (gCons (gName 3) (gCons (gName 6) (gNil)))) rfl sc_p_stretched.nd (pi_list (pv 2)) (blkOk_by (N := ["sieve", "by", "bars", "modulus", "lot", "rest", "_"]) (sc := defScope s_p_stretched) (by decide +kernel)) (fun _ _ _ _ _ => (pg_tup (by rfl) (pgs_cons (pg_name (i := 3) sc_p_stretched.nd rfl (by first | exact .inl rfl | exact .inr rfl)) (pgs_cons (pg_name (i := 6) sc_p_stretched.nd rfl (by first | exact .inl rfl | exact .inr rfl)) pgs_nil)))) (fun _ _ _ _ _ => pts_nil) (fun _ _ _ _ _ => (pv 3))) pa_nil)) (pe_glob (v := .int 1000000) (by rfl) T.c_GREATEST_MODULUS.choose_spec ⟨_, rfl⟩) (nomark _)) (pss_one (ps_raise rfl (takes_of rfl rfl rfl rfl) (pmk_own PySem.F.excBase_ValueError T.x_TooGreat T.g_TooGreat T.k_TooGreat (raises_own T.b_TooGreat T.t_TooGreat) (by rfl)))) pss_nil)
      (pss_one (ps_ret (pe_make T.mkC (ok_m_Sieve_init T) (hr.mono (by decide)) (by rfl) T.g_Sieve T.b_m_Sieve_init .nil pass0 (pa_cons (pe_callTy call_tuple_of (by rfl) T.z_tuple (by decide +kernel) (pa_cons (pv 2) pa_nil)) pa_nil)))))))), ?_⟩
    refine ⟨_, rfl, x, rfl, ?_⟩
    rcases h with ⟨o, q⟩ | ⟨k, rfl, k1, k2, h⟩
    · exact .inr ⟨o, q⟩
    refine .inl ⟨k, rfl, k1, k2, ?_⟩
    have six := S.ok.six
    refine ⟨_, rfl, p, _, _, rfl, S.ob.choose_spec, p, v, t, bs, rfl, S, sizeOk (by show (0 : Nat) ≤ 100000; decide), fun d nd => ?_⟩
    have s1 := same_upd nd (o := .tup [])
    have S1 := S.stay s1
    refine ⟨_, _, dpBars S1.bars, .tup (tupOf upd_same) .nil, (okBars _).shaped (by decide), by decide, _, rfl, ?_⟩
    rw [show PyData.eqv (.tuple (bs.map barD)) (.tuple []) = decide (bs = []) from eqvBars bs []]
    generalize upd H d (.tup []) = H1 at s1 S1 ⊢
    by_cases h0 : bs = []
    · rw [decide_eq_true h0]
      rcases h with ⟨⟨b, hb, _⟩, _⟩ | ⟨l5, hb, q⟩
      · rw [h0] at hb
        simp at hb
      have ok := str_ok S.ok l5 k1 (by omega) hb
      have es : strB k bs = [(k, [0])] := if_pos h0
      rw [es] at ok q
      refine iteT ⟨_, rfl, sizeOk (by show (1 : Nat) ≤ 100000; decide), fun a1 n1 => ⟨sizeOk (by show (2 : Nat) ≤ 100000; decide), fun a2 n2 => ⟨sizeOk (by show (1 : Nat) ≤ 100000; decide), fun a3 n3 => ?_⟩⟩⟩
      have g1 := same_upd n1 (o := .tup ([0].map V.int))
      have g2 := same_upd n2 (o := .tup [.int k, .ref a1])
      have g3 := same_upd n3 (o := .tup [.ref a2])
      have f1 := g3 _ _ (g2 _ _ (upd_same (H := H1) (a := a1) (o := .tup ([0].map V.int))))
      have f2 := g3 _ _ (upd_same (H := upd H1 a1 (.tup ([0].map V.int))) (a := a2) (o := .tup [.int k, .ref a1]))
      have f3 := upd_same (H := upd (upd H1 a1 (.tup ([0].map V.int))) a2 (.tup [.int k, .ref a1])) (a := a3) (o := .tup [.ref a2])
      exact fun z dz nz ndz _ => make_sieve (oneBar (b := (k, [0])) (tupOf f3) ⟨a2, .ref a1, rfl, tupOf f2, ⟨a1, rfl, tupOf f1⟩⟩) ok nz ndz fun t' H' s' A => ⟨rfl, q _ _ _ _ (s1.trans (g1.trans (g2.trans (g3.trans s')))) A⟩
    rw [decide_eq_false h0]
    obtain ⟨ba, xs, rfl, tb, nx, hx⟩ := S1.bars.ex
    refine iteF ⟨_, rfl, p, _, _, rfl, S1.ob.choose_spec, p, _, t, bs, rfl, S1, ba, rfl, ⟨_, tb⟩, fun D6 n6 => ?_⟩
    refine lc_tup (K := K) (a := ba) (xs := xs) (fun j Hj => BarLst K Hj D6 ((bs.take j).map (scB k 0)) ∧ Same H1 Hj) ⟨BarLst.nil upd_same, same_upd n6⟩ (fun j Hj _ ⟨_, sj⟩ => Same.seqTT sj tb) ?_ ?_
    · rintro j y Hj hj ⟨⟨ys, ey, ny, fy⟩, sj⟩
      have jl : j < bs.length := by
        have := (List.getElem?_eq_some_iff.mp hj).1
        omega
      have hb : bs[j]? = some bs[j] := List.getElem?_eq_getElem jl
      obtain ⟨pb, lv, rfl, tp, ⟨lc, rfl, tc⟩⟩ := ((hx j y _ hj hb).stay (.same sj)).ex
      have ob := S.ok.bar _ (List.getElem_mem jl)
      generalize bs[j] = b at hb tp tc ob
      have b1 := ob.pos
      have b2 := ob.most
      have bl := ob.lot
      refine ⟨pb, _, rfl, tp, rfl, _, _, rfl, _, _, rfl, rfl, rfl, ?_⟩
      refine ⟨_, rfl, _, rfl, _, _, rfl, rfl, wide_mul (a := 22) (b := 12) (by omega) (by omega) (by decide) (by decide) (by decide), ?_⟩
      refine ⟨_, rfl, lc, rfl, ⟨_, tc⟩, fun F nF => ?_⟩
      refine lc_tup (K := K) (a := lc) (xs := b.2.map V.int) (fun u Hu => Hu F = some (.lst (((b.2.take u).map fun r => r * k).map V.int)) ∧ Same Hj Hu) ⟨upd_same, same_upd nF⟩ (fun u Hu _ ⟨_, su⟩ => Same.seqTT su tc) ?_ ?_
      · rintro u y Hu hu ⟨el, su⟩
        obtain ⟨x, hx', rfl⟩ := getMapInt' hu
        have x0 := bl.ge x (List.mem_of_getElem? hx')
        have x1 := bl.lt x (List.mem_of_getElem? hx')
        have few := bl.few
        refine ⟨rfl, _, rfl, _, rfl, _, _, rfl, rfl, wide_mul (a := 22) (b := 12) (by omega) (by omega) (by decide) (by decide) (by decide), _, el, ?_, ?_, samePut su nF⟩
        · rw [List.length_map, List.length_map, List.length_take]
          exact sizeLt (by omega)
        · rw [upd_same, takeSucc hx', List.map_append, List.map_append]
          rfl
      · rintro Hu ⟨el, su⟩
        rw [List.length_map, List.take_length] at el
        refine ⟨F, _, rfl, .inl ⟨lstOf el, fun g ng => ⟨sizeOk (by show (2 : Nat) ≤ 100000; decide), fun e ne => ?_⟩⟩⟩
        have s6b : Same Hu (upd Hu g (.tup ((b.2.map fun r => r * k).map V.int))) := same_upd ng
        have s7 : Same Hj (upd (upd Hu g (.tup ((b.2.map fun r => r * k).map V.int))) e (.tup [.int (b.1 * k), .ref g])) := su.trans (s6b.trans (same_upd ne))
        have eD := s7 _ _ ey
        refine ⟨_, eD, ?_, ?_, samePut (sj.trans s7) n6⟩
        · rw [ny, List.length_map, List.length_take]
          exact sizeLt (by omega)
        · rw [takeSucc hb, List.map_append]
          refine BarLst.add (H := upd (upd Hu g (.tup ((b.2.map fun r => r * k).map V.int))) e (.tup [.int (b.1 * k), .ref g])) ny (fun i x b h1 h2 => (fy i x b h1 h2).stay (.same s7)) (lstTups eD) upd_same (BarAt.stay (lstTups eD) ⟨e, .ref g, rfl, tupOf upd_same, ⟨g, rfl, ?_⟩⟩)
          have eg : (scB k 0 b).2 = b.2.map fun r => r * k := List.map_congr_left fun r _ => Int.add_zero _
          rw [eg]
          exact tupOf (same_upd ne _ _ upd_same)
    rintro H2 ⟨⟨ys, ey, ny, fy⟩, s2⟩
    rw [nx, List.take_length] at ny fy
    have s12 := s1.trans s2
    refine ⟨_, rfl, D6, rfl, ⟨_, lstOf ey⟩, fun F nF => ?_⟩
    refine lc_list (K := K) (a := D6) (xs := ys) (fun j Hj => Hj F = some (.lst (((bs.take j).map fun b => b.1 * k).map V.int)) ∧ Same H2 Hj) ⟨upd_same, same_upd nF⟩ (fun j Hj _ ⟨_, sj⟩ => lstOf (sj _ _ ey)) ?_ ?_
    · rintro j y Hj hj ⟨ej, sj⟩
      have jl : j < bs.length := by
        have := (List.getElem?_eq_some_iff.mp hj).1
        rw [ny, List.length_map] at this
        exact this
      have hb : bs[j]? = some bs[j] := List.getElem?_eq_getElem jl
      obtain ⟨pb, lv, rfl, tp, _⟩ := ((fy j y (scB k 0 bs[j]) hj (by rw [List.getElem?_map, hb]; rfl)).stay (.same sj)).ex
      generalize bs[j] = b at hb tp
      refine ⟨pb, _, rfl, tp, rfl, _, _, rfl, _, _, rfl, rfl, rfl, _, rfl, _, ej, ?_, ?_, samePut sj nF⟩
      · rw [List.length_map, List.length_map, List.length_take]
        exact sizeLt (by omega)
      · rw [upd_same, takeSucc hb, List.map_append, List.map_append]
        rfl
    rintro H3 ⟨e3, s3⟩
    rw [ny, List.length_map, List.take_length] at e3
    have l0 := List.length_pos_iff.mpr h0
    refine ⟨F, _, rfl, lstOf e3, by rw [List.length_map]; exact l0, fun m hm hl => ⟨_, _, rfl, rfl, _, rfl, ?_⟩⟩
    obtain ⟨b0, hb0, em⟩ := List.mem_map.mp hm
    rcases h with ⟨⟨b, hb, lt⟩, q⟩ | ⟨l5, hb, q⟩
    · have := hl _ (List.mem_map.mpr ⟨b, hb, rfl⟩)
      rw [decide_eq_true (show (1000000 : Int) < m by omega)]
      exact iteT (q _ (s12.trans s3))
    · have := hb b0 hb0
      rw [decide_eq_false (show ¬ (1000000 : Int) < m by omega)]
      have ok := str_ok S.ok l5 k1 (by omega) hb
      have es : strB k bs = bs.map (scB k 0) := if_neg h0
      rw [es] at ok q
      refine iteF ⟨_, rfl, D6, ys, rfl, .inl ⟨lstOf (s3 _ _ ey), fun u nu => ?_⟩⟩
      have B := BarLst.tup ny (fun i x b h1 h2 => (fy i x b h1 h2).stay (.same s3)) nu
      exact fun z dz nz ndz _ => make_sieve B ok nz ndz fun t' H' s' A => ⟨rfl, q _ _ _ _ (s12.trans (s3.trans ((same_upd nu).trans s'))) A⟩
end

end R
namespace R
open PySem PySem.Spec PyProof.Rows L2
/-! ## shared -/
def sp_p_shared_bar (K : PySem.W.Frag) : Sp := fun vs H Q _ => ∃ (x : V) (b : Bar) (k : Nat), vs = [x, .int k] ∧ BarAt K H x b ∧ BarOk b ∧ 1 ≤ k ∧ k ≤ 1000 ∧ ∀ y c H', Same H H' → ShB k b c → BarAt K H' y c → Q y H'
def sp_p_shared (K : PySem.W.Frag) (C B : Addr) : Sp := fun vs H Q E => ∃ (p : Addr) (x v : V) (t : Addr) (bs : List Bar), vs = [.ref p, x] ∧ SvAt K C H p v t bs ∧
  ((OffI K H 1 1000 x ∧ E (.ref B) none H) ∨ ∃ k : Nat, x = .int k ∧ 1 ≤ k ∧ k ≤ 1000 ∧ ∀ p' v' t' cs H', Same H H' → ShL k bs cs → SvAt K C H' p' v' t' cs → Q (.ref p') H')
section
variable {P : Program} {w : World} {K : PySem.W.Frag} {mg : Str → Option Value} {base : Heap}
theorem ok_p_shared_bar (T : Txt K mg) : FnOk P w K mg base CX0 3 T.f_p_shared_bar T.fd_p_shared_bar ["bar", "by"] (sp_p_shared_bar K) := by
  refine T.F_p_shared_bar.ok sc_p_shared_bar (fun vs H Q E h => ?_) (fun cdv A outer s H vs Q E hr h => ?_)
  · obtain ⟨x, b, k, rfl, _⟩ := h
    rfl
  · obtain ⟨x, b, k, rfl, B, ob, k1, k2, q⟩ := h
    refine ⟨_, (pss_cons (ps_asg (pv 0) (pg_tup (by rfl) (pgs_cons (pg_name (i := 2) sc_p_shared_bar.nd rfl (by first | exact .inl rfl | exact .inr rfl)) (pgs_cons (pg_name (i := 3) sc_p_shared_bar.nd rfl (by first | exact .inl rfl | exact .inr rfl)) pgs_nil))))
      (pss_cons (ps_set (i := 4) sc_p_shared_bar.nd rfl (by first | exact .inl rfl | exact .inr rfl) (pe_callBfun cr_gcd (by rfl) T.g_gcd (pa_cons (pv 2) (pa_cons (pv 1) pa_nil))))
      (pss_cons (ps_set (i := 5) sc_p_shared_bar.nd rfl (by first | exact .inl rfl | exact .inr rfl) (pe_op op_fdivW (pv 2) (pv 4)))
      (pss_cons (ps_set (i := 6) sc_p_shared_bar.nd rfl (by first | exact .inl rfl | exact .inr rfl) (pe_call (ok_p_inverse T) (hr.mono (by decide)) (by rfl) T.g_p_inverse T.F_p_inverse.kp T.b_p_inverse .nil pass0 (pa_cons (pe_op op_fdivW (pv 1) (pv 4)) (pa_cons (pv 5) pa_nil))))
      (pss_one (ps_ret (pe_tup (pa_cons (pv 5) (pa_cons (pe_callTy call_tuple_of (by rfl) T.z_tuple (by decide +kernel) (pa_cons (pe_callB cr_sortedI (by rfl) T.z_sorted (by decide +kernel) (pa_cons (pe_lc (own := [("rest", 7)]) rfl sc_p_shared_bar.nd (pi_tup (pv 3)) (blkOk_by (N := ["bar", "by", "modulus", "lot", "common", "smaller", "back", "rest"]) (sc := defScope s_p_shared_bar) (by decide +kernel)) (fun _ _ _ _ _ => (pg_name (i := 7) sc_p_shared_bar.nd rfl (by first | exact .inl rfl | exact .inr rfl))) (fun _ _ _ _ _ => (pts_one (pt_cmpR op_eq (pe_op op_mod (pv 7) (pv 4)) pe_int (nomark _)))) (fun _ _ _ _ _ => (pe_op op_mod (pe_op op_mulW (pe_op op_fdivW (pv 7) (pv 4)) (pv 6)) (pv 5)))) pa_nil)) pa_nil)) pa_nil))))))))), ?_⟩
    obtain ⟨pb, lv, rfl, tp, ⟨lc, rfl, tc⟩⟩ := B.ex
    have b1 := ob.pos
    have b2 := ob.most
    have g0 : 0 < Nat.gcd b.1.natAbs k := Nat.gcd_pos_of_pos_right _ (by omega)
    have gk : Nat.gcd b.1.natAbs k ≤ k := Nat.gcd_le_right _ (by omega)
    have gm : Nat.gcd b.1.natAbs k ≤ b.1.natAbs := Nat.gcd_le_left _ (by omega)
    have cop : Nat.gcd (k / Nat.gcd b.1.natAbs k) (b.1.natAbs / Nat.gcd b.1.natAbs k) = 1 := by
      rw [Nat.gcd_div (Nat.gcd_dvd_right _ _) (Nat.gcd_dvd_left _ _), Nat.gcd_comm k, Nat.div_self g0]
    have eb : b.1 / ((Nat.gcd b.1.natAbs k : Nat) : Int) = ((b.1.natAbs / Nat.gcd b.1.natAbs k : Nat) : Int) := by
      rw [Int.natCast_ediv]
      congr 1
      omega
    have q0 : 1 ≤ b.1.natAbs / Nat.gcd b.1.natAbs k := Nat.div_pos gm g0
    have q1 : b.1.natAbs / Nat.gcd b.1.natAbs k ≤ b.1.natAbs := Nat.div_le_self _ _
    have r0 : 1 ≤ k / Nat.gcd b.1.natAbs k := Nat.div_pos gk g0
    have r1 : k / Nat.gcd b.1.natAbs k ≤ k := Nat.div_le_self _ _
    refine ⟨_, rfl, pb, _, rfl, tp, rfl, _, _, rfl, _, _, rfl, rfl, ?_⟩
    refine ⟨_, rfl, _, rfl, _, _, rfl, ?_⟩
    rw [Int.natAbs_natCast]
    have sh := @sh_lot k b
    obtain ⟨g, hg⟩ : ∃ g : Nat, g = Nat.gcd b.1.natAbs k := ⟨_, rfl⟩
    rw [← hg] at g0 gk gm cop eb q0 q1 r0 r1 sh ⊢
    refine ⟨_, rfl, _, rfl, _, _, rfl, rfl, wide_div (b := 131) (by omega) (by omega) (by decide) (by decide), ?_⟩
    show _
    refine ⟨_, rfl, _, rfl, _, _, rfl, rfl, wide_div (b := 131) (by omega) (by omega) (by decide) (by decide), _, rfl, k / g, b.1.natAbs / g, ?_, r0, Nat.lt_of_le_of_lt (show k / g ≤ 1000 by omega) (by decide), q0, Nat.lt_of_le_of_lt (show b.1.natAbs / g ≤ 1000000 by omega) (by decide), cop, fun back H1 s1 v0 v1 hd => ?_⟩
    · show [V.int ((k : Int) / (g : Int)), V.int (b.1 / (g : Int))] = _
      rw [eb, divNat]
    have back1 : back < 1000000 := by omega
    refine ⟨_, rfl, _, rfl, lc, rfl, ⟨_, Same.seqTT s1 tc⟩, fun F nF => ?_⟩
    refine lc_tup (K := K) (a := lc) (xs := b.2.map V.int) (fun u Hu => Hu F = some (.lst ((((b.2.take u).filter fun r => decide (r % (g : Int) = 0)).map fun r => r / (g : Int) * back % (b.1 / (g : Int))).map V.int)) ∧ Same H1 Hu) ⟨upd_same, same_upd nF⟩ (fun u Hu _ ⟨_, su⟩ => Same.seqTT (s1.trans su) tc) ?_ ?_
    · rintro u y Hu hu ⟨el, su⟩
      obtain ⟨x, hx', rfl⟩ := getMapInt' hu
      have x0 := ob.lot.ge x (List.mem_of_getElem? hx')
      have x1 := ob.lot.lt x (List.mem_of_getElem? hx')
      have few := ob.lot.few
      have d0 : 0 ≤ x / (g : Int) := Int.ediv_nonneg x0 (by omega)
      have d1 : x / (g : Int) ≤ x := Int.ediv_le_self _ x0
      refine ⟨rfl, _, rfl, _, rfl, _, _, rfl, rfl, by show (0 : Int) < (g : Int); omega, rfl, _, rfl, ?_⟩
      have ep : decide (V.int (x % (g : Int)) = V.int 0) = decide (x % (g : Int) = 0) := by
        by_cases z : x % (g : Int) = 0
        · rw [decide_eq_true z, decide_eq_true (congrArg V.int z)]
        · rw [decide_eq_false z, decide_eq_false fun y => z (V.int.inj y)]
      rw [ep]
      refine ite2 (fun f => ?_) (fun f => ?_)
      · refine ⟨_, rfl, _, rfl, _, _, rfl, rfl, wide_div (b := 131) (by omega) (by omega) (by decide) (by decide), _, rfl, _, _, rfl, rfl, wide_mul (a := 22) (b := 22) (by omega) (by omega) (by decide) (by decide) (by decide), _, rfl, _, _, rfl, rfl, by show (0 : Int) < b.1 / (g : Int); omega, _, el, ?_, ?_, samePut su nF⟩
        · rw [List.length_map, List.length_map]
          have := List.length_filter_le (fun r => decide (r % (g : Int) = 0)) (b.2.take u)
          rw [List.length_take] at this
          exact sizeLt (by omega)
        · rw [upd_same, takeSucc hx', List.filter_append, List.filter_cons_of_pos (p := fun r => decide (r % (g : Int) = 0)) f, List.map_append, List.map_append]
          rfl
      · refine ⟨?_, su⟩
        rw [el, takeSucc hx', List.filter_append, List.filter_cons_of_neg (p := fun r => decide (r % (g : Int) = 0)) f, List.filter_nil, List.append_nil]
    · rintro Hu ⟨el, su⟩
      rw [List.length_map, List.take_length] at el
      refine ⟨F, _, rfl, lstOf el, fun ns p1 perm pw n1 => ⟨p1, _, rfl, .inl ⟨lstOf upd_same, fun u nu => ⟨sizeOk (by show (2 : Nat) ≤ 100000; decide), fun d nd => ?_⟩⟩⟩⟩
      have g1 := same_upd n1 (o := .lst (ns.map V.int))
      have g2 := same_upd nu (o := .tup (ns.map V.int))
      have g3 := same_upd nd (o := .tup [.int (b.1 / (g : Int)), .ref u])
      have fu := g3 _ _ (upd_same (H := upd Hu p1 (.lst (ns.map V.int))) (a := u) (o := .tup (ns.map V.int)))
      refine q _ _ _ (s1.trans (su.trans (g1.trans (g2.trans g3)))) (sh k1 ob (by rw [eb]; exact hd) perm pw) ⟨d, .ref u, rfl, tupOf upd_same, ⟨u, rfl, tupOf fu⟩⟩
theorem ok_p_shared (T : Txt K mg) : FnOk P w K mg base (L2.CX P w) 12 T.f_p_shared T.fd_p_shared ["sieve", "by"] (sp_p_shared K T.C T.C_BadNumber) := by
  refine T.F_p_shared.okX sc_p_shared (fun vs H Q E h => ?_) (fun cdv A outer s H vs Q E hr h => ?_)
  · obtain ⟨p, x, v, t, bs, rfl, _⟩ := h
    rfl
  · obtain ⟨p, x, v, t, bs, rfl, S, h⟩ := h
    refine ⟨_, (pss_cons (ps_expr (pe_call (ok_p_check_factor T) (hr.mono (by decide)) (by rfl) T.g_p_check_factor T.F_p_check_factor.kp T.b_p_check_factor .nil (passes_call (takes_of rfl rfl rfl rfl) (fun _ _ _ _ h => h)) (pa_cons (pv 1) pa_nil)))
      (pss_one (ps_ret (pe_make T.mkC (ok_m_Sieve_init T) (hr.mono (by decide)) (by rfl) T.g_Sieve T.b_m_Sieve_init .nil pass0 (pa_cons (pe_callTy call_tuple_of (by rfl) T.z_tuple (by decide +kernel) (pa_cons (pe_lc (own := [("bar", 2)]) rfl sc_p_shared.nd (pi_tup (pe_prop (pv 0) T.cl T.pp_bars (ok_m_Sieve_bars T) (hr.mono (by decide)) T.b_m_Sieve_bars .nil pass0 (by rfl))) (blkOk_by (N := ["sieve", "by", "bar"]) (sc := defScope s_p_shared) (by decide +kernel)) (fun _ _ _ _ _ => (pg_name (i := 2) sc_p_shared.nd rfl (by first | exact .inl rfl | exact .inr rfl))) (fun _ _ _ _ _ => pts_nil) (fun _ _ _ _ _ => (pe_call (ok_p_shared_bar T) (hr.mono (by decide)) (by rfl) T.g_p_shared_bar T.F_p_shared_bar.kp T.b_p_shared_bar .nil pass0 (pa_cons (pv 2) (pa_cons (pv 1) pa_nil))))) pa_nil)) pa_nil))))), ?_⟩
    refine ⟨_, rfl, x, rfl, ?_⟩
    rcases h with ⟨o, q⟩ | ⟨k, rfl, k1, k2, q⟩
    · exact .inr ⟨o, q⟩
    refine .inl ⟨(k : Int), rfl, by omega, by omega, ?_⟩
    have six := S.ok.six
    obtain ⟨ba, xs, rfl, tb, nx, hx⟩ := S.bars.ex
    refine ⟨_, rfl, p, _, _, rfl, S.ob.choose_spec, p, _, t, bs, rfl, S, ba, rfl, ⟨_, tb⟩, fun D6 n6 => ?_⟩
    refine lc_tup (K := K) (a := ba) (xs := xs) (fun j Hj => ∃ cs, ShL k (bs.take j) cs ∧ BarLst K Hj D6 cs ∧ Same H Hj) ⟨[], ShL.nil _, BarLst.nil upd_same, same_upd n6⟩ (fun j Hj _ ⟨_, _, _, sj⟩ => Same.seqTT sj tb) ?_ ?_
    · rintro j y Hj hj ⟨cs, Sh, ⟨ys, ey, ny, fy⟩, sj⟩
      have jl : j < bs.length := by
        have := (List.getElem?_eq_some_iff.mp hj).1
        omega
      have hb : bs[j]? = some bs[j] := List.getElem?_eq_getElem jl
      have ob := S.ok.bar _ (List.getElem_mem jl)
      have lcs : cs.length ≤ 6 := by
        rw [Sh.len, List.length_take]
        omega
      refine ⟨rfl, _, rfl, _, rfl, y, bs[j], k, rfl, (hx j y _ hj hb).stay (.same sj), ob, k1, k2, fun z c H2 s2 sb Bc => ?_⟩
      have e2 := s2 _ _ ey
      refine ⟨_, e2, by rw [ny]; exact sizeLt (by omega), cs ++ [c], ?_, ?_, samePut (sj.trans s2) n6⟩
      · rw [takeSucc hb]
        exact Sh.add sb
      · exact BarLst.add (H := H2) ny (fun i x b h1 h2 => (fy i x b h1 h2).stay (.same s2)) (lstTups e2) upd_same (Bc.stay (lstTups e2))
    · rintro Hj ⟨cs, Sh, ⟨ys, ey, ny, fy⟩, sj⟩
      rw [nx, List.take_length] at Sh
      refine ⟨D6, ys, rfl, .inl ⟨lstOf ey, fun u nu => ?_⟩⟩
      have B := BarLst.tup ny fy nu
      exact fun z dz nz ndz _ => make_sieve B (Sh.sv S.ok) nz ndz fun t' H' s' A => ⟨rfl, q _ _ _ _ _ (sj.trans ((same_upd nu).trans s')) Sh A⟩
end

end R
namespace R
open PySem PySem.Spec PyProof.Rows L2
/-! ## two sieves side by side -/
def sp_p_both (K : PySem.W.Frag) (C M : Addr) : Sp := fun vs H Q E => ∃ (p : Addr) (v : V) (t : Addr) (bs : List Bar) (p2 : Addr) (v2 : V) (t2 : Addr) (cs : List Bar), vs = [.ref p, .ref p2] ∧ SvAt K C H p v t bs ∧ SvAt K C H p2 v2 t2 cs ∧
  ((6 < bs.length + cs.length ∧ ∀ H', Same H H' → E (.ref M) none H') ∨ (SvOk (bs ++ cs) ∧ ∀ p' v' t' H', Same H H' → SvAt K C H' p' v' t' (bs ++ cs) → Q (.ref p') H'))
section
variable {P : Program} {w : World} {K : PySem.W.Frag} {mg : Str → Option Value} {base : Heap}
theorem ok_p_both (T : Txt K mg) : FnOk P w K mg base (L2.CX P w) 12 T.f_p_both T.fd_p_both ["one", "other"] (sp_p_both K T.C T.C_TooMany) := by
  refine T.F_p_both.okX sc_p_both (fun vs H Q E h => ?_) (fun cdv A outer s H vs Q E hr h => ?_)
  · obtain ⟨p, v, t, bs, p2, v2, t2, cs, rfl, _⟩ := h
    rfl
  · obtain ⟨p, v, t, bs, p2, v2, t2, cs, rfl, S, S2, h⟩ := h
    refine ⟨_, (pss_cons (ps_set (i := 2) sc_p_both.nd rfl (by first | exact .inl rfl | exact .inr rfl) (pe_op op_catA (pe_prop (pv 0) T.cl T.pp_bars (ok_m_Sieve_bars T) (hr.mono (by decide)) T.b_m_Sieve_bars .nil pass0 (by rfl)) (pe_prop (pv 1) T.cl T.pp_bars (ok_m_Sieve_bars T) (hr.mono (by decide)) T.b_m_Sieve_bars .nil pass0 (by rfl))))
      (pss_cons (ps_if (pt_cmpR op_gt (pe_callB call_len_seq (by rfl) T.z_len (by decide +kernel) (pa_cons (pv 2) pa_nil)) (pe_glob (v := .int 6) (by rfl) T.c_MOST_BARS.choose_spec ⟨_, rfl⟩) (nomark _)) (pss_one (ps_raise rfl (takes_of rfl rfl rfl rfl) (pmk_own PySem.F.excBase_ValueError T.x_TooMany T.g_TooMany T.k_TooMany (raises_own T.b_TooMany T.t_TooMany) (by rfl)))) pss_nil)
      (pss_one (ps_ret (pe_make T.mkC (ok_m_Sieve_init T) (hr.mono (by decide)) (by rfl) T.g_Sieve T.b_m_Sieve_init .nil pass0 (pa_cons (pv 2) pa_nil)))))), ?_⟩
    have six := S.ok.six
    have six2 := S2.ok.six
    refine ⟨_, rfl, p, _, _, rfl, S.ob.choose_spec, p, v, t, bs, rfl, S, _, rfl, p2, _, _, rfl, S2.ob.choose_spec, p2, v2, t2, cs, rfl, S2, catBars S.bars S2.bars (by omega) fun y H1 s1 B1 => ?_⟩
    obtain ⟨a, xs, rfl, ta, nx, hx⟩ := B1.ex
    refine ⟨_, rfl, a, _, rfl, .inr ta, _, _, rfl, rfl, _, rfl, ?_⟩
    rw [nx, List.length_append]
    rcases h with ⟨h, q⟩ | ⟨h, q⟩
    · rw [decide_eq_true (show (6 : Int) < ((bs.length + cs.length : Nat) : Int) by omega)]
      exact iteT (q _ s1)
    · have h6 := h.six
      rw [List.length_append] at h6
      rw [decide_eq_false (show ¬ (6 : Int) < ((bs.length + cs.length : Nat) : Int) by omega)]
      exact iteF ⟨_, rfl, fun z dz nz ndz _ => make_sieve B1 h nz ndz fun t' H' s' A => ⟨rfl, q _ _ _ _ (s1.trans s') A⟩⟩
end

end R
namespace R
open PySem PySem.Spec PyProof.Rows L2
/-! ## a number split into two -/
theorem scalP (o : Option Int) : scal (oInt o) (oInt o) = true := by cases o <;> rfl
def splOk (bs cs : List Bar) (n x : Int) : Bool := fitsB bs x && fitsB cs (n - x)
def splTo (bs cs : List Bar) (n : Int) (k : Nat) : Option Int := ((List.range k).map fun i : Nat => (i : Int)).find? (splOk bs cs n)
def splL (bs cs : List Bar) (n : Int) : Option Int := splTo bs cs n (wh (bs ++ cs))
theorem splTo_succ (bs cs : List Bar) (n : Int) (k : Nat) : splTo bs cs n (k + 1) = (splTo bs cs n k).or (if splOk bs cs n k = true then some (k : Int) else none) := by
  unfold splTo
  rw [List.range_succ, List.map_append, List.find?_append]
  congr 1
  by_cases h : splOk bs cs n k = true
  · rw [if_pos h]
    exact List.find?_cons_of_pos h
  · rw [if_neg h]
    exact List.find?_cons_of_neg h
theorem fitsB_app (xs ys : List Bar) (x : Int) : fitsB (xs ++ ys) x = (fitsB xs x && fitsB ys x) := by
  unfold fitsB
  rw [List.all_append]
theorem split_sv {bs cs ds : List Bar} {n : Int} (h : TurnL (-1) n cs ds) (S2 : SvOk cs) (S : SvOk (bs ++ cs)) : SvOk (bs ++ ds) := by
  refine ⟨by rw [List.length_append, h.len, ← List.length_append]; exact S.six, fun b hb => ?_, ?_, ?_⟩
  · rcases List.mem_append.mp hb with hb | hb
    · exact S.bar b (List.mem_append_left _ hb)
    · exact (h.sv S2).bar b hb
  · have := S.great
    rw [wh_app] at this ⊢
    rw [h.wh]
    exact this
  · have := S.many
    rw [choices_app] at this ⊢
    rw [h.choices]
    exact this
theorem split_cls {bs cs ds : List Bar} {n : Int} (h : TurnL (-1) n cs ds) (S2 : SvOk cs) : (cls (bs ++ ds)).head? = splL bs cs n := by
  have e : wh (bs ++ ds) = wh (bs ++ cs) := by rw [wh_app, wh_app, h.wh]
  unfold cls splL splTo
  rw [e, List.head?_filter]
  congr 1
  funext x
  unfold splOk
  rw [fitsB_app, h.fits' (.inr rfl) S2, show -1 * (x - n) = n - x by omega]
def sp_p_split (K : PySem.W.Frag) (C B M : Addr) : Sp := fun vs H Q E => ∃ (p : Addr) (v : V) (t : Addr) (bs : List Bar) (p2 : Addr) (v2 : V) (t2 : Addr) (cs : List Bar) (x : V), vs = [.ref p, .ref p2, x] ∧ SvAt K C H p v t bs ∧ SvAt K C H p2 v2 t2 cs ∧
  ((OddV K H x ∧ E (.ref B) none H) ∨ ∃ n, x = .int n ∧ IsNum n ∧ ((6 < bs.length + cs.length ∧ ∀ H', Same H H' → E (.ref M) none H') ∨ (SvOk (bs ++ cs) ∧ ∀ H', Same H H' → Q (oInt (splL bs cs n)) H')))
section
variable {P : Program} {w : World} {K : PySem.W.Frag} {mg : Str → Option Value} {base : Heap}
theorem ok_p_split (T : Txt K mg) : FnOk P w K mg base (L2.CX P w) 14 T.f_p_split T.fd_p_split ["one", "other", "number"] (sp_p_split K T.C T.C_BadNumber T.C_TooMany) := by
  refine T.F_p_split.okX sc_p_split (fun vs H Q E h => ?_) (fun cdv A outer s H vs Q E hr h => ?_)
  · obtain ⟨p, v, t, bs, p2, v2, t2, cs, x, rfl, _⟩ := h
    rfl
  · obtain ⟨p, v, t, bs, p2, v2, t2, cs, x, rfl, S, S2, h⟩ := h
    refine ⟨_, (pss_cons (ps_set (i := 3) sc_p_split.nd rfl (by first | exact .inl rfl | exact .inr rfl) (pe_prop (pe_call (ok_p_both T) (hr.mono (by decide)) (by rfl) T.g_p_both T.F_p_both.kp T.b_p_both .nil (passes_call (takes_of rfl rfl rfl rfl) (fun _ _ _ _ h => h)) (pa_cons (pv 0) (pa_cons (pe_call (ok_p_taken_from T) (hr.mono (by decide)) (by rfl) T.g_p_taken_from T.F_p_taken_from.kp T.b_p_taken_from .nil (passes_call (takes_of rfl rfl rfl rfl) (fun _ _ _ _ h => h)) (pa_cons (pv 1) (pa_cons (pv 2) pa_nil))) pa_nil))) T.cl T.pp_classes (ok_m_Sieve_classes T) (hr.mono (by decide)) T.b_m_Sieve_classes .nil pass0 (by rfl)))
      (pss_cons (ps_if (pt_cmpR (op_eqD hr.units) (pv 3) (pe_tup pa_nil) (nomark _)) (pss_one (ps_ret pe_non)) pss_nil)
      (pss_one (ps_ret (pe_ix ix_tup (pv 3) pe_int (fun _ _ => rfl)))))), ?_⟩
    refine ⟨_, rfl, _, rfl, _, rfl, p2, x, v2, t2, cs, rfl, S2, ?_⟩
    rcases h with ⟨o, q⟩ | ⟨n, rfl, hn, h⟩
    · exact .inr ⟨o, q⟩
    refine .inl ⟨n, rfl, hn, fun p3 v3 t3 ds H1 s1 Tu A => ?_⟩
    refine ⟨p, v, t, bs, p3, v3, t3, ds, rfl, S.stay s1, A, ?_⟩
    rcases h with ⟨h, q⟩ | ⟨h, q⟩
    · exact .inl ⟨by rw [Tu.len]; exact h, fun H' s' => q _ (s1.trans s')⟩
    refine .inr ⟨split_sv Tu S2.ok h, fun p4 v4 t4 H2 s2 A2 => ?_⟩
    have ec := split_cls (bs := bs) Tu S2.ok
    refine ⟨p4, _, _, rfl, A2.ob.choose_spec, p4, v4, t4, _, rfl, A2, ?_⟩
    refine ⟨_, rfl, sizeOk (by show (0 : Nat) ≤ 100000; decide), fun d nd => ?_⟩
    have s3 := same_upd nd (o := .tup [])
    refine ⟨_, _, dpTup (Same.seqTT s3 A2.cls), .tup (tupOf upd_same) .nil, (okD.tup (okInts _)).shaped (by decide), by decide, _, rfl, ?_⟩
    rw [eqvNilT]
    have A3 := A2.stay s3
    have sall := s1.trans (s2.trans s3)
    generalize upd H2 d (.tup []) = H3 at s3 A3 sall ⊢
    have q' := q _ sall
    rw [← ec] at q'
    cases z : cls (bs ++ ds) with
    | nil =>
      rw [z] at q'
      exact iteT q'
    | cons y r =>
      rw [z] at q'
      have e3 := A3.cls
      rw [z] at e3
      exact iteF ⟨_, rfl, t4, _, _, .int y, rfl, rfl, e3, atI_nat (j := 0) rfl, q'⟩
end

end R
namespace R
open PySem PySem.Spec PyProof.Rows L2
/-! ## marks on a ring -/
structure IsDist (g : Int) (A B : List Int) (m : Int) : Prop where
  ex : ∃ a ∈ A, ∃ b ∈ B, m = (a - b) % g ∨ m = (b - a) % g
  le : ∀ a ∈ A, ∀ b ∈ B, m ≤ (a - b) % g ∧ m ≤ (b - a) % g
theorem IsDist.one {g : Int} {A B : List Int} {m n : Int} (h : IsDist g A B m) (k : IsDist g A B n) : m = n := by
  obtain ⟨a, ha, b, hb, e⟩ := h.ex
  obtain ⟨c, hc, d, hd, f⟩ := k.ex
  have h1 := h.le c hc d hd
  have h2 := k.le a ha b hb
  omega
theorem changes (f : Nat → Int × Int) : ∀ (d i : Nat), (f i).2 ≠ (f (i + d)).2 → ∃ k, i ≤ k ∧ k < i + d ∧ (f k).2 ≠ (f (k + 1)).2 := by
  intro d
  induction d with
  | zero => exact fun i h => absurd rfl h
  | succ d ih =>
    intro i h
    by_cases e : (f i).2 = (f (i + 1)).2
    · obtain ⟨k, k1, k2, k3⟩ := ih (i + 1) (by rw [← e, show i + 1 + d = i + (d + 1) by omega]; exact h)
      exact ⟨k, by omega, by omega, k3⟩
    · exact ⟨i, Nat.le_refl _, by omega, e⟩
theorem changesTo {f : Nat → Int × Int} {i j : Nat} (l : i ≤ j) (h : (f i).2 ≠ (f j).2) : ∃ k, i ≤ k ∧ k < j ∧ (f k).2 ≠ (f (k + 1)).2 := by
  obtain ⟨k, k1, k2, k3⟩ := changes f (j - i) i (by rw [show i + (j - i) = j by omega]; exact h)
  exact ⟨k, k1, by omega, k3⟩
theorem ring {n : Nat} {g : Int} (f : Nat → Int × Int) (up : ∀ i j, i ≤ j → j < n → (f i).1 ≤ (f j).1) (rng : ∀ i, i < n → 0 ≤ (f i).1 ∧ (f i).1 < g) {i j : Nat} (hi : i < n) (hj : j < n) (ne : (f i).2 ≠ (f j).2) :
    ∃ k, k < n ∧ (f k).2 ≠ (f ((k + 1) % n)).2 ∧ ((f ((k + 1) % n)).1 - (f k).1) % g ≤ ((f j).1 - (f i).1) % g := by
  have ri := rng i hi
  have rj := rng j hj
  -- a change between two places gives a gap that is no wider
  have fwd : ∀ u v, u ≤ v → v < n → (f u).2 ≠ (f v).2 → ∃ k, k < n ∧ (f k).2 ≠ (f ((k + 1) % n)).2 ∧ ((f ((k + 1) % n)).1 - (f k).1) % g ≤ (f v).1 - (f u).1 := by
    intro u v uv hv h
    obtain ⟨k, k1, k2, k3⟩ := changesTo uv h
    have e : (k + 1) % n = k + 1 := Nat.mod_eq_of_lt (by omega)
    refine ⟨k, by omega, by rw [e]; exact k3, ?_⟩
    rw [e]
    have a1 := up u k k1 (by omega)
    have a2 := up k (k + 1) (Nat.le_succ _) (by omega)
    have a3 := up (k + 1) v (by omega) hv
    have r1 := rng k (by omega)
    have r2 := rng (k + 1) (by omega)
    rw [Int.emod_eq_of_lt (by omega) (by omega)]
    omega
  by_cases l : i ≤ j
  · obtain ⟨k, k1, k2, k3⟩ := fwd i j l hj ne
    refine ⟨k, k1, k2, ?_⟩
    have := up i j l hj
    rw [Int.emod_eq_of_lt (a := (f j).1 - (f i).1) (by omega) (by omega)]
    exact k3
  · have ji := up j i (by omega) hi
    by_cases e : (f j).1 = (f i).1
    · obtain ⟨k, k1, k2, k3⟩ := fwd j i (by omega) hi (Ne.symm ne)
      refine ⟨k, k1, k2, ?_⟩
      rw [e, Int.sub_self] at *
      rw [Int.zero_emod]
      exact k3
    · have er : ((f j).1 - (f i).1) % g = (f j).1 - (f i).1 + g := by
        rw [← Int.add_emod_right, Int.emod_eq_of_lt (by omega) (by omega)]
      rw [er]
      have rl := rng (n - 1) (by omega)
      have r0 := rng 0 (by omega)
      have u1 := up i (n - 1) (by omega) (by omega)
      have u2 := up 0 j (by omega) hj
      have u3 := up 0 (n - 1) (by omega) (by omega)
      by_cases c1 : (f i).2 = (f (n - 1)).2
      · by_cases c2 : (f (n - 1)).2 = (f 0).2
        · obtain ⟨k, k1, k2, k3⟩ := fwd 0 j (by omega) hj (by rw [← c2, ← c1]; exact ne)
          exact ⟨k, k1, k2, by omega⟩
        · have en : (n - 1 + 1) % n = 0 := by rw [show n - 1 + 1 = n by omega, Nat.mod_self]
          refine ⟨n - 1, by omega, by rw [en]; exact c2, ?_⟩
          rw [en]
          by_cases c3 : (f 0).1 = (f (n - 1)).1
          · rw [c3, Int.sub_self, Int.zero_emod]
            omega
          · rw [← Int.add_emod_right, Int.emod_eq_of_lt (by omega) (by omega)]
            omega
      · obtain ⟨k, k1, k2, k3⟩ := fwd i (n - 1) (by omega) (by omega) c1
        exact ⟨k, k1, k2, by omega⟩
def marksL (g : Int) (A B : List Int) : List (Int × Int) := (A.map fun a => (a % g, 0)) ++ B.map fun b => (b % g, 1)
def rotL {α : Type} (M : List α) : List α := M.drop 1 ++ M.take 1
theorem rot_get {α : Type} {M : List α} {k : Nat} (h : k < M.length) : (rotL M)[k]? = M[(k + 1) % M.length]? := by
  unfold rotL
  by_cases l : k + 1 < M.length
  · rw [List.getElem?_append_left (by rw [List.length_drop]; omega), List.getElem?_drop, Nat.mod_eq_of_lt l, Nat.add_comm]
  · have e : k + 1 = M.length := by omega
    rw [List.getElem?_append_right (by rw [List.length_drop]; omega), List.length_drop, e, Nat.mod_self, show k - (M.length - 1) = 0 by omega, List.getElem?_take, if_pos (by decide)]
theorem rot_len {α : Type} (M : List α) : (rotL M).length = M.length := by
  unfold rotL
  rw [List.length_append, List.length_drop, List.length_take]
  omega
def gapOk (z : (Int × Int) × (Int × Int)) : Bool := !decide (z.1.2 = z.2.2)
def gapIn (g : Int) (z : (Int × Int) × (Int × Int)) : Int := (z.2.1 - z.1.1) % g
def gapsTo (g : Int) (M : List (Int × Int)) (n : Nat) : List Int := (((M.zip (rotL M)).take n).filter gapOk).map (gapIn g)
theorem gaps_succ {g : Int} {M : List (Int × Int)} {n : Nat} {x y : Int × Int} (hx : M[n]? = some x) (hy : (rotL M)[n]? = some y) : gapsTo g M (n + 1) = gapsTo g M n ++ (if gapOk (x, y) = true then [gapIn g (x, y)] else []) := by
  have e : (M.zip (rotL M))[n]? = some (x, y) := by
    rw [List.getElem?_zip_eq_some]
    exact ⟨hx, hy⟩
  unfold gapsTo
  rw [takeSucc e, List.filter_append, List.map_append]
  by_cases h : gapOk (x, y) = true
  · rw [if_pos h, List.filter_cons_of_pos h]
    rfl
  · rw [if_neg h, List.filter_cons_of_neg h]
    rfl
theorem gaps_len (g : Int) (M : List (Int × Int)) (n : Nat) : (gapsTo g M n).length ≤ M.length := by
  unfold gapsTo
  rw [List.length_map]
  refine Nat.le_trans (List.length_filter_le _ _) ?_
  rw [List.length_take, List.length_zip, rot_len]
  omega
theorem gaps_mem {g : Int} {M : List (Int × Int)} {m : Int} : m ∈ gapsTo g M M.length ↔ ∃ (k : Nat) (x y : Int × Int), M[k]? = some x ∧ M[(k + 1) % M.length]? = some y ∧ x.2 ≠ y.2 ∧ m = (y.1 - x.1) % g := by
  unfold gapsTo
  rw [List.take_of_length_le (by rw [List.length_zip, rot_len]; omega), List.mem_map]
  constructor
  · rintro ⟨⟨x, y⟩, hz, rfl⟩
    obtain ⟨h1, h2⟩ := List.mem_filter.mp hz
    obtain ⟨k, hk⟩ := List.getElem?_of_mem h1
    obtain ⟨h3, h4⟩ := List.getElem?_zip_eq_some.mp hk
    have kl := (List.getElem?_eq_some_iff.mp h3).1
    rw [rot_get kl] at h4
    refine ⟨k, x, y, h3, h4, ?_, rfl⟩
    unfold gapOk at h2
    simpa using h2
  · rintro ⟨k, x, y, h1, h2, h3, rfl⟩
    have kl := (List.getElem?_eq_some_iff.mp h1).1
    refine ⟨(x, y), List.mem_filter.mpr ⟨List.mem_of_getElem? (i := k) (List.getElem?_zip_eq_some.mpr ⟨h1, by rw [rot_get kl]; exact h2⟩), ?_⟩, rfl⟩
    unfold gapOk
    simpa using h3
theorem marks_side {g : Int} {A B : List Int} {x : Int × Int} (h : x ∈ marksL g A B) : (∃ a ∈ A, x = (a % g, 0)) ∨ ∃ b ∈ B, x = (b % g, 1) := by
  unfold marksL at h
  rcases List.mem_append.mp h with h | h
  · obtain ⟨a, ha, e⟩ := List.mem_map.mp h
    exact .inl ⟨a, ha, e.symm⟩
  · obtain ⟨b, hb, e⟩ := List.mem_map.mp h
    exact .inr ⟨b, hb, e.symm⟩
theorem dist_of {g : Int} {A B : List Int} {M : List (Int × Int)} (hg : 0 < g) (hA : A ≠ []) (hB : B ≠ []) (pm : M.Perm (marksL g A B)) (up : M.Pairwise fun p q => p.1 ≤ q.1) :
    0 < (gapsTo g M M.length).length ∧ ∀ m ∈ gapsTo g M M.length, (∀ y ∈ gapsTo g M M.length, m ≤ y) → IsDist g A B m := by
  have mem : ∀ x, x ∈ M ↔ x ∈ marksL g A B := fun x => pm.mem_iff
  have rng : ∀ x ∈ M, 0 ≤ x.1 ∧ x.1 < g := fun x hx => by
    rcases marks_side ((mem x).mp hx) with ⟨a, _, rfl⟩ | ⟨a, _, rfl⟩
    · exact ⟨Int.emod_nonneg _ (by omega), Int.emod_lt_of_pos _ hg⟩
    · exact ⟨Int.emod_nonneg _ (by omega), Int.emod_lt_of_pos _ hg⟩
  -- each two marks of both sides have a gap that is no wider
  have near : ∀ x y, x ∈ M → y ∈ M → x.2 ≠ y.2 → ∃ m ∈ gapsTo g M M.length, m ≤ (y.1 - x.1) % g := by
    intro x y hx hy ne
    obtain ⟨i, hi⟩ := List.getElem?_of_mem hx
    obtain ⟨j, hj⟩ := List.getElem?_of_mem hy
    obtain ⟨il, ei⟩ := List.getElem?_eq_some_iff.mp hi
    obtain ⟨jl, ej⟩ := List.getElem?_eq_some_iff.mp hj
    have fd : ∀ k (h : k < M.length), M.getD k (0, 0) = M[k] := fun k h => by rw [List.getD_eq_getElem?_getD, List.getElem?_eq_getElem h]; rfl
    obtain ⟨k, k1, k2, k3⟩ := ring (n := M.length) (g := g) (fun k => M.getD k (0, 0)) (fun u v uv hv => by
      show (M.getD u (0, 0)).1 ≤ (M.getD v (0, 0)).1
      rw [fd u (by omega), fd v hv]
      by_cases e : u = v
      · subst e
        exact Int.le_refl _
      · exact List.pairwise_iff_getElem.mp up u v (by omega) hv (by omega)) (fun u hu => by
      show 0 ≤ (M.getD u (0, 0)).1 ∧ (M.getD u (0, 0)).1 < g
      rw [fd u hu]
      exact rng _ (List.getElem_mem hu)) il jl (by
      show (M.getD i (0, 0)).2 ≠ (M.getD j (0, 0)).2
      rw [fd i il, fd j jl, ei, ej]
      exact ne)
    have k4 : (k + 1) % M.length < M.length := Nat.mod_lt _ (by omega)
    have k2' : (M.getD k (0, 0)).2 ≠ (M.getD ((k + 1) % M.length) (0, 0)).2 := k2
    have k3' : ((M.getD ((k + 1) % M.length) (0, 0)).1 - (M.getD k (0, 0)).1) % g ≤ ((M.getD j (0, 0)).1 - (M.getD i (0, 0)).1) % g := k3
    rw [fd _ k1, fd _ k4] at k2' k3'
    rw [fd i il, fd j jl, ei, ej] at k3'
    exact ⟨_, gaps_mem.mpr ⟨k, _, _, List.getElem?_eq_getElem k1, List.getElem?_eq_getElem k4, k2', rfl⟩, k3'⟩
  have inA : ∀ a ∈ A, (a % g, (0 : Int)) ∈ M := fun a ha => (mem _).mpr (List.mem_append_left _ (List.mem_map.mpr ⟨a, ha, rfl⟩))
  have inB : ∀ b ∈ B, (b % g, (1 : Int)) ∈ M := fun b hb => (mem _).mpr (List.mem_append_right _ (List.mem_map.mpr ⟨b, hb, rfl⟩))
  constructor
  · obtain ⟨a, ha⟩ := List.exists_mem_of_ne_nil _ hA
    obtain ⟨b, hb⟩ := List.exists_mem_of_ne_nil _ hB
    obtain ⟨m, hm, _⟩ := near _ _ (inA a ha) (inB b hb) (by show (0 : Int) ≠ 1; decide)
    exact List.length_pos_of_mem hm
  · intro m hm least
    refine ⟨?_, fun a ha b hb => ⟨?_, ?_⟩⟩
    · obtain ⟨k, x, y, h1, h2, h3, rfl⟩ := gaps_mem.mp hm
      rcases marks_side ((mem _).mp (List.mem_of_getElem? h1)) with ⟨a, ha, rfl⟩ | ⟨a, ha, rfl⟩
      · rcases marks_side ((mem _).mp (List.mem_of_getElem? h2)) with ⟨b, hb, rfl⟩ | ⟨b, hb, rfl⟩
        · exact absurd rfl h3
        · exact ⟨a, ha, b, hb, .inr (Int.sub_emod b a g).symm⟩
      · rcases marks_side ((mem _).mp (List.mem_of_getElem? h2)) with ⟨b, hb, rfl⟩ | ⟨b, hb, rfl⟩
        · exact ⟨b, hb, a, ha, .inl (Int.sub_emod b a g).symm⟩
        · exact absurd rfl h3
    · obtain ⟨n, hn, le⟩ := near _ _ (inB b hb) (inA a ha) (by show (1 : Int) ≠ 0; decide)
      have := least n hn
      have e : (a % g - b % g) % g = (a - b) % g := (Int.sub_emod a b g).symm
      rw [← e]
      exact Int.le_trans this le
    · obtain ⟨n, hn, le⟩ := near _ _ (inA a ha) (inB b hb) (by show (0 : Int) ≠ 1; decide)
      have := least n hn
      have e : (b % g - a % g) % g = (b - a) % g := (Int.sub_emod b a g).symm
      rw [← e]
      exact Int.le_trans this le
theorem PrAt.cut {H : Hp} {xs : List V} {ms : List (Int × Int)} (h : PrAt H xs ms) : PrAt H (rotL xs) (rotL ms) := by
  refine ⟨by rw [rot_len, rot_len, h.len], fun i x m a b => ?_⟩
  have l : i < xs.length := by
    have := (List.getElem?_eq_some_iff.mp a).1
    rwa [rot_len] at this
  rw [rot_get l] at a
  rw [rot_get (by rw [← h.len]; exact l), ← h.len] at b
  exact h.at_ _ x m a b
/-- such a list sorted -/
theorem PrAt.sorted {H : Hp} {xs ys : List V} {ms : List (Int × Int)} (h : PrAt H xs ms) (s : SrtO.Srtd (ltP (prOf H)) ys) (st : SrtO.Stb (ltP (prOf H)) ys xs) :
    PrAt H ys (ys.map (prOf H)) ∧ (ys.map (prOf H)).Perm ms ∧ (ys.map (prOf H)).Pairwise fun p q => p.1 ≤ q.1 := by
  refine ⟨PrAt.of fun x hx => h.all x (st.perm.mem_iff.mp hx), ?_, ?_⟩
  · have := st.perm.map (prOf H)
    rw [h.map] at this
    exact this
  · rw [List.pairwise_map]
    refine s.imp fun {a b} e => ?_
    have e' : SrtO.lexB (prOf H b) (prOf H a) = false := e
    rcases Int.lt_or_le (prOf H b).1 (prOf H a).1 with l | l
    · rw [SrtO.lexB_iff.mpr (.inl l)] at e'
      cases e'
    · exact l

end R
namespace R
open PySem PySem.Spec PyProof.Rows L2
/-! ## the distance of two sieves -/
def gapL (g a b : Int) : Int := if (b - a) % g < (a - b) % g then (b - a) % g else (a - b) % g
def gg (bs cs : List Bar) : Int := ((Nat.gcd (wh bs) (wh cs) : Nat) : Int)
def sp_p_distance (K : PySem.W.Frag) (C N : Addr) : Sp := fun vs H Q E => ∃ (p : Addr) (v : V) (t : Addr) (bs : List Bar) (p2 : Addr) (v2 : V) (t2 : Addr) (cs : List Bar), vs = [.ref p, .ref p2] ∧ SvAt K C H p v t bs ∧ SvAt K C H p2 v2 t2 cs ∧
  (((cls bs = [] ∨ cls cs = []) ∧ ∀ H', Same H H' → E (.ref N) none H') ∨ (cls bs ≠ [] ∧ cls cs ≠ [] ∧ ∀ m H', Same H H' → IsDist (gg bs cs) (cls bs) (cls cs) m → Q (.int m) H'))
section
variable {P : Program} {w : World} {K : PySem.W.Frag} {mg : Str → Option Value} {base : Heap}
theorem ok_p_distance (T : Txt K mg) : FnOk P w K mg base (L2.CX P w) 5 T.f_p_distance T.fd_p_distance ["one", "other"] (sp_p_distance K T.C T.C_Nothing) := by
  refine T.F_p_distance.okX sc_p_distance (fun vs H Q E h => ?_) (fun cdv A outer s H vs Q E hr h => ?_)
  · obtain ⟨p, v, t, bs, p2, v2, t2, cs, rfl, _⟩ := h
    rfl
  · obtain ⟨p, v, t, bs, p2, v2, t2, cs, rfl, S, S2, h⟩ := h
    refine ⟨_, (pss_cons (ps_expr (pe_call (ok_p_check_some T) (hr.mono (by decide)) (by rfl) T.g_p_check_some T.F_p_check_some.kp T.b_p_check_some .nil (passes_call (takes_of rfl rfl rfl rfl) (fun _ _ _ _ h => h)) (pa_cons (pv 0) pa_nil)))
      (pss_cons (ps_expr (pe_call (ok_p_check_some T) (hr.mono (by decide)) (by rfl) T.g_p_check_some T.F_p_check_some.kp T.b_p_check_some .nil (passes_call (takes_of rfl rfl rfl rfl) (fun _ _ _ _ h => h)) (pa_cons (pv 1) pa_nil)))
      (pss_cons (ps_set (i := 2) sc_p_distance.nd rfl (by first | exact .inl rfl | exact .inr rfl) (pe_callBfun cr_gcd (by rfl) T.g_gcd (pa_cons (pe_prop (pv 0) T.cl T.pp_whole (ok_m_Sieve_whole T) (hr.mono (by decide)) T.b_m_Sieve_whole .nil pass0 (by rfl)) (pa_cons (pe_prop (pv 1) T.cl T.pp_whole (ok_m_Sieve_whole T) (hr.mono (by decide)) T.b_m_Sieve_whole .nil pass0 (by rfl)) pa_nil))))
      (pss_cons (ps_setLc (i := 3) (own := [("number", 5)]) rfl sc_p_distance.nd rfl rfl (sw_true rfl rfl rfl (by decide +kernel)) (pi_tup (pe_prop (pv 0) T.cl T.pp_classes (ok_m_Sieve_classes T) (hr.mono (by decide)) T.b_m_Sieve_classes .nil pass0 (by rfl))) (blkOk_by (N := ["one", "other", "common", "marks_of_one", "marks", "number", "place", "side", "after", "next_side"]) (sc := defScope s_p_distance) (by decide +kernel)) (fun _ _ _ _ _ => (pg_name (i := 5) sc_p_distance.nd rfl (by first | exact .inl rfl | exact .inr rfl))) (fun _ _ _ _ _ => pts_nil) (fun _ _ _ _ _ => (pe_tup (pa_cons (pe_op op_mod (pv 5) (pv 2)) (pa_cons pe_int pa_nil)))))
      (pss_cons (ps_set (i := 4) sc_p_distance.nd rfl (by first | exact .inl rfl | exact .inr rfl) (pe_callB cr_sortedPO (by rfl) T.z_sorted (by decide +kernel) (pa_cons (pe_op op_cat (pv 3) (pe_lc (own := [("number", 5)]) rfl sc_p_distance.nd (pi_tup (pe_prop (pv 1) T.cl T.pp_classes (ok_m_Sieve_classes T) (hr.mono (by decide)) T.b_m_Sieve_classes .nil pass0 (by rfl))) (blkOk_by (N := ["one", "other", "common", "marks_of_one", "marks", "number", "place", "side", "after", "next_side"]) (sc := defScope s_p_distance) (by decide +kernel)) (fun _ _ _ _ _ => (pg_name (i := 5) sc_p_distance.nd rfl (by first | exact .inl rfl | exact .inr rfl))) (fun _ _ _ _ _ => pts_nil) (fun _ _ _ _ _ => (pe_tup (pa_cons (pe_op op_mod (pv 5) (pv 2)) (pa_cons pe_int pa_nil)))))) pa_nil)))
      (pss_one (ps_ret (pe_callB (cr_min rfl) (by rfl) T.z_min (by decide +kernel) (pa_cons (pe_lc (own := [("place", 6), ("side", 7), ("after", 8), ("next_side", 9)]) (g := gTup K 2 (gCons (gTup K 2 (gCons (gName 6) (gCons (gName 7) (gNil)))) (gCons (gTup K 2 (gCons (gName 8) (gCons (gName 9) (gNil)))) (gNil)))) rfl sc_p_distance.nd (pi_zip (by rfl) T.z_zip (pa_cons (pv 4) (pa_cons (pe_op op_cat (pe_slice sl_list (pv 4) (po_some pe_int) po_none) (pe_slice sl_list (pv 4) po_none (po_some pe_int))) pa_nil))) (blkOk_by (N := ["one", "other", "common", "marks_of_one", "marks", "number", "place", "side", "after", "next_side"]) (sc := defScope s_p_distance) (by decide +kernel)) (fun _ _ _ _ _ => (pg_tup (by rfl) (pgs_cons (pg_tup (by rfl) (pgs_cons (pg_name (i := 6) sc_p_distance.nd rfl (by first | exact .inl rfl | exact .inr rfl)) (pgs_cons (pg_name (i := 7) sc_p_distance.nd rfl (by first | exact .inl rfl | exact .inr rfl)) pgs_nil))) (pgs_cons (pg_tup (by rfl) (pgs_cons (pg_name (i := 8) sc_p_distance.nd rfl (by first | exact .inl rfl | exact .inr rfl)) (pgs_cons (pg_name (i := 9) sc_p_distance.nd rfl (by first | exact .inl rfl | exact .inr rfl)) pgs_nil))) pgs_nil)))) (fun _ _ _ _ _ => (pts_one (pt_cmpR op_ne (pv 7) (pv 9) (nomark _)))) (fun _ _ _ _ _ => (pe_op op_mod (pe_op op_sub (pv 8) (pv 6)) (pv 2)))) pa_nil))))))))), ?_⟩
    refine ⟨_, rfl, p, v, t, bs, rfl, S, ?_⟩
    by_cases hA : cls bs = []
    · rcases h with ⟨_, q⟩ | ⟨h, _⟩
      · exact .inr ⟨hA, fun H' s' => q H' s'⟩
      · exact absurd hA h
    refine .inl ⟨hA, fun H1 s1 => ?_⟩
    have S1 := S.stay s1
    have T1 := S2.stay s1
    refine ⟨_, rfl, p2, v2, t2, cs, rfl, T1, ?_⟩
    by_cases hB : cls cs = []
    · rcases h with ⟨_, q⟩ | ⟨_, h, _⟩
      · exact .inr ⟨hB, fun H' s' => q H' (s1.trans s')⟩
      · exact absurd hB h
    refine .inl ⟨hB, fun H2 s2 => ?_⟩
    rcases h with ⟨h, _⟩ | ⟨_, _, q⟩
    · rcases h with h | h
      · exact absurd h hA
      · exact absurd h hB
    have s12 := s1.trans s2
    have SA := S.stay s12
    have SB := S2.stay s12
    have hp := S.ok.mods.pos
    have hp2 := S2.ok.mods.pos
    have few := choices_cls S.ok
    have few2 := choices_cls S2.ok
    refine ⟨_, rfl, p, _, _, rfl, SA.ob.choose_spec, p, v, t, bs, rfl, SA, _, rfl, p2, _, _, rfl, SB.ob.choose_spec, p2, v2, t2, cs, rfl, SB, _, _, rfl, ?_⟩
    rw [Int.natAbs_natCast, Int.natAbs_natCast]
    have g0 : 0 < gg bs cs := by
      have := Nat.gcd_pos_of_pos_left (wh cs) hp
      unfold gg
      omega
    show _
    refine ⟨_, rfl, p, _, _, rfl, SA.ob.choose_spec, p, v, t, bs, rfl, SA, t, rfl, ⟨_, SA.cls⟩, fun F nF => ?_⟩
    refine lc_tup (K := K) (a := t) (xs := (cls bs).map V.int) (fun k Hk => MarksTo H2 F (((cls bs).take k).map fun a => (a % gg bs cs, 0)) Hk) (MarksTo.start nF) (fun k Hk _ ⟨_, e, _, kp⟩ => ?_) ?_ ?_
    · have sk : Same H2 Hk := fun b o q => kp b o (ne_of_none q nF) q
      exact (SA.stay sk).cls
    · rintro k y Hk hk ⟨xs, e, pr, kp⟩
      obtain ⟨a, ha, rfl⟩ := getMapInt' hk
      have lx : xs.length ≤ 2000 := by
        rw [pr.len, List.length_map, List.length_take]
        omega
      refine ⟨rfl, _, rfl, _, rfl, _, _, rfl, rfl, g0, sizeOk (by show (2 : Nat) ≤ 100000; decide), fun u nu => ?_⟩
      obtain ⟨e2, m2⟩ := MarksTo.add (m := (a % gg bs cs, 0)) e pr kp nu
      refine ⟨_, e2, sizeLt (by omega), ?_⟩
      rw [takeSucc ha, List.map_append]
      exact m2
    · rintro Hk ⟨xs, e, pr, kp⟩
      rw [List.length_map, List.take_length] at pr
      have lx : xs.length ≤ 2000 := by
        rw [pr.len, List.length_map]
        omega
      have sk : Same H2 Hk := fun b o q => kp b o (ne_of_none q nF) q
      have SAk := SA.stay sk
      have SBk := SB.stay sk
      refine ⟨_, rfl, _, rfl, p2, _, _, rfl, SBk.ob.choose_spec, p2, v2, t2, cs, rfl, SBk, t2, rfl, ⟨_, SBk.cls⟩, fun G nG => ?_⟩
      refine lc_tup (K := K) (a := t2) (xs := (cls cs).map V.int) (fun k Hj => MarksTo Hk G (((cls cs).take k).map fun a => (a % gg bs cs, 1)) Hj) (MarksTo.start nG) (fun k Hj _ ⟨_, e, _, kp⟩ => ?_) ?_ ?_
      · have sj : Same Hk Hj := fun b o q => kp b o (ne_of_none q nG) q
        exact (SBk.stay sj).cls
      · rintro k y Hj hk ⟨zs, e3, pr3, kp3⟩
        obtain ⟨a, ha, rfl⟩ := getMapInt' hk
        have lz : zs.length ≤ 2000 := by
          rw [pr3.len, List.length_map, List.length_take]
          omega
        refine ⟨rfl, _, rfl, _, rfl, _, _, rfl, rfl, g0, sizeOk (by show (2 : Nat) ≤ 100000; decide), fun u nu => ?_⟩
        obtain ⟨e2, m2⟩ := MarksTo.add (m := (a % gg bs cs, 1)) e3 pr3 kp3 nu
        refine ⟨_, e2, sizeLt (by omega), ?_⟩
        rw [takeSucc ha, List.map_append]
        exact m2
      · rintro Hj ⟨zs, e3, pr3, kp3⟩
        rw [List.length_map, List.take_length] at pr3
        have lz : zs.length ≤ 2000 := by
          rw [pr3.len, List.length_map]
          omega
        have sj : Same Hk Hj := fun b o q => kp3 b o (ne_of_none q nG) q
        have eF := sj _ _ e
        refine ⟨F, G, xs, zs, rfl, rfl, eF, e3, sizeOk (by omega), fun D nD => ?_⟩
        have sD := same_upd nD (o := .lst (xs ++ zs))
        have prD : PrAt (upd Hj D (.lst (xs ++ zs))) (xs ++ zs) (marksL (gg bs cs) (cls bs) (cls cs)) := PrAt.app (pr.stay fun a u q => sD _ _ (sj _ _ q)) (pr3.stay fun a u q => sD _ _ q)
        refine ⟨D, xs ++ zs, prOf (upd Hj D (.lst (xs ++ zs))), rfl, lstOf upd_same, prD.all, fun ys M s st nM => ?_⟩
        obtain ⟨pr4, pm, up⟩ := prD.sorted s st
        have sM := same_upd nM (o := .lst ys)
        have eM := upd_same (H := upd Hj D (.lst (xs ++ zs))) (a := M) (o := .lst ys)
        have pr5 := pr4.stay (H' := upd (upd Hj D (.lst (xs ++ zs))) M (.lst ys)) fun a u q => sM _ _ q
        have sall := s12.trans (sk.trans (sj.trans (sD.trans sM)))
        have ly : ys.length ≤ 4000 := by
          rw [pr5.len, pm.length_eq]
          unfold marksL
          rw [List.length_append, List.length_map, List.length_map]
          omega
        generalize ys.map (prOf (upd Hj D (.lst (xs ++ zs)))) = MM at pr5 pm up
        generalize upd (upd Hj D (.lst (xs ++ zs))) M (.lst ys) = H5 at eM pr5 sall ⊢
        have fin := dist_of g0 hA hB pm up
        -- marks[1:] + marks[:1]
        refine ⟨_, rfl, _, rfl, ((1 : Nat) : Int), rfl, ?_⟩
        simp only [tNoPart]
        refine ⟨M, ys, rfl, lstOf eM, fun a1 n1 => ⟨_, rfl, ((1 : Nat) : Int), rfl, M, ys, rfl, lstOf (same_upd n1 _ _ eM), fun a2 n2 => ?_⟩⟩
        have yl : 1 ≤ ys.length := by
          rw [pr5.len]
          rcases Nat.eq_zero_or_pos MM.length with z | z
          · have := gaps_len (gg bs cs) MM MM.length
            omega
          · exact z
        have c1 : cutV ys (some ((1 : Nat) : Int)) none = ys.drop 1 := cutDrop ys yl
        have c2 : cutV ys none (some ((1 : Nat) : Int)) = ys.take 1 := cutTake' ys 1
        rw [c1] at n2 ⊢
        rw [c2]
        have q1 := same_upd n1 (o := .lst (ys.drop 1))
        have q2 := same_upd n2 (o := .lst (ys.take 1))
        refine ⟨a1, a2, _, _, rfl, rfl, q2 _ _ upd_same, upd_same, ?_, fun R nR => ?_⟩
        · rw [List.length_drop, List.length_take]
          exact sizeOk (by omega)
        have q3 := same_upd nR (o := .lst (ys.drop 1 ++ ys.take 1))
        have q123 := q1.trans (q2.trans q3)
        have eM6 := q123 _ _ eM
        have eR6 := upd_same (H := upd (upd H5 a1 (.lst (ys.drop 1))) a2 (.lst (ys.take 1))) (a := R) (o := .lst (ys.drop 1 ++ ys.take 1))
        have pr6 := pr5.stay (H' := upd (upd (upd H5 a1 (.lst (ys.drop 1))) a2 (.lst (ys.take 1))) R (.lst (ys.drop 1 ++ ys.take 1))) fun a u q => q123 _ _ q
        have sall6 := sall.trans q123
        generalize upd (upd (upd H5 a1 (.lst (ys.drop 1))) a2 (.lst (ys.take 1))) R (.lst (ys.drop 1 ++ ys.take 1)) = H6 at eM6 eR6 pr6 sall6 ⊢
        have pr7 : PrAt H6 (rotL ys) (rotL MM) := pr6.cut
        refine ⟨M, R, ys, rotL ys, rfl, lstOf eM6, lstOf eR6, fun Z nZ => ?_⟩
        have lm : ys.length = MM.length := pr6.len
        refine lc_it (walk_zip (K := K) (a := M) (b := R) (xs := ys) (ys := rotL ys) (n := ys.length) (by rw [rot_len]; omega)) (fun k Hk => Hk Z = some (.lst ((gapsTo (gg bs cs) MM k).map V.int)) ∧ Same H6 Hk) ⟨upd_same, same_upd nZ⟩ (fun k Hk _ ⟨_, sk⟩ => ⟨lstOf (sk _ _ eM6), lstOf (sk _ _ eR6)⟩) ?_ ?_
        · rintro k y Hk H8 kl ⟨ek, sk⟩ ⟨T0, x, z, rfl, nT, rfl, hx, hz⟩
          have hm : MM[k]? = some (MM[k]'(by omega)) := List.getElem?_eq_getElem _
          have hr : (rotL MM)[k]? = some ((rotL MM)[k]'(by rw [rot_len]; omega)) := List.getElem?_eq_getElem _
          obtain ⟨t3, rfl, f3⟩ := pr6.at_ k x _ hx hm
          obtain ⟨t4, rfl, f4⟩ := pr7.at_ k z _ hz hr
          generalize MM[k]'(by omega) = m3 at hm f3
          generalize (rotL MM)[k]'(by rw [rot_len]; omega) = m4 at hr f4
          have sT := same_upd nT (o := .tup [.ref t3, .ref t4])
          have f3' := sT _ _ (sk _ _ f3)
          have f4' := sT _ _ (sk _ _ f4)
          have ek' := sT _ _ ek
          refine ⟨T0, _, rfl, tupOf upd_same, rfl, ?_⟩
          generalize upd Hk T0 (.tup [.ref t3, .ref t4]) = H8 at sT f3' f4' ek' ⊢
          refine ⟨_, _, rfl, ⟨t3, _, rfl, tupOf f3', rfl, _, _, rfl, _, _, rfl, rfl, ?_⟩⟩
          refine ⟨_, _, rfl, ⟨t4, _, rfl, tupOf f4', rfl, _, _, rfl, _, _, rfl, rfl, rfl, rfl, ?_⟩⟩
          refine ⟨_, rfl, _, rfl, rfl, _, rfl, ?_⟩
          have gs := gaps_succ (g := gg bs cs) hm hr
          have ge : (!decide (V.int m3.2 = V.int m4.2)) = gapOk (m3, m4) := by
            unfold gapOk
            congr 1
            by_cases z : m3.2 = m4.2
            · rw [decide_eq_true z, decide_eq_true (congrArg V.int z)]
            · rw [decide_eq_false z, decide_eq_false fun y => z (V.int.inj y)]
          rw [ge]
          refine ite2 (fun e => ?_) (fun e => ?_)
          · refine ⟨_, rfl, _, rfl, _, _, rfl, rfl, _, rfl, _, _, rfl, rfl, g0, _, ek', ?_, ?_, samePut (sk.trans sT) nZ⟩
            · rw [List.length_map]
              have := gaps_len (gg bs cs) MM k
              exact sizeLt (by omega)
            · rw [upd_same, gs, if_pos e, List.map_append]
              rfl
          · refine ⟨?_, sk.trans sT⟩
            rw [ek', gs, if_neg e, List.append_nil]
        · rintro Hk ⟨ek, sk⟩
          rw [lm] at ek
          obtain ⟨f1, f2⟩ := fin
          refine ⟨Z, _, rfl, lstOf ek, f1, fun m hm hl => ?_⟩
          exact q m _ (sall6.trans sk) (f2 m hm hl)
end

end R
namespace R
open PySem PySem.Spec PyProof.Rows L2
/-- an int under a name of its own -/
theorem pe_cutI {X : Cx} {e : Expr} {te : TE} (h0 : PE X e te) : PE X e (fun σ H Q => te σ H fun x H' => ∃ y : Int, x = .int y ∧ Q (.int y) H') := by
  constructor
  intro pn s σ H Q I h
  refine thn (h0.run pn s σ H _ I h) ?_
  rintro v s1 ⟨x, H1, I1, r1, y, rfl, q⟩
  exact ⟨_, H1, I1, r1, q⟩

end R
namespace R
open PySem PySem.Spec PyProof.Rows L2
/-! ## when a number can be split -/
theorem splTo_spec {bs cs : List Bar} {n : Int} {k : Nat} {m : Int} (h : splTo bs cs n k = some m) : 0 ≤ m ∧ m < (k : Int) ∧ fitsB bs m = true ∧ fitsB cs (n - m) = true := by
  unfold splTo at h
  have h1 := List.mem_of_find?_eq_some h
  have h2 := List.find?_some h
  obtain ⟨i, hi, rfl⟩ := List.mem_map.mp h1
  have := List.mem_range.mp hi
  unfold splOk at h2
  obtain ⟨f1, f2⟩ := Bool.and_eq_true_iff.mp h2
  exact ⟨by omega, by omega, f1, f2⟩
theorem fitsB_shift {bs : List Bar} {x y : Int} (h : x % ((wh bs : Nat) : Int) = y % ((wh bs : Nat) : Int)) : fitsB bs x = fitsB bs y := by
  rw [← fitsB_mod, h, fitsB_mod]
theorem splL_none {bs cs : List Bar} {n : Int} (hp : 0 < wh (bs ++ cs)) : splL bs cs n = none ↔ ∀ x, fitsB bs x = true → fitsB cs (n - x) = false := by
  unfold splL splTo
  rw [List.find?_eq_none]
  have hd1 : wh bs ∣ wh (bs ++ cs) := by rw [wh_app]; exact Nat.dvd_lcm_left _ _
  have hd2 : wh cs ∣ wh (bs ++ cs) := by rw [wh_app]; exact Nat.dvd_lcm_right _ _
  constructor
  · intro h x fx
    have x0 := Int.emod_nonneg x (show ((wh (bs ++ cs) : Nat) : Int) ≠ 0 by omega)
    have x1 := Int.emod_lt_of_pos x (show (0 : Int) < (wh (bs ++ cs) : Nat) by omega)
    have k1 : fitsB bs (x % ((wh (bs ++ cs) : Nat) : Int)) = fitsB bs x := fitsB_shift (Int.emod_emod_of_dvd x (Int.natCast_dvd_natCast.mpr hd1))
    have k2 : fitsB cs (n - x % ((wh (bs ++ cs) : Nat) : Int)) = fitsB cs (n - x) := fitsB_shift (by
      rw [Int.sub_emod, Int.emod_emod_of_dvd x (Int.natCast_dvd_natCast.mpr hd2), ← Int.sub_emod])
    have := h _ (List.mem_map.mpr ⟨(x % ((wh (bs ++ cs) : Nat) : Int)).toNat, List.mem_range.mpr (by omega), rfl⟩)
    rw [Int.toNat_of_nonneg x0] at this
    unfold splOk at this
    rw [k1, k2, fx] at this
    simpa using this
  · intro h y hy
    unfold splOk
    cases f : fitsB bs y with
    | false => simp
    | true =>
      rw [h y f]
      simp
/-- the pairs of classes that may come together -/
def pairOk (g n a b : Int) : Bool := decide ((a + b - n) % g = 0)
def pairsTo (g n : Int) (A B : List Int) (i : Nat) : List (Int × Int) := (A.take i).flatMap fun a => (B.filter fun b => pairOk g n a b).map fun b => (a, b)
theorem pairs_succ {g n : Int} {A B : List Int} {i : Nat} {a : Int} (h : A[i]? = some a) : pairsTo g n A B (i + 1) = pairsTo g n A B i ++ (B.filter fun b => pairOk g n a b).map fun b => (a, b) := by
  unfold pairsTo
  rw [takeSucc h, List.flatMap_append]
  congr 1
  exact List.append_nil _
theorem pairs_len (g n : Int) (A B : List Int) : ∀ i, (pairsTo g n A B i).length ≤ i * B.length := by
  intro i
  induction i with
  | zero =>
    unfold pairsTo
    rw [List.take_zero]
    exact Nat.zero_le _
  | succ i ih =>
    cases h : A[i]? with
    | some a =>
      rw [pairs_succ h, List.length_append, List.length_map, Nat.succ_mul]
      exact Nat.add_le_add ih (List.length_filter_le _ _)
    | none =>
      have hl := List.getElem?_eq_none_iff.mp h
      have : pairsTo g n A B (i + 1) = pairsTo g n A B i := by
        unfold pairsTo
        rw [List.take_of_length_le (by omega), List.take_of_length_le hl]
      rw [this, Nat.succ_mul]
      omega
theorem pairs_mem {g n : Int} {A B : List Int} {p : Int × Int} : p ∈ pairsTo g n A B A.length ↔ p.1 ∈ A ∧ p.2 ∈ B ∧ (p.1 + p.2 - n) % g = 0 := by
  unfold pairsTo
  rw [List.take_length, List.mem_flatMap]
  constructor
  · rintro ⟨a, ha, h⟩
    obtain ⟨b, hb, rfl⟩ := List.mem_map.mp h
    obtain ⟨h1, h2⟩ := List.mem_filter.mp hb
    exact ⟨ha, h1, of_decide_eq_true h2⟩
  · rintro ⟨h1, h2, h3⟩
    exact ⟨p.1, h1, List.mem_map.mpr ⟨p.2, List.mem_filter.mpr ⟨h2, decide_eq_true h3⟩, rfl⟩⟩
def gcdI (bs cs : List Bar) : Int := ((Nat.gcd (wh bs) (wh cs) : Nat) : Int)
/-- a split tells a pair -/
theorem split_pair {bs cs : List Bar} {n x : Int} (h1 : 0 < wh bs) (h2 : 0 < wh cs) (f : fitsB bs x = true) (k : fitsB cs (n - x) = true) :
    (x % ((wh bs : Nat) : Int), (n - x) % ((wh cs : Nat) : Int)) ∈ pairsTo (gcdI bs cs) n (cls bs) (cls cs) (cls bs).length := by
  refine pairs_mem.mpr ⟨emod_cls h1 f, emod_cls h2 k, ?_⟩
  show (x % ((wh bs : Nat) : Int) + (n - x) % ((wh cs : Nat) : Int) - n) % gcdI bs cs = 0
  obtain ⟨g1, g2⟩ := gcd_dvd_int (wh bs) (wh cs)
  have e1 := Int.emod_emod_of_dvd x g1
  have e2 := Int.emod_emod_of_dvd (n - x) g2
  unfold gcdI
  rw [Int.sub_emod, Int.add_emod, e1, e2, ← Int.add_emod, show x + (n - x) = n by omega, Int.sub_self, Int.zero_emod]
theorem split_iff {bs cs : List Bar} {n : Int} (S : SvOk bs) (S2 : SvOk cs) : splL bs cs n = none ↔ pairsTo (gcdI bs cs) n (cls bs) (cls cs) (cls bs).length = [] := by
  have h1 := S.mods.pos
  have h2 := S2.mods.pos
  have hp : 0 < wh (bs ++ cs) := wh_pos _ fun b hb => by
    rcases List.mem_append.mp hb with hb | hb
    · exact (S.bar b hb).pos
    · exact (S2.bar b hb).pos
  rw [splL_none hp]
  constructor
  · intro h
    refine List.eq_nil_iff_forall_not_mem.mpr fun p hp => ?_
    obtain ⟨ha, hb, e⟩ := pairs_mem.mp hp
    obtain ⟨x, _, _, x3, x4⟩ := crt h1 h2 (a := p.1) (r := n - p.2) (by
      have := Int.dvd_of_emod_eq_zero e
      rw [show p.1 + p.2 - n = -(n - p.2 - p.1) by omega, Int.dvd_neg] at this
      exact this)
    have f1 : fitsB bs x = true := (fitsB_shift x3).trans (cls_mem.mp ha).2.2
    have f2 : fitsB cs (n - x) = true := by
      refine (fitsB_shift (y := p.2) ?_).trans (cls_mem.mp hb).2.2
      rw [Int.sub_emod, x4, ← Int.sub_emod, show n - (n - p.2) = p.2 by omega]
    rw [h x f1] at f2
    cases f2
  · intro h x f
    cases k : fitsB cs (n - x) with
    | false => rfl
    | true =>
      have := split_pair h1 h2 f k
      rw [h] at this
      simp at this

end R
namespace R
open PySem PySem.Spec PyProof.Rows L2
structure Sq (bs : List Bar) : Prop where
  len : bs.length ≤ 2
  bar : ∀ b ∈ bs, 1 ≤ b.1 ∧ b.1 ≤ 6 ∧ LotOk b.1 b.2
theorem Sq.with {bs cs : List Bar} (h : Sq bs) (k : Sq cs) : SvOk (bs ++ cs) ∧ wh (bs ++ cs) ≤ 1296 := by
  have l1 := h.len
  have l2 := k.len
  have len : (bs ++ cs).length ≤ 4 := by rw [List.length_append]; omega
  have mem : ∀ b ∈ bs ++ cs, 1 ≤ b.1 ∧ b.1 ≤ 6 ∧ LotOk b.1 b.2 := fun b hb => by
    rcases List.mem_append.mp hb with hb | hb
    · exact h.bar b hb
    · exact k.bar b hb
  have hw : wh (bs ++ cs) ≤ 1296 := by
    have := whPow (N := 6) (bs ++ cs) fun b hb => by have := mem b hb; omega
    exact Nat.le_trans this (Nat.le_trans (Nat.pow_le_pow_right (by decide) len) (by decide))
  refine ⟨⟨by omega, fun b hb => ?_, Nat.le_trans hw (by decide), ?_⟩, hw⟩
  · obtain ⟨x, y, z⟩ := mem b hb
    exact ⟨x, by omega, z⟩
  · have := choicesPow (N := 6) (bs ++ cs) fun b hb => by
      have h1 := mem b hb
      have h2 := h1.2.2.len
      omega
    exact Nat.le_trans this (Nat.le_trans (Nat.pow_le_pow_right (by decide) len) (by decide))
theorem Sq.nil : Sq [] := ⟨Nat.zero_le _, fun b hb => by simp at hb⟩
theorem Sq.sv {bs : List Bar} (h : Sq bs) : SvOk bs := by
  have := (h.with Sq.nil).1
  rwa [List.append_nil] at this

theorem Sq.wh {bs : List Bar} (h : Sq bs) : wh bs ≤ 1296 := by
  have := (h.with Sq.nil).2
  rwa [List.append_nil] at this
/-- a turn and the turn back -/
theorem TurnL.back {s o p : Int} {bs cs : List Bar} (h : TurnL s o bs cs) (hs : Sg s) (S : SvOk bs) (e : p = -(s * o)) : TurnL s p cs bs := by
  refine ⟨h.len.symm, fun i c b hc hb => ?_⟩
  have k := h.at_ i b c hb hc
  have ob := S.bar b (List.mem_of_getElem? hb)
  refine ⟨k.mod.symm, ob.lot, k.len.symm, fun x => ⟨fun hx => ?_, ?_⟩⟩
  · refine ⟨(s * x + o) % b.1, (k.mem _).mpr ⟨x, hx, rfl⟩, ?_⟩
    have x0 := ob.lot.ge x hx
    have x1 := ob.lot.lt x hx
    rw [k.mod]
    have h1 : (s * ((s * x + o) % b.1) + p) % b.1 = (s * (s * x + o) + p) % b.1 := by
      rw [Int.add_emod, Int.mul_emod, Int.emod_emod_of_dvd _ (Int.dvd_refl _), ← Int.mul_emod, ← Int.add_emod]
    rw [h1, e]
    have h2 : s * (s * x + o) + -(s * o) = x := by rcases hs with rfl | rfl <;> omega
    rw [h2, Int.emod_eq_of_lt x0 x1]
  · rintro ⟨y, hy, rfl⟩
    obtain ⟨r, hr, rfl⟩ := (k.mem y).mp hy
    have x0 := ob.lot.ge r hr
    have x1 := ob.lot.lt r hr
    rw [k.mod]
    have h1 : (s * ((s * r + o) % b.1) + p) % b.1 = (s * (s * r + o) + p) % b.1 := by
      rw [Int.add_emod, Int.mul_emod, Int.emod_emod_of_dvd _ (Int.dvd_refl _), ← Int.mul_emod, ← Int.add_emod]
    rw [h1, e]
    have h2 : s * (s * r + o) + -(s * o) = r := by rcases hs with rfl | rfl <;> omega
    rw [h2, Int.emod_eq_of_lt x0 x1]
    exact hr
theorem turn_whole {bs : List Bar} (S : SvOk bs) : TurnL 1 ((wh bs : Nat) : Int) bs bs := by
  refine ⟨rfl, fun i b c hb hc => ?_⟩
  obtain rfl : b = c := Option.some.inj (hb.symm.trans hc)
  have m := List.mem_of_getElem? hb
  have ob := S.bar b m
  have d : b.1 ∣ ((wh bs : Nat) : Int) := Int.natAbs_dvd.mp (Int.natCast_dvd_natCast.mpr (dvd_wh bs b m))
  have go : ∀ r ∈ b.2, (1 * r + ((wh bs : Nat) : Int)) % b.1 = r := fun r hr => by
    obtain ⟨k, hk⟩ := d
    rw [hk, Int.one_mul, Int.add_mul_emod_self_left, Int.emod_eq_of_lt (ob.lot.ge r hr) (ob.lot.lt r hr)]
  exact ⟨rfl, ob.lot, rfl, fun x => ⟨fun hx => ⟨x, hx, (go x hx).symm⟩, fun ⟨r, hr, e⟩ => by rw [e, go r hr]; exact hr⟩⟩
theorem TurnL.with {s o : Int} {bs cs ds : List Bar} (h : TurnL s o cs ds) (S2 : SvOk cs) (S : SvOk (bs ++ cs)) : SvOk (bs ++ ds) := by
  have six := S.six
  have great := S.great
  have many := S.many
  rw [List.length_append] at six
  rw [wh_app] at great
  rw [choices_app] at many
  refine ⟨by rw [List.length_append, h.len]; exact six, fun b hb => ?_, by rw [wh_app, h.wh]; exact great, by rw [choices_app, h.choices]; exact many⟩
  rcases List.mem_append.mp hb with hb | hb
  · exact S.bar b (List.mem_append_left _ hb)
  · exact (h.sv S2).bar b hb
/-- both and a moved one have a number in common -/
theorem cls_ne {bs : List Bar} (hp : 0 < wh bs) : cls bs ≠ [] ↔ ∃ x, fitsB bs x = true := by
  constructor
  · intro h
    cases e : cls bs with
    | nil => exact absurd e h
    | cons x r => exact ⟨x, (cls_mem.mp (by rw [e]; exact List.mem_cons_self)).2.2⟩
  · rintro ⟨x, f⟩ e
    have := emod_cls hp f
    rw [e] at this
    cases this
theorem meets {bs cs ds : List Bar} {k : Int} (h : TurnL 1 k cs ds) (S : SvOk bs) (S2 : SvOk cs) (W : SvOk (bs ++ ds)) :
    cls (bs ++ ds) ≠ [] ↔ ∃ a ∈ cls bs, ∃ b ∈ cls cs, gg bs cs ∣ a - b - k := by
  have hb := S.mods.pos
  have hc := S2.mods.pos
  have g1 : gg bs cs ∣ ((wh bs : Nat) : Int) := (gcd_dvd_int _ _).1
  have g2 : gg bs cs ∣ ((wh cs : Nat) : Int) := (gcd_dvd_int _ _).2
  rw [cls_ne W.mods.pos]
  constructor
  · rintro ⟨x, f⟩
    rw [fitsB_app, Bool.and_eq_true, h.fits' (.inl rfl) S2] at f
    obtain ⟨f1, f2⟩ := f
    rw [Int.one_mul] at f2
    refine ⟨_, emod_cls hb f1, _, emod_cls hc f2, ?_⟩
    have e1 := Int.emod_add_mul_ediv x ((wh bs : Nat) : Int)
    have e2 := Int.emod_add_mul_ediv (x - k) ((wh cs : Nat) : Int)
    have e3 : x % ((wh bs : Nat) : Int) - (x - k) % ((wh cs : Nat) : Int) - k = ((wh cs : Nat) : Int) * ((x - k) / ((wh cs : Nat) : Int)) - ((wh bs : Nat) : Int) * (x / ((wh bs : Nat) : Int)) := by omega
    rw [e3]
    exact Int.dvd_sub (Int.dvd_mul_of_dvd_left g2) (Int.dvd_mul_of_dvd_left g1)
  · rintro ⟨a, ha, b, hb', d⟩
    obtain ⟨x, _, _, x1, x2⟩ := crt (w := wh bs) (m := wh cs) (a := a) (r := b + k) hb hc (by
      have : b + k - a = -(a - b - k) := by omega
      rw [this]
      exact Int.dvd_neg.mpr d)
    refine ⟨x, ?_⟩
    rw [fitsB_app, Bool.and_eq_true, h.fits' (.inl rfl) S2, Int.one_mul]
    refine ⟨(fitsB_shift x1).trans (cls_mem.mp ha).2.2, (fitsB_shift ?_).trans (cls_mem.mp hb').2.2⟩
    have : (x - k) % ((wh cs : Nat) : Int) = (b + k - k) % ((wh cs : Nat) : Int) := by rw [Int.sub_emod, x2, ← Int.sub_emod]
    rw [this, Int.add_sub_cancel]
theorem dist_near {g m : Int} {A B : List Int} (h : IsDist g A B m) : ∃ k, (k = 0 - m ∨ k = m) ∧ ∃ a ∈ A, ∃ b ∈ B, g ∣ a - b - k := by
  obtain ⟨a, ha, b, hb, e⟩ := h.ex
  rcases e with e | e
  · exact ⟨m, .inr rfl, a, ha, b, hb, by rw [e]; exact Int.dvd_self_sub_emod⟩
  · refine ⟨0 - m, .inl rfl, a, ha, b, hb, ?_⟩
    have : a - b - (0 - m) = -(b - a - m) := by omega
    rw [this, e]
    exact Int.dvd_neg.mpr Int.dvd_self_sub_emod
theorem emod_down {k g : Int} (hg : 0 < g) (hk : 0 ≤ k) : k % g ≤ k := by
  have h1 := Int.mul_nonneg (Int.le_of_lt hg) (Int.ediv_nonneg hk (Int.le_of_lt hg))
  have h2 := Int.emod_add_mul_ediv k g
  omega
theorem dist_less {g m k : Int} {A B : List Int} (hg : 0 < g) (h : IsDist g A B m) (h1 : 1 - m ≤ k) (h2 : k < m) : ¬ ∃ a ∈ A, ∃ b ∈ B, g ∣ a - b - k := by
  rintro ⟨a, ha, b, hb, d⟩
  obtain ⟨l1, l2⟩ := h.le a ha b hb
  have e1 : (a - b) % g = k % g := (Int.emod_emod_of_dvd _ (Int.dvd_refl g)).symm.trans (by rw [Int.emod_emod_of_dvd _ (Int.dvd_refl g)]; exact Int.emod_eq_emod_iff_emod_sub_eq_zero.mpr (Int.emod_eq_zero_of_dvd d))
  have e2 : (b - a) % g = (-k) % g := Int.emod_eq_emod_iff_emod_sub_eq_zero.mpr (Int.emod_eq_zero_of_dvd (by
    have : b - a - -k = -(a - b - k) := by omega
    rw [this]
    exact Int.dvd_neg.mpr d))
  by_cases hk : 0 ≤ k
  · have : k % g ≤ k := emod_down hg hk
    omega
  · have : (-k) % g ≤ -k := emod_down hg (by omega)
    omega
/-- stretched and shared again -/
theorem str_sh {k : Nat} {bs ds : List Bar} (hk : 0 < k) (S : SvOk bs) (h : ShL k (strB (k : Int) bs) ds) (x : Int) : fitsB ds x = fitsB bs x := by
  rw [h.fits, Bool.eq_iff_iff, fits_str (by omega) fun b hb => (S.bar b hb).lot]
  rw [Int.mul_emod_left, Int.mul_ediv_cancel _ (by omega)]
  exact ⟨fun z => z.2, fun z => ⟨rfl, z⟩⟩
theorem rest_in {bs : List Bar} {m : Nat} {x : Int} (S : SvOk bs) (hm : 0 < m) (f : fitsB bs x = true) : x % (m : Int) ∈ restsL bs m := by
  refine mem_restsL.mpr ⟨Int.emod_nonneg _ (by omega), Int.emod_lt_of_pos _ (by omega), agrees_iff.mpr ⟨_, emod_cls S.mods.pos f, ?_⟩⟩
  obtain ⟨g1, g2⟩ := gcd_dvd_int (wh bs) m
  rw [Int.emod_emod_of_dvd _ g1, Int.emod_emod_of_dvd _ g2]
theorem rests_none {bs : List Bar} {m : Nat} (h : cls bs = []) : restsL bs m = [] := by
  refine List.eq_nil_iff_forall_not_mem.mpr fun r hr => ?_
  obtain ⟨c, hc, _⟩ := agrees_iff.mp (mem_restsL.mp hr).2.2
  rw [h] at hc
  cases hc
theorem sum_in {bs cs : List Bar} {m : Nat} {x n : Int} (S : SvOk bs) (S2 : SvOk cs) (hm : 0 < m) (f : fitsB bs x = true) (k : fitsB cs (n - x) = true) : n % (m : Int) ∈ (prodL (restsL bs m) (restsL cs m)).map (sumM m) := by
  refine List.mem_map.mpr ⟨_, mem_prodL (m := (x % (m : Int), (n - x) % (m : Int))).mpr ⟨rest_in S hm f, rest_in S2 hm k⟩, ?_⟩
  show (x % (m : Int) + (n - x) % (m : Int)) % (m : Int) = _
  rw [← Int.add_emod]
  exact congrArg (· % (m : Int)) (by omega)
theorem mul_in {bs cs : List Bar} {m : Nat} {x n : Int} (S : SvOk bs) (S2 : SvOk cs) (hm : 0 < m) (f : fitsB bs x = true) (k : fitsB cs (n - x) = true) : x * (n - x) % (m : Int) ∈ (prodL (restsL bs m) (restsL cs m)).map (mulM m) := by
  refine List.mem_map.mpr ⟨_, mem_prodL (m := (x % (m : Int), (n - x) % (m : Int))).mpr ⟨rest_in S hm f, rest_in S2 hm k⟩, ?_⟩
  show (x % (m : Int) * ((n - x) % (m : Int))) % (m : Int) = _
  rw [← Int.mul_emod]
theorem prodL_nil {as bs : List Int} (h : as = [] ∨ bs = []) : prodL as bs = [] := by
  rcases h with rfl | rfl
  · rfl
  · refine List.eq_nil_iff_forall_not_mem.mpr fun m hm => ?_
    have := (mem_prodL.mp hm).2
    cases this
theorem un_alike {bs cs : List Bar} (S : SvOk bs) (S2 : SvOk cs) : (withinB bs cs && withinB cs bs) = decide (unL bs cs = none) := by
  rw [within_out S S2, within_out S2 S]
  unfold unL
  cases outF bs cs with
  | none =>
    cases outF cs bs with
    | none => rfl
    | some b => rfl
  | some a =>
    cases outF cs bs with
    | none => rfl
    | some b => rfl
theorem split_none {bs cs : List Bar} {n : Int} (S : SvOk bs) (S2 : SvOk cs) (hp : 0 < wh (bs ++ cs)) (h : cls bs = [] ∨ cls cs = []) : splL bs cs n = none := by
  rw [splL_none hp]
  intro x f
  rcases h with h | h
  · exact absurd h ((cls_ne S.mods.pos).mpr ⟨x, f⟩)
  · cases e : fitsB cs (n - x) with
    | false => rfl
    | true => exact absurd h ((cls_ne S2.mods.pos).mpr ⟨_, e⟩)
def meetB (bs cs : List Bar) (k : Int) : Bool := (cls bs).any fun a => (cls cs).any fun b => decide ((a - b - k) % gg bs cs = 0)
theorem meetB_iff {bs cs : List Bar} {k : Int} : meetB bs cs k = true ↔ ∃ a ∈ cls bs, ∃ b ∈ cls cs, gg bs cs ∣ a - b - k := by
  unfold meetB
  rw [List.any_eq_true]
  constructor
  · rintro ⟨a, ha, h⟩
    obtain ⟨b, hb, h⟩ := List.any_eq_true.mp h
    exact ⟨a, ha, b, hb, Int.dvd_of_emod_eq_zero (of_decide_eq_true h)⟩
  · rintro ⟨a, ha, b, hb, h⟩
    exact ⟨a, ha, List.any_eq_true.mpr ⟨b, hb, decide_eq_true (Int.emod_eq_zero_of_dvd h)⟩⟩
theorem meet_cls {bs cs ds : List Bar} {k : Int} (h : TurnL 1 k cs ds) (S : SvOk bs) (S2 : SvOk cs) (W : SvOk (bs ++ ds)) : (!decide (cls (bs ++ ds) = [])) = meetB bs cs k := by
  rw [Bool.eq_iff_iff, meetB_iff, ← meets h S S2 W, Bool.not_eq_true', decide_eq_false_iff_not]

end R
namespace R
open PySem PySem.Spec PyProof.Rows L2
/-- what the law holds all the time -/
structure Two (K : PySem.W.Frag) (C : Addr) (H : Hp) (r L p p2 : Addr) (bs cs : List Bar) : Prop where
  one : ∃ v t, SvAt K C H p v t bs
  two : ∃ v t, SvAt K C H p2 v t cs
  row : RowAt H r L
theorem Two.stay {K : PySem.W.Frag} {C : Addr} {H H' : Hp} {r L p p2 : Addr} {bs cs : List Bar} (h : Two K C H r L p p2 bs cs) (s : Same H H') : Two K C H' r L p p2 bs cs :=
  ⟨let ⟨v, t, A⟩ := h.one; ⟨v, t, A.stay s⟩, let ⟨v, t, A⟩ := h.two; ⟨v, t, A.stay s⟩, h.row.stay s⟩
section
variable {P : Program} {w : World} {K : PySem.W.Frag} {mg : Str → Option Value} {base : Heap}
theorem ok_law (T : Txt K mg) : FnOk P w K mg base CX0 15 T.f_law T.fd_law ["_law_script"] (sp_law K) := by
  refine T.F_law.ok sc_law (fun vs H Q E h => ?_) (fun cdv A outer s H vs Q E hr h => ?_)
  · obtain ⟨a, ns, rfl, _⟩ := h
    rfl
  · obtain ⟨a, ns, rfl, hS, hl, q⟩ := h
    refine ⟨_, (pss_cons (ps_set (i := 1) sc_law.nd rfl (by first | exact .inl rfl | exact .inr rfl) (pe_call (ok_l_draws T) (hr.mono (by decide)) (by rfl) T.g_l_draws T.F_l_draws.kp T.b_l_draws .nil pass0 (pa_cons (pv 0) pa_nil)))
      (C8.pss_cut (ps_asg (pe_tup (pa_cons (pe_make T.mkC (ok_m_Sieve_init T) (hr.mono (by decide)) (by rfl) T.g_Sieve T.b_m_Sieve_init .nil pass0 (pa_cons (pe_call (ok_l_bars T) (hr.mono (by decide)) (by rfl) T.g_l_bars T.F_l_bars.kp T.b_l_bars .nil pass0 (pa_cons (pv 1) (pa_cons pe_int (pa_cons pe_int pa_nil)))) pa_nil)) (pa_cons (pe_make T.mkC (ok_m_Sieve_init T) (hr.mono (by decide)) (by rfl) T.g_Sieve T.b_m_Sieve_init .nil pass0 (pa_cons (pe_call (ok_l_bars T) (hr.mono (by decide)) (by rfl) T.g_l_bars T.F_l_bars.kp T.b_l_bars .nil pass0 (pa_cons (pv 1) (pa_cons pe_int (pa_cons pe_int pa_nil)))) pa_nil)) (pa_cons (pe_call (ok_l_far T) (hr.mono (by decide)) (by rfl) T.g_l_far T.F_l_far.kp T.b_l_far .nil pass0 (pa_cons (pv 1) pa_nil)) pa_nil)))) (pg_tup (by rfl) (pgs_cons (pg_name (i := 2) sc_law.nd rfl (by first | exact .inl rfl | exact .inr rfl)) (pgs_cons (pg_name (i := 3) sc_law.nd rfl (by first | exact .inl rfl | exact .inr rfl)) (pgs_cons (pg_name (i := 4) sc_law.nd rfl (by first | exact .inl rfl | exact .inr rfl)) pgs_nil)))))
      (pss_cons (ps_if (PW.pt (pw_or (pt_not (pt_val (pe_call (ok_p_within T) (hr.mono (by decide)) (by rfl) T.g_p_within T.F_p_within.kp T.b_p_within .nil pass0 (pa_cons (pe_call (ok_p_both T) (hr.mono (by decide)) (by rfl) T.g_p_both T.F_p_both.kp T.b_p_both .nil passL (pa_cons (pv 2) (pa_cons (pv 3) pa_nil))) (pa_cons (pv 2) pa_nil))))) (pw_or1 (pt_not (pt_val (pe_call (ok_p_within T) (hr.mono (by decide)) (by rfl) T.g_p_within T.F_p_within.kp T.b_p_within .nil pass0 (pa_cons (pe_call (ok_p_both T) (hr.mono (by decide)) (by rfl) T.g_p_both T.F_p_both.kp T.b_p_both .nil passL (pa_cons (pv 2) (pa_cons (pv 3) pa_nil))) (pa_cons (pv 3) pa_nil)))))))) (pss_one (ps_ret pe_bl)) pss_nil)
      (pss_cons (ps_if (PW.pt (pw_or (pt_cmpR (op_neO (ok_m_Sieve_eq T) (hr.mono (by decide)) T.eqS T.eqF T.b_m_Sieve_eq pass0 T.neS T.moC) (pe_call (ok_p_moved T) (hr.mono (by decide)) (by rfl) T.g_p_moved T.F_p_moved.kp T.b_p_moved .nil passL (pa_cons (pe_call (ok_p_moved T) (hr.mono (by decide)) (by rfl) T.g_p_moved T.F_p_moved.kp T.b_p_moved .nil passL (pa_cons (pv 2) (pa_cons (pv 4) pa_nil))) (pa_cons (pe_op op_sub pe_int (pv 4)) pa_nil))) (pv 2) (nomark _)) (pw_or1 (pt_cmpR (op_neO (ok_m_Sieve_eq T) (hr.mono (by decide)) T.eqS T.eqF T.b_m_Sieve_eq pass0 T.neS T.moC) (pe_call (ok_p_taken_from T) (hr.mono (by decide)) (by rfl) T.g_p_taken_from T.F_p_taken_from.kp T.b_p_taken_from .nil passL (pa_cons (pe_call (ok_p_taken_from T) (hr.mono (by decide)) (by rfl) T.g_p_taken_from T.F_p_taken_from.kp T.b_p_taken_from .nil passL (pa_cons (pv 2) (pa_cons (pv 4) pa_nil))) (pa_cons (pv 4) pa_nil))) (pv 2) (nomark _))))) (pss_one (ps_ret pe_bl)) pss_nil)
      (pss_cons (ps_if (pt_cmpR (op_neO (ok_m_Sieve_eq T) (hr.mono (by decide)) T.eqS T.eqF T.b_m_Sieve_eq pass0 T.neS T.moC) (pe_call (ok_p_moved T) (hr.mono (by decide)) (by rfl) T.g_p_moved T.F_p_moved.kp T.b_p_moved .nil passL (pa_cons (pv 2) (pa_cons (pe_prop (pv 2) T.cl T.pp_whole (ok_m_Sieve_whole T) (hr.mono (by decide)) T.b_m_Sieve_whole .nil pass0 (by rfl)) pa_nil))) (pv 2) (nomark _)) (pss_one (ps_ret pe_bl)) pss_nil)
      (pss_cons (ps_if (PW.pt (pw_or (pt_cmpR op_ne (pe_cmpR op_isN (pe_call (ok_p_first_unlike T) (hr.mono (by decide)) (by rfl) T.g_p_first_unlike T.F_p_first_unlike.kp T.b_p_first_unlike .nil pass0 (pa_cons (pv 2) (pa_cons (pv 3) pa_nil))) pe_non (nomark _)) (pe_call (ok_p_alike T) (hr.mono (by decide)) (by rfl) T.g_p_alike T.F_p_alike.kp T.b_p_alike .nil pass0 (pa_cons (pv 2) (pa_cons (pv 3) pa_nil))) (nomark _)) (pw_or1 (pt_not (pt_val (pe_call (ok_p_alike T) (hr.mono (by decide)) (by rfl) T.g_p_alike T.F_p_alike.kp T.b_p_alike .nil pass0 (pa_cons (pe_call (ok_p_shared T) (hr.mono (by decide)) (by rfl) T.g_p_shared T.F_p_shared.kp T.b_p_shared .nil passL (pa_cons (pe_call (ok_p_stretched T) (hr.mono (by decide)) (by rfl) T.g_p_stretched T.F_p_stretched.kp T.b_p_stretched .nil passL (pa_cons (pv 2) (pa_cons pe_int pa_nil))) (pa_cons pe_int pa_nil))) (pa_cons (pv 2) pa_nil)))))))) (pss_one (ps_ret pe_bl)) pss_nil)
      (C8.pss_cut (ps_set (i := 5) sc_law.nd rfl (by first | exact .inl rfl | exact .inr rfl) (pe_call (ok_p_split T) (hr.mono (by decide)) (by rfl) T.g_p_split T.F_p_split.kp T.b_p_split .nil passL (pa_cons (pv 2) (pa_cons (pv 3) (pa_cons (pv 4) pa_nil)))))
      (C8.pss_cut (ps_set (i := 6) sc_law.nd rfl (by first | exact .inl rfl | exact .inr rfl) (pe_op op_add pe_int (pe_call (ok_l_pick T) (hr.mono (by decide)) (by rfl) T.g_l_pick T.F_l_pick.kp T.b_l_pick .nil pass0 (pa_cons (pv 1) (pa_cons pe_int pa_nil)))))
      (C8.pss_cut (ps_if (pt_cmpR op_notN (pv 5) pe_non (nomark _)) (pss_cons (ps_if (PW.pt (pw_or (pt_not (pt_val (pe_call (ok_p_fits T) (hr.mono (by decide)) (by rfl) T.g_p_fits T.F_p_fits.kp T.b_p_fits .nil passL (pa_cons (pv 2) (pa_cons (pv 5) pa_nil))))) (pw_or (pt_not (pt_val (pe_call (ok_p_fits T) (hr.mono (by decide)) (by rfl) T.g_p_fits T.F_p_fits.kp T.b_p_fits .nil passL (pa_cons (pv 3) (pa_cons (pe_op op_sub (pv 4) (pv 5)) pa_nil))))) (pw_or1 (pt_cmpR op_notIn_seq (pe_op op_mod (pv 4) (pv 6)) (pe_call (ok_p_sums T) (hr.mono (by decide)) (by rfl) T.g_p_sums T.F_p_sums.kp T.b_p_sums .nil passL (pa_cons (pv 2) (pa_cons (pv 3) (pa_cons (pv 6) pa_nil)))) (by rfl)))))) (pss_one (ps_ret pe_bl)) pss_nil)
      (pss_one (ps_if (pt_cmpR op_notIn_seq (pe_op op_mod (pe_op op_mulW (pv 5) (pe_op op_sub (pv 4) (pv 5))) (pv 6)) (pe_call (ok_p_products T) (hr.mono (by decide)) (by rfl) T.g_p_products T.F_p_products.kp T.b_p_products .nil passL (pa_cons (pv 2) (pa_cons (pv 3) (pa_cons (pv 6) pa_nil)))) (by rfl)) (pss_one (ps_ret pe_bl)) pss_nil))) pss_nil)
      (pss_cons (ps_if (PW.pt (pw_or (pt_cmpR (op_eqD hr.units) (pe_prop (pv 2) T.cl T.pp_classes (ok_m_Sieve_classes T) (hr.mono (by decide)) T.b_m_Sieve_classes .nil pass0 (by rfl)) (pe_tup pa_nil) (nomark _)) (pw_or1 (pt_cmpR (op_eqD hr.units) (pe_prop (pv 3) T.cl T.pp_classes (ok_m_Sieve_classes T) (hr.mono (by decide)) T.b_m_Sieve_classes .nil pass0 (by rfl)) (pe_tup pa_nil) (nomark _))))) (pss_one (ps_ret (pe_and (pe_cmpR op_isN (pv 5) pe_non (nomark _)) (pe_and (pe_cmpR (op_eqD hr.units) (pe_call (ok_p_sums T) (hr.mono (by decide)) (by rfl) T.g_p_sums T.F_p_sums.kp T.b_p_sums .nil passL (pa_cons (pv 2) (pa_cons (pv 3) (pa_cons (pv 6) pa_nil)))) (pe_lst pa_nil) (nomark _)) (pe_one (pe_cmpR (op_eqD hr.units) (pe_call (ok_p_products T) (hr.mono (by decide)) (by rfl) T.g_p_products T.F_p_products.kp T.b_p_products .nil passL (pa_cons (pv 2) (pa_cons (pv 3) (pa_cons (pv 6) pa_nil)))) (pe_lst pa_nil) (nomark _))))))) pss_nil)
      (C8.pss_cut (ps_set (i := 7) sc_law.nd rfl (by first | exact .inl rfl | exact .inr rfl) (pe_call (ok_p_distance T) (hr.mono (by decide)) (by rfl) T.g_p_distance T.F_p_distance.kp T.b_p_distance .nil passL (pa_cons (pv 2) (pa_cons (pv 3) pa_nil))))
      (C8.pss_cut (ps_setLc (i := 8) (own := [("_law_k", 10)]) rfl sc_law.nd rfl rfl (sw_true rfl rfl rfl (by decide +kernel)) (pi_tup (pe_tup (pa_cons (pe_op op_sub pe_int (pv 7)) (pa_cons (pv 7) pa_nil)))) (blkOk_by (N := ["_law_script", "_law_row", "_law_one", "_law_other", "_law_by", "_law_x", "_law_modulus", "_law_gap", "_law_near", "_law_less", "_law_k"]) (sc := defScope s_law) (by decide +kernel)) (fun _ _ _ _ _ => (pg_name (i := 10) sc_law.nd rfl (by first | exact .inl rfl | exact .inr rfl))) (fun _ _ _ _ _ => (pts_one (pt_cmpR (r := rNeD K) (op_neD hr.units) (pe_prop (pe_call (ok_p_both T) (hr.mono (by decide)) (by rfl) T.g_p_both T.F_p_both.kp T.b_p_both .nil passL (pa_cons (pv 2) (pa_cons (pe_call (ok_p_moved T) (hr.mono (by decide)) (by rfl) T.g_p_moved T.F_p_moved.kp T.b_p_moved .nil passL (pa_cons (pv 3) (pa_cons (pv 10) pa_nil))) pa_nil))) T.cl T.pp_classes (ok_m_Sieve_classes T) (hr.mono (by decide)) T.b_m_Sieve_classes .nil pass0 (by rfl)) (pe_tup pa_nil) (nomark _)))) (fun _ _ _ _ _ => (pv 10)))
      (pss_cons (ps_setLc (i := 9) (own := [("_law_k", 10)]) rfl sc_law.nd rfl rfl (sw_true rfl rfl rfl (by decide +kernel)) (pi_range2 (by rfl) T.z_range (pa_cons (pe_op op_sub pe_int (pv 7)) (pa_cons (pv 7) pa_nil))) (blkOk_by (N := ["_law_script", "_law_row", "_law_one", "_law_other", "_law_by", "_law_x", "_law_modulus", "_law_gap", "_law_near", "_law_less", "_law_k"]) (sc := defScope s_law) (by decide +kernel)) (fun _ _ _ _ _ => (pg_name (i := 10) sc_law.nd rfl (by first | exact .inl rfl | exact .inr rfl))) (fun _ _ _ _ _ => (pts_one (pt_cmpR (r := rNeD K) (op_neD hr.units) (pe_prop (pe_call (ok_p_both T) (hr.mono (by decide)) (by rfl) T.g_p_both T.F_p_both.kp T.b_p_both .nil passL (pa_cons (pv 2) (pa_cons (pe_call (ok_p_moved T) (hr.mono (by decide)) (by rfl) T.g_p_moved T.F_p_moved.kp T.b_p_moved .nil passL (pa_cons (pv 3) (pa_cons (pv 10) pa_nil))) pa_nil))) T.cl T.pp_classes (ok_m_Sieve_classes T) (hr.mono (by decide)) T.b_m_Sieve_classes .nil pass0 (by rfl)) (pe_tup pa_nil) (nomark _)))) (fun _ _ _ _ _ => (pv 10)))
      (pss_one (ps_ret (pe_and (pe_cmpR (op_neD hr.units) (pv 8) (pe_lst pa_nil) (nomark _)) (pe_one (pe_cmpR (op_eqD hr.units) (pv 9) (pe_lst pa_nil) (nomark _))))))))))))))))))), ?_⟩
    refine ⟨_, rfl, a, ns, rfl, hS, fun r L H1 s1 R1 => ?_⟩
    refine ⟨fun σ H' => ∃ (p p2 : Addr) (bs cs : List Bar) (y : Int), σ = [some (.ref a), some (.ref r), some (.ref p), some (.ref p2), some (.int y), none, none, none, none, none, none] ∧ Sq bs ∧ Sq cs ∧ -(10 ^ 17) < y ∧ y < 10 ^ 17 ∧ Two K T.C H' r L p p2 bs cs, ?_, ?_⟩
    · refine ⟨_, rfl, r, L, 2, 6, rfl, R1, by decide, by decide, by decide, fun v bs H3 D B k3 R3 => ?_⟩
      have M : Sq bs := ⟨D.len, fun b hb => D.bar b hb⟩
      refine fun p dx np ndx _ => make_sieve B M.sv np ndx fun t H4 s4 A => ⟨rfl, ?_⟩
      refine ⟨_, rfl, r, L, 2, 6, rfl, R3.stay s4, by decide, by decide, by decide, fun v2 cs H5 D2 B2 k5 R5 => ?_⟩
      have N : Sq cs := ⟨D2.len, fun b hb => D2.bar b hb⟩
      have A5 := A.keep (R3.stay s4) k5
      refine fun p2 dx2 np2 ndx2 _ => make_sieve B2 N.sv np2 ndx2 fun t2 H6 s6 A2 => ⟨rfl, ?_⟩
      refine ⟨_, rfl, r, L, rfl, R5.stay s6, fun y H7 y0 y1 k7 R7 => ?_⟩
      have A7 := (A5.stay s6).keep (R5.stay s6) k7
      have A27 := A2.keep (R5.stay s6) k7
      refine ⟨sizeOk (by show (3 : Nat) ≤ 100000; decide), fun e ne => ?_⟩
      have s8 := same_upd ne (o := .tup [.ref p, .ref p2, .int y])
      refine ⟨e, _, rfl, tupOf upd_same, rfl, _, _, rfl, _, _, rfl, _, _, rfl, rfl, ?_⟩
      exact ⟨p, p2, bs, cs, y, rfl, M, N, y0, y1, ⟨_, _, A7.stay s8⟩, ⟨_, _, A27.stay s8⟩, R7.stay s8⟩
    rintro σ H5 ⟨p, p2, bs, cs, y, rfl, M, N, y0, y1, Z5⟩
    have S := M.sv
    have S2 := N.sv
    obtain ⟨W, ww⟩ := M.with N
    have hy : IsNum y := by
      unfold IsNum
      omega
    have hy' : IsNum (0 - y) := by
      unfold IsNum
      omega
    have k17 : wh bs ≤ 1296 := M.wh
    have w1 : withinB (bs ++ cs) bs = true := (within_iff W.mods.pos S.bar).mpr fun x f => by
      rw [fitsB_app, Bool.and_eq_true] at f
      exact f.1
    have w2 : withinB (bs ++ cs) cs = true := (within_iff W.mods.pos S2.bar).mpr fun x f => by
      rw [fitsB_app, Bool.and_eq_true] at f
      exact f.2
    obtain ⟨⟨v, t, A⟩, ⟨v2, t2, A2⟩, R⟩ := id Z5
    refine ⟨_, rfl, _, rfl, p, v, t, bs, p2, v2, t2, cs, rfl, A, A2, .inr ⟨W, fun p' v' t' H6 s6 A' => ?_⟩⟩
    refine ⟨_, rfl, p', v', t', _, p, v, t, bs, rfl, A', A.stay s6, fun H7 s7 => ⟨_, rfl, ?_⟩⟩
    rw [w1]
    refine iteF ?_
    have s57 := s6.trans s7
    refine ⟨_, rfl, _, rfl, p, v, t, bs, p2, v2, t2, cs, rfl, A.stay s57, A2.stay s57, .inr ⟨W, fun p' v' t' H8 s8 A' => ?_⟩⟩
    refine ⟨_, rfl, p', v', t', _, p2, v2, t2, cs, rfl, A', A2.stay (s57.trans s8), fun H9 s9 => ⟨_, rfl, ?_⟩⟩
    rw [w2]
    refine iteF ?_
    have Z9 := Z5.stay (s57.trans (s8.trans s9))
    clear A A2 R A' Z5 s57 s6 s7 s8 s9
    obtain ⟨⟨v, t, A⟩, ⟨v2, t2, A2⟩, R⟩ := id Z9
    refine ⟨_, rfl, _, rfl, p, _, v, t, bs, rfl, A, .inl ⟨y, rfl, hy, fun q1 u1 k1 ds H10 s10 l1 B1 => ?_⟩⟩
    refine ⟨_, rfl, _, _, rfl, rfl, q1, _, u1, k1, ds, rfl, B1, .inl ⟨0 - y, rfl, hy', fun q2 u2 k2 es H11 s11 l2 B2 => ?_⟩⟩
    have e1 : es = bs := TurnL.one l2 (l1.back (.inl rfl) S (by omega))
    rw [e1] at B2
    refine ⟨_, rfl, ownSv B2 (A.stay (s10.trans s11)) ?_⟩
    refine ⟨_, rfl, ?_⟩
    rw [decide_eq_true rfl]
    refine iteF ?_
    have Z11 := Z9.stay (s10.trans s11)
    clear A A2 R B1 B2 l1 l2 s10 s11 Z9 e1
    obtain ⟨⟨v, t, A⟩, ⟨v2, t2, A2⟩, R⟩ := id Z11
    refine ⟨_, rfl, _, rfl, p, _, v, t, bs, rfl, A, .inl ⟨y, rfl, hy, fun q1 u1 k1 ds H12 s12 l1 B1 => ?_⟩⟩
    refine ⟨_, rfl, q1, _, u1, k1, ds, rfl, B1, .inl ⟨y, rfl, hy, fun q2 u2 k2 es H13 s13 l2 B2 => ?_⟩⟩
    have e1 : es = bs := TurnL.one l2 (l1.back (.inr rfl) S (by omega))
    rw [e1] at B2
    refine ⟨_, rfl, ownSv B2 (A.stay (s12.trans s13)) ?_⟩
    refine ⟨_, rfl, ?_⟩
    rw [decide_eq_true rfl]
    refine iteF ?_
    have Z13 := Z11.stay (s12.trans s13)
    clear A A2 R B1 B2 l1 l2 s12 s13 Z11 e1
    obtain ⟨⟨v, t, A⟩, ⟨v2, t2, A2⟩, R⟩ := id Z13
    have hn : IsNum ((wh bs : Nat) : Int) := by
      unfold IsNum
      omega
    refine ⟨_, rfl, _, rfl, p, _, _, rfl, A.ob.choose_spec, p, v, t, bs, rfl, A, p, _, v, t, bs, rfl, A, .inl ⟨_, rfl, hn, fun q1 u1 k1 ds H14 s14 l1 B1 => ?_⟩⟩
    have e1 : ds = bs := TurnL.one l1 (turn_whole S)
    rw [e1] at B1
    refine ⟨_, rfl, ownSv B1 (A.stay s14) ?_⟩
    refine ⟨_, rfl, ?_⟩
    rw [decide_eq_true rfl]
    refine iteF ?_
    have Z14 := Z13.stay s14
    clear A A2 R B1 l1 s14 Z13 e1
    obtain ⟨⟨v, t, A⟩, ⟨v2, t2, A2⟩, R⟩ := id Z14
    have e2 : decide (oInt (unL bs cs) = V.non) = (withinB bs cs && withinB cs bs) := by
      rw [un_alike S S2]
      cases unL bs cs <;> simp [oInt]
    refine ⟨_, rfl, _, rfl, p, v, t, bs, p2, v2, t2, cs, rfl, A, A2, fun H15 s15 => ⟨rfl, ?_⟩⟩
    refine ⟨_, rfl, _, rfl, p, v, t, bs, p2, v2, t2, cs, rfl, A.stay s15, A2.stay s15, fun H16 s16 => ⟨rfl, _, rfl, ?_⟩⟩
    rw [e2, decide_eq_true rfl]
    refine iteF ?_
    have Z16 := Z14.stay (s15.trans s16)
    clear A A2 R s15 s16 Z14 e2
    obtain ⟨⟨v, t, A⟩, ⟨v2, t2, A2⟩, R⟩ := id Z16
    refine ⟨_, rfl, p, _, v, t, bs, rfl, A, .inr ⟨7, rfl, by decide, by decide, .inr ⟨by have := M.len; omega, fun b hb => by have := M.bar b hb; omega, fun q1 u1 k1 H17 s17 B1 => ?_⟩⟩⟩
    refine ⟨q1, _, u1, k1, _, rfl, B1, .inr ⟨7, rfl, by decide, by decide, fun q2 u2 k2 ds H18 s18 sh B2 => ?_⟩⟩
    have S3 := B2.ok
    have fe := str_sh (k := 7) (by decide) S sh
    have w3 : (withinB ds bs && withinB bs ds) = true := by
      rw [Bool.and_eq_true]
      exact ⟨(within_iff S3.mods.pos S.bar).mpr fun x f => by rw [← fe]; exact f, (within_iff S.mods.pos S3.bar).mpr fun x f => by rw [fe]; exact f⟩
    refine ⟨_, rfl, q2, u2, k2, ds, p, v, t, bs, rfl, B2, A.stay (s17.trans s18), fun H19 s19 => ⟨true, congrArg V.bl w3, iteF ?_⟩⟩
    have Z19 := Z16.stay (s17.trans (s18.trans s19))
    clear A A2 R B1 B2 sh S3 fe w3 s17 s18 s19 Z16
    refine ⟨fun σ H' => σ = [some (.ref a), some (.ref r), some (.ref p), some (.ref p2), some (.int y), some (oInt (splL bs cs y)), none, none, none, none, none] ∧ Two K T.C H' r L p p2 bs cs, ?_, ?_⟩
    · obtain ⟨⟨v, t, A⟩, ⟨v2, t2, A2⟩, R⟩ := id Z19
      refine ⟨_, rfl, _, rfl, _, rfl, p, v, t, bs, p2, v2, t2, cs, _, rfl, A, A2, .inr ⟨y, rfl, hy, .inr ⟨W, fun H20 s20 => ?_⟩⟩⟩
      exact ⟨rfl, Z19.stay s20⟩
    clear Z19
    rintro σ H5 ⟨rfl, Z5⟩
    refine ⟨fun σ H' => ∃ m : Nat, 1 ≤ m ∧ m ≤ 30 ∧ σ = [some (.ref a), some (.ref r), some (.ref p), some (.ref p2), some (.int y), some (oInt (splL bs cs y)), some (.int m), none, none, none, none] ∧ Two K T.C H' r L p p2 bs cs, ?_, ?_⟩
    · obtain ⟨⟨v, t, A⟩, ⟨v2, t2, A2⟩, R⟩ := id Z5
      refine ⟨_, rfl, r, L, 30, rfl, R, by decide, by decide, fun k0 H6 k00 k01 k6 R6 => ⟨_, _, rfl, rfl, ?_⟩⟩
      have em : 1 + k0 = (((1 + k0).toNat : Nat) : Int) := by omega
      exact ⟨(1 + k0).toNat, by omega, by omega, by rw [← em]; rfl, ⟨_, _, A.keep R k6⟩, ⟨_, _, A2.keep R k6⟩, R6⟩
    clear Z5
    rintro σ H5 ⟨m, m1, m2, rfl, Z5⟩
    refine ⟨fun σ H' => σ = [some (.ref a), some (.ref r), some (.ref p), some (.ref p2), some (.int y), some (oInt (splL bs cs y)), some (.int m), none, none, none, none] ∧ Two K T.C H' r L p p2 bs cs, ?_, ?_⟩
    · obtain ⟨⟨v, t, A⟩, ⟨v2, t2, A2⟩, R⟩ := id Z5
      have mp : 0 < m := by omega
      cases ex : splL bs cs y with
      | none =>
        refine ⟨_, rfl, rfl, _, rfl, ?_⟩
        rw [show decide (oInt none = V.non) = true from decide_eq_true rfl]
        exact iteF ⟨rfl, Z5⟩
      | some x =>
        obtain ⟨x0, x1, f1, f2⟩ := splTo_spec ex
        have hx : IsNum x := by
          unfold IsNum
          omega
        have hxy : IsNum (y - x) := by
          unfold IsNum
          omega
        refine ⟨_, rfl, rfl, _, rfl, ?_⟩
        rw [show decide (oInt (some x) = V.non) = false from decide_eq_false (by intro z; cases z)]
        refine iteT ?_
        refine ⟨_, rfl, _, rfl, p, _, v, t, bs, rfl, A, .inl ⟨x, rfl, hx, fun H6 s6 => ⟨true, congrArg V.bl f1, iteF ?_⟩⟩⟩
        refine ⟨_, rfl, _, rfl, _, rfl, _, _, rfl, rfl, p2, _, v2, t2, cs, rfl, A2.stay s6, .inl ⟨y - x, rfl, hxy, fun H7 s7 => ⟨true, congrArg V.bl f2, iteF ?_⟩⟩⟩
        have s67 := s6.trans s7
        refine ⟨_, rfl, _, rfl, _, _, rfl, rfl, by show (0 : Int) < (m : Int); omega, ?_⟩
        refine ⟨_, rfl, _, rfl, _, rfl, p, v, t, bs, p2, v2, t2, cs, _, rfl, A.stay s67, A2.stay s67, .inr ⟨m, rfl, m1, by omega, fun ns D8 H8 s8 n8 up mem e8 => ?_⟩⟩
        have hin : y % (m : Int) ∈ ns := (mem _).mpr (sum_in S S2 mp f1 f2)
        refine ⟨D8, _, rfl, .inl (lstOf e8), rfl, flatInts _, false, congrArg V.bl ?_, iteF ?_⟩
        · show (!inV (.int (y % (m : Int))) (ns.map V.int)) = false
          rw [inVInt, decide_eq_true hin]
          rfl
        have s9 := s67.trans s8
        have hm : CMulW x (y - x) := wide_mul (a := 64) (b := 64) (by omega) (by omega) (by decide) (by decide) (by decide)
        refine ⟨_, rfl, _, rfl, _, rfl, _, _, rfl, rfl, _, _, rfl, rfl, hm, _, rfl, _, _, rfl, rfl, by show (0 : Int) < (m : Int); omega, ?_⟩
        refine ⟨_, rfl, _, rfl, _, rfl, p, v, t, bs, p2, v2, t2, cs, _, rfl, A.stay s9, A2.stay s9, .inr ⟨m, rfl, m1, by omega, fun ms D10 H10 s10 n10 up2 mem2 e10 => ?_⟩⟩
        have hin2 : x * (y - x) % (m : Int) ∈ ms := (mem2 _).mpr (mul_in S S2 mp f1 f2)
        refine ⟨D10, _, rfl, .inl (lstOf e10), rfl, flatInts _, false, congrArg V.bl ?_, iteF ?_⟩
        · show (!inV (.int (x * (y - x) % (m : Int))) (ms.map V.int)) = false
          rw [inVInt, decide_eq_true hin2]
          rfl
        exact ⟨rfl, Z5.stay (s9.trans s10)⟩
    clear Z5
    rintro σ H5 ⟨rfl, Z5⟩
    have mp : 0 < m := by omega
    obtain ⟨⟨v, t, A⟩, ⟨v2, t2, A2⟩, R⟩ := id Z5
    refine ⟨_, rfl, p, _, _, rfl, A.ob.choose_spec, p, v, t, bs, rfl, A, sizeOk (by show (0 : Nat) ≤ 100000; decide), fun d nd => ?_⟩
    have s6 := same_upd nd (o := .tup [])
    refine ⟨_, _, dpTup (Same.seqTT s6 A.cls), .tup (tupOf upd_same) .nil, (okD.tup (okInts _)).shaped (by decide), by decide, _, rfl, ?_⟩
    rw [eqvNilT]
    have Z6 := Z5.stay s6
    generalize upd H5 d (.tup []) = H6 at s6 Z6 ⊢
    clear A A2 R s6 Z5
    obtain ⟨⟨v, t, A⟩, ⟨v2, t2, A2⟩, R⟩ := id Z6
    by_cases hA : cls bs = [] ∨ cls cs = []
    · have none' := split_none (n := y) S S2 W.mods.pos hA
      have np : prodL (restsL bs m) (restsL cs m) = [] := prodL_nil (hA.imp rests_none rests_none)
      by_cases h1 : cls bs = []
      · rw [decide_eq_true h1]
        refine iteT (iteT ⟨_, rfl, rfl, ?_⟩)
        rw [none', show decide (oInt none = V.non) = true from decide_eq_true rfl]
        have AA := A
        have AA2 := A2
        refine ⟨_, rfl, iteT ?_⟩
        refine ⟨_, rfl, _, rfl, _, rfl, p, v, t, bs, p2, v2, t2, cs, _, rfl, AA, AA2, .inr ⟨m, rfl, m1, by omega, fun ns D8 H8 s8 n8 up mem e8 => ?_⟩⟩
        have en : ns = [] := List.eq_nil_iff_forall_not_mem.mpr fun k hk => by
          have h := (mem k).mp hk
          rw [np] at h
          cases h
        refine ⟨sizeOk (by show (0 : Nat) ≤ 100000; decide), fun d8 nd8 => ⟨_, _, dpLst (lstOf (same_upd nd8 _ _ e8)), .lst (lstOf upd_same) .nil, (okD.lst (okInts _)).shaped (by decide), by decide, ?_⟩⟩
        rw [eqvNil, decide_eq_true en]
        refine ⟨_, rfl, iteT ?_⟩
        have s9 := s8.trans (same_upd nd8 (o := .lst []))
        refine ⟨_, rfl, _, rfl, _, rfl, p, v, t, bs, p2, v2, t2, cs, _, rfl, AA.stay s9, AA2.stay s9, .inr ⟨m, rfl, m1, by omega, fun ms D10 H10 s10 n10 up2 mem2 e10 => ?_⟩⟩
        have en2 : ms = [] := List.eq_nil_iff_forall_not_mem.mpr fun k hk => by
          have h := (mem2 k).mp hk
          rw [np] at h
          cases h
        refine ⟨sizeOk (by show (0 : Nat) ≤ 100000; decide), fun d9 nd9 => ⟨_, _, dpLst (lstOf (same_upd nd9 _ _ e10)), .lst (lstOf upd_same) .nil, (okD.lst (okInts _)).shaped (by decide), by decide, ?_⟩⟩
        rw [eqvNil, decide_eq_true en2]
        exact q _
      · rw [decide_eq_false h1]
        have h2 : cls cs = [] := hA.resolve_left h1
        refine iteF ⟨_, rfl, p2, _, _, rfl, A2.ob.choose_spec, p2, v2, t2, cs, rfl, A2, sizeOk (by show (0 : Nat) ≤ 100000; decide), fun d nd => ?_⟩
        have s7 := same_upd nd (o := .tup [])
        refine ⟨_, _, dpTup (Same.seqTT s7 A2.cls), .tup (tupOf upd_same) .nil, (okD.tup (okInts _)).shaped (by decide), by decide, _, rfl, ?_⟩
        rw [eqvNilT, decide_eq_true h2]
        refine iteT ⟨_, rfl, rfl, ?_⟩
        rw [none', show decide (oInt none = V.non) = true from decide_eq_true rfl]
        have AA := A.stay s7
        have AA2 := A2.stay s7
        refine ⟨_, rfl, iteT ?_⟩
        refine ⟨_, rfl, _, rfl, _, rfl, p, v, t, bs, p2, v2, t2, cs, _, rfl, AA, AA2, .inr ⟨m, rfl, m1, by omega, fun ns D8 H8 s8 n8 up mem e8 => ?_⟩⟩
        have en : ns = [] := List.eq_nil_iff_forall_not_mem.mpr fun k hk => by
          have h := (mem k).mp hk
          rw [np] at h
          cases h
        refine ⟨sizeOk (by show (0 : Nat) ≤ 100000; decide), fun d8 nd8 => ⟨_, _, dpLst (lstOf (same_upd nd8 _ _ e8)), .lst (lstOf upd_same) .nil, (okD.lst (okInts _)).shaped (by decide), by decide, ?_⟩⟩
        rw [eqvNil, decide_eq_true en]
        refine ⟨_, rfl, iteT ?_⟩
        have s9 := s8.trans (same_upd nd8 (o := .lst []))
        refine ⟨_, rfl, _, rfl, _, rfl, p, v, t, bs, p2, v2, t2, cs, _, rfl, AA.stay s9, AA2.stay s9, .inr ⟨m, rfl, m1, by omega, fun ms D10 H10 s10 n10 up2 mem2 e10 => ?_⟩⟩
        have en2 : ms = [] := List.eq_nil_iff_forall_not_mem.mpr fun k hk => by
          have h := (mem2 k).mp hk
          rw [np] at h
          cases h
        refine ⟨sizeOk (by show (0 : Nat) ≤ 100000; decide), fun d9 nd9 => ⟨_, _, dpLst (lstOf (same_upd nd9 _ _ e10)), .lst (lstOf upd_same) .nil, (okD.lst (okInts _)).shaped (by decide), by decide, ?_⟩⟩
        rw [eqvNil, decide_eq_true en2]
        exact q _
    · have h1 : cls bs ≠ [] := fun e => hA (.inl e)
      have h2 : cls cs ≠ [] := fun e => hA (.inr e)
      rw [decide_eq_false h1]
      refine iteF ⟨_, rfl, p2, _, _, rfl, A2.ob.choose_spec, p2, v2, t2, cs, rfl, A2, sizeOk (by show (0 : Nat) ≤ 100000; decide), fun d nd => ?_⟩
      have s7 := same_upd nd (o := .tup [])
      refine ⟨_, _, dpTup (Same.seqTT s7 A2.cls), .tup (tupOf upd_same) .nil, (okD.tup (okInts _)).shaped (by decide), by decide, _, rfl, ?_⟩
      rw [eqvNilT, decide_eq_false h2]
      have Z7 := Z6.stay s7
      generalize upd H6 d (.tup []) = H7 at s7 Z7 ⊢
      clear A A2 R s7 Z6
      obtain ⟨⟨v, t, A⟩, ⟨v2, t2, A2⟩, R⟩ := id Z7
      refine iteF ⟨fun σ H' => ∃ g : Int, IsDist (gg bs cs) (cls bs) (cls cs) g ∧ σ = [some (.ref a), some (.ref r), some (.ref p), some (.ref p2), some (.int y), some (oInt (splL bs cs y)), some (.int m), some (.int g), none, none, none] ∧ Two K T.C H' r L p p2 bs cs, ?_, ?_⟩
      · refine ⟨_, rfl, _, rfl, p, v, t, bs, p2, v2, t2, cs, rfl, A, A2, .inr ⟨h1, h2, fun g H8 s8 dd => ?_⟩⟩
        exact ⟨g, dd, rfl, Z7.stay s8⟩
      clear A A2 R Z7
      rintro σ H5 ⟨g, dd, rfl, Z5⟩
      obtain ⟨⟨v, t, A⟩, ⟨v2, t2, A2⟩, R⟩ := id Z5
      have hp := S.mods.pos
      have gg1 : 0 < gg bs cs := by
        have := Nat.gcd_pos_of_pos_left (wh cs) hp
        unfold gg
        omega
      have gg2 : gg bs cs ≤ ((wh bs : Nat) : Int) := by
        have := Nat.gcd_le_left (wh cs) hp
        unfold gg
        omega
      obtain ⟨g0, gl⟩ : 0 ≤ g ∧ g < gg bs cs := by
        obtain ⟨x, _, z, _, e⟩ := dd.ex
        rcases e with e | e <;> exact ⟨by rw [e]; exact Int.emod_nonneg _ (by omega), by rw [e]; exact Int.emod_lt_of_pos _ gg1⟩
      refine ⟨fun σ H' => ∃ (D8 : Addr) (ks : List Int), ks ≠ [] ∧ ks.length ≤ 2 ∧ H' D8 = some (.lst (ks.map V.int)) ∧ σ = [some (.ref a), some (.ref r), some (.ref p), some (.ref p2), some (.int y), some (oInt (splL bs cs y)), some (.int m), some (.int g), some (.ref D8), none, none] ∧ Two K T.C H' r L p p2 bs cs, ?_, ?_⟩
      · refine ⟨_, rfl, _, _, rfl, rfl, _, rfl, sizeOk (by show (2 : Nat) ≤ 100000; decide), fun e ne => ⟨e, rfl, ⟨_, tupOf upd_same⟩, fun F nF => ?_⟩⟩
        have s6 := same_upd ne (o := .tup [.int (0 - g), .int g])
        have e6 : (upd H5 e (.tup [.int (0 - g), .int g])) e = some (.tup [.int (0 - g), .int g]) := upd_same
        have Z6 := Z5.stay s6
        have nF5 := nF
        generalize upd H5 e (.tup [.int (0 - g), .int g]) = H6 at s6 e6 Z6 nF ⊢
        obtain ⟨⟨v, t, A⟩, ⟨v2, t2, A2⟩, R⟩ := id Z6
        refine lc_tup (K := K) (a := e) (xs := ([0 - g, g] : List Int).map V.int) (fun j Hj => Hj F = some (.lst (((([0 - g, g] : List Int).take j).filter (meetB bs cs)).map V.int)) ∧ Same H6 Hj) ⟨upd_same, same_upd nF⟩ (fun j Hj _ ⟨_, sj⟩ => Same.seqTT sj (tupOf e6)) ?_ ?_
        · rintro j z Hj hj ⟨ej, sj⟩
          obtain ⟨k, hk, rfl⟩ := getMapInt' hj
          have kn : IsNum k := by
            have := List.mem_of_getElem? hk
            simp at this
            unfold IsNum
            omega
          refine ⟨rfl, _, rfl, _, rfl, _, rfl, p2, _, v2, t2, cs, rfl, A2.stay sj, .inl ⟨k, rfl, kn, fun q1 u1 k1 ds H7 s7 l1 B1 => ?_⟩⟩
          have W' := l1.with S2 W
          refine ⟨p, v, t, bs, q1, u1, k1, ds, rfl, A.stay (sj.trans s7), B1, .inr ⟨W', fun p' v' t' H8 s8 A' => ?_⟩⟩
          refine ⟨p', _, _, rfl, A'.ob.choose_spec, p', v', t', _, rfl, A', sizeOk (by show (0 : Nat) ≤ 100000; decide), fun d nd => ?_⟩
          have s9 := same_upd nd (o := .tup [])
          refine ⟨_, _, dpTup (Same.seqTT s9 A'.cls), .tup (tupOf upd_same) .nil, (okD.tup (okInts _)).shaped (by decide), by decide, ?_⟩
          have sa := s7.trans (s8.trans s9)
          have ej' := sa _ _ ej
          have sj' := sj.trans sa
          rw [eqvNilT, meet_cls l1 S S2 W', takeSucc hk]
          generalize upd H8 d (.tup []) = H9 at ej' sj' ⊢
          refine ⟨_, rfl, ite2 (fun f => ?_) (fun f => ?_)⟩
          · refine ⟨_, rfl, _, ej', ?_, ?_, samePut sj' nF⟩
            · rw [List.length_map]
              have h := List.length_filter_le (meetB bs cs) (([0 - g, g] : List Int).take j)
              rw [List.length_take] at h
              exact sizeLt (Nat.le_trans h (Nat.le_trans (Nat.min_le_right _ _) (by show (2 : Nat) ≤ 100000; decide)))
            · rw [upd_same, List.filter_append, show List.filter (meetB bs cs) [k] = [k] from List.filter_cons_of_pos f, List.map_append]
              rfl
          · refine ⟨?_, sj'⟩
            rw [ej', List.filter_append, show List.filter (meetB bs cs) [k] = [] from List.filter_cons_of_neg f, List.append_nil]
        · rintro Hj ⟨ej, sj⟩
          rw [List.length_map, List.take_length] at ej
          refine ⟨F, _, ?_, List.length_filter_le _ _, ej, rfl, Z6.stay sj⟩
          obtain ⟨k, hk, m0⟩ := dist_near dd
          have : k ∈ ([0 - g, g] : List Int).filter (meetB bs cs) := List.mem_filter.mpr ⟨by rcases hk with rfl | rfl <;> simp, meetB_iff.mpr m0⟩
          intro z
          rw [z] at this
          cases this
      clear A A2 R Z5
      rintro σ H5 ⟨D8, ks, ne0, kl, e5, rfl, Z5⟩
      obtain ⟨⟨v, t, A⟩, ⟨v2, t2, A2⟩, R⟩ := id Z5
      refine ⟨_, rfl, _, _, rfl, rfl, _, rfl, 1 - g, g, rfl, ⟨by omega, by omega, by omega, by omega⟩, fun F nF => ?_⟩
      refine lc_range (lo := 1 - g) (n := (g - (1 - g)).toNat) (fun j Hj => Hj F = some (.lst (([] : List Int).map V.int)) ∧ Same H5 Hj) ⟨upd_same, same_upd nF⟩ ?_ ?_
      · rintro j Hj hj ⟨ej, sj⟩
        have k1 : 1 - g ≤ 1 - g + (j : Int) := by omega
        have k2 : 1 - g + (j : Int) < g := by omega
        generalize 1 - g + (j : Int) = k at k1 k2 ⊢
        have kn : IsNum k := by
          unfold IsNum
          omega
        have no : meetB bs cs k = false := Bool.eq_false_iff.mpr fun z => dist_less gg1 dd k1 k2 (meetB_iff.mp z)
        refine ⟨rfl, _, rfl, _, rfl, _, rfl, p2, _, v2, t2, cs, rfl, A2.stay sj, .inl ⟨k, rfl, kn, fun q1 u1 k1 ds H7 s7 l1 B1 => ?_⟩⟩
        have W' := l1.with S2 W
        refine ⟨p, v, t, bs, q1, u1, k1, ds, rfl, A.stay (sj.trans s7), B1, .inr ⟨W', fun p' v' t' H8 s8 A' => ?_⟩⟩
        refine ⟨p', _, _, rfl, A'.ob.choose_spec, p', v', t', _, rfl, A', sizeOk (by show (0 : Nat) ≤ 100000; decide), fun d nd => ?_⟩
        have s9 := same_upd nd (o := .tup [])
        refine ⟨_, _, dpTup (Same.seqTT s9 A'.cls), .tup (tupOf upd_same) .nil, (okD.tup (okInts _)).shaped (by decide), by decide, ?_⟩
        have sa := s7.trans (s8.trans s9)
        rw [eqvNilT, meet_cls l1 S S2 W', no]
        exact ⟨_, rfl, iteF ⟨sa _ _ ej, sj.trans sa⟩⟩
      · rintro H6 ⟨e6, s6⟩
        refine ⟨_, rfl, sizeOk (by show (0 : Nat) ≤ 100000; decide), fun d7 nd7 => ⟨_, _, dpLst (l := ks) (lstOf (same_upd nd7 _ _ (s6 _ _ e5))), .lst (lstOf upd_same) .nil, (okD.lst (okInts _)).shaped (by decide), by decide, ?_⟩⟩
        rw [eqvNil, decide_eq_false ne0]
        refine ⟨_, rfl, iteT ?_⟩
        have e7 := same_upd nd7 (o := .lst []) _ _ e6
        refine ⟨_, rfl, sizeOk (by show (0 : Nat) ≤ 100000; decide), fun d8 nd8 => ⟨_, _, dpLst (l := []) (lstOf (same_upd nd8 _ _ e7)), .lst (lstOf upd_same) .nil, (okD.lst (okInts _)).shaped (by decide), by decide, ?_⟩⟩
        rw [eqvNil, decide_eq_true rfl]
        exact q _
end

end R
namespace R
open PySem PySem.Spec PyProof.Rows L2
theorem kit_ref {K : PySem.W.Frag} {C : Addr} {t : Value} (h1 : PySem.W.hasDictIn K C = true) (h2 : PySem.W.typeIn K (.ref C) = some (.type "type")) (h3 : PySem.W.subIn K t (.ref C) = some true) : PySem.W.kitOne K t (.ref C) = some true := by
  obtain ⟨cd, hc, _⟩ := PySem.W.any_some h1
  unfold PySem.W.kitOne
  split
  · rfl
  · show (if ((PySem.W.clsIn K C).isSome && PySem.W.typeIn K (.ref C) == some (.type "type")) = true then PySem.W.subIn K t (.ref C) else none) = some true
    rw [hc, h2]
    exact h3
theorem all_mk {l : PySem.W.OpenLaw} {w : World} {K : PySem.W.Frag} {h : Heap} {mg : Str → Option Value} {fa : Addr} (X : K.In h) (G : h.Ns mainGlobals mg) (hfa : mg "law" = some (.ref fa))
    {f0 : Addr} {oc0 kV0 dc0 pm0 cd0 ct0 : Value} {od0 an0 : Option Addr} {sl0 : Array (Option Value)}
    (a0 : PySem.W.nsIn K mainGlobals "is_integer" = some (some (.ref f0)))
    {f1 : Addr} {oc1 kV1 dc1 pm1 cd1 ct1 : Value} {od1 an1 : Option Addr} {sl1 : Array (Option Value)}
    (a1 : PySem.W.nsIn K mainGlobals "integer_within" = some (some (.ref f1)))
    {f2 : Addr} {oc2 kV2 dc2 pm2 cd2 ct2 : Value} {od2 an2 : Option Addr} {sl2 : Array (Option Value)}
    (a2 : PySem.W.nsIn K mainGlobals "is_number" = some (some (.ref f2)))
    {f3 : Addr} {oc3 kV3 dc3 pm3 cd3 ct3 : Value} {od3 an3 : Option Addr} {sl3 : Array (Option Value)}
    (a3 : PySem.W.nsIn K mainGlobals "check_number" = some (some (.ref f3)))
    {f4 : Addr} {oc4 kV4 dc4 pm4 cd4 ct4 : Value} {od4 an4 : Option Addr} {sl4 : Array (Option Value)}
    (a4 : PySem.W.nsIn K mainGlobals "check_modulus" = some (some (.ref f4)))
    {f5 : Addr} {oc5 kV5 dc5 pm5 cd5 ct5 : Value} {od5 an5 : Option Addr} {sl5 : Array (Option Value)}
    (a5 : PySem.W.nsIn K mainGlobals "is_ascending" = some (some (.ref f5)))
    {f6 : Addr} {oc6 kV6 dc6 pm6 cd6 ct6 : Value} {od6 an6 : Option Addr} {sl6 : Array (Option Value)}
    (a6 : PySem.W.nsIn K mainGlobals "is_lot" = some (some (.ref f6)))
    {f7 : Addr} {oc7 kV7 dc7 pm7 cd7 ct7 : Value} {od7 an7 : Option Addr} {sl7 : Array (Option Value)}
    (a7 : PySem.W.nsIn K mainGlobals "is_pair" = some (some (.ref f7)))
    {f8 : Addr} {oc8 kV8 dc8 pm8 cd8 ct8 : Value} {od8 an8 : Option Addr} {sl8 : Array (Option Value)}
    (a8 : PySem.W.nsIn K mainGlobals "is_bar" = some (some (.ref f8)))
    {f9 : Addr} {oc9 kV9 dc9 pm9 cd9 ct9 : Value} {od9 an9 : Option Addr} {sl9 : Array (Option Value)}
    (a9 : PySem.W.nsIn K mainGlobals "check_some" = some (some (.ref f9)))
    {f10 : Addr} {oc10 kV10 dc10 pm10 cd10 ct10 : Value} {od10 an10 : Option Addr} {sl10 : Array (Option Value)}
    (a10 : PySem.W.nsIn K mainGlobals "inverse" = some (some (.ref f10)))
    {f11 : Addr} {oc11 kV11 dc11 pm11 cd11 ct11 : Value} {od11 an11 : Option Addr} {sl11 : Array (Option Value)}
    (a11 : PySem.W.nsIn K mainGlobals "joined" = some (some (.ref f11)))
    {f12 : Addr} {oc12 kV12 dc12 pm12 cd12 ct12 : Value} {od12 an12 : Option Addr} {sl12 : Array (Option Value)}
    (a12 : PySem.W.nsIn K mainGlobals "classes_of" = some (some (.ref f12)))
    {f13 : Addr} {oc13 kV13 dc13 pm13 cd13 ct13 : Value} {od13 an13 : Option Addr} {sl13 : Array (Option Value)}
    (a13 : PySem.W.nsIn K mainGlobals "check_bars" = some (some (.ref f13)))
    {f14 : Addr} {oc14 kV14 dc14 pm14 cd14 ct14 : Value} {od14 an14 : Option Addr} {sl14 : Array (Option Value)}
    (a14 : PySem.W.nsIn K mainGlobals "whole_of" = some (some (.ref f14)))
    {f15 : Addr} {oc15 kV15 dc15 pm15 cd15 ct15 : Value} {od15 an15 : Option Addr} {sl15 : Array (Option Value)}
    (a15 : PySem.W.nsIn K mainGlobals "check_choices" = some (some (.ref f15)))
    {f16 : Addr} {oc16 kV16 dc16 pm16 cd16 ct16 : Value} {od16 an16 : Option Addr} {sl16 : Array (Option Value)}
    (a16 : PySem.W.nsIn K mainGlobals "lets_through" = some (some (.ref f16)))
    {f17 : Addr} {oc17 kV17 dc17 pm17 cd17 ct17 : Value} {od17 an17 : Option Addr} {sl17 : Array (Option Value)}
    (a17 : PySem.W.nsIn K mainGlobals "fits" = some (some (.ref f17)))
    {f18 : Addr} {oc18 kV18 dc18 pm18 cd18 ct18 : Value} {od18 an18 : Option Addr} {sl18 : Array (Option Value)}
    (a18 : PySem.W.nsIn K mainGlobals "rests" = some (some (.ref f18)))
    {f19 : Addr} {oc19 kV19 dc19 pm19 cd19 ct19 : Value} {od19 an19 : Option Addr} {sl19 : Array (Option Value)}
    (a19 : PySem.W.nsIn K mainGlobals "both" = some (some (.ref f19)))
    {f20 : Addr} {oc20 kV20 dc20 pm20 cd20 ct20 : Value} {od20 an20 : Option Addr} {sl20 : Array (Option Value)}
    (a20 : PySem.W.nsIn K mainGlobals "keeps_to" = some (some (.ref f20)))
    {f21 : Addr} {oc21 kV21 dc21 pm21 cd21 ct21 : Value} {od21 an21 : Option Addr} {sl21 : Array (Option Value)}
    (a21 : PySem.W.nsIn K mainGlobals "within" = some (some (.ref f21)))
    {f22 : Addr} {oc22 kV22 dc22 pm22 cd22 ct22 : Value} {od22 an22 : Option Addr} {sl22 : Array (Option Value)}
    (a22 : PySem.W.nsIn K mainGlobals "alike" = some (some (.ref f22)))
    {f23 : Addr} {oc23 kV23 dc23 pm23 cd23 ct23 : Value} {od23 an23 : Option Addr} {sl23 : Array (Option Value)}
    (a23 : PySem.W.nsIn K mainGlobals "first_outside" = some (some (.ref f23)))
    {f24 : Addr} {oc24 kV24 dc24 pm24 cd24 ct24 : Value} {od24 an24 : Option Addr} {sl24 : Array (Option Value)}
    (a24 : PySem.W.nsIn K mainGlobals "first_unlike" = some (some (.ref f24)))
    {f25 : Addr} {oc25 kV25 dc25 pm25 cd25 ct25 : Value} {od25 an25 : Option Addr} {sl25 : Array (Option Value)}
    (a25 : PySem.W.nsIn K mainGlobals "distance" = some (some (.ref f25)))
    {f26 : Addr} {oc26 kV26 dc26 pm26 cd26 ct26 : Value} {od26 an26 : Option Addr} {sl26 : Array (Option Value)}
    (a26 : PySem.W.nsIn K mainGlobals "pairs_of_rests" = some (some (.ref f26)))
    {f27 : Addr} {oc27 kV27 dc27 pm27 cd27 ct27 : Value} {od27 an27 : Option Addr} {sl27 : Array (Option Value)}
    (a27 : PySem.W.nsIn K mainGlobals "sums" = some (some (.ref f27)))
    {f28 : Addr} {oc28 kV28 dc28 pm28 cd28 ct28 : Value} {od28 an28 : Option Addr} {sl28 : Array (Option Value)}
    (a28 : PySem.W.nsIn K mainGlobals "products" = some (some (.ref f28)))
    {f29 : Addr} {oc29 kV29 dc29 pm29 cd29 ct29 : Value} {od29 an29 : Option Addr} {sl29 : Array (Option Value)}
    (a29 : PySem.W.nsIn K mainGlobals "split" = some (some (.ref f29)))
    {f30 : Addr} {oc30 kV30 dc30 pm30 cd30 ct30 : Value} {od30 an30 : Option Addr} {sl30 : Array (Option Value)}
    (a30 : PySem.W.nsIn K mainGlobals "turned" = some (some (.ref f30)))
    {f31 : Addr} {oc31 kV31 dc31 pm31 cd31 ct31 : Value} {od31 an31 : Option Addr} {sl31 : Array (Option Value)}
    (a31 : PySem.W.nsIn K mainGlobals "moved" = some (some (.ref f31)))
    {f32 : Addr} {oc32 kV32 dc32 pm32 cd32 ct32 : Value} {od32 an32 : Option Addr} {sl32 : Array (Option Value)}
    (a32 : PySem.W.nsIn K mainGlobals "taken_from" = some (some (.ref f32)))
    {f33 : Addr} {oc33 kV33 dc33 pm33 cd33 ct33 : Value} {od33 an33 : Option Addr} {sl33 : Array (Option Value)}
    (a33 : PySem.W.nsIn K mainGlobals "check_factor" = some (some (.ref f33)))
    {f34 : Addr} {oc34 kV34 dc34 pm34 cd34 ct34 : Value} {od34 an34 : Option Addr} {sl34 : Array (Option Value)}
    (a34 : PySem.W.nsIn K mainGlobals "stretched" = some (some (.ref f34)))
    {f35 : Addr} {oc35 kV35 dc35 pm35 cd35 ct35 : Value} {od35 an35 : Option Addr} {sl35 : Array (Option Value)}
    (a35 : PySem.W.nsIn K mainGlobals "shared_bar" = some (some (.ref f35)))
    {f36 : Addr} {oc36 kV36 dc36 pm36 cd36 ct36 : Value} {od36 an36 : Option Addr} {sl36 : Array (Option Value)}
    (a36 : PySem.W.nsIn K mainGlobals "shared" = some (some (.ref f36)))
    {f37 : Addr} {oc37 kV37 dc37 pm37 cd37 ct37 : Value} {od37 an37 : Option Addr} {sl37 : Array (Option Value)}
    (a37 : PySem.W.nsIn K mainGlobals "_law_draws" = some (some (.ref f37)))
    {f38 : Addr} {oc38 kV38 dc38 pm38 cd38 ct38 : Value} {od38 an38 : Option Addr} {sl38 : Array (Option Value)}
    (a38 : PySem.W.nsIn K mainGlobals "_law_pick" = some (some (.ref f38)))
    {f39 : Addr} {oc39 kV39 dc39 pm39 cd39 ct39 : Value} {od39 an39 : Option Addr} {sl39 : Array (Option Value)}
    (a39 : PySem.W.nsIn K mainGlobals "_law_bars" = some (some (.ref f39)))
    {f40 : Addr} {oc40 kV40 dc40 pm40 cd40 ct40 : Value} {od40 an40 : Option Addr} {sl40 : Array (Option Value)}
    (a40 : PySem.W.nsIn K mainGlobals "_law_far" = some (some (.ref f40)))
    {f41 : Addr} {oc41 kV41 dc41 pm41 cd41 ct41 : Value} {od41 an41 : Option Addr} {sl41 : Array (Option Value)}
    (a41 : PySem.W.nsIn K mainGlobals "law" = some (some (.ref f41)))
    {f42 : Addr} {oc42 kV42 dc42 pm42 cd42 ct42 : Value} {od42 an42 : Option Addr} {sl42 : Array (Option Value)}
    {f43 : Addr} {oc43 kV43 dc43 pm43 cd43 ct43 : Value} {od43 an43 : Option Addr} {sl43 : Array (Option Value)}
    {f44 : Addr} {oc44 kV44 dc44 pm44 cd44 ct44 : Value} {od44 an44 : Option Addr} {sl44 : Array (Option Value)}
    {f45 : Addr} {oc45 kV45 dc45 pm45 cd45 ct45 : Value} {od45 an45 : Option Addr} {sl45 : Array (Option Value)}
    {f46 : Addr} {oc46 kV46 dc46 pm46 cd46 ct46 : Value} {od46 an46 : Option Addr} {sl46 : Array (Option Value)}
    {C : Addr} {pB pW pC : Addr} {rB rW rC : List Value}
    (aC : PySem.W.nsIn K mainGlobals "Sieve" = some (some (.ref C)))
    (mI : PySem.W.findIn K (.ref C) "__init__" = some (some (.ref f42)))
    (iI : PySem.W.isFn K (.ref f42) = true)
    (mE : PySem.W.findIn K (.ref C) "__eq__" = some (some (.ref f43)))
    (pg : PySem.W.plainGet K C Str.empty = true)
    (hd : PySem.W.hasDictIn K C = true)
    (po : PySem.W.plainOver K C = true)
    (sa : PySem.W.findIn K (.ref C) "__setattr__" = some (some (.builtin "object.__setattr__")))
    (mk : PySem.W.makesIn K C = true)
    (kc : PySem.W.keepIn K (.ref C) = true)
    (n_bars : PySem.W.findIn K (.ref C) "_bars" = some none)
    (n_whole : PySem.W.findIn K (.ref C) "_whole" = some none)
    (n_classes : PySem.W.findIn K (.ref C) "_classes" = some none)
    (q1B : PySem.W.findIn K (.ref C) "bars" = some (some (.ref pB)))
    (q2B : PySem.W.specialIn K (.ref pB) "__get__" = some (some (.builtin "property.__get__")))
    (q3B : PySem.W.takesIn K (.ref pB) = some true)
    (q4B : PySem.W.recIn K pB "property" = some (.ref f44 :: rB))
    (q1W : PySem.W.findIn K (.ref C) "whole" = some (some (.ref pW)))
    (q2W : PySem.W.specialIn K (.ref pW) "__get__" = some (some (.builtin "property.__get__")))
    (q3W : PySem.W.takesIn K (.ref pW) = some true)
    (q4W : PySem.W.recIn K pW "property" = some (.ref f45 :: rW))
    (q1C : PySem.W.findIn K (.ref C) "classes" = some (some (.ref pC)))
    (q2C : PySem.W.specialIn K (.ref pC) "__get__" = some (some (.builtin "property.__get__")))
    (q3C : PySem.W.takesIn K (.ref pC) = some true)
    (q4C : PySem.W.recIn K pC "property" = some (.ref f46 :: rC))
    (l0 : K.lookup f0 = some ⟨oc0, od0, .func (PySem.W.fnOf "is_integer" "is_integer" (defArgs s_p_is_integer) (defBody s_p_is_integer) (defScope s_p_is_integer) .none kV0 dc0 pm0 an0 cd0 ct0), sl0⟩)
    (d0 : PySem.W.codeIn K cd0 "is_integer" = true)
    (k0 : PySem.W.keepIn K (.ref f0) = true)
    (l1 : K.lookup f1 = some ⟨oc1, od1, .func (PySem.W.fnOf "integer_within" "integer_within" (defArgs s_p_integer_within) (defBody s_p_integer_within) (defScope s_p_integer_within) .none kV1 dc1 pm1 an1 cd1 ct1), sl1⟩)
    (d1 : PySem.W.codeIn K cd1 "integer_within" = true)
    (k1 : PySem.W.keepIn K (.ref f1) = true)
    (l2 : K.lookup f2 = some ⟨oc2, od2, .func (PySem.W.fnOf "is_number" "is_number" (defArgs s_p_is_number) (defBody s_p_is_number) (defScope s_p_is_number) .none kV2 dc2 pm2 an2 cd2 ct2), sl2⟩)
    (d2 : PySem.W.codeIn K cd2 "is_number" = true)
    (k2 : PySem.W.keepIn K (.ref f2) = true)
    (l3 : K.lookup f3 = some ⟨oc3, od3, .func (PySem.W.fnOf "check_number" "check_number" (defArgs s_p_check_number) (defBody s_p_check_number) (defScope s_p_check_number) .none kV3 dc3 pm3 an3 cd3 ct3), sl3⟩)
    (d3 : PySem.W.codeIn K cd3 "check_number" = true)
    (k3 : PySem.W.keepIn K (.ref f3) = true)
    (l4 : K.lookup f4 = some ⟨oc4, od4, .func (PySem.W.fnOf "check_modulus" "check_modulus" (defArgs s_p_check_modulus) (defBody s_p_check_modulus) (defScope s_p_check_modulus) .none kV4 dc4 pm4 an4 cd4 ct4), sl4⟩)
    (d4 : PySem.W.codeIn K cd4 "check_modulus" = true)
    (k4 : PySem.W.keepIn K (.ref f4) = true)
    (l5 : K.lookup f5 = some ⟨oc5, od5, .func (PySem.W.fnOf "is_ascending" "is_ascending" (defArgs s_p_is_ascending) (defBody s_p_is_ascending) (defScope s_p_is_ascending) .none kV5 dc5 pm5 an5 cd5 ct5), sl5⟩)
    (d5 : PySem.W.codeIn K cd5 "is_ascending" = true)
    (k5 : PySem.W.keepIn K (.ref f5) = true)
    (l6 : K.lookup f6 = some ⟨oc6, od6, .func (PySem.W.fnOf "is_lot" "is_lot" (defArgs s_p_is_lot) (defBody s_p_is_lot) (defScope s_p_is_lot) .none kV6 dc6 pm6 an6 cd6 ct6), sl6⟩)
    (d6 : PySem.W.codeIn K cd6 "is_lot" = true)
    (k6 : PySem.W.keepIn K (.ref f6) = true)
    (l7 : K.lookup f7 = some ⟨oc7, od7, .func (PySem.W.fnOf "is_pair" "is_pair" (defArgs s_p_is_pair) (defBody s_p_is_pair) (defScope s_p_is_pair) .none kV7 dc7 pm7 an7 cd7 ct7), sl7⟩)
    (d7 : PySem.W.codeIn K cd7 "is_pair" = true)
    (k7 : PySem.W.keepIn K (.ref f7) = true)
    (l8 : K.lookup f8 = some ⟨oc8, od8, .func (PySem.W.fnOf "is_bar" "is_bar" (defArgs s_p_is_bar) (defBody s_p_is_bar) (defScope s_p_is_bar) .none kV8 dc8 pm8 an8 cd8 ct8), sl8⟩)
    (d8 : PySem.W.codeIn K cd8 "is_bar" = true)
    (k8 : PySem.W.keepIn K (.ref f8) = true)
    (l9 : K.lookup f9 = some ⟨oc9, od9, .func (PySem.W.fnOf "check_some" "check_some" (defArgs s_p_check_some) (defBody s_p_check_some) (defScope s_p_check_some) .none kV9 dc9 pm9 an9 cd9 ct9), sl9⟩)
    (d9 : PySem.W.codeIn K cd9 "check_some" = true)
    (k9 : PySem.W.keepIn K (.ref f9) = true)
    (l10 : K.lookup f10 = some ⟨oc10, od10, .func (PySem.W.fnOf "inverse" "inverse" (defArgs s_p_inverse) (defBody s_p_inverse) (defScope s_p_inverse) .none kV10 dc10 pm10 an10 cd10 ct10), sl10⟩)
    (d10 : PySem.W.codeIn K cd10 "inverse" = true)
    (k10 : PySem.W.keepIn K (.ref f10) = true)
    (l11 : K.lookup f11 = some ⟨oc11, od11, .func (PySem.W.fnOf "joined" "joined" (defArgs s_p_joined) (defBody s_p_joined) (defScope s_p_joined) .none kV11 dc11 pm11 an11 cd11 ct11), sl11⟩)
    (d11 : PySem.W.codeIn K cd11 "joined" = true)
    (k11 : PySem.W.keepIn K (.ref f11) = true)
    (l12 : K.lookup f12 = some ⟨oc12, od12, .func (PySem.W.fnOf "classes_of" "classes_of" (defArgs s_p_classes_of) (defBody s_p_classes_of) (defScope s_p_classes_of) .none kV12 dc12 pm12 an12 cd12 ct12), sl12⟩)
    (d12 : PySem.W.codeIn K cd12 "classes_of" = true)
    (k12 : PySem.W.keepIn K (.ref f12) = true)
    (l13 : K.lookup f13 = some ⟨oc13, od13, .func (PySem.W.fnOf "check_bars" "check_bars" (defArgs s_p_check_bars) (defBody s_p_check_bars) (defScope s_p_check_bars) .none kV13 dc13 pm13 an13 cd13 ct13), sl13⟩)
    (d13 : PySem.W.codeIn K cd13 "check_bars" = true)
    (k13 : PySem.W.keepIn K (.ref f13) = true)
    (l14 : K.lookup f14 = some ⟨oc14, od14, .func (PySem.W.fnOf "whole_of" "whole_of" (defArgs s_p_whole_of) (defBody s_p_whole_of) (defScope s_p_whole_of) .none kV14 dc14 pm14 an14 cd14 ct14), sl14⟩)
    (d14 : PySem.W.codeIn K cd14 "whole_of" = true)
    (k14 : PySem.W.keepIn K (.ref f14) = true)
    (l15 : K.lookup f15 = some ⟨oc15, od15, .func (PySem.W.fnOf "check_choices" "check_choices" (defArgs s_p_check_choices) (defBody s_p_check_choices) (defScope s_p_check_choices) .none kV15 dc15 pm15 an15 cd15 ct15), sl15⟩)
    (d15 : PySem.W.codeIn K cd15 "check_choices" = true)
    (k15 : PySem.W.keepIn K (.ref f15) = true)
    (l16 : K.lookup f16 = some ⟨oc16, od16, .func (PySem.W.fnOf "lets_through" "lets_through" (defArgs s_p_lets_through) (defBody s_p_lets_through) (defScope s_p_lets_through) .none kV16 dc16 pm16 an16 cd16 ct16), sl16⟩)
    (d16 : PySem.W.codeIn K cd16 "lets_through" = true)
    (k16 : PySem.W.keepIn K (.ref f16) = true)
    (l17 : K.lookup f17 = some ⟨oc17, od17, .func (PySem.W.fnOf "fits" "fits" (defArgs s_p_fits) (defBody s_p_fits) (defScope s_p_fits) .none kV17 dc17 pm17 an17 cd17 ct17), sl17⟩)
    (d17 : PySem.W.codeIn K cd17 "fits" = true)
    (k17 : PySem.W.keepIn K (.ref f17) = true)
    (l18 : K.lookup f18 = some ⟨oc18, od18, .func (PySem.W.fnOf "rests" "rests" (defArgs s_p_rests) (defBody s_p_rests) (defScope s_p_rests) .none kV18 dc18 pm18 an18 cd18 ct18), sl18⟩)
    (d18 : PySem.W.codeIn K cd18 "rests" = true)
    (k18 : PySem.W.keepIn K (.ref f18) = true)
    (l19 : K.lookup f19 = some ⟨oc19, od19, .func (PySem.W.fnOf "both" "both" (defArgs s_p_both) (defBody s_p_both) (defScope s_p_both) .none kV19 dc19 pm19 an19 cd19 ct19), sl19⟩)
    (d19 : PySem.W.codeIn K cd19 "both" = true)
    (k19 : PySem.W.keepIn K (.ref f19) = true)
    (l20 : K.lookup f20 = some ⟨oc20, od20, .func (PySem.W.fnOf "keeps_to" "keeps_to" (defArgs s_p_keeps_to) (defBody s_p_keeps_to) (defScope s_p_keeps_to) .none kV20 dc20 pm20 an20 cd20 ct20), sl20⟩)
    (d20 : PySem.W.codeIn K cd20 "keeps_to" = true)
    (k20 : PySem.W.keepIn K (.ref f20) = true)
    (l21 : K.lookup f21 = some ⟨oc21, od21, .func (PySem.W.fnOf "within" "within" (defArgs s_p_within) (defBody s_p_within) (defScope s_p_within) .none kV21 dc21 pm21 an21 cd21 ct21), sl21⟩)
    (d21 : PySem.W.codeIn K cd21 "within" = true)
    (k21 : PySem.W.keepIn K (.ref f21) = true)
    (l22 : K.lookup f22 = some ⟨oc22, od22, .func (PySem.W.fnOf "alike" "alike" (defArgs s_p_alike) (defBody s_p_alike) (defScope s_p_alike) .none kV22 dc22 pm22 an22 cd22 ct22), sl22⟩)
    (d22 : PySem.W.codeIn K cd22 "alike" = true)
    (k22 : PySem.W.keepIn K (.ref f22) = true)
    (l23 : K.lookup f23 = some ⟨oc23, od23, .func (PySem.W.fnOf "first_outside" "first_outside" (defArgs s_p_first_outside) (defBody s_p_first_outside) (defScope s_p_first_outside) .none kV23 dc23 pm23 an23 cd23 ct23), sl23⟩)
    (d23 : PySem.W.codeIn K cd23 "first_outside" = true)
    (k23 : PySem.W.keepIn K (.ref f23) = true)
    (l24 : K.lookup f24 = some ⟨oc24, od24, .func (PySem.W.fnOf "first_unlike" "first_unlike" (defArgs s_p_first_unlike) (defBody s_p_first_unlike) (defScope s_p_first_unlike) .none kV24 dc24 pm24 an24 cd24 ct24), sl24⟩)
    (d24 : PySem.W.codeIn K cd24 "first_unlike" = true)
    (k24 : PySem.W.keepIn K (.ref f24) = true)
    (l25 : K.lookup f25 = some ⟨oc25, od25, .func (PySem.W.fnOf "distance" "distance" (defArgs s_p_distance) (defBody s_p_distance) (defScope s_p_distance) .none kV25 dc25 pm25 an25 cd25 ct25), sl25⟩)
    (d25 : PySem.W.codeIn K cd25 "distance" = true)
    (k25 : PySem.W.keepIn K (.ref f25) = true)
    (l26 : K.lookup f26 = some ⟨oc26, od26, .func (PySem.W.fnOf "pairs_of_rests" "pairs_of_rests" (defArgs s_p_pairs_of_rests) (defBody s_p_pairs_of_rests) (defScope s_p_pairs_of_rests) .none kV26 dc26 pm26 an26 cd26 ct26), sl26⟩)
    (d26 : PySem.W.codeIn K cd26 "pairs_of_rests" = true)
    (k26 : PySem.W.keepIn K (.ref f26) = true)
    (l27 : K.lookup f27 = some ⟨oc27, od27, .func (PySem.W.fnOf "sums" "sums" (defArgs s_p_sums) (defBody s_p_sums) (defScope s_p_sums) .none kV27 dc27 pm27 an27 cd27 ct27), sl27⟩)
    (d27 : PySem.W.codeIn K cd27 "sums" = true)
    (k27 : PySem.W.keepIn K (.ref f27) = true)
    (l28 : K.lookup f28 = some ⟨oc28, od28, .func (PySem.W.fnOf "products" "products" (defArgs s_p_products) (defBody s_p_products) (defScope s_p_products) .none kV28 dc28 pm28 an28 cd28 ct28), sl28⟩)
    (d28 : PySem.W.codeIn K cd28 "products" = true)
    (k28 : PySem.W.keepIn K (.ref f28) = true)
    (l29 : K.lookup f29 = some ⟨oc29, od29, .func (PySem.W.fnOf "split" "split" (defArgs s_p_split) (defBody s_p_split) (defScope s_p_split) .none kV29 dc29 pm29 an29 cd29 ct29), sl29⟩)
    (d29 : PySem.W.codeIn K cd29 "split" = true)
    (k29 : PySem.W.keepIn K (.ref f29) = true)
    (l30 : K.lookup f30 = some ⟨oc30, od30, .func (PySem.W.fnOf "turned" "turned" (defArgs s_p_turned) (defBody s_p_turned) (defScope s_p_turned) .none kV30 dc30 pm30 an30 cd30 ct30), sl30⟩)
    (d30 : PySem.W.codeIn K cd30 "turned" = true)
    (k30 : PySem.W.keepIn K (.ref f30) = true)
    (l31 : K.lookup f31 = some ⟨oc31, od31, .func (PySem.W.fnOf "moved" "moved" (defArgs s_p_moved) (defBody s_p_moved) (defScope s_p_moved) .none kV31 dc31 pm31 an31 cd31 ct31), sl31⟩)
    (d31 : PySem.W.codeIn K cd31 "moved" = true)
    (k31 : PySem.W.keepIn K (.ref f31) = true)
    (l32 : K.lookup f32 = some ⟨oc32, od32, .func (PySem.W.fnOf "taken_from" "taken_from" (defArgs s_p_taken_from) (defBody s_p_taken_from) (defScope s_p_taken_from) .none kV32 dc32 pm32 an32 cd32 ct32), sl32⟩)
    (d32 : PySem.W.codeIn K cd32 "taken_from" = true)
    (k32 : PySem.W.keepIn K (.ref f32) = true)
    (l33 : K.lookup f33 = some ⟨oc33, od33, .func (PySem.W.fnOf "check_factor" "check_factor" (defArgs s_p_check_factor) (defBody s_p_check_factor) (defScope s_p_check_factor) .none kV33 dc33 pm33 an33 cd33 ct33), sl33⟩)
    (d33 : PySem.W.codeIn K cd33 "check_factor" = true)
    (k33 : PySem.W.keepIn K (.ref f33) = true)
    (l34 : K.lookup f34 = some ⟨oc34, od34, .func (PySem.W.fnOf "stretched" "stretched" (defArgs s_p_stretched) (defBody s_p_stretched) (defScope s_p_stretched) .none kV34 dc34 pm34 an34 cd34 ct34), sl34⟩)
    (d34 : PySem.W.codeIn K cd34 "stretched" = true)
    (k34 : PySem.W.keepIn K (.ref f34) = true)
    (l35 : K.lookup f35 = some ⟨oc35, od35, .func (PySem.W.fnOf "shared_bar" "shared_bar" (defArgs s_p_shared_bar) (defBody s_p_shared_bar) (defScope s_p_shared_bar) .none kV35 dc35 pm35 an35 cd35 ct35), sl35⟩)
    (d35 : PySem.W.codeIn K cd35 "shared_bar" = true)
    (k35 : PySem.W.keepIn K (.ref f35) = true)
    (l36 : K.lookup f36 = some ⟨oc36, od36, .func (PySem.W.fnOf "shared" "shared" (defArgs s_p_shared) (defBody s_p_shared) (defScope s_p_shared) .none kV36 dc36 pm36 an36 cd36 ct36), sl36⟩)
    (d36 : PySem.W.codeIn K cd36 "shared" = true)
    (k36 : PySem.W.keepIn K (.ref f36) = true)
    (l37 : K.lookup f37 = some ⟨oc37, od37, .func (PySem.W.fnOf "_law_draws" "_law_draws" (defArgs s_l_draws) (defBody s_l_draws) (defScope s_l_draws) .none kV37 dc37 pm37 an37 cd37 ct37), sl37⟩)
    (d37 : PySem.W.codeIn K cd37 "_law_draws" = true)
    (k37 : PySem.W.keepIn K (.ref f37) = true)
    (l38 : K.lookup f38 = some ⟨oc38, od38, .func (PySem.W.fnOf "_law_pick" "_law_pick" (defArgs s_l_pick) (defBody s_l_pick) (defScope s_l_pick) .none kV38 dc38 pm38 an38 cd38 ct38), sl38⟩)
    (d38 : PySem.W.codeIn K cd38 "_law_pick" = true)
    (k38 : PySem.W.keepIn K (.ref f38) = true)
    (l39 : K.lookup f39 = some ⟨oc39, od39, .func (PySem.W.fnOf "_law_bars" "_law_bars" (defArgs s_l_bars) (defBody s_l_bars) (defScope s_l_bars) .none kV39 dc39 pm39 an39 cd39 ct39), sl39⟩)
    (d39 : PySem.W.codeIn K cd39 "_law_bars" = true)
    (k39 : PySem.W.keepIn K (.ref f39) = true)
    (l40 : K.lookup f40 = some ⟨oc40, od40, .func (PySem.W.fnOf "_law_far" "_law_far" (defArgs s_l_far) (defBody s_l_far) (defScope s_l_far) .none kV40 dc40 pm40 an40 cd40 ct40), sl40⟩)
    (d40 : PySem.W.codeIn K cd40 "_law_far" = true)
    (k40 : PySem.W.keepIn K (.ref f40) = true)
    (l41 : K.lookup f41 = some ⟨oc41, od41, .func (PySem.W.fnOf "law" "law" (defArgs s_law) (defBody s_law) (defScope s_law) .none kV41 dc41 pm41 an41 cd41 ct41), sl41⟩)
    (d41 : PySem.W.codeIn K cd41 "law" = true)
    (k41 : PySem.W.keepIn K (.ref f41) = true)
    (l42 : K.lookup f42 = some ⟨oc42, od42, .func (PySem.W.fnOf "__init__" "Sieve.__init__" (defArgs s_m_Sieve_init) (defBody s_m_Sieve_init) (defScope s_m_Sieve_init) .none kV42 dc42 pm42 an42 cd42 ct42), sl42⟩)
    (d42 : PySem.W.codeIn K cd42 "Sieve.__init__" = true)
    (k42 : PySem.W.keepIn K (.ref f42) = true)
    (l43 : K.lookup f43 = some ⟨oc43, od43, .func (PySem.W.fnOf "__eq__" "Sieve.__eq__" (defArgs s_m_Sieve_eq) (defBody s_m_Sieve_eq) (defScope s_m_Sieve_eq) .none kV43 dc43 pm43 an43 cd43 ct43), sl43⟩)
    (d43 : PySem.W.codeIn K cd43 "Sieve.__eq__" = true)
    (k43 : PySem.W.keepIn K (.ref f43) = true)
    (l44 : K.lookup f44 = some ⟨oc44, od44, .func (PySem.W.fnOf "bars" "Sieve.bars" (defArgs s_m_Sieve_bars) (defBody s_m_Sieve_bars) (defScope s_m_Sieve_bars) .none kV44 dc44 pm44 an44 cd44 ct44), sl44⟩)
    (d44 : PySem.W.codeIn K cd44 "Sieve.bars" = true)
    (k44 : PySem.W.keepIn K (.ref f44) = true)
    (l45 : K.lookup f45 = some ⟨oc45, od45, .func (PySem.W.fnOf "whole" "Sieve.whole" (defArgs s_m_Sieve_whole) (defBody s_m_Sieve_whole) (defScope s_m_Sieve_whole) .none kV45 dc45 pm45 an45 cd45 ct45), sl45⟩)
    (d45 : PySem.W.codeIn K cd45 "Sieve.whole" = true)
    (k45 : PySem.W.keepIn K (.ref f45) = true)
    (l46 : K.lookup f46 = some ⟨oc46, od46, .func (PySem.W.fnOf "classes" "Sieve.classes" (defArgs s_m_Sieve_classes) (defBody s_m_Sieve_classes) (defScope s_m_Sieve_classes) .none kV46 dc46 pm46 an46 cd46 ct46), sl46⟩)
    (d46 : PySem.W.codeIn K cd46 "Sieve.classes" = true)
    (k46 : PySem.W.keepIn K (.ref f46) = true)
    (z_len : PySem.W.nsIn K mainGlobals "len" = some none)
    (z_max : PySem.W.nsIn K mainGlobals "max" = some none)
    (z_min : PySem.W.nsIn K mainGlobals "min" = some none)
    (z_range : PySem.W.nsIn K mainGlobals "range" = some none)
    (z_int : PySem.W.nsIn K mainGlobals "int" = some none)
    (z_list : PySem.W.nsIn K mainGlobals "list" = some none)
    (z_tuple : PySem.W.nsIn K mainGlobals "tuple" = some none)
    (z_sorted : PySem.W.nsIn K mainGlobals "sorted" = some none)
    (z_isinstance : PySem.W.nsIn K mainGlobals "isinstance" = some none)
    (z_enumerate : PySem.W.nsIn K mainGlobals "enumerate" = some none)
    (z_zip : PySem.W.nsIn K mainGlobals "zip" = some none)
    (z_bool : PySem.W.nsIn K mainGlobals "bool" = some none)
    (z_all : PySem.W.nsIn K mainGlobals "all" = some none)
    (g_gcd : PySem.W.nsIn K mainGlobals "gcd" = some (some (.builtin "math.gcd")))
    (g_lcm : PySem.W.nsIn K mainGlobals "lcm" = some (some (.builtin "math.lcm")))
    {t_GREATEST_NUMBER : Tok}
    (c_GREATEST_NUMBER : PySem.W.nsIn K mainGlobals "GREATEST_NUMBER" = some (some (.int 1000000000000000000000000000000 t_GREATEST_NUMBER)))
    {t_GREATEST_MODULUS : Tok}
    (c_GREATEST_MODULUS : PySem.W.nsIn K mainGlobals "GREATEST_MODULUS" = some (some (.int 1000000 t_GREATEST_MODULUS)))
    {t_MOST_RESTS : Tok}
    (c_MOST_RESTS : PySem.W.nsIn K mainGlobals "MOST_RESTS" = some (some (.int 60 t_MOST_RESTS)))
    {t_MOST_BARS : Tok}
    (c_MOST_BARS : PySem.W.nsIn K mainGlobals "MOST_BARS" = some (some (.int 6 t_MOST_BARS)))
    {t_GREATEST_WHOLE : Tok}
    (c_GREATEST_WHOLE : PySem.W.nsIn K mainGlobals "GREATEST_WHOLE" = some (some (.int 1000000000000000000000000000000 t_GREATEST_WHOLE)))
    {t_MOST_CHOICES : Tok}
    (c_MOST_CHOICES : PySem.W.nsIn K mainGlobals "MOST_CHOICES" = some (some (.int 2000 t_MOST_CHOICES)))
    {t_GREATEST_LISTED_BY : Tok}
    (c_GREATEST_LISTED_BY : PySem.W.nsIn K mainGlobals "GREATEST_LISTED_BY" = some (some (.int 1000 t_GREATEST_LISTED_BY)))
    {t_GREATEST_RECKONED_BY : Tok}
    (c_GREATEST_RECKONED_BY : PySem.W.nsIn K mainGlobals "GREATEST_RECKONED_BY" = some (some (.int 200 t_GREATEST_RECKONED_BY)))
    {t_GREATEST_FACTOR : Tok}
    (c_GREATEST_FACTOR : PySem.W.nsIn K mainGlobals "GREATEST_FACTOR" = some (some (.int 1000 t_GREATEST_FACTOR)))
    {C_RestError : Addr}
    (g_RestError : PySem.W.nsIn K mainGlobals "RestError" = some (some (.ref C_RestError)))
    (hR : PySem.W.hasDictIn K C_RestError = true)
    (tR : PySem.W.typeIn K (.ref C_RestError) = some (.type "type"))
    {C_BadNumber : Addr}
    (g_BadNumber : PySem.W.nsIn K mainGlobals "BadNumber" = some (some (.ref C_BadNumber)))
    (x_BadNumber : PySem.W.excIn K C_BadNumber [.type "ValueError", .type "Exception", .type "BaseException", .type "object"] "ValueError.__new__" = true)
    (k_BadNumber : PySem.W.keepIn K (.ref C_BadNumber) = true)
    (b_BadNumber : PySem.W.subIn K (.ref C_BadNumber) (.type "BaseException") = some true)
    (t_BadNumber : PySem.W.typeIn K (.ref C_BadNumber) = some (.type "type"))
    (e_BadNumber : PySem.W.subIn K (.ref C_BadNumber) (.ref C_BadNumber) = some true)
    (E1_BadNumber : PySem.W.findIn K (.ref C_BadNumber) "__getattribute__" = some (some (.builtin "BaseException.__getattribute__")))
    (E2_BadNumber : PySem.W.findIn K (.ref C_BadNumber) "__getattr__" = some none)
    (E3_BadNumber : PySem.W.hasDictIn K C_BadNumber = true)
    (E4_BadNumber : PySem.W.findIn K (.ref C_BadNumber) "__class__" = some (some (.builtin "object.__class__")))
    (E5_BadNumber : PySem.W.specialIn K (.builtin "object.__class__") "__get__" = some (some (.builtin "getset_descriptor.__get__")))
    (E6_BadNumber : PySem.W.takesIn K (.builtin "object.__class__") = some true)
    (E7_BadNumber : PySem.W.mroIn K C_BadNumber (.type "object") = some true)
    (r_BadNumber : PySem.W.subIn K (.ref C_BadNumber) (.ref C_RestError) = some true)
    {C_BadModulus : Addr}
    (g_BadModulus : PySem.W.nsIn K mainGlobals "BadModulus" = some (some (.ref C_BadModulus)))
    (x_BadModulus : PySem.W.excIn K C_BadModulus [.type "ValueError", .type "Exception", .type "BaseException", .type "object"] "ValueError.__new__" = true)
    (k_BadModulus : PySem.W.keepIn K (.ref C_BadModulus) = true)
    (b_BadModulus : PySem.W.subIn K (.ref C_BadModulus) (.type "BaseException") = some true)
    (t_BadModulus : PySem.W.typeIn K (.ref C_BadModulus) = some (.type "type"))
    (e_BadModulus : PySem.W.subIn K (.ref C_BadModulus) (.ref C_BadModulus) = some true)
    (E1_BadModulus : PySem.W.findIn K (.ref C_BadModulus) "__getattribute__" = some (some (.builtin "BaseException.__getattribute__")))
    (E2_BadModulus : PySem.W.findIn K (.ref C_BadModulus) "__getattr__" = some none)
    (E3_BadModulus : PySem.W.hasDictIn K C_BadModulus = true)
    (E4_BadModulus : PySem.W.findIn K (.ref C_BadModulus) "__class__" = some (some (.builtin "object.__class__")))
    (E5_BadModulus : PySem.W.specialIn K (.builtin "object.__class__") "__get__" = some (some (.builtin "getset_descriptor.__get__")))
    (E6_BadModulus : PySem.W.takesIn K (.builtin "object.__class__") = some true)
    (E7_BadModulus : PySem.W.mroIn K C_BadModulus (.type "object") = some true)
    (r_BadModulus : PySem.W.subIn K (.ref C_BadModulus) (.ref C_RestError) = some true)
    {C_TooGreat : Addr}
    (g_TooGreat : PySem.W.nsIn K mainGlobals "TooGreat" = some (some (.ref C_TooGreat)))
    (x_TooGreat : PySem.W.excIn K C_TooGreat [.type "ValueError", .type "Exception", .type "BaseException", .type "object"] "ValueError.__new__" = true)
    (k_TooGreat : PySem.W.keepIn K (.ref C_TooGreat) = true)
    (b_TooGreat : PySem.W.subIn K (.ref C_TooGreat) (.type "BaseException") = some true)
    (t_TooGreat : PySem.W.typeIn K (.ref C_TooGreat) = some (.type "type"))
    (e_TooGreat : PySem.W.subIn K (.ref C_TooGreat) (.ref C_TooGreat) = some true)
    (E1_TooGreat : PySem.W.findIn K (.ref C_TooGreat) "__getattribute__" = some (some (.builtin "BaseException.__getattribute__")))
    (E2_TooGreat : PySem.W.findIn K (.ref C_TooGreat) "__getattr__" = some none)
    (E3_TooGreat : PySem.W.hasDictIn K C_TooGreat = true)
    (E4_TooGreat : PySem.W.findIn K (.ref C_TooGreat) "__class__" = some (some (.builtin "object.__class__")))
    (E5_TooGreat : PySem.W.specialIn K (.builtin "object.__class__") "__get__" = some (some (.builtin "getset_descriptor.__get__")))
    (E6_TooGreat : PySem.W.takesIn K (.builtin "object.__class__") = some true)
    (E7_TooGreat : PySem.W.mroIn K C_TooGreat (.type "object") = some true)
    (r_TooGreat : PySem.W.subIn K (.ref C_TooGreat) (.ref C_RestError) = some true)
    {C_TooMany : Addr}
    (g_TooMany : PySem.W.nsIn K mainGlobals "TooMany" = some (some (.ref C_TooMany)))
    (x_TooMany : PySem.W.excIn K C_TooMany [.type "ValueError", .type "Exception", .type "BaseException", .type "object"] "ValueError.__new__" = true)
    (k_TooMany : PySem.W.keepIn K (.ref C_TooMany) = true)
    (b_TooMany : PySem.W.subIn K (.ref C_TooMany) (.type "BaseException") = some true)
    (t_TooMany : PySem.W.typeIn K (.ref C_TooMany) = some (.type "type"))
    (e_TooMany : PySem.W.subIn K (.ref C_TooMany) (.ref C_TooMany) = some true)
    (E1_TooMany : PySem.W.findIn K (.ref C_TooMany) "__getattribute__" = some (some (.builtin "BaseException.__getattribute__")))
    (E2_TooMany : PySem.W.findIn K (.ref C_TooMany) "__getattr__" = some none)
    (E3_TooMany : PySem.W.hasDictIn K C_TooMany = true)
    (E4_TooMany : PySem.W.findIn K (.ref C_TooMany) "__class__" = some (some (.builtin "object.__class__")))
    (E5_TooMany : PySem.W.specialIn K (.builtin "object.__class__") "__get__" = some (some (.builtin "getset_descriptor.__get__")))
    (E6_TooMany : PySem.W.takesIn K (.builtin "object.__class__") = some true)
    (E7_TooMany : PySem.W.mroIn K C_TooMany (.type "object") = some true)
    (r_TooMany : PySem.W.subIn K (.ref C_TooMany) (.ref C_RestError) = some true)
    {C_Nothing : Addr}
    (g_Nothing : PySem.W.nsIn K mainGlobals "Nothing" = some (some (.ref C_Nothing)))
    (x_Nothing : PySem.W.excIn K C_Nothing [.type "ValueError", .type "Exception", .type "BaseException", .type "object"] "ValueError.__new__" = true)
    (k_Nothing : PySem.W.keepIn K (.ref C_Nothing) = true)
    (b_Nothing : PySem.W.subIn K (.ref C_Nothing) (.type "BaseException") = some true)
    (t_Nothing : PySem.W.typeIn K (.ref C_Nothing) = some (.type "type"))
    (e_Nothing : PySem.W.subIn K (.ref C_Nothing) (.ref C_Nothing) = some true)
    (E1_Nothing : PySem.W.findIn K (.ref C_Nothing) "__getattribute__" = some (some (.builtin "BaseException.__getattribute__")))
    (E2_Nothing : PySem.W.findIn K (.ref C_Nothing) "__getattr__" = some none)
    (E3_Nothing : PySem.W.hasDictIn K C_Nothing = true)
    (E4_Nothing : PySem.W.findIn K (.ref C_Nothing) "__class__" = some (some (.builtin "object.__class__")))
    (E5_Nothing : PySem.W.specialIn K (.builtin "object.__class__") "__get__" = some (some (.builtin "getset_descriptor.__get__")))
    (E6_Nothing : PySem.W.takesIn K (.builtin "object.__class__") = some true)
    (E7_Nothing : PySem.W.mroIn K C_Nothing (.type "object") = some true)
    (r_Nothing : PySem.W.subIn K (.ref C_Nothing) (.ref C_RestError) = some true)
    (e_BadNumber_BadModulus : PySem.W.subIn K (.ref C_BadNumber) (.ref C_BadModulus) = some false)
    (e_BadNumber_TooGreat : PySem.W.subIn K (.ref C_BadNumber) (.ref C_TooGreat) = some false)
    (e_BadNumber_TooMany : PySem.W.subIn K (.ref C_BadNumber) (.ref C_TooMany) = some false)
    (e_BadNumber_Nothing : PySem.W.subIn K (.ref C_BadNumber) (.ref C_Nothing) = some false)
    (e_BadModulus_BadNumber : PySem.W.subIn K (.ref C_BadModulus) (.ref C_BadNumber) = some false)
    (e_BadModulus_TooGreat : PySem.W.subIn K (.ref C_BadModulus) (.ref C_TooGreat) = some false)
    (e_BadModulus_TooMany : PySem.W.subIn K (.ref C_BadModulus) (.ref C_TooMany) = some false)
    (e_BadModulus_Nothing : PySem.W.subIn K (.ref C_BadModulus) (.ref C_Nothing) = some false)
    (e_TooGreat_BadNumber : PySem.W.subIn K (.ref C_TooGreat) (.ref C_BadNumber) = some false)
    (e_TooGreat_BadModulus : PySem.W.subIn K (.ref C_TooGreat) (.ref C_BadModulus) = some false)
    (e_TooGreat_TooMany : PySem.W.subIn K (.ref C_TooGreat) (.ref C_TooMany) = some false)
    (e_TooGreat_Nothing : PySem.W.subIn K (.ref C_TooGreat) (.ref C_Nothing) = some false)
    (e_TooMany_BadNumber : PySem.W.subIn K (.ref C_TooMany) (.ref C_BadNumber) = some false)
    (e_TooMany_BadModulus : PySem.W.subIn K (.ref C_TooMany) (.ref C_BadModulus) = some false)
    (e_TooMany_TooGreat : PySem.W.subIn K (.ref C_TooMany) (.ref C_TooGreat) = some false)
    (e_TooMany_Nothing : PySem.W.subIn K (.ref C_TooMany) (.ref C_Nothing) = some false)
    (e_Nothing_BadNumber : PySem.W.subIn K (.ref C_Nothing) (.ref C_BadNumber) = some false)
    (e_Nothing_BadModulus : PySem.W.subIn K (.ref C_Nothing) (.ref C_BadModulus) = some false)
    (e_Nothing_TooGreat : PySem.W.subIn K (.ref C_Nothing) (.ref C_TooGreat) = some false)
    (e_Nothing_TooMany : PySem.W.subIn K (.ref C_Nothing) (.ref C_TooMany) = some false)
    (eqF : PySem.W.isFn K (.ref f43) = true)
    (neS : PySem.W.findIn K (.ref C) "__ne__" = some (some (.builtin "object.__ne__")))
    (moC : PySem.W.mroIn K C (.type "object") = some true)
    (kt1 : PySem.W.findIn K (.ref C) "__class__" = some (some (.builtin "object.__class__")))
    (kt2 : PySem.W.specialIn K (.builtin "object.__class__") "__get__" = some (some (.builtin "getset_descriptor.__get__")))
    (kt3 : PySem.W.takesIn K (.builtin "object.__class__") = some true)
    (tyC : PySem.W.typeIn K (.ref C) = some (.type "type"))
    (suC : PySem.W.subIn K (.ref C) (.ref C) = some true)
    (suS : PySem.W.subIn K (.type "str") (.ref C) = some false)
    : ∃ fd : FuncData, (∀ (s : Shared) (v : Value), BindsTo s fd ⟨[v], []⟩ [("_law_script", v)]) ∧ ∀ base : Heap, K.In base → base.Ns mainGlobals mg → FnOk l.prog w K mg base CX0 15 fa fd ["_law_script"] (sp_law K) := by
  have e := hfa.symm.trans (PySem.W.mg_of X G a41)
  cases e
  have F0 := fun_mk (st := s_p_is_integer) l0 d0 k0
  have b0 := F0.binds (ps := ["value"]) fun _ _ _ _ _ _ us hl => match us, hl with | [_], _ => rfl
  have F1 := fun_mk (st := s_p_integer_within) l1 d1 k1
  have b1 := F1.binds (ps := ["value", "least", "greatest"]) fun _ _ _ _ _ _ us hl => match us, hl with | [_, _, _], _ => rfl
  have F2 := fun_mk (st := s_p_is_number) l2 d2 k2
  have b2 := F2.binds (ps := ["value"]) fun _ _ _ _ _ _ us hl => match us, hl with | [_], _ => rfl
  have F3 := fun_mk (st := s_p_check_number) l3 d3 k3
  have b3 := F3.binds (ps := ["value"]) fun _ _ _ _ _ _ us hl => match us, hl with | [_], _ => rfl
  have F4 := fun_mk (st := s_p_check_modulus) l4 d4 k4
  have b4 := F4.binds (ps := ["value", "greatest"]) fun _ _ _ _ _ _ us hl => match us, hl with | [_, _], _ => rfl
  have F5 := fun_mk (st := s_p_is_ascending) l5 d5 k5
  have b5 := F5.binds (ps := ["value", "limit"]) fun _ _ _ _ _ _ us hl => match us, hl with | [_, _], _ => rfl
  have F6 := fun_mk (st := s_p_is_lot) l6 d6 k6
  have b6 := F6.binds (ps := ["value", "modulus"]) fun _ _ _ _ _ _ us hl => match us, hl with | [_, _], _ => rfl
  have F7 := fun_mk (st := s_p_is_pair) l7 d7 k7
  have b7 := F7.binds (ps := ["value"]) fun _ _ _ _ _ _ us hl => match us, hl with | [_], _ => rfl
  have F8 := fun_mk (st := s_p_is_bar) l8 d8 k8
  have b8 := F8.binds (ps := ["value"]) fun _ _ _ _ _ _ us hl => match us, hl with | [_], _ => rfl
  have F9 := fun_mk (st := s_p_check_some) l9 d9 k9
  have b9 := F9.binds (ps := ["sieve"]) fun _ _ _ _ _ _ us hl => match us, hl with | [_], _ => rfl
  have F10 := fun_mk (st := s_p_inverse) l10 d10 k10
  have b10 := F10.binds (ps := ["number", "modulus"]) fun _ _ _ _ _ _ us hl => match us, hl with | [_, _], _ => rfl
  have F11 := fun_mk (st := s_p_joined) l11 d11 k11
  have b11 := F11.binds (ps := ["classes", "whole", "modulus", "lot"]) fun _ _ _ _ _ _ us hl => match us, hl with | [_, _, _, _], _ => rfl
  have F12 := fun_mk (st := s_p_classes_of) l12 d12 k12
  have b12 := F12.binds (ps := ["bars"]) fun _ _ _ _ _ _ us hl => match us, hl with | [_], _ => rfl
  have F13 := fun_mk (st := s_p_check_bars) l13 d13 k13
  have b13 := F13.binds (ps := ["bars"]) fun _ _ _ _ _ _ us hl => match us, hl with | [_], _ => rfl
  have F14 := fun_mk (st := s_p_whole_of) l14 d14 k14
  have b14 := F14.binds (ps := ["bars"]) fun _ _ _ _ _ _ us hl => match us, hl with | [_], _ => rfl
  have F15 := fun_mk (st := s_p_check_choices) l15 d15 k15
  have b15 := F15.binds (ps := ["bars"]) fun _ _ _ _ _ _ us hl => match us, hl with | [_], _ => rfl
  have F16 := fun_mk (st := s_p_lets_through) l16 d16 k16
  have b16 := F16.binds (ps := ["sieve", "number"]) fun _ _ _ _ _ _ us hl => match us, hl with | [_, _], _ => rfl
  have F17 := fun_mk (st := s_p_fits) l17 d17 k17
  have b17 := F17.binds (ps := ["sieve", "number"]) fun _ _ _ _ _ _ us hl => match us, hl with | [_, _], _ => rfl
  have F18 := fun_mk (st := s_p_rests) l18 d18 k18
  have b18 := F18.binds (ps := ["sieve", "modulus"]) fun _ _ _ _ _ _ us hl => match us, hl with | [_, _], _ => rfl
  have F19 := fun_mk (st := s_p_both) l19 d19 k19
  have b19 := F19.binds (ps := ["one", "other"]) fun _ _ _ _ _ _ us hl => match us, hl with | [_, _], _ => rfl
  have F20 := fun_mk (st := s_p_keeps_to) l20 d20 k20
  have b20 := F20.binds (ps := ["sieve", "bar"]) fun _ _ _ _ _ _ us hl => match us, hl with | [_, _], _ => rfl
  have F21 := fun_mk (st := s_p_within) l21 d21 k21
  have b21 := F21.binds (ps := ["one", "other"]) fun _ _ _ _ _ _ us hl => match us, hl with | [_, _], _ => rfl
  have F22 := fun_mk (st := s_p_alike) l22 d22 k22
  have b22 := F22.binds (ps := ["one", "other"]) fun _ _ _ _ _ _ us hl => match us, hl with | [_, _], _ => rfl
  have F23 := fun_mk (st := s_p_first_outside) l23 d23 k23
  have b23 := F23.binds (ps := ["one", "other"]) fun _ _ _ _ _ _ us hl => match us, hl with | [_, _], _ => rfl
  have F24 := fun_mk (st := s_p_first_unlike) l24 d24 k24
  have b24 := F24.binds (ps := ["one", "other"]) fun _ _ _ _ _ _ us hl => match us, hl with | [_, _], _ => rfl
  have F25 := fun_mk (st := s_p_distance) l25 d25 k25
  have b25 := F25.binds (ps := ["one", "other"]) fun _ _ _ _ _ _ us hl => match us, hl with | [_, _], _ => rfl
  have F26 := fun_mk (st := s_p_pairs_of_rests) l26 d26 k26
  have b26 := F26.binds (ps := ["one", "other", "modulus"]) fun _ _ _ _ _ _ us hl => match us, hl with | [_, _, _], _ => rfl
  have F27 := fun_mk (st := s_p_sums) l27 d27 k27
  have b27 := F27.binds (ps := ["one", "other", "modulus"]) fun _ _ _ _ _ _ us hl => match us, hl with | [_, _, _], _ => rfl
  have F28 := fun_mk (st := s_p_products) l28 d28 k28
  have b28 := F28.binds (ps := ["one", "other", "modulus"]) fun _ _ _ _ _ _ us hl => match us, hl with | [_, _, _], _ => rfl
  have F29 := fun_mk (st := s_p_split) l29 d29 k29
  have b29 := F29.binds (ps := ["one", "other", "number"]) fun _ _ _ _ _ _ us hl => match us, hl with | [_, _, _], _ => rfl
  have F30 := fun_mk (st := s_p_turned) l30 d30 k30
  have b30 := F30.binds (ps := ["sieve", "sign", "by"]) fun _ _ _ _ _ _ us hl => match us, hl with | [_, _, _], _ => rfl
  have F31 := fun_mk (st := s_p_moved) l31 d31 k31
  have b31 := F31.binds (ps := ["sieve", "by"]) fun _ _ _ _ _ _ us hl => match us, hl with | [_, _], _ => rfl
  have F32 := fun_mk (st := s_p_taken_from) l32 d32 k32
  have b32 := F32.binds (ps := ["sieve", "number"]) fun _ _ _ _ _ _ us hl => match us, hl with | [_, _], _ => rfl
  have F33 := fun_mk (st := s_p_check_factor) l33 d33 k33
  have b33 := F33.binds (ps := ["value"]) fun _ _ _ _ _ _ us hl => match us, hl with | [_], _ => rfl
  have F34 := fun_mk (st := s_p_stretched) l34 d34 k34
  have b34 := F34.binds (ps := ["sieve", "by"]) fun _ _ _ _ _ _ us hl => match us, hl with | [_, _], _ => rfl
  have F35 := fun_mk (st := s_p_shared_bar) l35 d35 k35
  have b35 := F35.binds (ps := ["bar", "by"]) fun _ _ _ _ _ _ us hl => match us, hl with | [_, _], _ => rfl
  have F36 := fun_mk (st := s_p_shared) l36 d36 k36
  have b36 := F36.binds (ps := ["sieve", "by"]) fun _ _ _ _ _ _ us hl => match us, hl with | [_, _], _ => rfl
  have F37 := fun_mk (st := s_l_draws) l37 d37 k37
  have b37 := F37.binds (ps := ["_law_script"]) fun _ _ _ _ _ _ us hl => match us, hl with | [_], _ => rfl
  have F38 := fun_mk (st := s_l_pick) l38 d38 k38
  have b38 := F38.binds (ps := ["_law_row", "_law_many"]) fun _ _ _ _ _ _ us hl => match us, hl with | [_, _], _ => rfl
  have F39 := fun_mk (st := s_l_bars) l39 d39 k39
  have b39 := F39.binds (ps := ["_law_row", "_law_most", "_law_top"]) fun _ _ _ _ _ _ us hl => match us, hl with | [_, _, _], _ => rfl
  have F40 := fun_mk (st := s_l_far) l40 d40 k40
  have b40 := F40.binds (ps := ["_law_row"]) fun _ _ _ _ _ _ us hl => match us, hl with | [_], _ => rfl
  have F41 := fun_mk (st := s_law) l41 d41 k41
  have b41 := F41.binds (ps := ["_law_script"]) fun _ _ _ _ _ _ us hl => match us, hl with | [_], _ => rfl
  have F42 := fun_mk (st := s_m_Sieve_init) l42 d42 k42
  have b42 := F42.binds (ps := ["self", "bars"]) fun _ _ _ _ _ _ us hl => match us, hl with | [_, _], _ => rfl
  have F43 := fun_mk (st := s_m_Sieve_eq) l43 d43 k43
  have b43 := F43.binds (ps := ["self", "other"]) fun _ _ _ _ _ _ us hl => match us, hl with | [_, _], _ => rfl
  have F44 := fun_mk (st := s_m_Sieve_bars) l44 d44 k44
  have b44 := F44.binds (ps := ["self"]) fun _ _ _ _ _ _ us hl => match us, hl with | [_], _ => rfl
  have F45 := fun_mk (st := s_m_Sieve_whole) l45 d45 k45
  have b45 := F45.binds (ps := ["self"]) fun _ _ _ _ _ _ us hl => match us, hl with | [_], _ => rfl
  have F46 := fun_mk (st := s_m_Sieve_classes) l46 d46 k46
  have b46 := F46.binds (ps := ["self"]) fun _ _ _ _ _ _ us hl => match us, hl with | [_], _ => rfl
  let T : Txt K mg := {
    f_p_is_integer := _, fd_p_is_integer := _, F_p_is_integer := F0, b_p_is_integer := b0, g_p_is_integer := PySem.W.mg_of X G a0,
    f_p_integer_within := _, fd_p_integer_within := _, F_p_integer_within := F1, b_p_integer_within := b1, g_p_integer_within := PySem.W.mg_of X G a1,
    f_p_is_number := _, fd_p_is_number := _, F_p_is_number := F2, b_p_is_number := b2, g_p_is_number := PySem.W.mg_of X G a2,
    f_p_check_number := _, fd_p_check_number := _, F_p_check_number := F3, b_p_check_number := b3, g_p_check_number := PySem.W.mg_of X G a3,
    f_p_check_modulus := _, fd_p_check_modulus := _, F_p_check_modulus := F4, b_p_check_modulus := b4, g_p_check_modulus := PySem.W.mg_of X G a4,
    f_p_is_ascending := _, fd_p_is_ascending := _, F_p_is_ascending := F5, b_p_is_ascending := b5, g_p_is_ascending := PySem.W.mg_of X G a5,
    f_p_is_lot := _, fd_p_is_lot := _, F_p_is_lot := F6, b_p_is_lot := b6, g_p_is_lot := PySem.W.mg_of X G a6,
    f_p_is_pair := _, fd_p_is_pair := _, F_p_is_pair := F7, b_p_is_pair := b7, g_p_is_pair := PySem.W.mg_of X G a7,
    f_p_is_bar := _, fd_p_is_bar := _, F_p_is_bar := F8, b_p_is_bar := b8, g_p_is_bar := PySem.W.mg_of X G a8,
    f_p_check_some := _, fd_p_check_some := _, F_p_check_some := F9, b_p_check_some := b9, g_p_check_some := PySem.W.mg_of X G a9,
    f_p_inverse := _, fd_p_inverse := _, F_p_inverse := F10, b_p_inverse := b10, g_p_inverse := PySem.W.mg_of X G a10,
    f_p_joined := _, fd_p_joined := _, F_p_joined := F11, b_p_joined := b11, g_p_joined := PySem.W.mg_of X G a11,
    f_p_classes_of := _, fd_p_classes_of := _, F_p_classes_of := F12, b_p_classes_of := b12, g_p_classes_of := PySem.W.mg_of X G a12,
    f_p_check_bars := _, fd_p_check_bars := _, F_p_check_bars := F13, b_p_check_bars := b13, g_p_check_bars := PySem.W.mg_of X G a13,
    f_p_whole_of := _, fd_p_whole_of := _, F_p_whole_of := F14, b_p_whole_of := b14, g_p_whole_of := PySem.W.mg_of X G a14,
    f_p_check_choices := _, fd_p_check_choices := _, F_p_check_choices := F15, b_p_check_choices := b15, g_p_check_choices := PySem.W.mg_of X G a15,
    f_p_lets_through := _, fd_p_lets_through := _, F_p_lets_through := F16, b_p_lets_through := b16, g_p_lets_through := PySem.W.mg_of X G a16,
    f_p_fits := _, fd_p_fits := _, F_p_fits := F17, b_p_fits := b17, g_p_fits := PySem.W.mg_of X G a17,
    f_p_rests := _, fd_p_rests := _, F_p_rests := F18, b_p_rests := b18, g_p_rests := PySem.W.mg_of X G a18,
    f_p_both := _, fd_p_both := _, F_p_both := F19, b_p_both := b19, g_p_both := PySem.W.mg_of X G a19,
    f_p_keeps_to := _, fd_p_keeps_to := _, F_p_keeps_to := F20, b_p_keeps_to := b20, g_p_keeps_to := PySem.W.mg_of X G a20,
    f_p_within := _, fd_p_within := _, F_p_within := F21, b_p_within := b21, g_p_within := PySem.W.mg_of X G a21,
    f_p_alike := _, fd_p_alike := _, F_p_alike := F22, b_p_alike := b22, g_p_alike := PySem.W.mg_of X G a22,
    f_p_first_outside := _, fd_p_first_outside := _, F_p_first_outside := F23, b_p_first_outside := b23, g_p_first_outside := PySem.W.mg_of X G a23,
    f_p_first_unlike := _, fd_p_first_unlike := _, F_p_first_unlike := F24, b_p_first_unlike := b24, g_p_first_unlike := PySem.W.mg_of X G a24,
    f_p_distance := _, fd_p_distance := _, F_p_distance := F25, b_p_distance := b25, g_p_distance := PySem.W.mg_of X G a25,
    f_p_pairs_of_rests := _, fd_p_pairs_of_rests := _, F_p_pairs_of_rests := F26, b_p_pairs_of_rests := b26, g_p_pairs_of_rests := PySem.W.mg_of X G a26,
    f_p_sums := _, fd_p_sums := _, F_p_sums := F27, b_p_sums := b27, g_p_sums := PySem.W.mg_of X G a27,
    f_p_products := _, fd_p_products := _, F_p_products := F28, b_p_products := b28, g_p_products := PySem.W.mg_of X G a28,
    f_p_split := _, fd_p_split := _, F_p_split := F29, b_p_split := b29, g_p_split := PySem.W.mg_of X G a29,
    f_p_turned := _, fd_p_turned := _, F_p_turned := F30, b_p_turned := b30, g_p_turned := PySem.W.mg_of X G a30,
    f_p_moved := _, fd_p_moved := _, F_p_moved := F31, b_p_moved := b31, g_p_moved := PySem.W.mg_of X G a31,
    f_p_taken_from := _, fd_p_taken_from := _, F_p_taken_from := F32, b_p_taken_from := b32, g_p_taken_from := PySem.W.mg_of X G a32,
    f_p_check_factor := _, fd_p_check_factor := _, F_p_check_factor := F33, b_p_check_factor := b33, g_p_check_factor := PySem.W.mg_of X G a33,
    f_p_stretched := _, fd_p_stretched := _, F_p_stretched := F34, b_p_stretched := b34, g_p_stretched := PySem.W.mg_of X G a34,
    f_p_shared_bar := _, fd_p_shared_bar := _, F_p_shared_bar := F35, b_p_shared_bar := b35, g_p_shared_bar := PySem.W.mg_of X G a35,
    f_p_shared := _, fd_p_shared := _, F_p_shared := F36, b_p_shared := b36, g_p_shared := PySem.W.mg_of X G a36,
    f_l_draws := _, fd_l_draws := _, F_l_draws := F37, b_l_draws := b37, g_l_draws := PySem.W.mg_of X G a37,
    f_l_pick := _, fd_l_pick := _, F_l_pick := F38, b_l_pick := b38, g_l_pick := PySem.W.mg_of X G a38,
    f_l_bars := _, fd_l_bars := _, F_l_bars := F39, b_l_bars := b39, g_l_bars := PySem.W.mg_of X G a39,
    f_l_far := _, fd_l_far := _, F_l_far := F40, b_l_far := b40, g_l_far := PySem.W.mg_of X G a40,
    f_law := _, fd_law := _, F_law := F41, b_law := b41, g_law := PySem.W.mg_of X G a41,
    f_m_Sieve_init := _, fd_m_Sieve_init := _, F_m_Sieve_init := F42, b_m_Sieve_init := b42,
    f_m_Sieve_eq := _, fd_m_Sieve_eq := _, F_m_Sieve_eq := F43, b_m_Sieve_eq := b43,
    f_m_Sieve_bars := _, fd_m_Sieve_bars := _, F_m_Sieve_bars := F44, b_m_Sieve_bars := b44,
    f_m_Sieve_whole := _, fd_m_Sieve_whole := _, F_m_Sieve_whole := F45, b_m_Sieve_whole := b45,
    f_m_Sieve_classes := _, fd_m_Sieve_classes := _, F_m_Sieve_classes := F46, b_m_Sieve_classes := b46,
    z_len := PySem.W.mg_none_of X G z_len,
    z_max := PySem.W.mg_none_of X G z_max,
    z_min := PySem.W.mg_none_of X G z_min,
    z_range := PySem.W.mg_none_of X G z_range,
    z_int := PySem.W.mg_none_of X G z_int,
    z_list := PySem.W.mg_none_of X G z_list,
    z_tuple := PySem.W.mg_none_of X G z_tuple,
    z_sorted := PySem.W.mg_none_of X G z_sorted,
    z_isinstance := PySem.W.mg_none_of X G z_isinstance,
    z_enumerate := PySem.W.mg_none_of X G z_enumerate,
    z_zip := PySem.W.mg_none_of X G z_zip,
    z_bool := PySem.W.mg_none_of X G z_bool,
    z_all := PySem.W.mg_none_of X G z_all,
    g_gcd := PySem.W.mg_of X G g_gcd,
    g_lcm := PySem.W.mg_of X G g_lcm,
    c_GREATEST_NUMBER := ⟨t_GREATEST_NUMBER, PySem.W.mg_of X G c_GREATEST_NUMBER⟩,
    c_GREATEST_MODULUS := ⟨t_GREATEST_MODULUS, PySem.W.mg_of X G c_GREATEST_MODULUS⟩,
    c_MOST_RESTS := ⟨t_MOST_RESTS, PySem.W.mg_of X G c_MOST_RESTS⟩,
    c_MOST_BARS := ⟨t_MOST_BARS, PySem.W.mg_of X G c_MOST_BARS⟩,
    c_GREATEST_WHOLE := ⟨t_GREATEST_WHOLE, PySem.W.mg_of X G c_GREATEST_WHOLE⟩,
    c_MOST_CHOICES := ⟨t_MOST_CHOICES, PySem.W.mg_of X G c_MOST_CHOICES⟩,
    c_GREATEST_LISTED_BY := ⟨t_GREATEST_LISTED_BY, PySem.W.mg_of X G c_GREATEST_LISTED_BY⟩,
    c_GREATEST_RECKONED_BY := ⟨t_GREATEST_RECKONED_BY, PySem.W.mg_of X G c_GREATEST_RECKONED_BY⟩,
    c_GREATEST_FACTOR := ⟨t_GREATEST_FACTOR, PySem.W.mg_of X G c_GREATEST_FACTOR⟩,
    C := C, g_Sieve := PySem.W.mg_of X G aC, cl := ⟨pg, hd, po, sa⟩, mkC := ⟨mk, mI, iI, kc⟩, n_bars := n_bars, n_whole := n_whole, n_classes := n_classes,
    p_bars := pB, pp_bars := ⟨q1B, q2B, q3B, ⟨rB, q4B⟩⟩,
    p_whole := pW, pp_whole := ⟨q1W, q2W, q3W, ⟨rW, q4W⟩⟩,
    p_classes := pC, pp_classes := ⟨q1C, q2C, q3C, ⟨rC, q4C⟩⟩,
    C_RestError := _, g_RestError := PySem.W.mg_of X G g_RestError,
    C_BadNumber := _, g_BadNumber := PySem.W.mg_of X G g_BadNumber, x_BadNumber := x_BadNumber, k_BadNumber := k_BadNumber, b_BadNumber := b_BadNumber, t_BadNumber := t_BadNumber, e_BadNumber := PySem.W.exm_ref b_BadNumber E3_BadNumber t_BadNumber e_BadNumber, E_BadNumber := ⟨E1_BadNumber, E2_BadNumber, b_BadNumber, E3_BadNumber, E4_BadNumber, E5_BadNumber, E6_BadNumber, E7_BadNumber⟩, r_BadNumber := kit_ref hR tR r_BadNumber,
    C_BadModulus := _, g_BadModulus := PySem.W.mg_of X G g_BadModulus, x_BadModulus := x_BadModulus, k_BadModulus := k_BadModulus, b_BadModulus := b_BadModulus, t_BadModulus := t_BadModulus, e_BadModulus := PySem.W.exm_ref b_BadModulus E3_BadModulus t_BadModulus e_BadModulus, E_BadModulus := ⟨E1_BadModulus, E2_BadModulus, b_BadModulus, E3_BadModulus, E4_BadModulus, E5_BadModulus, E6_BadModulus, E7_BadModulus⟩, r_BadModulus := kit_ref hR tR r_BadModulus,
    C_TooGreat := _, g_TooGreat := PySem.W.mg_of X G g_TooGreat, x_TooGreat := x_TooGreat, k_TooGreat := k_TooGreat, b_TooGreat := b_TooGreat, t_TooGreat := t_TooGreat, e_TooGreat := PySem.W.exm_ref b_TooGreat E3_TooGreat t_TooGreat e_TooGreat, E_TooGreat := ⟨E1_TooGreat, E2_TooGreat, b_TooGreat, E3_TooGreat, E4_TooGreat, E5_TooGreat, E6_TooGreat, E7_TooGreat⟩, r_TooGreat := kit_ref hR tR r_TooGreat,
    C_TooMany := _, g_TooMany := PySem.W.mg_of X G g_TooMany, x_TooMany := x_TooMany, k_TooMany := k_TooMany, b_TooMany := b_TooMany, t_TooMany := t_TooMany, e_TooMany := PySem.W.exm_ref b_TooMany E3_TooMany t_TooMany e_TooMany, E_TooMany := ⟨E1_TooMany, E2_TooMany, b_TooMany, E3_TooMany, E4_TooMany, E5_TooMany, E6_TooMany, E7_TooMany⟩, r_TooMany := kit_ref hR tR r_TooMany,
    C_Nothing := _, g_Nothing := PySem.W.mg_of X G g_Nothing, x_Nothing := x_Nothing, k_Nothing := k_Nothing, b_Nothing := b_Nothing, t_Nothing := t_Nothing, e_Nothing := PySem.W.exm_ref b_Nothing E3_Nothing t_Nothing e_Nothing, E_Nothing := ⟨E1_Nothing, E2_Nothing, b_Nothing, E3_Nothing, E4_Nothing, E5_Nothing, E6_Nothing, E7_Nothing⟩, r_Nothing := kit_ref hR tR r_Nothing,
    e_BadNumber_BadModulus := PySem.W.exm_ref b_BadModulus E3_BadModulus t_BadModulus e_BadNumber_BadModulus,
    e_BadNumber_TooGreat := PySem.W.exm_ref b_TooGreat E3_TooGreat t_TooGreat e_BadNumber_TooGreat,
    e_BadNumber_TooMany := PySem.W.exm_ref b_TooMany E3_TooMany t_TooMany e_BadNumber_TooMany,
    e_BadNumber_Nothing := PySem.W.exm_ref b_Nothing E3_Nothing t_Nothing e_BadNumber_Nothing,
    e_BadModulus_BadNumber := PySem.W.exm_ref b_BadNumber E3_BadNumber t_BadNumber e_BadModulus_BadNumber,
    e_BadModulus_TooGreat := PySem.W.exm_ref b_TooGreat E3_TooGreat t_TooGreat e_BadModulus_TooGreat,
    e_BadModulus_TooMany := PySem.W.exm_ref b_TooMany E3_TooMany t_TooMany e_BadModulus_TooMany,
    e_BadModulus_Nothing := PySem.W.exm_ref b_Nothing E3_Nothing t_Nothing e_BadModulus_Nothing,
    e_TooGreat_BadNumber := PySem.W.exm_ref b_BadNumber E3_BadNumber t_BadNumber e_TooGreat_BadNumber,
    e_TooGreat_BadModulus := PySem.W.exm_ref b_BadModulus E3_BadModulus t_BadModulus e_TooGreat_BadModulus,
    e_TooGreat_TooMany := PySem.W.exm_ref b_TooMany E3_TooMany t_TooMany e_TooGreat_TooMany,
    e_TooGreat_Nothing := PySem.W.exm_ref b_Nothing E3_Nothing t_Nothing e_TooGreat_Nothing,
    e_TooMany_BadNumber := PySem.W.exm_ref b_BadNumber E3_BadNumber t_BadNumber e_TooMany_BadNumber,
    e_TooMany_BadModulus := PySem.W.exm_ref b_BadModulus E3_BadModulus t_BadModulus e_TooMany_BadModulus,
    e_TooMany_TooGreat := PySem.W.exm_ref b_TooGreat E3_TooGreat t_TooGreat e_TooMany_TooGreat,
    e_TooMany_Nothing := PySem.W.exm_ref b_Nothing E3_Nothing t_Nothing e_TooMany_Nothing,
    e_Nothing_BadNumber := PySem.W.exm_ref b_BadNumber E3_BadNumber t_BadNumber e_Nothing_BadNumber,
    e_Nothing_BadModulus := PySem.W.exm_ref b_BadModulus E3_BadModulus t_BadModulus e_Nothing_BadModulus,
    e_Nothing_TooGreat := PySem.W.exm_ref b_TooGreat E3_TooGreat t_TooGreat e_Nothing_TooGreat,
    e_Nothing_TooMany := PySem.W.exm_ref b_TooMany E3_TooMany t_TooMany e_Nothing_TooMany,
    eqS := mE, eqF := eqF, neS := neS, moC := moC, kt1 := kt1, kt2 := kt2, kt3 := kt3, suS := suS, isC := kit_same, noC := fun t h => kit_no hd tyC h
  }
  exact ⟨PySem.W.fnOf "law" "law" (defArgs s_law) (defBody s_law) (defScope s_law) .none kV41 dc41 pm41 an41 cd41 ct41, fun s v => .of_eq rfl, fun base _ _ => ok_law T⟩
end R
open PySem PySem.W PyProof.Rows
set_option maxHeartbeats 0 in
theorem PySem.Challenge.cw_restlots_k42_two_sieves_hold_holds : PySem.Challenge.rw_restlots_k42_two_sieves_hold.Holds := by
  w_on; o_law; k_head; (case hw => w_witness2)
  k_fill
  refine L2.walk_of (l := PySem.Challenge.rw_restlots_k42_two_sieves_hold) (n := 63) (k := 15) (x := "_law_script") (CX := fun _ => L2.CX0) (sp := fun w => R.sp_law _) rfl (by decide) rfl ⟨rfl, by decide, by decide⟩ (fun w h Y => PySem.W.kIn_of Y) ?F (fun _ _ a ns hl _ hS => ⟨a, ns, rfl, hS, hl, fun _ => rfl⟩) (fun _ _ _ _ _ h => h)
  case F =>
    intro w mg fa h KX G hmg
    refine' R.all_mk KX G hmg ?a0 ?a1 ?a2 ?a3 ?a4 ?a5 ?a6 ?a7 ?a8 ?a9 ?a10 ?a11 ?a12 ?a13 ?a14 ?a15 ?a16 ?a17 ?a18 ?a19 ?a20 ?a21 ?a22 ?a23 ?a24 ?a25 ?a26 ?a27 ?a28 ?a29 ?a30 ?a31 ?a32 ?a33 ?a34 ?a35 ?a36 ?a37 ?a38 ?a39 ?a40 ?a41 ?aC ?mI ?iI ?mE ?pg ?hd ?po ?sa ?mk ?kc ?n_bars ?n_whole ?n_classes ?q1B ?q2B ?q3B ?q4B ?q1W ?q2W ?q3W ?q4W ?q1C ?q2C ?q3C ?q4C ?l0 ?d0 ?k0 ?l1 ?d1 ?k1 ?l2 ?d2 ?k2 ?l3 ?d3 ?k3 ?l4 ?d4 ?k4 ?l5 ?d5 ?k5 ?l6 ?d6 ?k6 ?l7 ?d7 ?k7 ?l8 ?d8 ?k8 ?l9 ?d9 ?k9 ?l10 ?d10 ?k10 ?l11 ?d11 ?k11 ?l12 ?d12 ?k12 ?l13 ?d13 ?k13 ?l14 ?d14 ?k14 ?l15 ?d15 ?k15 ?l16 ?d16 ?k16 ?l17 ?d17 ?k17 ?l18 ?d18 ?k18 ?l19 ?d19 ?k19 ?l20 ?d20 ?k20 ?l21 ?d21 ?k21 ?l22 ?d22 ?k22 ?l23 ?d23 ?k23 ?l24 ?d24 ?k24 ?l25 ?d25 ?k25 ?l26 ?d26 ?k26 ?l27 ?d27 ?k27 ?l28 ?d28 ?k28 ?l29 ?d29 ?k29 ?l30 ?d30 ?k30 ?l31 ?d31 ?k31 ?l32 ?d32 ?k32 ?l33 ?d33 ?k33 ?l34 ?d34 ?k34 ?l35 ?d35 ?k35 ?l36 ?d36 ?k36 ?l37 ?d37 ?k37 ?l38 ?d38 ?k38 ?l39 ?d39 ?k39 ?l40 ?d40 ?k40 ?l41 ?d41 ?k41 ?l42 ?d42 ?k42 ?l43 ?d43 ?k43 ?l44 ?d44 ?k44 ?l45 ?d45 ?k45 ?l46 ?d46 ?k46 ?z_len ?z_max ?z_min ?z_range ?z_int ?z_list ?z_tuple ?z_sorted ?z_isinstance ?z_enumerate ?z_zip ?z_bool ?z_all ?g_gcd ?g_lcm ?c_GREATEST_NUMBER ?c_GREATEST_MODULUS ?c_MOST_RESTS ?c_MOST_BARS ?c_GREATEST_WHOLE ?c_MOST_CHOICES ?c_GREATEST_LISTED_BY ?c_GREATEST_RECKONED_BY ?c_GREATEST_FACTOR ?g_RestError ?hR ?tR ?g_BadNumber ?x_BadNumber ?k_BadNumber ?b_BadNumber ?t_BadNumber ?e_BadNumber ?E1_BadNumber ?E2_BadNumber ?E3_BadNumber ?E4_BadNumber ?E5_BadNumber ?E6_BadNumber ?E7_BadNumber ?r_BadNumber ?g_BadModulus ?x_BadModulus ?k_BadModulus ?b_BadModulus ?t_BadModulus ?e_BadModulus ?E1_BadModulus ?E2_BadModulus ?E3_BadModulus ?E4_BadModulus ?E5_BadModulus ?E6_BadModulus ?E7_BadModulus ?r_BadModulus ?g_TooGreat ?x_TooGreat ?k_TooGreat ?b_TooGreat ?t_TooGreat ?e_TooGreat ?E1_TooGreat ?E2_TooGreat ?E3_TooGreat ?E4_TooGreat ?E5_TooGreat ?E6_TooGreat ?E7_TooGreat ?r_TooGreat ?g_TooMany ?x_TooMany ?k_TooMany ?b_TooMany ?t_TooMany ?e_TooMany ?E1_TooMany ?E2_TooMany ?E3_TooMany ?E4_TooMany ?E5_TooMany ?E6_TooMany ?E7_TooMany ?r_TooMany ?g_Nothing ?x_Nothing ?k_Nothing ?b_Nothing ?t_Nothing ?e_Nothing ?E1_Nothing ?E2_Nothing ?E3_Nothing ?E4_Nothing ?E5_Nothing ?E6_Nothing ?E7_Nothing ?r_Nothing ?e_BadNumber_BadModulus ?e_BadNumber_TooGreat ?e_BadNumber_TooMany ?e_BadNumber_Nothing ?e_BadModulus_BadNumber ?e_BadModulus_TooGreat ?e_BadModulus_TooMany ?e_BadModulus_Nothing ?e_TooGreat_BadNumber ?e_TooGreat_BadModulus ?e_TooGreat_TooMany ?e_TooGreat_Nothing ?e_TooMany_BadNumber ?e_TooMany_BadModulus ?e_TooMany_TooGreat ?e_TooMany_Nothing ?e_Nothing_BadNumber ?e_Nothing_BadModulus ?e_Nothing_TooGreat ?e_Nothing_TooMany ?eqF ?neS ?moC ?kt1 ?kt2 ?kt3 ?tyC ?suC ?suS
    (case a0 => k_is)
    (case a1 => k_is)
    (case a2 => k_is)
    (case a3 => k_is)
    (case a4 => k_is)
    (case a5 => k_is)
    (case a6 => k_is)
    (case a7 => k_is)
    (case a8 => k_is)
    (case a9 => k_is)
    (case a10 => k_is)
    (case a11 => k_is)
    (case a12 => k_is)
    (case a13 => k_is)
    (case a14 => k_is)
    (case a15 => k_is)
    (case a16 => k_is)
    (case a17 => k_is)
    (case a18 => k_is)
    (case a19 => k_is)
    (case a20 => k_is)
    (case a21 => k_is)
    (case a22 => k_is)
    (case a23 => k_is)
    (case a24 => k_is)
    (case a25 => k_is)
    (case a26 => k_is)
    (case a27 => k_is)
    (case a28 => k_is)
    (case a29 => k_is)
    (case a30 => k_is)
    (case a31 => k_is)
    (case a32 => k_is)
    (case a33 => k_is)
    (case a34 => k_is)
    (case a35 => k_is)
    (case a36 => k_is)
    (case a37 => k_is)
    (case a38 => k_is)
    (case a39 => k_is)
    (case a40 => k_is)
    (case a41 => k_is)
    (case aC => k_is)
    (case mI => k_is)
    (case iI => k_is)
    (case mE => k_is)
    (case pg => k_is)
    (case hd => k_is)
    (case po => k_is)
    (case sa => k_is)
    (case mk => k_is)
    (case kc => k_is)
    (case n_bars => k_is)
    (case n_whole => k_is)
    (case n_classes => k_is)
    (case q1B => k_is)
    (case q2B => k_is)
    (case q3B => k_is)
    (case q4B => k_is)
    (case q1W => k_is)
    (case q2W => k_is)
    (case q3W => k_is)
    (case q4W => k_is)
    (case q1C => k_is)
    (case q2C => k_is)
    (case q3C => k_is)
    (case q4C => k_is)
    (case l0 => k_is)
    (case d0 => k_is)
    (case k0 => k_is)
    (case l1 => k_is)
    (case d1 => k_is)
    (case k1 => k_is)
    (case l2 => k_is)
    (case d2 => k_is)
    (case k2 => k_is)
    (case l3 => k_is)
    (case d3 => k_is)
    (case k3 => k_is)
    (case l4 => k_is)
    (case d4 => k_is)
    (case k4 => k_is)
    (case l5 => k_is)
    (case d5 => k_is)
    (case k5 => k_is)
    (case l6 => k_is)
    (case d6 => k_is)
    (case k6 => k_is)
    (case l7 => k_is)
    (case d7 => k_is)
    (case k7 => k_is)
    (case l8 => k_is)
    (case d8 => k_is)
    (case k8 => k_is)
    (case l9 => k_is)
    (case d9 => k_is)
    (case k9 => k_is)
    (case l10 => k_is)
    (case d10 => k_is)
    (case k10 => k_is)
    (case l11 => k_is)
    (case d11 => k_is)
    (case k11 => k_is)
    (case l12 => k_is)
    (case d12 => k_is)
    (case k12 => k_is)
    (case l13 => k_is)
    (case d13 => k_is)
    (case k13 => k_is)
    (case l14 => k_is)
    (case d14 => k_is)
    (case k14 => k_is)
    (case l15 => k_is)
    (case d15 => k_is)
    (case k15 => k_is)
    (case l16 => k_is)
    (case d16 => k_is)
    (case k16 => k_is)
    (case l17 => k_is)
    (case d17 => k_is)
    (case k17 => k_is)
    (case l18 => k_is)
    (case d18 => k_is)
    (case k18 => k_is)
    (case l19 => k_is)
    (case d19 => k_is)
    (case k19 => k_is)
    (case l20 => k_is)
    (case d20 => k_is)
    (case k20 => k_is)
    (case l21 => k_is)
    (case d21 => k_is)
    (case k21 => k_is)
    (case l22 => k_is)
    (case d22 => k_is)
    (case k22 => k_is)
    (case l23 => k_is)
    (case d23 => k_is)
    (case k23 => k_is)
    (case l24 => k_is)
    (case d24 => k_is)
    (case k24 => k_is)
    (case l25 => k_is)
    (case d25 => k_is)
    (case k25 => k_is)
    (case l26 => k_is)
    (case d26 => k_is)
    (case k26 => k_is)
    (case l27 => k_is)
    (case d27 => k_is)
    (case k27 => k_is)
    (case l28 => k_is)
    (case d28 => k_is)
    (case k28 => k_is)
    (case l29 => k_is)
    (case d29 => k_is)
    (case k29 => k_is)
    (case l30 => k_is)
    (case d30 => k_is)
    (case k30 => k_is)
    (case l31 => k_is)
    (case d31 => k_is)
    (case k31 => k_is)
    (case l32 => k_is)
    (case d32 => k_is)
    (case k32 => k_is)
    (case l33 => k_is)
    (case d33 => k_is)
    (case k33 => k_is)
    (case l34 => k_is)
    (case d34 => k_is)
    (case k34 => k_is)
    (case l35 => k_is)
    (case d35 => k_is)
    (case k35 => k_is)
    (case l36 => k_is)
    (case d36 => k_is)
    (case k36 => k_is)
    (case l37 => k_is)
    (case d37 => k_is)
    (case k37 => k_is)
    (case l38 => k_is)
    (case d38 => k_is)
    (case k38 => k_is)
    (case l39 => k_is)
    (case d39 => k_is)
    (case k39 => k_is)
    (case l40 => k_is)
    (case d40 => k_is)
    (case k40 => k_is)
    (case l41 => k_is)
    (case d41 => k_is)
    (case k41 => k_is)
    (case l42 => k_is)
    (case d42 => k_is)
    (case k42 => k_is)
    (case l43 => k_is)
    (case d43 => k_is)
    (case k43 => k_is)
    (case l44 => k_is)
    (case d44 => k_is)
    (case k44 => k_is)
    (case l45 => k_is)
    (case d45 => k_is)
    (case k45 => k_is)
    (case l46 => k_is)
    (case d46 => k_is)
    (case k46 => k_is)
    (case z_len => k_is)
    (case z_max => k_is)
    (case z_min => k_is)
    (case z_range => k_is)
    (case z_int => k_is)
    (case z_list => k_is)
    (case z_tuple => k_is)
    (case z_sorted => k_is)
    (case z_isinstance => k_is)
    (case z_enumerate => k_is)
    (case z_zip => k_is)
    (case z_bool => k_is)
    (case z_all => k_is)
    (case g_gcd => k_is)
    (case g_lcm => k_is)
    (case c_GREATEST_NUMBER => k_is)
    (case c_GREATEST_MODULUS => k_is)
    (case c_MOST_RESTS => k_is)
    (case c_MOST_BARS => k_is)
    (case c_GREATEST_WHOLE => k_is)
    (case c_MOST_CHOICES => k_is)
    (case c_GREATEST_LISTED_BY => k_is)
    (case c_GREATEST_RECKONED_BY => k_is)
    (case c_GREATEST_FACTOR => k_is)
    (case g_RestError => k_is)
    (case hR => k_is)
    (case tR => k_is)
    (case g_BadNumber => k_is)
    (case x_BadNumber => k_exc)
    (case k_BadNumber => k_is)
    (case b_BadNumber => k_is)
    (case t_BadNumber => k_is)
    (case e_BadNumber => k_is)
    (case E1_BadNumber => k_is)
    (case E2_BadNumber => k_is)
    (case E3_BadNumber => k_is)
    (case E4_BadNumber => k_is)
    (case E5_BadNumber => k_is)
    (case E6_BadNumber => k_is)
    (case E7_BadNumber => k_is)
    (case r_BadNumber => k_is)
    (case g_BadModulus => k_is)
    (case x_BadModulus => k_exc)
    (case k_BadModulus => k_is)
    (case b_BadModulus => k_is)
    (case t_BadModulus => k_is)
    (case e_BadModulus => k_is)
    (case E1_BadModulus => k_is)
    (case E2_BadModulus => k_is)
    (case E3_BadModulus => k_is)
    (case E4_BadModulus => k_is)
    (case E5_BadModulus => k_is)
    (case E6_BadModulus => k_is)
    (case E7_BadModulus => k_is)
    (case r_BadModulus => k_is)
    (case g_TooGreat => k_is)
    (case x_TooGreat => k_exc)
    (case k_TooGreat => k_is)
    (case b_TooGreat => k_is)
    (case t_TooGreat => k_is)
    (case e_TooGreat => k_is)
    (case E1_TooGreat => k_is)
    (case E2_TooGreat => k_is)
    (case E3_TooGreat => k_is)
    (case E4_TooGreat => k_is)
    (case E5_TooGreat => k_is)
    (case E6_TooGreat => k_is)
    (case E7_TooGreat => k_is)
    (case r_TooGreat => k_is)
    (case g_TooMany => k_is)
    (case x_TooMany => k_exc)
    (case k_TooMany => k_is)
    (case b_TooMany => k_is)
    (case t_TooMany => k_is)
    (case e_TooMany => k_is)
    (case E1_TooMany => k_is)
    (case E2_TooMany => k_is)
    (case E3_TooMany => k_is)
    (case E4_TooMany => k_is)
    (case E5_TooMany => k_is)
    (case E6_TooMany => k_is)
    (case E7_TooMany => k_is)
    (case r_TooMany => k_is)
    (case g_Nothing => k_is)
    (case x_Nothing => k_exc)
    (case k_Nothing => k_is)
    (case b_Nothing => k_is)
    (case t_Nothing => k_is)
    (case e_Nothing => k_is)
    (case E1_Nothing => k_is)
    (case E2_Nothing => k_is)
    (case E3_Nothing => k_is)
    (case E4_Nothing => k_is)
    (case E5_Nothing => k_is)
    (case E6_Nothing => k_is)
    (case E7_Nothing => k_is)
    (case r_Nothing => k_is)
    (case e_BadNumber_BadModulus => k_is)
    (case e_BadNumber_TooGreat => k_is)
    (case e_BadNumber_TooMany => k_is)
    (case e_BadNumber_Nothing => k_is)
    (case e_BadModulus_BadNumber => k_is)
    (case e_BadModulus_TooGreat => k_is)
    (case e_BadModulus_TooMany => k_is)
    (case e_BadModulus_Nothing => k_is)
    (case e_TooGreat_BadNumber => k_is)
    (case e_TooGreat_BadModulus => k_is)
    (case e_TooGreat_TooMany => k_is)
    (case e_TooGreat_Nothing => k_is)
    (case e_TooMany_BadNumber => k_is)
    (case e_TooMany_BadModulus => k_is)
    (case e_TooMany_TooGreat => k_is)
    (case e_TooMany_Nothing => k_is)
    (case e_Nothing_BadNumber => k_is)
    (case e_Nothing_BadModulus => k_is)
    (case e_Nothing_TooGreat => k_is)
    (case e_Nothing_TooMany => k_is)
    (case eqF => k_is)
    (case neS => k_is)
    (case moC => k_is)
    (case kt1 => k_is)
    (case kt2 => k_is)
    (case kt3 => k_is)
    (case tyC => k_is)
    (case suC => k_is)
    (case suS => k_is)
