
import PyProof.Rows.All
import Wide.All
import OpenK.AllK
import Wide.FinOn
import HandS.ForMost
import HandS.IsInst
import HandS.Walk
import HandS.Wide
import HandS.Codes
import HandS.Gcd
import HandS.Zip
import KE.OsRunLaw
import HandS.Conv
import HandS.Sort
import HandS.Flow
import KE.KMathG
import KE.KMathGC
import OpenK.KMeth
import HandS.ForExc
import HandS.ExcInit
import HandS.ExcSuper
import HandS.ExcField
import HandS.Lambda
import HandS.HotCalls
import HandS.TryMany
import HandS.EndTab
import HandS.ClsMeth
import HandS.Star
import HandS.Property
import HandS.Defaults
import HandS.MakeKw
import HandS.MakeKwOnly
import HandS.OwnEq
import HandS.FStr
import HandS.Text
import HandS.EndOwn
import HandS.Deep
import KE.KExcSuper
import KE.KSuper
import KE.KTryMore
import HandS.SortKw
import KE.DataMinMax
import KE.KStateDown
import HandS.Head0
import HandS.Head1
import HandS.Head2
import PySem.Challenge.RW_numbertypes_k40_whole_normal_forms_part
set_option Elab.async false
set_option linter.all false
set_option maxRecDepth 100000
set_option maxHeartbeats 4000000
namespace My
open PySem PySem.Spec PyProof.Rows L2
/-! ### the text by places -/
def topS (i : Nat) : Stmt := PySem.Challenge.pw_numbertypes_k40_whole_normal_forms_part.main.body.getD i (.Pass ⟨0, 0, 0, 0⟩)
abbrev s__wall : Stmt := topS 1
abbrev N__wall : List Str := ["k"]
theorem sc__wall : FnScope N__wall ["k"] (defScope s__wall) := ⟨rfl, rfl, rfl, by decide +kernel, rfl, by decide +kernel, by decide +kernel⟩
abbrev s_is_int : Stmt := topS 11
abbrev N_is_int : List Str := ["value"]
theorem sc_is_int : FnScope N_is_int ["value"] (defScope s_is_int) := ⟨rfl, rfl, rfl, by decide +kernel, rfl, by decide +kernel, by decide +kernel⟩
abbrev s_is_between : Stmt := topS 12
abbrev N_is_between : List Str := ["value", "least", "most"]
theorem sc_is_between : FnScope N_is_between ["value", "least", "most"] (defScope s_is_between) := ⟨rfl, rfl, rfl, by decide +kernel, rfl, by decide +kernel, by decide +kernel⟩
abbrev s_is_share : Stmt := topS 13
abbrev N_is_share : List Str := ["value", "p", "q"]
theorem sc_is_share : FnScope N_is_share ["value"] (defScope s_is_share) := ⟨rfl, rfl, rfl, by decide +kernel, rfl, by decide +kernel, by decide +kernel⟩
abbrev s_common : Stmt := topS 14
abbrev N_common : List Str := ["numbers", "result", "number"]
theorem sc_common : FnScope N_common ["numbers"] (defScope s_common) := ⟨rfl, rfl, rfl, by decide +kernel, rfl, by decide +kernel, by decide +kernel⟩
abbrev s_multiple : Stmt := topS 15
abbrev N_multiple : List Str := ["numbers", "result", "number"]
theorem sc_multiple : FnScope N_multiple ["numbers"] (defScope s_multiple) := ⟨rfl, rfl, rfl, by decide +kernel, rfl, by decide +kernel, by decide +kernel⟩
abbrev s_divides : Stmt := topS 16
abbrev N_divides : List Str := ["one", "other"]
theorem sc_divides : FnScope N_divides ["one", "other"] (defScope s_divides) := ⟨rfl, rfl, rfl, by decide +kernel, rfl, by decide +kernel, by decide +kernel⟩
abbrev s_stripped : Stmt := topS 17
abbrev N_stripped : List Str := ["number", "base", "rest", "part"]
theorem sc_stripped : FnScope N_stripped ["number", "base"] (defScope s_stripped) := ⟨rfl, rfl, rfl, by decide +kernel, rfl, by decide +kernel, by decide +kernel⟩
abbrev s_radical : Stmt := topS 18
abbrev N_radical : List Str := ["number", "result", "rest", "prime"]
theorem sc_radical : FnScope N_radical ["number"] (defScope s_radical) := ⟨rfl, rfl, rfl, by decide +kernel, rfl, by decide +kernel, by decide +kernel⟩
abbrev s_share : Stmt := topS 19
abbrev N_share : List Str := ["p", "q", "part"]
theorem sc_share : FnScope N_share ["p", "q"] (defScope s_share) := ⟨rfl, rfl, rfl, by decide +kernel, rfl, by decide +kernel, by decide +kernel⟩
abbrev s_sum_of_shares : Stmt := topS 20
abbrev N_sum_of_shares : List Str := ["x", "y"]
theorem sc_sum_of_shares : FnScope N_sum_of_shares ["x", "y"] (defScope s_sum_of_shares) := ⟨rfl, rfl, rfl, by decide +kernel, rfl, by decide +kernel, by decide +kernel⟩
abbrev s_product_of_shares : Stmt := topS 21
abbrev N_product_of_shares : List Str := ["x", "y"]
theorem sc_product_of_shares : FnScope N_product_of_shares ["x", "y"] (defScope s_product_of_shares) := ⟨rfl, rfl, rfl, by decide +kernel, rfl, by decide +kernel, by decide +kernel⟩
abbrev s_inverse_modulo : Stmt := topS 22
abbrev N_inverse_modulo : List Str := ["number", "modulus", "before", "now", "far", "near", "times"]
theorem sc_inverse_modulo : FnScope N_inverse_modulo ["number", "modulus"] (defScope s_inverse_modulo) := ⟨rfl, rfl, rfl, by decide +kernel, rfl, by decide +kernel, by decide +kernel⟩
abbrev s_written : Stmt := topS 23
abbrev N_written : List Str := ["number", "powers"]
theorem sc_written : FnScope N_written ["number"] (defScope s_written) := ⟨rfl, rfl, rfl, by decide +kernel, rfl, by decide +kernel, by decide +kernel⟩
abbrev s_written_below : Stmt := topS 24
abbrev N_written_below : List Str := ["number", "powers", "lower", "high", "low"]
theorem sc_written_below : FnScope N_written_below ["number", "powers"] (defScope s_written_below) := ⟨rfl, rfl, rfl, by decide +kernel, rfl, by decide +kernel, by decide +kernel⟩
abbrev s_depth_over : Stmt := topS 28
abbrev N_depth_over : List Str := ["bases", "base"]
theorem sc_depth_over : FnScope N_depth_over ["bases"] (defScope s_depth_over) := ⟨rfl, rfl, rfl, by decide +kernel, rfl, by decide +kernel, by decide +kernel⟩
abbrev s_check_bases : Stmt := topS 29
abbrev N_check_bases : List Str := ["bases", "base"]
theorem sc_check_bases : FnScope N_check_bases ["bases"] (defScope s_check_bases) := ⟨rfl, rfl, rfl, by decide +kernel, rfl, by decide +kernel, by decide +kernel⟩
abbrev s_check_number : Stmt := topS 30
abbrev N_check_number : List Str := ["value", "least", "most"]
theorem sc_check_number : FnScope N_check_number ["value", "least", "most"] (defScope s_check_number) := ⟨rfl, rfl, rfl, by decide +kernel, rfl, by decide +kernel, by decide +kernel⟩
abbrev s_choices : Stmt := topS 35
abbrev N_choices : List Str := ["lists", "found", "options", "begun", "option"]
theorem sc_choices : FnScope N_choices ["lists"] (defScope s_choices) := ⟨rfl, rfl, rfl, by decide +kernel, rfl, by decide +kernel, by decide +kernel⟩
abbrev s_size_together : Stmt := topS 36
abbrev N_size_together : List Str := ["sizes", "result", "size"]
theorem sc_size_together : FnScope N_size_together ["sizes"] (defScope s_size_together) := ⟨rfl, rfl, rfl, by decide +kernel, rfl, by decide +kernel, by decide +kernel⟩
abbrev s_normal_numbers : Stmt := topS 45
abbrev N_normal_numbers : List Str := ["inverse", "ones", "swaps", "squares", "rests", "number"]
theorem sc_normal_numbers : FnScope N_normal_numbers ["inverse", "ones", "swaps", "squares"] (defScope s_normal_numbers) := ⟨rfl, rfl, rfl, by decide +kernel, rfl, by decide +kernel, by decide +kernel⟩
abbrev s_realm_with : Stmt := topS 46
abbrev N_realm_with : List Str := ["inverse", "ones", "swaps", "squares", "made"]
theorem sc_realm_with : FnScope N_realm_with ["inverse", "ones", "swaps", "squares"] (defScope s_realm_with) := ⟨rfl, rfl, rfl, by decide +kernel, rfl, by decide +kernel, by decide +kernel⟩
abbrev s_listed : Stmt := topS 48
abbrev N_listed : List Str := ["numbers", "number"]
theorem sc_listed : FnScope N_listed ["numbers"] (defScope s_listed) := ⟨rfl, rfl, rfl, by decide +kernel, rfl, by decide +kernel, by decide +kernel⟩
abbrev s_joined_inverse : Stmt := topS 49
abbrev N_joined_inverse : List Str := ["one", "other"]
theorem sc_joined_inverse : FnScope N_joined_inverse ["one", "other"] (defScope s_joined_inverse) := ⟨rfl, rfl, rfl, by decide +kernel, rfl, by decide +kernel, by decide +kernel⟩
abbrev s_l_bag : Stmt := topS 51
abbrev N_l_bag : List Str := ["_law_script", "_law_cells"]
theorem sc_l_bag : FnScope N_l_bag ["_law_script"] (defScope s_l_bag) := ⟨rfl, rfl, rfl, by decide +kernel, rfl, by decide +kernel, by decide +kernel⟩
abbrev s_l_draw : Stmt := topS 52
abbrev N_l_draw : List Str := ["_law_bag_here", "_law_many", "_law_cell", "_law_got"]
theorem sc_l_draw : FnScope N_l_draw ["_law_bag_here", "_law_many"] (defScope s_l_draw) := ⟨rfl, rfl, rfl, by decide +kernel, rfl, by decide +kernel, by decide +kernel⟩
abbrev s_l_pick : Stmt := topS 53
abbrev N_l_pick : List Str := ["_law_bag_here", "_law_some"]
theorem sc_l_pick : FnScope N_l_pick ["_law_bag_here", "_law_some"] (defScope s_l_pick) := ⟨rfl, rfl, rfl, by decide +kernel, rfl, by decide +kernel, by decide +kernel⟩
abbrev s_l_realm : Stmt := topS 54
abbrev N_l_realm : List Str := ["_law_numbers"]
theorem sc_l_realm : FnScope N_l_realm ["_law_numbers"] (defScope s_l_realm) := ⟨rfl, rfl, rfl, by decide +kernel, rfl, by decide +kernel, by decide +kernel⟩
abbrev s_law : Stmt := topS 55
abbrev N_law : List Str := ["_law_script", "_law_bag_here", "_law_turn", "_law_one", "_law_two", "_law_first", "_law_second", "_law_parted", "_law_m", "_law_rings", "_law_h", "_law_ring", "_law_free", "_law_base"]
theorem sc_law : FnScope N_law ["_law_script"] (defScope s_law) := ⟨rfl, rfl, rfl, by decide +kernel, rfl, by decide +kernel, by decide +kernel⟩
abbrev s_InvalidNumber_init : Stmt := inClass (topS 4) 0
abbrev s_InvalidThing_init : Stmt := inClass (topS 5) 0
abbrev s_InvalidRing_init : Stmt := inClass (topS 6) 0
abbrev s_NoInverse_init : Stmt := inClass (topS 7) 0
abbrev s_TooMany_init : Stmt := inClass (topS 8) 0
abbrev s_Ring_init : Stmt := inClass (topS 27) 2
abbrev s_Ring_ones : Stmt := inClass (topS 27) 3
abbrev s_Ring_swaps : Stmt := inClass (topS 27) 4
abbrev s_Ring_squares : Stmt := inClass (topS 27) 5
abbrev s_Ring_depth : Stmt := inClass (topS 27) 6
abbrev s_Ring_text : Stmt := inClass (topS 27) 7
abbrev s_Ring_has_inverse : Stmt := inClass (topS 27) 8
abbrev s_Ring_size : Stmt := inClass (topS 27) 9
abbrev s_Ring_is_thing : Stmt := inClass (topS 27) 10
abbrev s_Ring_zero : Stmt := inClass (topS 27) 11
abbrev s_Ring_one : Stmt := inClass (topS 27) 12
abbrev s_Ring_plus : Stmt := inClass (topS 27) 13
abbrev s_Ring_minus : Stmt := inClass (topS 27) 14
abbrev s_Ring_product : Stmt := inClass (topS 27) 15
abbrev s_Ring_negative : Stmt := inClass (topS 27) 16
abbrev s_Ring_times : Stmt := inClass (topS 27) 17
abbrev s_Ring_share : Stmt := inClass (topS 27) 18
abbrev s_Ring_square_breaker : Stmt := inClass (topS 27) 19
abbrev s_Ring_swap_breaker : Stmt := inClass (topS 27) 20
abbrev s_Ring_things : Stmt := inClass (topS 27) 21
abbrev s_Ring_eq : Stmt := inClass (topS 27) 22
abbrev s_Ring_repr : Stmt := inClass (topS 27) 23
abbrev s_Ring__check : Stmt := inClass (topS 27) 24
abbrev s_Ring__minus : Stmt := inClass (topS 27) 25
abbrev s_Ring__scaled : Stmt := inClass (topS 27) 26
abbrev s_Ring__swap_samples : Stmt := inClass (topS 27) 27
abbrev s_Shares_size : Stmt := inClass (topS 31) 0
abbrev s_Shares__plus : Stmt := inClass (topS 31) 1
abbrev s_Shares__product : Stmt := inClass (topS 31) 2
abbrev s_Shares__times : Stmt := inClass (topS 31) 3
abbrev s_Shares__share : Stmt := inClass (topS 31) 4
abbrev s_Shares__square_samples : Stmt := inClass (topS 31) 5
abbrev s_Whole_init : Stmt := inClass (topS 32) 0
abbrev s_Whole_has_inverse : Stmt := inClass (topS 32) 1
abbrev s_Whole_is_thing : Stmt := inClass (topS 32) 2
abbrev s_Whole__has_rests : Stmt := inClass (topS 32) 3
abbrev s_Whole__rest : Stmt := inClass (topS 32) 4
abbrev s_Rests_init : Stmt := inClass (topS 33) 0
abbrev s_Rests_size : Stmt := inClass (topS 33) 1
abbrev s_Rests_is_thing : Stmt := inClass (topS 33) 2
abbrev s_Rests__plus : Stmt := inClass (topS 33) 3
abbrev s_Rests__product : Stmt := inClass (topS 33) 4
abbrev s_Rests__times : Stmt := inClass (topS 33) 5
abbrev s_Rests__share : Stmt := inClass (topS 33) 6
abbrev s_Rests__has_rests : Stmt := inClass (topS 33) 7
abbrev s_Rests__rest : Stmt := inClass (topS 33) 8
abbrev s_Rests__listing : Stmt := inClass (topS 33) 9
abbrev s_Rests__square_samples : Stmt := inClass (topS 33) 10
abbrev s_Slotwise_init : Stmt := inClass (topS 37) 0
abbrev s_Slotwise_size : Stmt := inClass (topS 37) 1
abbrev s_Slotwise_is_thing : Stmt := inClass (topS 37) 2
abbrev s_Slotwise__plus : Stmt := inClass (topS 37) 3
abbrev s_Slotwise__times : Stmt := inClass (topS 37) 4
abbrev s_Slotwise__share : Stmt := inClass (topS 37) 5
abbrev s_Slotwise__listing : Stmt := inClass (topS 37) 6
abbrev s_Slotwise__placed : Stmt := inClass (topS 37) 7
abbrev s_Slotwise__unit : Stmt := inClass (topS 37) 8
abbrev s_Extended_init : Stmt := inClass (topS 39) 0
abbrev s_Extended__product : Stmt := inClass (topS 39) 1
abbrev s_Extended__square_samples : Stmt := inClass (topS 39) 2
abbrev s_Extended__swap_samples : Stmt := inClass (topS 39) 3
abbrev s_Duals_init : Stmt := inClass (topS 40) 0
abbrev s_Twists_init : Stmt := inClass (topS 43) 0
abbrev s_Twists_size : Stmt := inClass (topS 43) 1
abbrev s_Twists_is_thing : Stmt := inClass (topS 43) 2
abbrev s_Twists__plus : Stmt := inClass (topS 43) 3
abbrev s_Twists__product : Stmt := inClass (topS 43) 4
abbrev s_Twists__rest : Stmt := inClass (topS 43) 5
abbrev s_Twists__times : Stmt := inClass (topS 43) 6
abbrev s_Twists__share : Stmt := inClass (topS 43) 7
abbrev s_Twists__listing : Stmt := inClass (topS 43) 8
abbrev s_Twists__square_samples : Stmt := inClass (topS 43) 9
abbrev s_Twists__swap_samples : Stmt := inClass (topS 43) 10
abbrev s_Realm_init : Stmt := inClass (topS 47) 0
abbrev s_Realm_everywhere : Stmt := inClass (topS 47) 1
abbrev s_Realm_commuting : Stmt := inClass (topS 47) 2
abbrev s_Realm_nowhere : Stmt := inClass (topS 47) 3
abbrev s_Realm_inverse : Stmt := inClass (topS 47) 4
abbrev s_Realm_ones : Stmt := inClass (topS 47) 5
abbrev s_Realm_swaps : Stmt := inClass (topS 47) 6
abbrev s_Realm_squares : Stmt := inClass (topS 47) 7
abbrev s_Realm_within : Stmt := inClass (topS 47) 8
abbrev s_Realm_has_inverse : Stmt := inClass (topS 47) 9
abbrev s_Realm_sample : Stmt := inClass (topS 47) 10
abbrev s_Realm_contains : Stmt := inClass (topS 47) 11
abbrev s_Realm_and : Stmt := inClass (topS 47) 12
abbrev s_Realm_or : Stmt := inClass (topS 47) 13
abbrev s_Realm_bool : Stmt := inClass (topS 47) 14
abbrev s_Realm_eq : Stmt := inClass (topS 47) 15
abbrev s_Realm_repr : Stmt := inClass (topS 47) 16
abbrev N_Ring_init : List Str := ["self", "parts", "numbers", "bases"]
theorem sc_Ring_init : FnScope N_Ring_init ["self", "parts", "numbers", "bases"] (defScope s_Ring_init) := ⟨rfl, rfl, rfl, by decide +kernel, rfl, by decide +kernel, by decide +kernel⟩
abbrev N_Ring_ones : List Str := ["self"]
theorem sc_Ring_ones : FnScope N_Ring_ones ["self"] (defScope s_Ring_ones) := ⟨rfl, rfl, rfl, by decide +kernel, rfl, by decide +kernel, by decide +kernel⟩
abbrev N_Ring_swaps : List Str := ["self"]
theorem sc_Ring_swaps : FnScope N_Ring_swaps ["self"] (defScope s_Ring_swaps) := ⟨rfl, rfl, rfl, by decide +kernel, rfl, by decide +kernel, by decide +kernel⟩
abbrev N_Ring_squares : List Str := ["self"]
theorem sc_Ring_squares : FnScope N_Ring_squares ["self"] (defScope s_Ring_squares) := ⟨rfl, rfl, rfl, by decide +kernel, rfl, by decide +kernel, by decide +kernel⟩
abbrev N_Ring_depth : List Str := ["self"]
theorem sc_Ring_depth : FnScope N_Ring_depth ["self"] (defScope s_Ring_depth) := ⟨rfl, rfl, rfl, by decide +kernel, rfl, by decide +kernel, by decide +kernel⟩
abbrev N_Ring_text : List Str := ["self", "word", "given", "part"]
theorem sc_Ring_text : FnScope N_Ring_text ["self"] (defScope s_Ring_text) := ⟨rfl, rfl, rfl, by decide +kernel, rfl, by decide +kernel, by decide +kernel⟩
abbrev N_Ring_has_inverse : List Str := ["self", "q", "base"]
theorem sc_Ring_has_inverse : FnScope N_Ring_has_inverse ["self", "q"] (defScope s_Ring_has_inverse) := ⟨rfl, rfl, rfl, by decide +kernel, rfl, by decide +kernel, by decide +kernel⟩
abbrev N_Ring_size : List Str := ["self"]
theorem sc_Ring_size : FnScope N_Ring_size ["self"] (defScope s_Ring_size) := ⟨rfl, rfl, rfl, by decide +kernel, rfl, by decide +kernel, by decide +kernel⟩
abbrev N_Ring_is_thing : List Str := ["self", "value"]
theorem sc_Ring_is_thing : FnScope N_Ring_is_thing ["self", "value"] (defScope s_Ring_is_thing) := ⟨rfl, rfl, rfl, by decide +kernel, rfl, by decide +kernel, by decide +kernel⟩
abbrev N_Ring_zero : List Str := ["self"]
theorem sc_Ring_zero : FnScope N_Ring_zero ["self"] (defScope s_Ring_zero) := ⟨rfl, rfl, rfl, by decide +kernel, rfl, by decide +kernel, by decide +kernel⟩
abbrev N_Ring_one : List Str := ["self"]
theorem sc_Ring_one : FnScope N_Ring_one ["self"] (defScope s_Ring_one) := ⟨rfl, rfl, rfl, by decide +kernel, rfl, by decide +kernel, by decide +kernel⟩
abbrev N_Ring_plus : List Str := ["self", "x", "y"]
theorem sc_Ring_plus : FnScope N_Ring_plus ["self", "x", "y"] (defScope s_Ring_plus) := ⟨rfl, rfl, rfl, by decide +kernel, rfl, by decide +kernel, by decide +kernel⟩
abbrev N_Ring_minus : List Str := ["self", "x", "y"]
theorem sc_Ring_minus : FnScope N_Ring_minus ["self", "x", "y"] (defScope s_Ring_minus) := ⟨rfl, rfl, rfl, by decide +kernel, rfl, by decide +kernel, by decide +kernel⟩
abbrev N_Ring_product : List Str := ["self", "x", "y"]
theorem sc_Ring_product : FnScope N_Ring_product ["self", "x", "y"] (defScope s_Ring_product) := ⟨rfl, rfl, rfl, by decide +kernel, rfl, by decide +kernel, by decide +kernel⟩
abbrev N_Ring_negative : List Str := ["self", "x"]
theorem sc_Ring_negative : FnScope N_Ring_negative ["self", "x"] (defScope s_Ring_negative) := ⟨rfl, rfl, rfl, by decide +kernel, rfl, by decide +kernel, by decide +kernel⟩
abbrev N_Ring_times : List Str := ["self", "k", "x"]
theorem sc_Ring_times : FnScope N_Ring_times ["self", "k", "x"] (defScope s_Ring_times) := ⟨rfl, rfl, rfl, by decide +kernel, rfl, by decide +kernel, by decide +kernel⟩
abbrev N_Ring_share : List Str := ["self", "p", "q"]
theorem sc_Ring_share : FnScope N_Ring_share ["self", "p", "q"] (defScope s_Ring_share) := ⟨rfl, rfl, rfl, by decide +kernel, rfl, by decide +kernel, by decide +kernel⟩
abbrev N_Ring_square_breaker : List Str := ["self", "k"]
theorem sc_Ring_square_breaker : FnScope N_Ring_square_breaker ["self", "k"] (defScope s_Ring_square_breaker) := ⟨rfl, rfl, rfl, by decide +kernel, rfl, by decide +kernel, by decide +kernel⟩
abbrev N_Ring_swap_breaker : List Str := ["self", "k"]
theorem sc_Ring_swap_breaker : FnScope N_Ring_swap_breaker ["self", "k"] (defScope s_Ring_swap_breaker) := ⟨rfl, rfl, rfl, by decide +kernel, rfl, by decide +kernel, by decide +kernel⟩
abbrev N_Ring_things : List Str := ["self", "size"]
abbrev N_Ring_eq : List Str := ["self", "other"]
theorem sc_Ring_eq : FnScope N_Ring_eq ["self", "other"] (defScope s_Ring_eq) := ⟨rfl, rfl, rfl, by decide +kernel, rfl, by decide +kernel, by decide +kernel⟩
abbrev N_Ring_repr : List Str := ["self"]
theorem sc_Ring_repr : FnScope N_Ring_repr ["self"] (defScope s_Ring_repr) := ⟨rfl, rfl, rfl, by decide +kernel, rfl, by decide +kernel, by decide +kernel⟩
abbrev N_Ring__check : List Str := ["self", "given", "value"]
theorem sc_Ring__check : FnScope N_Ring__check ["self", "given"] (defScope s_Ring__check) := ⟨rfl, rfl, rfl, by decide +kernel, rfl, by decide +kernel, by decide +kernel⟩
abbrev N_Ring__minus : List Str := ["self", "x", "y"]
theorem sc_Ring__minus : FnScope N_Ring__minus ["self", "x", "y"] (defScope s_Ring__minus) := ⟨rfl, rfl, rfl, by decide +kernel, rfl, by decide +kernel, by decide +kernel⟩
abbrev N_Ring__scaled : List Str := ["self", "p", "q", "x"]
theorem sc_Ring__scaled : FnScope N_Ring__scaled ["self", "p", "q", "x"] (defScope s_Ring__scaled) := ⟨rfl, rfl, rfl, by decide +kernel, rfl, by decide +kernel, by decide +kernel⟩
abbrev N_Ring__swap_samples : List Str := ["self"]
theorem sc_Ring__swap_samples : FnScope N_Ring__swap_samples ["self"] (defScope s_Ring__swap_samples) := ⟨rfl, rfl, rfl, by decide +kernel, rfl, by decide +kernel, by decide +kernel⟩
abbrev N_Shares_size : List Str := ["self"]
theorem sc_Shares_size : FnScope N_Shares_size ["self"] (defScope s_Shares_size) := ⟨rfl, rfl, rfl, by decide +kernel, rfl, by decide +kernel, by decide +kernel⟩
abbrev N_Shares__plus : List Str := ["self", "x", "y"]
theorem sc_Shares__plus : FnScope N_Shares__plus ["self", "x", "y"] (defScope s_Shares__plus) := ⟨rfl, rfl, rfl, by decide +kernel, rfl, by decide +kernel, by decide +kernel⟩
abbrev N_Shares__product : List Str := ["self", "x", "y"]
theorem sc_Shares__product : FnScope N_Shares__product ["self", "x", "y"] (defScope s_Shares__product) := ⟨rfl, rfl, rfl, by decide +kernel, rfl, by decide +kernel, by decide +kernel⟩
abbrev N_Shares__times : List Str := ["self", "k", "x"]
theorem sc_Shares__times : FnScope N_Shares__times ["self", "k", "x"] (defScope s_Shares__times) := ⟨rfl, rfl, rfl, by decide +kernel, rfl, by decide +kernel, by decide +kernel⟩
abbrev N_Shares__share : List Str := ["self", "p", "q"]
theorem sc_Shares__share : FnScope N_Shares__share ["self", "p", "q"] (defScope s_Shares__share) := ⟨rfl, rfl, rfl, by decide +kernel, rfl, by decide +kernel, by decide +kernel⟩
abbrev N_Shares__square_samples : List Str := ["self"]
theorem sc_Shares__square_samples : FnScope N_Shares__square_samples ["self"] (defScope s_Shares__square_samples) := ⟨rfl, rfl, rfl, by decide +kernel, rfl, by decide +kernel, by decide +kernel⟩
abbrev N_Whole_init : List Str := ["self", "inverse"]
abbrev N_Whole_has_inverse : List Str := ["self", "q"]
theorem sc_Whole_has_inverse : FnScope N_Whole_has_inverse ["self", "q"] (defScope s_Whole_has_inverse) := ⟨rfl, rfl, rfl, by decide +kernel, rfl, by decide +kernel, by decide +kernel⟩
abbrev N_Whole_is_thing : List Str := ["self", "value"]
theorem sc_Whole_is_thing : FnScope N_Whole_is_thing ["self", "value"] (defScope s_Whole_is_thing) := ⟨rfl, rfl, rfl, by decide +kernel, rfl, by decide +kernel, by decide +kernel⟩
abbrev N_Whole__has_rests : List Str := ["self", "modulus"]
theorem sc_Whole__has_rests : FnScope N_Whole__has_rests ["self", "modulus"] (defScope s_Whole__has_rests) := ⟨rfl, rfl, rfl, by decide +kernel, rfl, by decide +kernel, by decide +kernel⟩
abbrev N_Whole__rest : List Str := ["self", "x", "modulus"]
theorem sc_Whole__rest : FnScope N_Whole__rest ["self", "x", "modulus"] (defScope s_Whole__rest) := ⟨rfl, rfl, rfl, by decide +kernel, rfl, by decide +kernel, by decide +kernel⟩
abbrev N_Rests_init : List Str := ["self", "modulus"]
abbrev N_Rests_size : List Str := ["self"]
theorem sc_Rests_size : FnScope N_Rests_size ["self"] (defScope s_Rests_size) := ⟨rfl, rfl, rfl, by decide +kernel, rfl, by decide +kernel, by decide +kernel⟩
abbrev N_Rests_is_thing : List Str := ["self", "value"]
theorem sc_Rests_is_thing : FnScope N_Rests_is_thing ["self", "value"] (defScope s_Rests_is_thing) := ⟨rfl, rfl, rfl, by decide +kernel, rfl, by decide +kernel, by decide +kernel⟩
abbrev N_Rests__plus : List Str := ["self", "x", "y"]
theorem sc_Rests__plus : FnScope N_Rests__plus ["self", "x", "y"] (defScope s_Rests__plus) := ⟨rfl, rfl, rfl, by decide +kernel, rfl, by decide +kernel, by decide +kernel⟩
abbrev N_Rests__product : List Str := ["self", "x", "y"]
theorem sc_Rests__product : FnScope N_Rests__product ["self", "x", "y"] (defScope s_Rests__product) := ⟨rfl, rfl, rfl, by decide +kernel, rfl, by decide +kernel, by decide +kernel⟩
abbrev N_Rests__times : List Str := ["self", "k", "x"]
theorem sc_Rests__times : FnScope N_Rests__times ["self", "k", "x"] (defScope s_Rests__times) := ⟨rfl, rfl, rfl, by decide +kernel, rfl, by decide +kernel, by decide +kernel⟩
abbrev N_Rests__share : List Str := ["self", "p", "q"]
theorem sc_Rests__share : FnScope N_Rests__share ["self", "p", "q"] (defScope s_Rests__share) := ⟨rfl, rfl, rfl, by decide +kernel, rfl, by decide +kernel, by decide +kernel⟩
abbrev N_Rests__has_rests : List Str := ["self", "modulus"]
theorem sc_Rests__has_rests : FnScope N_Rests__has_rests ["self", "modulus"] (defScope s_Rests__has_rests) := ⟨rfl, rfl, rfl, by decide +kernel, rfl, by decide +kernel, by decide +kernel⟩
abbrev N_Rests__rest : List Str := ["self", "x", "modulus"]
theorem sc_Rests__rest : FnScope N_Rests__rest ["self", "x", "modulus"] (defScope s_Rests__rest) := ⟨rfl, rfl, rfl, by decide +kernel, rfl, by decide +kernel, by decide +kernel⟩
abbrev N_Rests__listing : List Str := ["self"]
theorem sc_Rests__listing : FnScope N_Rests__listing ["self"] (defScope s_Rests__listing) := ⟨rfl, rfl, rfl, by decide +kernel, rfl, by decide +kernel, by decide +kernel⟩
abbrev N_Rests__square_samples : List Str := ["self"]
theorem sc_Rests__square_samples : FnScope N_Rests__square_samples ["self"] (defScope s_Rests__square_samples) := ⟨rfl, rfl, rfl, by decide +kernel, rfl, by decide +kernel, by decide +kernel⟩
abbrev N_Slotwise_init : List Str := ["self", "parts", "numbers", "slots", "marks"]
abbrev N_Slotwise_size : List Str := ["self", "slot"]
theorem sc_Slotwise_size : FnScope N_Slotwise_size ["self"] (defScope s_Slotwise_size) := ⟨rfl, rfl, rfl, by decide +kernel, rfl, by decide +kernel, by decide +kernel⟩
abbrev N_Slotwise_is_thing : List Str := ["self", "value", "slot", "part"]
theorem sc_Slotwise_is_thing : FnScope N_Slotwise_is_thing ["self", "value"] (defScope s_Slotwise_is_thing) := ⟨rfl, rfl, rfl, by decide +kernel, rfl, by decide +kernel, by decide +kernel⟩
abbrev N_Slotwise__plus : List Str := ["self", "x", "y", "slot", "a", "b"]
theorem sc_Slotwise__plus : FnScope N_Slotwise__plus ["self", "x", "y"] (defScope s_Slotwise__plus) := ⟨rfl, rfl, rfl, by decide +kernel, rfl, by decide +kernel, by decide +kernel⟩
abbrev N_Slotwise__times : List Str := ["self", "k", "x", "slot", "a"]
theorem sc_Slotwise__times : FnScope N_Slotwise__times ["self", "k", "x"] (defScope s_Slotwise__times) := ⟨rfl, rfl, rfl, by decide +kernel, rfl, by decide +kernel, by decide +kernel⟩
abbrev N_Slotwise__share : List Str := ["self", "p", "q", "slot", "mark"]
theorem sc_Slotwise__share : FnScope N_Slotwise__share ["self", "p", "q"] (defScope s_Slotwise__share) := ⟨rfl, rfl, rfl, by decide +kernel, rfl, by decide +kernel, by decide +kernel⟩
abbrev N_Slotwise__listing : List Str := ["self", "slot"]
theorem sc_Slotwise__listing : FnScope N_Slotwise__listing ["self"] (defScope s_Slotwise__listing) := ⟨rfl, rfl, rfl, by decide +kernel, rfl, by decide +kernel, by decide +kernel⟩
abbrev N_Slotwise__placed : List Str := ["self", "at", "thing", "k", "slot"]
theorem sc_Slotwise__placed : FnScope N_Slotwise__placed ["self", "at", "thing"] (defScope s_Slotwise__placed) := ⟨rfl, rfl, rfl, by decide +kernel, rfl, by decide +kernel, by decide +kernel⟩
abbrev N_Slotwise__unit : List Str := ["self", "at"]
theorem sc_Slotwise__unit : FnScope N_Slotwise__unit ["self", "at"] (defScope s_Slotwise__unit) := ⟨rfl, rfl, rfl, by decide +kernel, rfl, by decide +kernel, by decide +kernel⟩
abbrev N_Extended_init : List Str := ["self", "parts", "square", "base"]
abbrev N_Extended__product : List Str := ["self", "x", "y", "base", "a", "b", "c", "d", "squared"]
theorem sc_Extended__product : FnScope N_Extended__product ["self", "x", "y"] (defScope s_Extended__product) := ⟨rfl, rfl, rfl, by decide +kernel, rfl, by decide +kernel, by decide +kernel⟩
abbrev N_Extended__square_samples : List Str := ["self"]
theorem sc_Extended__square_samples : FnScope N_Extended__square_samples ["self"] (defScope s_Extended__square_samples) := ⟨rfl, rfl, rfl, by decide +kernel, rfl, by decide +kernel, by decide +kernel⟩
abbrev N_Extended__swap_samples : List Str := ["self", "x", "y"]
theorem sc_Extended__swap_samples : FnScope N_Extended__swap_samples ["self"] (defScope s_Extended__swap_samples) := ⟨rfl, rfl, rfl, by decide +kernel, rfl, by decide +kernel, by decide +kernel⟩
abbrev N_Duals_init : List Str := ["self", "base"]
abbrev N_Twists_init : List Str := ["self", "part", "base"]
abbrev N_Twists_size : List Str := ["self", "side"]
theorem sc_Twists_size : FnScope N_Twists_size ["self"] (defScope s_Twists_size) := ⟨rfl, rfl, rfl, by decide +kernel, rfl, by decide +kernel, by decide +kernel⟩
abbrev N_Twists_is_thing : List Str := ["self", "value", "side"]
theorem sc_Twists_is_thing : FnScope N_Twists_is_thing ["self", "value"] (defScope s_Twists_is_thing) := ⟨rfl, rfl, rfl, by decide +kernel, rfl, by decide +kernel, by decide +kernel⟩
abbrev N_Twists__plus : List Str := ["self", "x", "y", "sides", "a", "b"]
theorem sc_Twists__plus : FnScope N_Twists__plus ["self", "x", "y"] (defScope s_Twists__plus) := ⟨rfl, rfl, rfl, by decide +kernel, rfl, by decide +kernel, by decide +kernel⟩
abbrev N_Twists__product : List Str := ["self", "x", "y", "base", "a", "b", "c", "_", "d", "f", "g"]
theorem sc_Twists__product : FnScope N_Twists__product ["self", "x", "y"] (defScope s_Twists__product) := ⟨rfl, rfl, rfl, by decide +kernel, rfl, by decide +kernel, by decide +kernel⟩
abbrev N_Twists__rest : List Str := ["self", "thing"]
theorem sc_Twists__rest : FnScope N_Twists__rest ["self", "thing"] (defScope s_Twists__rest) := ⟨rfl, rfl, rfl, by decide +kernel, rfl, by decide +kernel, by decide +kernel⟩
abbrev N_Twists__times : List Str := ["self", "k", "x", "sides", "a"]
theorem sc_Twists__times : FnScope N_Twists__times ["self", "k", "x"] (defScope s_Twists__times) := ⟨rfl, rfl, rfl, by decide +kernel, rfl, by decide +kernel, by decide +kernel⟩
abbrev N_Twists__share : List Str := ["self", "p", "q", "zero"]
theorem sc_Twists__share : FnScope N_Twists__share ["self", "p", "q"] (defScope s_Twists__share) := ⟨rfl, rfl, rfl, by decide +kernel, rfl, by decide +kernel, by decide +kernel⟩
abbrev N_Twists__listing : List Str := ["self", "side"]
theorem sc_Twists__listing : FnScope N_Twists__listing ["self"] (defScope s_Twists__listing) := ⟨rfl, rfl, rfl, by decide +kernel, rfl, by decide +kernel, by decide +kernel⟩
abbrev N_Twists__square_samples : List Str := ["self", "zero"]
theorem sc_Twists__square_samples : FnScope N_Twists__square_samples ["self"] (defScope s_Twists__square_samples) := ⟨rfl, rfl, rfl, by decide +kernel, rfl, by decide +kernel, by decide +kernel⟩
abbrev N_Twists__swap_samples : List Str := ["self", "zero", "one"]
theorem sc_Twists__swap_samples : FnScope N_Twists__swap_samples ["self"] (defScope s_Twists__swap_samples) := ⟨rfl, rfl, rfl, by decide +kernel, rfl, by decide +kernel, by decide +kernel⟩
abbrev N_Realm_init : List Str := ["self", "inverse", "ones", "swaps", "squares", "primes", "number"]
theorem sc_Realm_init : FnScope N_Realm_init ["self", "inverse", "ones", "swaps", "squares"] (defScope s_Realm_init) := ⟨rfl, rfl, rfl, by decide +kernel, rfl, by decide +kernel, by decide +kernel⟩
abbrev N_Realm_everywhere : List Str := []
theorem sc_Realm_everywhere : FnScope N_Realm_everywhere [] (defScope s_Realm_everywhere) := ⟨rfl, rfl, rfl, by decide +kernel, rfl, by decide +kernel, by decide +kernel⟩
abbrev N_Realm_commuting : List Str := []
theorem sc_Realm_commuting : FnScope N_Realm_commuting [] (defScope s_Realm_commuting) := ⟨rfl, rfl, rfl, by decide +kernel, rfl, by decide +kernel, by decide +kernel⟩
abbrev N_Realm_nowhere : List Str := []
theorem sc_Realm_nowhere : FnScope N_Realm_nowhere [] (defScope s_Realm_nowhere) := ⟨rfl, rfl, rfl, by decide +kernel, rfl, by decide +kernel, by decide +kernel⟩
abbrev N_Realm_inverse : List Str := ["self"]
theorem sc_Realm_inverse : FnScope N_Realm_inverse ["self"] (defScope s_Realm_inverse) := ⟨rfl, rfl, rfl, by decide +kernel, rfl, by decide +kernel, by decide +kernel⟩
abbrev N_Realm_ones : List Str := ["self"]
theorem sc_Realm_ones : FnScope N_Realm_ones ["self"] (defScope s_Realm_ones) := ⟨rfl, rfl, rfl, by decide +kernel, rfl, by decide +kernel, by decide +kernel⟩
abbrev N_Realm_swaps : List Str := ["self"]
theorem sc_Realm_swaps : FnScope N_Realm_swaps ["self"] (defScope s_Realm_swaps) := ⟨rfl, rfl, rfl, by decide +kernel, rfl, by decide +kernel, by decide +kernel⟩
abbrev N_Realm_squares : List Str := ["self"]
theorem sc_Realm_squares : FnScope N_Realm_squares ["self"] (defScope s_Realm_squares) := ⟨rfl, rfl, rfl, by decide +kernel, rfl, by decide +kernel, by decide +kernel⟩
abbrev N_Realm_within : List Str := ["self", "other"]
theorem sc_Realm_within : FnScope N_Realm_within ["self", "other"] (defScope s_Realm_within) := ⟨rfl, rfl, rfl, by decide +kernel, rfl, by decide +kernel, by decide +kernel⟩
abbrev N_Realm_has_inverse : List Str := ["self", "q"]
theorem sc_Realm_has_inverse : FnScope N_Realm_has_inverse ["self", "q"] (defScope s_Realm_has_inverse) := ⟨rfl, rfl, rfl, by decide +kernel, rfl, by decide +kernel, by decide +kernel⟩
abbrev N_Realm_sample : List Str := ["self"]
theorem sc_Realm_sample : FnScope N_Realm_sample ["self"] (defScope s_Realm_sample) := ⟨rfl, rfl, rfl, by decide +kernel, rfl, by decide +kernel, by decide +kernel⟩
abbrev N_Realm_contains : List Str := ["self", "x"]
theorem sc_Realm_contains : FnScope N_Realm_contains ["self", "x"] (defScope s_Realm_contains) := ⟨rfl, rfl, rfl, by decide +kernel, rfl, by decide +kernel, by decide +kernel⟩
abbrev N_Realm_and : List Str := ["self", "other"]
theorem sc_Realm_and : FnScope N_Realm_and ["self", "other"] (defScope s_Realm_and) := ⟨rfl, rfl, rfl, by decide +kernel, rfl, by decide +kernel, by decide +kernel⟩
abbrev N_Realm_or : List Str := ["self", "other"]
theorem sc_Realm_or : FnScope N_Realm_or ["self", "other"] (defScope s_Realm_or) := ⟨rfl, rfl, rfl, by decide +kernel, rfl, by decide +kernel, by decide +kernel⟩
abbrev N_Realm_bool : List Str := ["self"]
theorem sc_Realm_bool : FnScope N_Realm_bool ["self"] (defScope s_Realm_bool) := ⟨rfl, rfl, rfl, by decide +kernel, rfl, by decide +kernel, by decide +kernel⟩
abbrev N_Realm_eq : List Str := ["self", "other"]
theorem sc_Realm_eq : FnScope N_Realm_eq ["self", "other"] (defScope s_Realm_eq) := ⟨rfl, rfl, rfl, by decide +kernel, rfl, by decide +kernel, by decide +kernel⟩
abbrev N_Realm_repr : List Str := ["self"]
theorem sc_Realm_repr : FnScope N_Realm_repr ["self"] (defScope s_Realm_repr) := ⟨rfl, rfl, rfl, by decide +kernel, rfl, by decide +kernel, by decide +kernel⟩
structure Blt (mg : Str → Option Value) : Prop where
  ValueError : mg "ValueError" = none
  abs : mg "abs" = none
  all : mg "all" = none
  bool : mg "bool" = none
  divmod : mg "divmod" = none
  enumerate : mg "enumerate" = none
  int : mg "int" = none
  isinstance : mg "isinstance" = none
  len : mg "len" = none
  list : mg "list" = none
  max : mg "max" = none
  range : mg "range" = none
  str : mg "str" = none
  tuple : mg "tuple" = none
  zip : mg "zip" = none
theorem bb_ValueError : bootBuiltins "ValueError" = some (.type "ValueError") := by decide +kernel
theorem bb_abs : bootBuiltins "abs" = some (.builtin "abs") := by decide +kernel
theorem bb_all : bootBuiltins "all" = some (.builtin "all") := by decide +kernel
theorem bb_bool : bootBuiltins "bool" = some (.type "bool") := by decide +kernel
theorem bb_divmod : bootBuiltins "divmod" = some (.builtin "divmod") := by decide +kernel
theorem bb_enumerate : bootBuiltins "enumerate" = some (.type "enumerate") := by decide +kernel
theorem bb_int : bootBuiltins "int" = some (.type "int") := by decide +kernel
theorem bb_isinstance : bootBuiltins "isinstance" = some (.builtin "isinstance") := by decide +kernel
theorem bb_len : bootBuiltins "len" = some (.builtin "len") := by decide +kernel
theorem bb_list : bootBuiltins "list" = some (.type "list") := by decide +kernel
theorem bb_max : bootBuiltins "max" = some (.builtin "max") := by decide +kernel
theorem bb_range : bootBuiltins "range" = some (.type "range") := by decide +kernel
theorem bb_str : bootBuiltins "str" = some (.type "str") := by decide +kernel
theorem bb_tuple : bootBuiltins "tuple" = some (.type "tuple") := by decide +kernel
theorem bb_zip : bootBuiltins "zip" = some (.type "zip") := by decide +kernel
/-! ### an own def by its name -/
structure Has (P : Program) (w : World) (K : PySem.W.Frag) (mg : Str → Option Value) (base : Heap) (k : Nat) (x : Str) (ps : List Str) (sp : Sp) : Prop where
  ex : ∃ (f : Addr) (fd : FuncData), FnOk P w K mg base CX0 k f fd ps sp ∧ mg x = some (.ref f) ∧ PySem.W.keepIn K (.ref f) = true ∧ Binds K fd ps []
structure Fn (K : PySem.W.Frag) (mg : Str → Option Value) (x : Str) (st : Stmt) (ps : List Str) : Prop where
  ex : ∃ (f : Addr) (fd : FuncData), Fun K x x st f fd ∧ mg x = some (.ref f) ∧ Binds K fd ps []
section
variable {X : Cx} {k : Nat} {x : Str} {ps : List Str} {sp : Sp} {p pos : Pos} {e : Expr} {es : List Expr} {t : TA}
theorem pe_own (h : Has X.prog X.w X.K X.mg X.base k x ps sp) (hr : Room k X.A) (hg : Gl X x) (ha : PA X (e :: es) t) (hdb : (x == ("__debug__" : Str)) = false := by decide)
    (he : starEach (e :: es) X.env = (false, eval e X.env) :: starEach es X.env := by rfl) (hpl : (backTo pos (starEach es X.env)).any (·.1) = false := by rfl) : PE X (.Call (.Name x p) (e :: es) [] pos) (tCall sp [] E0 t) := by
  obtain ⟨f, fd, F, m, kp, b⟩ := h.ex
  exact pe_call F hr hg m kp b .nil pass0 ha hdb he hpl
theorem pe_own0 (h : Has X.prog X.w X.K X.mg X.base k x ps sp) (hr : Room k X.A) (hg : Gl X x) (hdb : (x == ("__debug__" : Str)) = false := by decide) : PE X (.Call (.Name x p) [] [] pos) (tCall sp [] E0 tNil) := by
  obtain ⟨f, fd, F, m, kp, b⟩ := h.ex
  exact pe_call0 F hr hg m kp b .nil pass0 hdb
theorem pe_gstr {z : Str} (h : ∃ u, X.mg x = some (.str z u)) (hg : Gl X x) (hdb : (x == ("__debug__" : Str)) = false := by decide) : PE X (.Name x pos) (tC (.str z)) := by
  obtain ⟨u, h⟩ := h
  exact pe_glob hg h ⟨_, rfl⟩ hdb
theorem pe_gint {z : Int} (h : ∃ u, X.mg x = some (.int z u)) (hg : Gl X x) (hdb : (x == ("__debug__" : Str)) = false := by decide) : PE X (.Name x pos) (tC (.int z)) := by
  obtain ⟨u, h⟩ := h
  exact pe_glob hg h ⟨_, rfl⟩ hdb
theorem pe_gref {a : Addr} (h : X.mg x = some (.ref a)) (hg : Gl X x) (hdb : (x == ("__debug__" : Str)) = false := by decide) : PE X (.Name x pos) (tC (.ref a)) := pe_glob hg h rfl hdb
end
section
variable {P : Program} {w : World} {K : PySem.W.Frag} {mg : Str → Option Value} {base : Heap}
theorem Fn.has {x : Str} {st : Stmt} {N ps : List Str} {k : Nat} {sp : Sp} (F : Fn K mg x st ps) (S : FnScope N ps (defScope st)) (len : ∀ vs H Q E, sp vs H Q E → vs.length = ps.length)
    (hbody : ∀ (f : Addr) (cdv : Value) (A : Around) (outer : List Env) (s : Shared) (H : Hp) (vs : List V) (Q : VK) (E : XK), Room k (A.deeper (envOfC x (defScope st) s.heap.objs.size f cdv)) → sp vs H Q E →
      ∃ t, PSs (cxOf CX0 P w K mg base N x (defScope st) f cdv A outer s H E).nox (defBody st) t ∧ t { nx := fun _ H' => Q .non H', rt := Q } (start N vs) H) : Has P w K mg base (k + 1) x ps sp := by
  obtain ⟨f, fd, F, m, b⟩ := F.ex
  exact ⟨f, fd, F.ok S len (hbody f), m, F.kp, b⟩
end
/-! ### heaps -/
theorem same_upd {H : Hp} {p : Addr} {o : HO} (h : H p = none) : Same H (upd H p o) := fun b x e => by
  rw [upd_ne (ne_of_none e h)]
  exact e
/-- all that was tracked is as it was, but for b -/
def Kp (b : Addr) (H H' : Hp) : Prop := ∀ a o, a ≠ b → H a = some o → H' a = some o
theorem Kp.refl (b : Addr) (H : Hp) : Kp b H H := fun _ _ _ h => h
theorem Kp.trans {b : Addr} {H H1 H2 : Hp} (x : Kp b H H1) (y : Kp b H1 H2) : Kp b H H2 := fun a o n h => y a o n (x a o n h)
theorem Kp.of {b : Addr} {H H' : Hp} (s : Same H H') : Kp b H H' := fun a o _ h => s a o h
theorem Kp.upd {b : Addr} {H : Hp} {o : HO} : Kp b H (upd H b o) := fun a u n h => by rw [upd_ne n]; exact h
/-! ### the bag -/
structure BgAt (H : Hp) (b c : Addr) (ns : List Int) (i r m : Int) : Prop where
  hb : H b = some (.lst [.ref c, .int i, .int r, .int m])
  hc : H c = some (.lst (ns.map V.int))
  len : ns.length ≤ 63
  i0 : 0 ≤ i
  r0 : 0 ≤ r
  m0 : 0 ≤ m
  m1 : m < 2147483648
def Bg (H : Hp) (b c : Addr) : Prop := ∃ ns i r m, BgAt H b c ns i r m
theorem bg_ne {H : Hp} {b c : Addr} {x : V} {r : List V} {ns : List Int} {a : Addr} (hb : H b = some (.lst (.ref a :: r))) (hc : H c = some (.lst (ns.map V.int))) : c ≠ b := by
  refine ne_of hc hb fun e => ?_
  cases ns with
  | nil => cases e
  | cons n t => cases e
theorem BgAt.ne {H : Hp} {b c : Addr} {ns : List Int} {i r m : Int} (h : BgAt H b c ns i r m) : c ≠ b := bg_ne (x := .non) h.hb h.hc
theorem BgAt.put {H : Hp} {b c : Addr} {ns : List Int} {i r m i' r' m' : Int} (h : BgAt H b c ns i r m) (i0 : 0 ≤ i') (r0 : 0 ≤ r') (m0 : 0 ≤ m') (m1 : m' < 2147483648) :
    BgAt (upd H b (.lst [.ref c, .int i', .int r', .int m'])) b c ns i' r' m' := ⟨upd_same, by rw [upd_ne h.ne]; exact h.hc, h.len, i0, r0, m0, m1⟩
theorem Bg.same {H H' : Hp} {b c : Addr} (h : Bg H b c) (s : Same H H') : Bg H' b c := by
  obtain ⟨ns, i, r, m, h⟩ := h
  exact ⟨ns, i, r, m, s _ _ h.hb, s _ _ h.hc, h.len, h.i0, h.r0, h.m0, h.m1⟩
theorem Bg.kp {H H' : Hp} {b c d : Addr} (h : Bg H b c) (hd : d ≠ b) (hc : d ≠ c) (s : Kp d H H') : Bg H' b c := by
  obtain ⟨ns, i, r, m, h⟩ := h
  exact ⟨ns, i, r, m, s _ _ hd.symm h.hb, s _ _ hc.symm h.hc, h.len, h.i0, h.r0, h.m0, h.m1⟩
theorem cut63 {xs : List V} (h : xs.length ≤ 63) : cutV xs none (some 63) = xs := by
  unfold cutV
  rw [HT.sIx_none, show HT.sIx xs.length xs.length (some 63) = min 63 xs.length from HT.sIx_nat xs.length xs.length 63, List.drop_zero, Nat.sub_zero]
  exact List.take_of_length_le (by omega)
theorem at_ofG {α : Type} {xs : List α} {z : Int} {j : Nat} {v : α} (e : z = (j : Int)) (h : xs[j]? = some v) : atI xs z = some v := by
  rw [e]
  exact atI_nat h
def spBag (K : PySem.W.Frag) : Sp := fun vs H Q _ => ∃ (a : Addr) (ns : List Int), vs = [.ref a] ∧ SqL K H a (ns.map V.int) ∧ ns.length ≤ 63 ∧ ∀ (b c : Addr) (H' : Hp), Same H H' → H b = none → Bg H' b c → Q (.ref b) H'
def spDraw : Sp := fun vs H Q _ => ∃ (b c : Addr) (many : Int), vs = [.ref b, .int many] ∧ Bg H b c ∧ 1 ≤ many ∧ many < 2 ^ 200 ∧ ∀ (v : Int) (H' : Hp), 0 ≤ v → v < many → Kp b H H' → Bg H' b c → Q (.int v) H'
section
variable {P : Program} {w : World} {K : PySem.W.Frag} {mg : Str → Option Value} {base : Heap}
theorem ok_bag (F : Fn K mg "_law_bag" s_l_bag ["_law_script"]) (B : Blt mg) : Has P w K mg base 1 "_law_bag" ["_law_script"] (spBag K) := by
  refine F.has sc_l_bag (fun vs H Q E h => ?_) (fun f cdv A outer s H vs Q E hr h => ?_)
  · obtain ⟨a, ns, rfl, _⟩ := h
    rfl
  obtain ⟨a, ns, rfl, hS, hl, q⟩ := h
  refine ⟨_, (pss_cons (ps_set (i := 1) sc_l_bag.nd rfl (Or.inl rfl) (pe_callTy call_list_of (by rfl) B.list bb_list (pa_cons (pe_slice sl_list (pv 0) po_none (po_some pe_int)) pa_nil)))
      (pss_one (ps_ret (pe_lst (pa_cons (pv 1) (pa_cons pe_int (pa_cons pe_int (pa_cons (pe_op op_add pe_int (pe_op op_mul pe_int (pe_callB call_len (by rfl) B.len bb_len (pa_cons (pv 1) pa_nil)))) pa_nil)))))))), ?_⟩
  have hl' : (ns.map V.int).length ≤ 63 := by rw [List.length_map]; exact hl
  refine ⟨_, rfl, 63, rfl, a, _, rfl, hS, fun p hp => ?_⟩
  rw [cut63 hl']
  refine ⟨p, _, rfl, .inl (SqL.of upd_same), fun c hc => ?_⟩
  have sm : Same H (upd (upd H p (.lst (ns.map V.int))) c (.lst (ns.map V.int))) := (same_upd hp).trans (same_upd hc)
  refine ⟨_, rfl, _, rfl, .ref c, _, rfl, .inl ⟨_, SqL.of upd_same, rfl⟩, _, _, rfl, rfl, .inl ⟨by decide, by decide⟩, _, _, rfl, rfl, (by show 4 ≤ sizeLine; decide), fun b hb => ?_⟩
  refine q b c _ (sm.trans (same_upd hb)) (sm.free hb) ⟨ns, 0, 0, _, upd_same, ?_, hl, Int.le_refl _, Int.le_refl _, ?_, ?_⟩
  · rw [upd_ne (ne_of_none upd_same hb)]
    exact upd_same
  · omega
  · rw [List.length_map]
    omega
theorem div200 {y z : Int} (h : 1 ≤ z) (h2 : z < 2 ^ 200) : CDivW y z := by
  refine wide_div (b := 200) (by omega) ?_ (by decide) (by decide)
  omega
theorem ok_draw (F : Fn K mg "_law_draw" s_l_draw ["_law_bag_here", "_law_many"]) (B : Blt mg) : Has P w K mg base 1 "_law_draw" ["_law_bag_here", "_law_many"] spDraw := by
  refine F.has sc_l_draw (fun vs H Q E h => ?_) (fun f cdv A outer s H vs Q E hr h => ?_)
  · obtain ⟨a, c, ns, rfl, _⟩ := h
    rfl
  obtain ⟨b, c, many, rfl, hB, h1, h2, q⟩ := h
  refine ⟨_, (C8.pss_cut (ps_if (PW.pt (pw_and (pt_cmpR op_eq (pe_ix ix_list (pv 0) pe_int (fun _ _ => rfl)) pe_int (nomark _)) (pw_and1 (pt_cmpR op_lt (pe_ix ix_list (pv 0) pe_int (fun _ _ => rfl)) (pe_callB call_len (by rfl) B.len bb_len (pa_cons (pe_ix ix_list (pv 0) pe_int (fun _ _ => rfl)) pa_nil)) (nomark _)))))
        (pss_cons (ps_set (i := 2) sc_l_draw.nd rfl (Or.inl rfl) (pe_ix ix_list (pe_ix ix_list (pv 0) pe_int (fun _ _ => rfl)) (pe_ix ix_list (pv 0) pe_int (fun _ _ => rfl)) (fun _ _ => rfl)))
      (pss_cons (ps_asg (pe_op op_add (pe_ix ix_list (pv 0) pe_int (fun _ _ => rfl)) pe_int) (pg_sub (pv 0) pe_int set_list))
      (pss_one (ps_if (pt_cmpR op_ge (pe_callB call_abs (by rfl) B.abs bb_abs (pa_cons (pv 2) pa_nil)) (pe_op op_pow pe_int pe_int) (nomark _))
        (pss_one (ps_asg (pe_callB call_abs (by rfl) B.abs bb_abs (pa_cons (pv 2) pa_nil)) (pg_sub (pv 0) pe_int set_list)))
        (pss_one (ps_asg (pe_op op_mod (pe_callTy call_int1 (by rfl) B.int bb_int (pa_cons (pe_op op_add (pe_op op_add (pe_op op_mul (pe_ix ix_list (pv 0) pe_int (fun _ _ => rfl)) pe_int) (pe_op op_mul (pe_op op_mod (pe_callTy call_int1 (by rfl) B.int bb_int (pa_cons (pv 2) pa_nil)) pe_int) pe_int)) pe_int) pa_nil)) pe_int) (pg_sub (pv 0) pe_int set_list)))))))
        pss_nil)
      (pss_cons (ps_if (pt_cmpR op_gt (pe_ix ix_list (pv 0) pe_int (fun _ _ => rfl)) pe_int (nomark _))
        (pss_cons (ps_set (i := 3) sc_l_draw.nd rfl (Or.inl rfl) (pe_op op_mod (pe_callTy call_int1 (by rfl) B.int bb_int (pa_cons (pe_ix ix_list (pv 0) pe_int (fun _ _ => rfl)) pa_nil)) (pv 1)))
      (pss_cons (ps_asg (pe_op op_fdivW (pe_ix ix_list (pv 0) pe_int (fun _ _ => rfl)) (pv 1)) (pg_sub (pv 0) pe_int set_list))
      (pss_one (ps_ret (pv 3)))))
        pss_nil)
      (pss_cons (ps_asg (pe_op op_mod (pe_callTy call_int1 (by rfl) B.int bb_int (pa_cons (pe_op op_add (pe_op op_add (pe_op op_mul (pe_op op_mul (pe_ix ix_list (pv 0) pe_int (fun _ _ => rfl)) (pe_ix ix_list (pv 0) pe_int (fun _ _ => rfl))) pe_int) (pe_op op_mul (pe_ix ix_list (pv 0) pe_int (fun _ _ => rfl)) pe_int)) pe_int) pa_nil)) pe_int) (pg_sub (pv 0) pe_int set_list))
      (pss_one (ps_ret (pe_op op_mod (pe_callTy call_int1 (by rfl) B.int bb_int (pa_cons (pe_op op_fdiv (pe_ix ix_list (pv 0) pe_int (fun _ _ => rfl)) pe_int) pa_nil)) (pv 1))))))), ?_⟩
  refine ⟨fun σ' H' => ∃ y, σ' = [some (.ref b), some (.int many), y, none] ∧ Kp b H H' ∧ Bg H' b c, ?_, ?_⟩
  · obtain ⟨ns, i, r, m, g⟩ := hB
    refine ⟨_, rfl, b, _, 2, _, rfl, rfl, SqL.of g.hb, atI_nat (j := 2) rfl, rfl, _, rfl, ite2 (fun e => ?_) (fun e => ?_)⟩
    · refine ⟨_, rfl, b, _, 1, _, rfl, rfl, SqL.of g.hb, atI_nat (j := 1) rfl, _, rfl, b, _, 0, _, rfl, rfl, SqL.of g.hb, atI_nat (j := 0) rfl, .ref c, _, rfl, .inl ⟨_, SqL.of g.hc, rfl⟩, _, _, rfl, rfl, _, rfl, ite2 (fun e2 => ?_) (fun e2 => ?_)⟩
      · have hi : i < ((ns.map V.int).length : Int) := of_decide_eq_true e2
        rw [List.length_map] at hi
        have i0 := g.i0
        obtain ⟨x, hx⟩ : ∃ x : Int, atI (ns.map V.int) i = some (.int x) := by
          have hk : i.toNat < ns.length := by omega
          have ek : i = ((i.toNat : Nat) : Int) := by omega
          exact ⟨ns[i.toNat], at_of ek (by rw [List.getElem?_map]; simp [hk])⟩
        refine ⟨_, rfl, b, _, 0, _, rfl, rfl, SqL.of g.hb, atI_nat (j := 0) rfl, _, rfl, b, _, 1, _, rfl, rfl, SqL.of g.hb, atI_nat (j := 1) rfl, c, _, i, .int x, rfl, rfl, SqL.of g.hc, hx, ?_⟩
        refine ⟨_, rfl, b, _, 1, _, rfl, rfl, SqL.of g.hb, atI_nat (j := 1) rfl, _, _, rfl, rfl, _, rfl, b, _, 1, 1, rfl, rfl, g.hb, rfl, ?_⟩
        have g1 := g.put (i' := i + 1) (r' := r) (m' := m) (by omega) g.r0 g.m0 g.m1
        refine ⟨_, rfl, x, rfl, _, _, rfl, rfl, ⟨by decide, by decide, by decide⟩, _, _, rfl, rfl, _, rfl, ite2 (fun e3 => ?_) (fun e3 => ?_)⟩
        · refine ⟨_, rfl, x, rfl, _, rfl, b, _, 2, 2, rfl, rfl, g1.hb, rfl, ?_⟩
          refine ⟨_, rfl, Kp.upd.trans Kp.upd, ns, i + 1, _, m, g1.put g1.i0 ?_ g1.m0 g1.m1⟩
          split <;> omega
        · refine ⟨_, rfl, b, _, 3, _, rfl, rfl, SqL.of g1.hb, atI_nat (j := 3) rfl, _, _, rfl, rfl, .inr ⟨by decide, by decide⟩, _, rfl, .inl ⟨_, rfl, _, _, rfl, rfl, (show (0 : Int) < 1000171 by decide), _, _, rfl, rfl, .inr ⟨by decide, by decide⟩, _, _, rfl, rfl, _, _, rfl, rfl, .inl ⟨_, rfl, _, _, rfl, rfl, (show (0 : Int) < 2147483563 by decide), _, rfl, b, _, 3, 3, rfl, rfl, g1.hb, rfl, ?_⟩⟩⟩
          refine ⟨_, rfl, Kp.upd.trans Kp.upd, ns, i + 1, r, _, g1.put g1.i0 g1.r0 (Int.emod_nonneg _ (by decide)) ?_⟩
          have z := Int.emod_lt_of_pos (m * 41177 + x % 1000171 * 907 + 59) (show (0 : Int) < 2147483563 by decide)
          omega
      · exact ⟨_, rfl, Kp.refl _ _, ns, i, r, m, g⟩
    · exact ⟨_, rfl, Kp.refl _ _, ns, i, r, m, g⟩
  · rintro σ' H' ⟨y, rfl, kp, ns, i, r, m, g⟩
    refine ⟨_, rfl, b, _, 2, _, rfl, rfl, SqL.of g.hb, atI_nat (j := 2) rfl, _, _, rfl, rfl, _, rfl, ite2 (fun e => ?_) (fun e => ?_)⟩
    · have hm : 0 < many := by omega
      refine ⟨_, rfl, b, _, 2, _, rfl, rfl, SqL.of g.hb, atI_nat (j := 2) rfl, .inl ⟨_, rfl, _, rfl, _, _, rfl, rfl, hm, ?_⟩⟩
      refine ⟨_, rfl, b, _, 2, _, rfl, rfl, SqL.of g.hb, atI_nat (j := 2) rfl, _, rfl, _, _, rfl, rfl, div200 h1 h2, _, rfl, b, _, 2, 2, rfl, rfl, g.hb, rfl, ?_⟩
      have g1 := g.put (i' := i) (r' := r / many) (m' := m) g.i0 (Int.ediv_nonneg g.r0 (by omega)) g.m0 g.m1
      refine ⟨_, rfl, q _ _ (Int.emod_nonneg _ (by omega)) (Int.emod_lt_of_pos _ hm) (kp.trans Kp.upd) ⟨ns, i, _, m, g1⟩⟩
    · refine ⟨_, rfl, b, _, 3, _, rfl, rfl, SqL.of g.hb, atI_nat (j := 3) rfl, _, rfl, b, _, 3, _, rfl, rfl, SqL.of g.hb, atI_nat (j := 3) rfl, _, _, rfl, rfl, ?_, ?_⟩
      · have h3 := g.m0
        have h4 := g.m1
        exact .inl ⟨by omega, by omega⟩
      · refine ⟨_, _, rfl, rfl, .inr ⟨by decide, by decide⟩, _, rfl, b, _, 3, _, rfl, rfl, SqL.of g.hb, atI_nat (j := 3) rfl, _, _, rfl, rfl, .inr ⟨by decide, by decide⟩, _, _, rfl, rfl, _, _, rfl, rfl, .inl ⟨_, rfl, _, _, rfl, rfl, (show (0 : Int) < 2147483579 by decide), _, rfl, b, _, 3, 3, rfl, rfl, g.hb, rfl, ?_⟩⟩
        have z := Int.emod_lt_of_pos (m * m * 3 + m * 30089 + 1700047) (show (0 : Int) < 2147483579 by decide)
        have g1 := g.put (i' := i) (r' := r) (m' := (m * m * 3 + m * 30089 + 1700047) % 2147483579) g.i0 g.r0 (Int.emod_nonneg _ (by decide)) (by omega)
        have hm : 0 < many := by omega
        refine ⟨_, rfl, b, _, 3, _, rfl, rfl, SqL.of g1.hb, atI_nat (j := 3) rfl, _, _, rfl, rfl, ⟨by decide, by decide⟩, .inl ⟨_, rfl, _, rfl, _, _, rfl, rfl, hm, ?_⟩⟩
        exact q _ _ (Int.emod_nonneg _ (by omega)) (Int.emod_lt_of_pos _ hm) (kp.trans Kp.upd) ⟨ns, i, r, _, g1⟩
/-- an item of some list or sign of some text, by a draw -/
def spPick (K : PySem.W.Frag) : Sp := fun vs H Q _ => ∃ (b c : Addr) (x : V), vs = [.ref b, x] ∧ Bg H b c ∧
  ((∃ (a : Addr) (xs : List V), x = .ref a ∧ a ≠ b ∧ H a = some (.lst xs) ∧ xs ≠ [] ∧ xs.length ≤ 1000 ∧ ∀ (v : V) (H' : Hp), v ∈ xs → Kp b H H' → Bg H' b c → Q v H') ∨
   (∃ z : Str, x = .str z ∧ 0 < z.cps.size ∧ z.cps.size ≤ 1000 ∧ ∀ (d : Nat) (H' : Hp), d ∈ z.cps.toList → Kp b H H' → Bg H' b c → Q (.str ⟨#[d]⟩) H'))
theorem ok_pick (F : Fn K mg "_law_pick" s_l_pick ["_law_bag_here", "_law_some"]) (B : Blt mg) (G_l_draw : Has P w K mg base 1 "_law_draw" ["_law_bag_here", "_law_many"] spDraw) : Has P w K mg base 2 "_law_pick" ["_law_bag_here", "_law_some"] (spPick K) := by
  refine F.has sc_l_pick (fun vs H Q E h => ?_) (fun f cdv A outer s H vs Q E hr h => ?_)
  · obtain ⟨a, c, ns, rfl, _⟩ := h
    rfl
  obtain ⟨b, c, x, rfl, hB, h⟩ := h
  refine ⟨_, (pss_one (ps_ret (pe_ix ix_seq (pv 1) (pe_own G_l_draw (hr.mono (by decide)) (by rfl) (pa_cons (pv 0) (pa_cons (pe_callB call_len (by rfl) B.len bb_len (pa_cons (pv 1) pa_nil)) pa_nil))) (fun _ _ => rfl)))), ?_⟩
  rcases h with ⟨a, xs, rfl, hab, ha, hne, hlen, q⟩ | ⟨z, rfl, h0, hlen, q⟩
  · have hpos : 0 < xs.length := List.length_pos_iff.mpr hne
    refine ⟨_, rfl, _, rfl, _, rfl, .ref a, xs.length, rfl, .inl ⟨xs, SqL.of ha, rfl⟩, b, c, _, rfl, hB, by omega, by omega, fun v H' v0 v1 kp hB' => ?_⟩
    have hk : v.toNat < xs.length := by omega
    refine .inl ⟨a, xs, v, xs[v.toNat], rfl, rfl, SqL.of (kp _ _ hab ha), at_of (show v = ((v.toNat : Nat) : Int) by omega) (List.getElem?_eq_getElem hk), ?_⟩
    exact q _ _ (List.getElem_mem hk) kp hB'
  · refine ⟨_, rfl, _, rfl, _, rfl, .str z, z.length, rfl, ⟨by show z.cps.size ≤ sizeLine; exact Nat.le_of_lt (small1000 hlen), rfl⟩, b, c, _, rfl, hB, by show (1 : Int) ≤ (z.cps.size : Int); omega, by show (z.cps.size : Int) < 2 ^ 200; omega, fun v H' v0 v1 kp hB' => ?_⟩
    have hk : v.toNat < z.cps.toList.length := by
      have v1' : v < (z.cps.size : Int) := v1
      rw [Array.length_toList]
      omega
    refine .inr (.inr ⟨z, v, z.cps.toList[v.toNat], rfl, rfl, by show z.cps.size ≤ sizeLine; exact Nat.le_of_lt (small1000 hlen), at_ofG (show v = ((v.toNat : Nat) : Int) by omega) (List.getElem?_eq_getElem hk), ?_⟩)
    exact q _ _ (List.getElem_mem hk) kp hB'
end
/-! ### the same data -/
def leafV : V → Prop
  | .non => True
  | .bl _ => True
  | .int _ => True
  | .str _ => True
  | _ => False
/-- two values that stand for the same data, so deep at most -/
def Eqd (H : Hp) : Nat → V → V → Prop
  | 0 => fun _ _ => False
  | n + 1 => fun x y => (x = y ∧ leafV x) ∨
    (∃ (a b : Addr) (xs ys : List V), x = .ref a ∧ y = .ref b ∧ H a = some (.lst xs) ∧ H b = some (.lst ys) ∧ xs.length ≤ 1000 ∧ Paired (Eqd H n) xs ys) ∨
    (∃ (a b : Addr) (xs ys : List V), x = .ref a ∧ y = .ref b ∧ H a = some (.tup xs) ∧ H b = some (.tup ys) ∧ xs.length ≤ 1000 ∧ Paired (Eqd H n) xs ys)
theorem Eqd.leaf {H : Hp} {n : Nat} {x : V} (h : leafV x) : Eqd H (n + 1) x x := .inl ⟨rfl, h⟩
theorem Eqd.lst {H : Hp} {n : Nat} {a b : Addr} {xs ys : List V} (ha : H a = some (.lst xs)) (hb : H b = some (.lst ys)) (hl : xs.length ≤ 1000) (h : Paired (Eqd H n) xs ys) : Eqd H (n + 1) (.ref a) (.ref b) := .inr (.inl ⟨a, b, xs, ys, rfl, rfl, ha, hb, hl, h⟩)
theorem Eqd.tup {H : Hp} {n : Nat} {a b : Addr} {xs ys : List V} (ha : H a = some (.tup xs)) (hb : H b = some (.tup ys)) (hl : xs.length ≤ 1000) (h : Paired (Eqd H n) xs ys) : Eqd H (n + 1) (.ref a) (.ref b) := .inr (.inr ⟨a, b, xs, ys, rfl, rfl, ha, hb, hl, h⟩)
theorem Eqd.mono {H H' : Hp} (s : Same H H') : ∀ {n : Nat} {x y : V}, Eqd H n x y → Eqd H' n x y
  | 0, _, _, h => h
  | n + 1, x, y, h => by
    rcases h with h | ⟨a, b, xs, ys, h1, h2, h3, h4, h5, h6⟩ | ⟨a, b, xs, ys, h1, h2, h3, h4, h5, h6⟩
    · exact .inl h
    · exact .inr (.inl ⟨a, b, xs, ys, h1, h2, s _ _ h3, s _ _ h4, h5, Paired.mapP h6 fun _ _ z => Eqd.mono s z⟩)
    · exact .inr (.inr ⟨a, b, xs, ys, h1, h2, s _ _ h3, s _ _ h4, h5, Paired.mapP h6 fun _ _ z => Eqd.mono s z⟩)
theorem Eqd.up {H : Hp} : ∀ {n : Nat} {x y : V}, Eqd H n x y → Eqd H (n + 1) x y
  | 0, _, _, h => h.elim
  | n + 1, x, y, h => by
    rcases h with h | ⟨a, b, xs, ys, h1, h2, h3, h4, h5, h6⟩ | ⟨a, b, xs, ys, h1, h2, h3, h4, h5, h6⟩
    · exact .inl h
    · exact .inr (.inl ⟨a, b, xs, ys, h1, h2, h3, h4, h5, Paired.mapP h6 fun _ _ z => Eqd.up z⟩)
    · exact .inr (.inr ⟨a, b, xs, ys, h1, h2, h3, h4, h5, Paired.mapP h6 fun _ _ z => Eqd.up z⟩)
theorem paired_get {F : V → V → Prop} : ∀ {xs ys : List V} {i : Nat} {x y : V}, Paired F xs ys → xs[i]? = some x → ys[i]? = some y → F x y
  | _, _, i, x, y, .nil, hx, _ => by simp at hx
  | _, _, 0, x, y, .cons r _, hx, hy => by
    cases hx
    cases hy
    exact r
  | _, _, i + 1, x, y, .cons _ t, hx, hy => paired_get t (i := i) (by simpa using hx) (by simpa using hy)
theorem paired_len {F : V → V → Prop} : ∀ {xs ys : List V}, Paired F xs ys → xs.length = ys.length
  | _, _, .nil => rfl
  | _, _, .cons _ t => congrArg (· + 1) (paired_len t)
theorem paired_refl {F : V → V → Prop} : ∀ {xs : List V}, (∀ x ∈ xs, F x x) → Paired F xs xs
  | [], _ => .nil
  | x :: r, h => .cons (h x List.mem_cons_self) (paired_refl fun y hy => h y (List.mem_cons_of_mem _ hy))
/-- isinstance(x, T), T a built-in class -/
theorem is_b {K : PySem.W.Frag} {H : Hp} {x : V} {t T : String} {b : Bool} {Q : VK} (ty : TyX K H x (.type t)) (k : kitB t T = some b) (h : Q (.bl b) H) : rIsi K [x, .ty T] H Q :=
  ⟨x, .ty T, .type t, .type T, b, rfl, .ty _, ty, kit_ty k, h⟩
theorem ite_of {c : Prop} [Decidable c] {A B : Prop} (hc : c) (h : A) : if c then A else B := by
  rw [if_pos hc]
  exact h
theorem ite_no {c : Prop} [Decidable c] {A B : Prop} (hc : ¬ c) (h : B) : if c then A else B := by
  rw [if_neg hc]
  exact h
theorem tYes_ok {σ : L2.St} {H : Hp} {A B : Hp → Prop} (h : A H) : tYes σ H (fun b H3 => if b = true then A H3 else B H3) := by
  show (if true = true then A H else B H)
  rw [if_pos rfl]
  exact h
theorem walk_zipT {K : PySem.W.Frag} {a b : Addr} {xs ys : List V} {n : Nat} (hn : n = min xs.length ys.length) : Walk (RZ.ItzT K a b) n (fun H => SqT K H a xs ∧ SqT K H b ys) (YPair (fun i => xs[i]?) (fun i => ys[i]?)) := by
  subst hn
  refine ⟨fun i _ hi q => ?_, fun _ q => ⟨xs, ys, q.1, q.2, by omega⟩, fun i H v H' _ q y => ?_⟩
  · have h1 : i < xs.length := by omega
    have h2 : i < ys.length := by omega
    exact ⟨xs, ys, xs[i], ys[i], q.1, q.2, by simp [h1], by simp [h2]⟩
  · obtain ⟨T, x, z, h1, h2, h3, h4, h5⟩ := y
    exact ⟨T, x, z, h1, h2, h3, h4 xs q.1, h5 ys q.2⟩
def spSame (n : Nat) : Sp := fun vs H Q _ => ∃ x y : V, vs = [x, y] ∧ Eqd H n x y ∧ ∀ H', Same H H' → Q (.bl true) H'
theorem no_same {P : Program} {w : World} {K : PySem.W.Frag} {mg : Str → Option Value} {base : Heap} {f : Addr} {fd : FuncData} {ps : List Str} {sp : Sp} (no : ∀ vs H Q E, ¬ sp vs H Q E) : FnOk P w K mg base CX0 0 f fd ps sp :=
  ⟨fun vs H Q E h => absurd h (no vs H Q E), fun A outer s H args us vs Q E _ _ _ _ h => absurd h (no vs H Q E)⟩
/-! ### odd values -/
inductive OddV (H : Hp) (b : Addr) : V → Prop
  | non : OddV H b .non
  | bl (x : Bool) : OddV H b (.bl x)
  | s0 : OddV H b (.str "")
  | s1 : OddV H b (.str "A")
  | s2 : OddV H b (.str "in")
  | s3 : OddV H b (.str "a b")
  | s4 : OddV H b (.str "7")
  | t0 {p : Addr} : p ≠ b → H p = some (.tup []) → OddV H b (.ref p)
  | t1 {p : Addr} : p ≠ b → H p = some (.tup [.int 1]) → OddV H b (.ref p)
  | l0 {p : Addr} : p ≠ b → H p = some (.lst []) → OddV H b (.ref p)
  | l1 {p : Addr} : p ≠ b → H p = some (.lst [.str "a"]) → OddV H b (.ref p)
theorem OddV.kp {H H' : Hp} {b : Addr} {v : V} (h : OddV H b v) (k : Kp b H H') : OddV H' b v := by
  cases h with
  | non => exact .non
  | bl x => exact .bl x
  | s0 => exact .s0
  | s1 => exact .s1
  | s2 => exact .s2
  | s3 => exact .s3
  | s4 => exact .s4
  | t0 n h => exact .t0 n (k _ _ n h)
  | t1 n h => exact .t1 n (k _ _ n h)
  | l0 n h => exact .l0 n (k _ _ n h)
  | l1 n h => exact .l1 n (k _ _ n h)
def spOdd : Sp := fun vs H Q _ => ∃ b c : Addr, vs = [.ref b] ∧ Bg H b c ∧ ∀ (v : V) (H' : Hp), Kp b H H' → Bg H' b c → OddV H' b v → Q v H'
def spGcd : Sp := fun vs H Q _ => ∃ a b : Int, vs = [.int a, .int b] ∧ Q (.int ((Nat.gcd a.natAbs b.natAbs : Nat) : Int)) H
theorem abs_cast (i : Int) : (if i < 0 then -i else i) = ((i.natAbs : Nat) : Int) := by split <;> omega
theorem Bg.sel {H : Hp} {b c : Addr} (h : Bg H b c) : ∃ r : List V, H b = some (.lst (.ref c :: r)) := by
  obtain ⟨ns, i, r, m, g⟩ := h
  exact ⟨_, g.hb⟩
theorem Bg.ne_new {H : Hp} {b c p : Addr} (h : Bg H b c) (hp : H p = none) : p ≠ b := by
  obtain ⟨_, e⟩ := h.sel
  exact (ne_of_none e hp).symm
theorem Bg.ne_new2 {H : Hp} {b c p : Addr} (h : Bg H b c) (hp : H p = none) : p ≠ c := by
  obtain ⟨ns, i, r, m, g⟩ := h
  exact (ne_of_none g.hc hp).symm
section
variable {P : Program} {w : World} {K : PySem.W.Frag} {mg : Str → Option Value} {base : Heap}
end
/-! ### kinds of values -/
inductive Typ (H : Hp) : V → String → Prop
  | non : Typ H .non "NoneType"
  | bl (x : Bool) : Typ H (.bl x) "bool"
  | int (i : Int) : Typ H (.int i) "int"
  | str (z : Str) : Typ H (.str z) "str"
  | lst {a : Addr} {xs : List V} : H a = some (.lst xs) → Typ H (.ref a) "list"
  | tup {a : Addr} {xs : List V} : H a = some (.tup xs) → Typ H (.ref a) "tuple"
theorem Typ.tyx {K : PySem.W.Frag} {H : Hp} {x : V} {t : String} (h : Typ H x t) : TyX K H x (.type t) := by
  cases h with
  | non => exact .base .non
  | bl x => exact .base (.bl x)
  | int i => exact .base (.int i)
  | str z => exact .base (.str z)
  | lst h => exact .base (.lst h)
  | tup h => exact .base (.tup h)
theorem Typ.same {H H' : Hp} {x : V} {t : String} (h : Typ H x t) (s : Same H H') : Typ H' x t := by
  cases h with
  | non => exact .non
  | bl x => exact .bl x
  | int i => exact .int i
  | str z => exact .str z
  | lst h => exact .lst (s _ _ h)
  | tup h => exact .tup (s _ _ h)
theorem OddV.typ {H : Hp} {b : Addr} {v : V} (h : OddV H b v) : ∃ t, Typ H v t ∧ t ≠ "int" := by
  cases h with
  | non => exact ⟨_, .non, by decide⟩
  | bl x => exact ⟨_, .bl x, by decide⟩
  | s0 => exact ⟨_, .str _, by decide⟩
  | s1 => exact ⟨_, .str _, by decide⟩
  | s2 => exact ⟨_, .str _, by decide⟩
  | s3 => exact ⟨_, .str _, by decide⟩
  | s4 => exact ⟨_, .str _, by decide⟩
  | t0 n h => exact ⟨_, .tup h, by decide⟩
  | t1 n h => exact ⟨_, .tup h, by decide⟩
  | l0 n h => exact ⟨_, .lst h, by decide⟩
  | l1 n h => exact ⟨_, .lst h, by decide⟩
def isIntV : V → Bool
  | .int _ => true
  | _ => false
end My
/-! an own error whose __init__ says super().__init__(a text) and stores what it got and its code -/
namespace PySem
namespace ErrX
open PySem.W PySem.Calls PyProof.Rows PySem.HandSPX
/-- the statements of such an __init__: the field is called f, the code is q -/
def eArgs (f : Str) (p1 p2 : Pos) : Arguments := { posonlyargs := [], args := [{ arg := "self", annotation := none, pos := p1 }, { arg := f, annotation := none, pos := p2 }], vararg := none, kwonlyargs := [], kw_defaults := [], kwarg := none, defaults := [] }
def eBody (f msg q : Str) (k1 k2 : Nat) (a1 a2 a3 a4 a5 a6 b1 b2 b3 b4 c1 c2 c3 c4 : Pos) : List Stmt :=
  [.Expr (.Call (.Attribute (.Call (.Name "super" a1) [] [] a2) "__init__" a3) [.Constant (.str msg) k1 a4] [] a5) a6,
   .Assign [.Attribute (.Name "self" b1) f b2] (.Name f b3) b4,
   .Assign [.Attribute (.Name "self" c1) "code" c2] (.Constant (.str q) k2 c3) c4]
def eScope (f : Str) : Scope := { kind := .function, names := [(PySem.Str.ofString "self", .local), (f, .local), (PySem.Str.ofString "__class__", .free), (PySem.Str.ofString "super", .globalImplicit)], isGenerator := false, isCoroutine := false, more := [] }
/-- how the first statement's call is evaluated -/
def InitEval (msg : Str) (k1 : Nat) (a1 a2 a3 a4 a5 : Pos) : Prop := ∃ pl : Sem Bool, ∀ env : Env,
  eval (.Call (.Attribute (.Call (.Name "super" a1) [] [] a2) "__init__" a3) [.Constant (.str msg) k1 a4] [] a5) env = (do
    let ov ← attributeBase (.Call (.Name "super" a1) [] [] a2) "__init__" env (eval (.Call (.Name "super" a1) [] [] a2) env)
    standAt a3.atName
    let (g, first) ← holding [ov] (getMethod ov "__init__" pl)
    callWith a5 g first (backTo a5 (starEach [.Constant (.str msg) k1 a4] env)) [])
/-- what the written part says of the class at C, of its __init__ at fI, of the cell cc that holds the class, of the code object cd -/
structure ErrTxt (prog : Program) (K : Frag) (mg : Str → Option Value) (nm f q : Str) (C fI cc cd : Addr) : Prop where
  gC : mg nm = some (.ref C)
  gS : mg "super" = none
  cls : ∃ nm' q' N bs bm sn sub ab col dd k0 k1 k2 k3 k5, K.lookup C = some (excClassObj nm' q' C N bs bm true sn sub ab col dd k0 k1 k2 k3 k5 "ValueError.__new__") ∧ refsVE bm = true ∧ alongIn K "__init__" bm = some (some (.builtin "ValueError.__init__"))
  sa : findIn K (.ref C) "__setattr__" = some (some (.builtin "object.__setattr__"))
  ga : findIn K (.ref C) "__getattribute__" = some (some (.builtin "BaseException.__getattribute__"))
  gg : findIn K (.ref C) "__getattr__" = some none
  noF : findIn K (.ref C) f = some none
  noC : findIn K (.ref C) "code" = some none
  iC : findIn K (.ref C) "__init__" = some (some (.ref fI))
  tC : typeIn K (.ref fI) = some (.type "function")
  kC : keepIn K (.ref C) = true
  exC : subIn K (.ref C) (.type "BaseException") = some true
  veC : subIn K (.ref C) (.type "ValueError") = some true
  slf : mroIn K C (.ref C) = some true
  tyC : typeIn K (.ref C) = some (.type "type")
  hdC : hasDictIn K C = true
  opq : nsIn K cStatics "thirdparty.any" = some none
  cell : ∃ cl cld csl, K.lookup cc = some ⟨cl, cld, .cell (some (.ref C)), csl⟩
  code : ∃ ccl cdd vs ccs file tf, K.lookup cd = some ⟨ccl, cdd, .fields vs, ccs⟩ ∧ vs[2]? = some (.str file tf) ∧ ((prog.main.file : Str) == file) = true
  top : (prog.main.scope.names.lookup ("super" : Str)).isSome = false
  fn : ∃ (oc : Value) (od : Option Addr) (doc pm : Value) (an : Option Addr) (ct : Value) (osl : Array (Option Value)) (qual msg : Str) (k1 k2 : Nat) (p1 p2 a1 a2 a3 a4 a5 a6 b1 b2 b3 b4 c1 c2 c3 c4 : Pos),
    K.lookup fI = some ⟨oc, od, .func (ksFn "__init__" qual (eArgs f p1 p2) (eBody f msg q k1 k2 a1 a2 a3 a4 a5 a6 b1 b2 b3 b4 c1 c2 c3 c4) (eScope f) .none .none doc pm an (.ref cd) ct cc), osl⟩ ∧ codeIn K (.ref cd) qual = true ∧
    (∀ (s : Shared) (a b : Value), BindsTo s (ksFn "__init__" qual (eArgs f p1 p2) (eBody f msg q k1 k2 a1 a2 a3 a4 a5 a6 b1 b2 b3 b4 c1 c2 c3 c4) (eScope f) .none .none doc pm an (.ref cd) ct cc) ⟨[a, b], []⟩ [("self", a), (f, b)]) ∧ InitEval msg k1 a1 a2 a3 a4 a5
  nf : f ≠ "self" ∧ f ≠ "code" ∧ f ≠ "super" ∧ f ≠ "__class__" ∧ f ≠ "__debug__"
theorem kept_x {K : Frag} {h h' : Heap} {x : Addr} (X : K.In h) (hx : K.lookup x = none) (k : ∀ b o, b ≠ x → h.get? b = some o → h'.get? b = some o) : K.In h' := fun a o e =>
  k a o (fun z => by rw [z, hx] at e; cases e) (X a o e)
/-- what it leaves of a fresh exception at x -/
structure Made (h h' : Heap) (x C dx t1 : Addr) (f q : Str) (v : Value) : Prop where
  keep : ∀ b o, b ≠ x → h.get? b = some o → h'.get? b = some o
  obj : h'.get? x = some { cls := .ref C, dict := some dx, data := .fields #[.ref t1, .none, .none, .none, .bool false, .none] }
  dbig : h.objs.size ≤ dx
  dne : dx ≠ x
  ns : ∃ tk, h'.Ns1 dx (fun y => if y = "code" then some (.str q tk) else if y = f then some v else none)
section
variable {prog : Program} {w : World} {M : Model} {A : Around} {E : Value → Shared → Prop} {R : Result → Shared → Prop} {s : Shared} {K : Frag} {mg : Str → Option Value} {nm f q : Str} {C fI cc cd : Addr}
/-- the bound built-in __init__, called with one value -/
theorem mw_call {hp : Heap} {g : Array GenState} {d : Drawn} {t : Nat} {os : OsState} {u e t0 : Addr} {rest : List Value} {Q : Value → Shared → Prop} {nm' q' : Str} {N : Addr} {bs bm : List Value} {hdct : Bool} {sn : List Str} {sub : List Value} {ab : Bool} {col : Option Bool} {dd : Option Addr} {k0 k1 k2 k3 k5 : Option Value}
    (hC : hp.get? C = some (excClassObj nm' q' C N bs bm hdct sn sub ab col dd k0 k1 k2 k3 k5 "ValueError.__new__")) (he : hp.get? e = some (excO C t0)) (hu : hp.get? u = some (kxs_mw "ValueError.__init__" e)) (hrest : rest.length ≤ sizeLine)
    (hq : ∀ h' t1, (∀ b o, b ≠ e → hp.get? b = some o → h'.get? b = some o) → h'.get? e = some (excO C t1) → Q .none ⟨h', g, d, t, os⟩) :
    wpAny (model prog w) A (call (.ref u) rest) Q E ⟨hp, g, d, t, os⟩ := by
  refine wpAny_call (codeAny_of_tree ?_)
  show wpAny _ A.in1 (callAny (.ref u) ⟨rest, []⟩) _ _ _
  unfold callAny
  refine wpAny_bind (wpAny_load hu ?_)
  refine KFB.if_so rfl ?_
  refine wpAny_bind (ESX.check_bound F.excBase_ValueError hC he rfl ?_)
  refine wpAny_bind (wpAny_pure (wpAny_pure ⟨Code.quiet_builtin _ (by decide +kernel), codeAny_builtin F.excBase_ValueError.initEntry ?_⟩))
  rw [Around.under_plainId F.excBase_ValueError.init.plain _]
  wp_walk
  refine hq _ hp.objs.size (fun b o hb ho => ?_) ?_
  · rw [Heap.get?_update_other _ _ (Ne.symm hb)]
    exact Heap.get?_push_of_some _ ho
  · rw [Heap.get?_update_self _ (Heap.get?_push_of_some _ he) rfl]
    rfl
theorem err_init (T : ErrTxt prog K mg nm f q C fI cc cd) {x t0 : Addr} {v : Value} (X : K.In s.heap) (hG : s.heap.Ns mainGlobals mg) (hB : ∃ mb, s.heap.Ns builtinsNs mb ∧ mb "super" = some (.type "super")) (hlim : s.heap.NoLimit) (hx : s.heap.get? x = some (excO C t0)) (hnx : K.lookup x = none) (hroom : A.depth < recursionLimit)
    (hq : ∀ h' tk dx t1, Made s.heap h' x C dx t1 f q v → R (.ok (.ret .none)) { s with heap := h', toks := tk }) :
    codeAny (model prog w) A (.call (.ref fI) ⟨[.ref x, v], []⟩) R s := by
  obtain ⟨oc, od, doc, pm, an, ct, osl, qual, msg, k1, k2, p1, p2, a1, a2, a3, a4, a5, a6, b1, b2, b3, b4, c1, c2, c3, c4, ho, hcd, hbind, pl, hev⟩ := T.fn
  obtain ⟨nm', q', N, bs, bm, sn, sub, ab, col, dd, k0, k1', k2', k3, k5, hC, hbm, hal⟩ := T.cls
  obtain ⟨cl, cld, csl, hcell⟩ := T.cell
  obtain ⟨ccl, cdd, vs, ccs, file, tf, hcode, hvs, hfile⟩ := T.code
  obtain ⟨n1, n2, n3, n4, n5⟩ := T.nf
  have lk : (eScope f).names.lookup f = some .local := by
    show List.lookup f [(PySem.Str.ofString "self", NameKind.local), (f, .local), (PySem.Str.ofString "__class__", .free), (PySem.Str.ofString "super", .globalImplicit)] = some .local
    have e : (f == PySem.Str.ofString "self") = false := by simpa using n1
    simp only [List.lookup, e, beq_self_eq_true]
  refine ks_codeAny_call_defAt (binds := [("self", .ref x), (f, v)]) hroom (X _ _ ho) rfl hlim (codeRec_of X hcd) rfl (hbind _ _ _) ?_ ?_ (fun h₁ hns hk => ?_) rfl rfl rfl
  · intro y hy
    simp only [eScope, List.mem_cons, List.not_mem_nil, or_false] at hy
    rcases hy with rfl | rfl | rfl | rfl <;> (intro z; cases z)
  · intro y hy
    simp only [List.mem_cons, List.not_mem_nil, or_false] at hy
    rcases hy with rfl | rfl
    · rfl
    · exact lk
  have z1 : (PySem.Str.ofString "super" == f) = false := by simpa using n3.symm
  have z2 : (PySem.Str.ofString "__class__" == f) = false := by simpa using n4.symm
  have z3 : (PySem.Str.ofString "self" == f) = false := by simpa using n1.symm
  have z4 : (f == PySem.Str.ofString "self") = false := by simpa using n1
  have lkS : (eScope f).names.lookup ("super" : Str) = some .globalImplicit := by
    simp only [eScope, List.lookup, z1, show (PySem.Str.ofString "super" == PySem.Str.ofString "self") = false by decide +kernel, show (PySem.Str.ofString "super" == PySem.Str.ofString "__class__") = false by decide +kernel, beq_self_eq_true]
  have lkC : (eScope f).names.lookup ("__class__" : Str) = some .free := by
    simp only [eScope, List.lookup, z2, show (PySem.Str.ofString "__class__" == PySem.Str.ofString "self") = false by decide +kernel, beq_self_eq_true]
  have lkX : (eScope f).names.lookup ("self" : Str) = some .local := by
    simp only [eScope, List.lookup, beq_self_eq_true]
  have mS : List.lookup (PySem.Str.ofString "self") ([(PySem.Str.ofString "self", Value.ref x), (f, v)] : List (Str × Value)).reverse = some (.ref x) := by
    show List.lookup (PySem.Str.ofString "self") [(f, v), (PySem.Str.ofString "self", Value.ref x)] = _
    simp only [List.lookup, z3, beq_self_eq_true]
  have mF : List.lookup f ([(PySem.Str.ofString "self", Value.ref x), (f, v)] : List (Str × Value)).reverse = some v := by
    show List.lookup f [(f, v), (PySem.Str.ofString "self", Value.ref x)] = _
    simp only [List.lookup, beq_self_eq_true]
  refine ks_wpAt_execs_cons (ks_wpAt_Expr_any (ks_wpAt_MethodCall (pl := pl) ?_ (hev _)))
  have X₁ : K.In h₁ := X.keeps hk
  have hx₁ := hk _ _ hx
  refine ks_wpAt_super_base (of := ⟨oc, od, _, osl⟩) (oc := ⟨ccl, cdd, .fields vs, ccs⟩) lkS lkC rfl rfl (X₁ _ _ ho) rfl rfl rfl (X₁ _ _ hcode) rfl hvs hfile T.top ?_
  obtain ⟨mb, hmb, hsb⟩ := hB
  refine ks_loadName_global rfl lkS (loadGlobal_builtin (hG.keeps hk) T.gS (hmb.keeps hk) hsb ⟨rfl, ?_⟩)
  refine wpAny_loadName_free rfl lkC rfl ⟨_, X₁ _ _ hcell, rfl⟩ ?_
  refine wpAny_loadName_local rfl lkX hns mS ?_
  refine ks_wpAny_isType_cls (X₁ _ _ hC) rfl ⟨rfl, ?_⟩
  refine ks_wpAny_call_super (X₁ _ _ hC) rfl hx₁ rfl (fun c e => by cases e) (looks_mroIn X₁ T.slf) (fun h₂ hso k₂ => ?_)
  have X₂ : K.In h₂ := X₁.keeps k₂
  have hx₂ := k₂ _ _ hx₁
  have I₂ : InstAt h₂ x (excO C t0) C none := ⟨hx₂, rfl, rfl, trivial⟩
  have nxC : x ≠ C := fun z => by rw [z, hC] at hnx; cases hnx
  have hcl : clsIn K C = some { name := nm', bases := bs, mro := .ref C :: bm, ns := N, qualname := q', hasDict := true, slotNames := sn, subclasses := sub, abstract := ab, collection := col, hasDel := false } := by unfold clsIn; rw [hC] <;> rfl
  refine kxs_getMethod kxs_ValueError hso (looks_opaque X₂ T.opq) ((looks_clsIn X₂ hcl).andThen .now) (ESX.drop_own C bm) X₂ hal (I₂.type.andThen (looks_subIn X₂ T.veC)) nxC rfl ?_
  have hu : (h₂.push (kxs_mw "ValueError.__init__" x)).get? h₂.objs.size = some (kxs_mw "ValueError.__init__" x) := Heap.get?_push_at rfl rfl
  have k₃ : ∀ b o, h₂.get? b = some o → (h₂.push (kxs_mw "ValueError.__init__" x)).get? b = some o := fun b o e => Heap.get?_push_of_some _ e
  refine kxs_callWith (i := "ValueError.__init__") (x := x) rfl (evalArgs_plain ?_)
  refine Calls.spliced_cons (Calls.Constant_str (k := k1) (pos := a4) (Calls.spliced_nil ⟨hu, ?_⟩))
  have X₃ : K.In (h₂.push (kxs_mw "ValueError.__init__" x)) := X₂.keeps k₃
  refine mw_call (X₃ _ _ hC) (k₃ _ _ hx₂) hu (by show 1 ≤ sizeLine; decide) (fun h₄ t1 k₄ hx₄ => ?_)
  have keep₄ : ∀ b o, b ≠ x → s.heap.get? b = some o → h₄.get? b = some o := fun b o nb e => k₄ b o nb (k₃ b o (k₂ b o (hk b o e)))
  have X₄ : K.In h₄ := kept_x X hnx keep₄
  have hxL : s.heap.objs.size ≠ x := Nat.ne_of_gt (Heap.lt_size hx)
  obtain ⟨oL, es, ep, hL, rL⟩ := id hns
  have hns₄ : h₄.Ns s.heap.objs.size fun y => List.lookup y ([(PySem.Str.ofString "self", Value.ref x), (f, v)] : List (Str × Value)).reverse := ⟨oL, es, ep, k₄ _ _ hxL (k₃ _ _ (k₂ _ _ hL)), rL⟩
  have hLt : s.heap.objs.size < h₄.objs.size := Heap.lt_size (k₄ _ _ hxL (k₃ _ _ (k₂ _ _ hL)))
  -- self.f = f
  refine wpAt_of_wpAny (wpAny_execs_cons (plainObj_wpAny_Assign_Attribute ?_))
  refine ESX.ldL hns₄ mF (ESX.ldL hns₄ mS ?_ rfl lkX (by decide +kernel)) rfl lk (by simpa using n5)
  refine set_plain X₄ (ox := excO C t1) (od := none) ⟨hx₄, rfl, rfl, trivial⟩ T.sa ?_
  refine exc_osa X₄ hx₄ hcl (show refsVE (.ref C :: bm) = true from hbm) rfl T.noF (fun h₅ tk₅ dx k₅ dn dne hx₅ hn₅ => ?_)
  have keep₅ : ∀ b o, b ≠ x → s.heap.get? b = some o → h₅.get? b = some o := fun b o nb e => k₅ b o nb (keep₄ b o nb e)
  have X₅ : K.In h₅ := kept_x X hnx keep₅
  have hns₅ : h₅.Ns s.heap.objs.size fun y => List.lookup y ([(PySem.Str.ofString "self", Value.ref x), (f, v)] : List (Str × Value)).reverse := ⟨oL, es, ep, k₅ _ _ hxL (k₄ _ _ hxL (k₃ _ _ (k₂ _ _ hL))), rL⟩
  -- self.code = q
  refine wpAny_execs_cons (plainObj_wpAny_Assign_Attribute ?_)
  refine Calls.Constant_str (k := k2) (pos := c3) (ESX.ldL hns₅ mS ?_ rfl lkX (by decide +kernel))
  obtain ⟨oD, eD, pD, hD, rD⟩ := id hn₅
  refine set_plain X₅ (ox := { cls := .ref C, dict := some dx, data := .fields #[.ref t1, .none, .none, .none, .bool false, .none] }) (od := some oD) ⟨hx₅, rfl, rfl, hD⟩ T.sa ?_
  have hw : Within (fun y => if y = f then some v else none) [f] := fun y hy => by
    by_cases e : y = f
    · rw [e]
      exact List.mem_singleton.mpr rfl
    · exact absurd (show (if y = f then some v else none) = none from if_neg e) hy
  refine OEX.osa_old X₅ hx₅ hn₅ hw (by show 1 ≤ 1000; decide) hcl (show refsVE (.ref C :: bm) = true from hbm) rfl T.noC (fun h₆ tk₆ k₆ hn₆ => ?_)
  refine wpAny_execs_nil (hq h₆ tk₆ dx t1 ⟨fun b o nb e => ?_, k₆ _ _ dne.symm hx₅, Nat.le_trans (Nat.le_of_lt hLt) dn, dne, _, hn₆⟩)
  have nbd : b ≠ dx := Nat.ne_of_lt (Nat.lt_of_lt_of_le (Heap.lt_size e) (Nat.le_trans (Nat.le_of_lt hLt) dn))
  exact k₆ b o nbd (keep₅ b o nb e)
/-- a made error -/
structure Own (h h' : Heap) (e C d : Addr) (f q : Str) (v : Value) : Prop where
  keep : ∀ b o, h.get? b = some o → h'.get? b = some o
  new : h.objs.size ≤ e
  obj : ∃ oe vs, h'.get? e = some oe ∧ oe.cls = .ref C ∧ oe.dict = some d ∧ oe.data = .fields vs ∧ vs[1]? = some .none
  dbig : h.objs.size ≤ d
  dne : d ≠ e
  ns : ∃ tk, h'.Ns1 d (fun y => if y = "code" then some (.str q tk) else if y = f then some v else none)
theorem err_made (T : ErrTxt prog K mg nm f q C fI cc cd) {v : Value} (X : K.In s.heap) (hG : s.heap.Ns mainGlobals mg) (hB : ∃ mb, s.heap.Ns builtinsNs mb ∧ mb "super" = some (.type "super")) (hlim : s.heap.NoLimit) (hroom : A.depth + 1 < recursionLimit)
    (hq : ∀ h' tk e d, Own s.heap h' e C d f q v → R (.ok (.ret (.ref e))) { s with heap := h', toks := tk }) :
    codeAny (model prog w) A (.call (.ref C) ⟨[v], []⟩) R s := by
  obtain ⟨nm', q', N, bs, bm, sn, sub, ab, col, dd, k0, k1', k2', k3, k5, hC, hbm, hal⟩ := T.cls
  obtain ⟨hp, g, dr, tk, os⟩ := s
  have k : ∀ b o, hp.get? b = some o → ((hp.push (kdv_tup [v])).push (excO C hp.objs.size)).get? b = some o := fun b o e => Heap.get?_push_of_some _ (Heap.get?_push_of_some _ e)
  have hget : ((hp.push (kdv_tup [v])).push (excO C hp.objs.size)).get? (hp.objs.size + 1) = some (excO C hp.objs.size) := by heap_get
  have hnx : K.lookup (hp.objs.size + 1) = none := by
    cases e : K.lookup (hp.objs.size + 1) with
    | none => rfl
    | some o =>
      have z : hp.get? (hp.objs.size + 1) = some o := X _ _ e
      exact absurd (Nat.lt_of_succ_lt (Heap.lt_size z)) (Nat.lt_irrefl _)
  obtain ⟨mb, hmb, hsb⟩ := hB
  refine call_own F.excBase_ValueError (fun X => refsVE_contains X bm hbm) (X _ _ hC) (looks_findIn X T.iC) (fun self => bind_fn X self T.tC) (by show 1 ≤ sizeLine; decide) ?_
  refine err_init (s := ⟨(hp.push (kdv_tup [v])).push (excO C hp.objs.size), g, dr, tk, os⟩) T (X.keeps k) (hG.keeps k) ⟨mb, hmb.keeps k, hsb⟩ (hlim.keeps k) hget hnx (show A.depth + 1 < recursionLimit from hroom) fun h' tk' dx t1 M => ?_
  have old : ∀ b o, hp.get? b = some o → h'.get? b = some o := fun b o e => M.keep b o (Nat.ne_of_lt (Nat.lt_succ_of_lt (Heap.lt_size e))) (k b o e)
  have z : hp.objs.size + 1 + 1 ≤ dx := by
    have dn := M.dbig
    rw [Heap.size_push, Heap.size_push] at dn
    exact dn
  exact ⟨rfl, hq h' tk' (hp.objs.size + 1) dx ⟨old, Nat.le_succ _, ⟨_, _, M.obj, rfl, rfl, rfl, rfl⟩, Nat.le_trans (Nat.le_trans (Nat.le_succ _) (Nat.le_succ _)) z, M.dne, M.ns⟩⟩
end
end ErrX
end PySem
namespace My
open PySem PySem.Spec PyProof.Rows L2
abbrev errD (f q : Str) (v : V) : List (Str × V) := [("code", .str q), (f, v)]
theorem relO_err {v : V} {v' : Value} {f q : Str} {tk : Tok} (r : RelV v v') (g : Str) : RelO (List.lookup g (errD f q v)) (if g = "code" then some (.str q tk) else if g = f then some v' else none) := by
  by_cases hc : g = "code"
  · rw [if_pos hc]
    have e : List.lookup g (errD f q v) = some (.str q) := by
      subst hc
      simp [errD, List.lookup]
    rw [e]
    exact ⟨_, rfl⟩
  · rw [if_neg hc]
    have e1 : (g == ("code" : Str)) = false := by simpa using hc
    by_cases hf : g = f
    · rw [if_pos hf]
      have e : List.lookup g (errD f q v) = some v := by
        subst hf
        simp [errD, List.lookup, e1]
      rw [e]
      exact r
    · rw [if_neg hf]
      have e2 : (g == f) = false := by simpa using hf
      have e : List.lookup g (errD f q v) = none := by simp [errD, List.lookup, e1, e2]
      rw [e]
      trivial
section
variable {X : Cx} {C fI cc cd : Addr} {nm f q : Str}
/-- X(e), the error made -/
def tMkErr (C : Addr) (f q : Str) (ta : TA) : L2.St → Hp → XK → Prop := fun σ H Q => ta σ H fun vs H1 => ∃ v, vs = [v] ∧ ∀ d, H1 d = none → Q (.ref C) (some d) (upd H1 d (.xd (errD f q v)))
theorem pmk_err {a : Expr} {ta : TA} {p pos : Pos} {k : Nat} (T : ErrX.ErrTxt X.prog X.K X.mg nm f q C fI cc cd) (hr : Room k X.A) (ha : PA X [a] ta) (hg : Gl X nm) (hd : (nm == ("__debug__" : Str)) = false := by decide)
    (he : starEach (a :: []) X.env = (false, eval a X.env) :: starEach [] X.env := by rfl) (hpl : (backTo pos (starEach [] X.env)).any (·.1) = false := by rfl) :
    PMk X (.Call (.Name nm p) [a] [] pos) (tMkErr C f q ta) := by
  intro pins s σ H Q I h
  refine wpAny_Call_Name_kw (ld_glob I hg T.gC ?_ hd)
  refine PySem.W.callWith_K (h₀ := X.base) I.ok.mod.kin T.kC (thn (ha.run pos pins s σ H _ I h) fun us s1 hh => ?_) he hpl
  obtain ⟨vs, H1, I1, r1, v, ev, q1⟩ := hh
  subst ev
  refine ⟨I1.kIn, ?_⟩
  cases r1 with
  | cons rv rn =>
    rename_i v' us'
    cases rn
    have hlim := I1.nolimit
    obtain ⟨mb, hb1, hb2⟩ := I1.mod.blt
    have hB : ∃ mb, s1.heap.Ns builtinsNs mb ∧ mb "super" = some (.type "super") := ⟨mb, hb1.keeps I1.bk, (hb2 _ (by decide +kernel)).trans (by decide +kernel)⟩
    refine wpAny_call (ErrX.err_made T I1.kIn (I1.mod.glob.keeps I1.bk) hB hlim (by have := hr.dp; omega) fun h' tk' e d M => ?_)
    obtain ⟨hp, g, dr, tok, os⟩ := s1
    obtain ⟨oe, fv, hoe, hc, hdct, hdat, h1⟩ := M.obj
    obtain ⟨tk0, hns⟩ := M.ns
    obtain ⟨G', g1, g2⟩ := restrict h' fun b => decide (b ≠ e)
    have gk : ∀ b, b ≠ e → G'.get? b = h'.get? b := fun b hb => g1 b (decide_eq_true hb)
    have ge : G'.get? e = none := g2 e (by simp)
    have old : ∀ b o, hp.get? b = some o → G'.get? b = some o := fun b o z => (gk b (Nat.ne_of_lt (Nat.lt_of_lt_of_le (Heap.lt_size z) M.new))).trans (M.keep b o z)
    have ob : ObjOk X.prog X.w (upd H1 d (.xd (errD f q v))) G' d (.xd (errD f q v)) := ⟨_, hns.at (fun o z => (gk d M.dne).trans z), fun y => relO_err rv y⟩
    have J : Inv X pins σ (upd H1 d (.xd (errD f q v))) ⟨G', g, dr, tk', os⟩ := I1.laid (t' := tk') old M.dbig ob
    refine ⟨e, oe, fv, ⟨G', g, dr, tk', os⟩, _, .ref C, some d, rfl, J, fun b o z => ?_, ge, hoe, ⟨hc, hdct⟩, hdat, h1, ?_, rfl, I1.bare, raises_own T.exC T.tyC, q1 d (I1.hok.fresh M.dbig)⟩
    · by_cases hb : b = e
      · have z' : G'.get? b = some o := z
        rw [hb, ge] at z'
        cases z'
      · exact (gk b hb).symm.trans z
    · rw [upd_ne (Ne.symm M.dne)]
      exact I1.hok.fresh M.new
end
end My
namespace My
open PySem PySem.Spec PyProof.Rows L2
/-! ### a field of a caught exception, wherever it is pinned -/
def tXg (K : PySem.W.Frag) (a : Addr) (cls : Value) (d : Option Addr) (n : Str) (te : TE) : TE := fun σ H Q => te σ H fun x H1 => x = .ref a ∧
  ∃ (C dd : Addr) (fs : List (Str × V)) (v : V), cls = .ref C ∧ XfC K C ∧ PySem.W.findIn K (.ref C) n = some none ∧ d = some dd ∧ H1 dd = some (.xd fs) ∧ fs.lookup n = some v ∧ Q v H1
section
variable {X : Cx} {a : Addr} {oe : Obj} {cls : Value} {d : Option Addr} {e : Expr} {te : TE} {pos : Pos} {n : Str}
theorem pe_xg {K : PySem.W.Frag} (hp : (a, oe) ∈ X.pn) (hz : Zc cls d oe) (hf : ∃ vs, oe.data = .fields vs) (he : PE X e te) (hK : X.K = K := by rfl) (hb : attributeBase e n X.env (eval e X.env) = eval e X.env := by rfl) : PE X (.Attribute e n pos) (tXg K a cls d n te) := by
  subst hK
  constructor
  intro pins s σ H Q I h
  apply attr_of hb
  apply thn (he.run pins s σ H _ I h)
  rintro u s1 ⟨x, H1, I1, rx, rfl, C, dd, fs, v, rfl, T, hno, rfl, ea, l, q⟩
  obtain rfl : u = Value.ref a := rx
  have pn := (I1.pin (a, oe) (List.mem_append_left _ hp)).1
  obtain ⟨vs, hd⟩ := hf
  obtain ⟨mA, hns, hr⟩ : ObjOk X.prog X.w H1 s1.heap dd (.xd fs) := I1.hok dd _ ea
  obtain ⟨od, ho, hl⟩ := lookIn_ns hns
  have rn := hr n
  rw [l] at rn
  obtain ⟨u, hu, ru⟩ := RelO.some_of (v := v) (o := mA n) rn
  have at_ : PySem.W.InstAt s1.heap a oe C (some od) := ⟨pn, hz.1, by unfold PySem.W.notCls; rw [hd] <;> rfl, by rw [hz.2]; exact ho⟩
  exact HandSPX.exc_get I1.kIn at_ T.ga T.gg T.exC (PySem.W.findObj_own T.hdC hno rfl (by rw [hl, hu])) (handed_of ru) ⟨v, H1, I1.tok _, ru, q⟩
end
/-! ### an own def, called where an exception is pinned -/
structure FnP (P : Program) (w : World) (K : PySem.W.Frag) (mg : Str → Option Value) (base : Heap) (k : Nat) (f : Addr) (fd : FuncData) (ps : List Str) (sp : Addr × Obj → Sp) : Prop where
  len : ∀ p vs H Q E, sp p vs H Q E → vs.length = ps.length
  run : ∀ (A : Around) (outer : List Env) (s : Shared) (H : Hp) (args : Args) (us : List Value) (vs : List V) (Q : VK) (p : Addr × Obj), L2H.RoomH k A → L2H.PinOk outer H s p → Env0 P w K mg base A outer s H → BindsTo s fd args (ps.zip us) → Vals vs us → sp p vs H Q E0 →
    codeAny (model P w) A (.call (.ref f) args) (CR CX0 outer P w H s Q E0) s
section
variable {P : Program} {w : World} {K : PySem.W.Frag} {mg : Str → Option Value} {base : Heap}
theorem Fun.pinned {x qual : Str} {st : Stmt} {f : Addr} {fd : FuncData} {N ps : List Str} {k : Nat} {sp : Addr × Obj → Sp} (F : Fun K x qual st f fd) (S : FnScope N ps (defScope st)) (len : ∀ p vs H Q E, sp p vs H Q E → vs.length = ps.length)
    (hbody : ∀ (cdv : Value) (A : Around) (outer : List Env) (s : Shared) (H : Hp) (vs : List V) (Q : VK) (p : Addr × Obj), L2H.RoomH k (A.deeper (envOfC qual (defScope st) s.heap.objs.size f cdv)) → sp p vs H Q E0 →
      ∃ t, PSs (L2H.cxH CX0 P w K mg base N qual (defScope st) f cdv A outer s H E0 p) (defBody st) t ∧ t { nx := fun _ H' => Q .non H', rt := Q } (L2.start N vs) H) : FnP P w K mg base (k + 1) f fd ps sp := by
  obtain ⟨oc, od, kV, doc, pm, an, cdv, ct, osl, rfl, lk, hcd⟩ := F.ex
  constructor
  · exact len
  intro A outer s H args us vs Q p hr hpin e0 hb r hsp
  have hl := len _ _ _ _ _ hsp
  have KX : K.In s.heap := e0.mod.kin.keeps fun b o e => (e0.bs b o e).1
  have lim : s.heap.NoLimit := e0.mod.nolimit.keeps fun b o e => (e0.bs b o e).1
  have kinds : ∀ y ∈ ps.zip us, (defScope st).names.lookup y.1 = some .local ∨ ((defScope st).names.lookup y.1 = some .cell ∧ ((cellsFrom (s.heap.objs.size + 1) (defScope st).names []).lookup y.1).isSome = true) := by
    rintro ⟨n, v⟩ hy
    cases S.par n (List.of_mem_zip hy).1 with
    | inl q => exact .inl q
    | inr q => exact .inr ⟨q, PySem.W.cellsFrom_some _ _ _ (.inl q)⟩
  apply codeAny_call_function hr.depth (KX _ _ lk) rfl S.co S.gen rfl (PySem.W.codeRec_of KX hcd)
  apply hb
  apply wpAny_newFunctionEnv_cells S.kind kinds
  rintro env rfl s1 x
  refine ⟨lim.keeps x.toInCall.keep, codeAny_func ?_⟩
  obtain ⟨t, ht, hq⟩ := hbody cdv A outer s H vs Q p (hr.deeper _) hsp
  have I := L2H.inv_startH (CX := CX0) (E := E0) (f := f) (cd := cdv) S hpin e0 hl r x
  apply wpAny_mono (ht.run [] s1 (L2.start N vs) H _ I hq)
  · intro fl s' hs
    cases fl with
    | ret u =>
      obtain ⟨v, σ', H', J, rv, q⟩ := hs
      exact ⟨v, H', J.os, J.bare, J.base, J.hok, rv, q⟩
    | next =>
      obtain ⟨σ', H', J, q⟩ := hs
      exact ⟨V.non, H', J.os, J.bare, J.base, J.hok, rfl, q⟩
    | brk =>
      obtain ⟨_, _, _, q⟩ := hs
      exact q.elim
    | cont =>
      obtain ⟨_, _, _, q⟩ := hs
      exact q.elim
  · exact fun e s' hs => hs
end
structure HasP (P : Program) (w : World) (K : PySem.W.Frag) (mg : Str → Option Value) (base : Heap) (k : Nat) (x : Str) (ps : List Str) (sp : Addr × Obj → Sp) : Prop where
  ex : ∃ (f : Addr) (fd : FuncData), FnP P w K mg base k f fd ps sp ∧ mg x = some (.ref f) ∧ PySem.W.keepIn K (.ref f) = true ∧ Binds K fd ps []
section
variable {X : Cx} {k : Nat} {x : Str} {ps : List Str} {sp : Addr × Obj → Sp} {p : Addr × Obj} {ps1 pos : Pos} {e : Expr} {es : List Expr} {t : TA}
theorem pe_ownP (h : HasP X.prog X.w X.K X.mg X.base k x ps sp) (hr : L2H.RoomH k X.A) (hp : p ∈ X.pn) {sp1 : Sp} (hs : ∀ vs H Q, sp1 vs H Q E0 → sp p vs H Q E0) (hg : Gl X x) (ha : PA X (e :: es) t) (hdb : (x == ("__debug__" : Str)) = false := by decide)
    (he : starEach (e :: es) X.env = (false, eval e X.env) :: starEach es X.env := by rfl) (hpl : (backTo pos (starEach es X.env)).any (·.1) = false := by rfl) : PE X (.Call (.Name x ps1) (e :: es) [] pos) (tCall sp1 [] E0 t) := by
  obtain ⟨f, fd, F, m, kp, hb⟩ := h.ex
  constructor
  intro pins s σ H Q I h
  apply wpAny_Call_Name_kw (ld_glob I hg m ?_ hdb)
  apply PySem.W.callWith_K (h₀ := X.base) I.ok.mod.kin kp _ he hpl
  apply thn (ha.run pos pins s σ H _ I h)
  rintro us s1 ⟨vs, H1, I1, r, q⟩
  rw [List.append_nil] at q
  replace q := hs _ _ _ q
  refine ⟨I1.kIn, ?_⟩
  have b := hb s1 us I1.kIn (by rw [List.append_nil, ← r.length]; exact F.len _ _ _ _ _ q)
  rw [List.append_nil] at b
  have P1 := I1.pin p (List.mem_append_left _ hp)
  have pok : L2H.PinOk X.stack H1 s1 p := ⟨P1.1, P1.2.1, fun hm => (List.mem_cons.mp (I1.stkSub p.1 hm)).elim P1.2.2.1 P1.2.2.2.1, P1.2.2.2.2⟩
  apply wpAny_call
  apply codeAny_mono (F.run X.A X.stack s1 H1 ⟨us, []⟩ us vs Q p hr pok I1.env0 b r q)
  intro r s' hq
  cases r with
  | error e => exact (show False from hq).elim
  | ok fl =>
    cases fl with
    | ret u => exact I1.after hq
    | next => exact False.elim hq
    | brk => exact False.elim hq
    | cont => exact False.elim hq
end
/-! ### except (x1, x2, x3) as n, one of which always fits -/
theorem fly_push {B h : Heap} {l : List Env} {e : Addr} {Z : Obj → Prop} (x : HandSPX.FlyingZ B l e Z h) (o : Obj) : HandSPX.FlyingZ B l e Z (h.push o) := by
  have k : ∀ b u, h.get? b = some u → (h.push o).get? b = some u := fun b u z => Heap.get?_push_of_some _ z
  obtain ⟨x1, x2, x3, oe, vs, T, oT, ts, y1, y2, y3, y4, y5, y6, y7, y8, y9⟩ := x
  exact ⟨fun b u z => k b u (x1 b u z), x2, Heap.FunFrames.of_keeps (fun b u z _ => ⟨u, k b u z, rfl⟩) x3, oe, vs, T, oT, ts, k _ _ y1, y2, y3, y4, y5, y6, k _ _ y7, y8, y9⟩
def endsOff (i : Nat) (D : Ends) : Ends := { nx := fun σ' H' => D.nx (σ'.set i none) H', rt := D.rt, bk := fun σ' H' => D.bk (σ'.set i none) H', ct := fun σ' H' => D.ct (σ'.set i none) H' }
/-- the wish for an exception that some of the classes cs takes -/
def wTup (K : PySem.W.Frag) (cs : List Value) (len i : Nat) (ts : Addr → Value → Option Addr → TS) (D : Ends) : WX := fun cls d σ H => PySem.W.exmAny K cls cs = some true ∧ ∀ a, H a = none → σ.length = len → ts a cls d (endsOff i D) (σ.set i (some (.ref a))) H
section
variable {X : Cx} {x1 x2 x3 n : Str} {c1 c2 c3 : Value} {i j : Nat} {body suite : List Stmt} {b₀ : Stmt} {p1 p2 p3 p4 pos pos' : Pos} {tb : WX → TS} {ts : Addr → Value → Option Addr → TS}
theorem ps_try_tup3 (hs : X.stack = X.env :: X.outer) (hf : X.env.frame = some X.env.locals) (hN : X.N.Nodup) (hi : X.N[i]? = some n) (hln : X.env.kindOf n = some .local) (n1 : Names X x1 c1) (n2 : Names X x2 c2) (n3 : Names X x3 c3)
    (hb : ∀ (W : WX) (pn : List (Addr × Obj)) (xe : Value → Shared → Prop), Takes (X.tr pn xe) W → PassesOwn (model X.prog X.w) X.A X.env xe → PSs (X.tr pn xe) body (tb W))
    (hsu : ∀ (a : Addr) (oe : Obj) (cls : Value) (d : Option Addr) (pn : List (Addr × Obj)), Zc cls d oe → (∃ vs, oe.data = .fields vs) → PSs (X.suite a ((a, oe) :: pn)) (b₀ :: suite) (ts a cls d)) :
    PS X (.Try body [.ExceptHandler (some (.Tuple [.Name x1 p1, .Name x2 p2, .Name x3 p3] j p4)) (some n) (b₀ :: suite) pos'] [] [] pos) (fun D σ H => tb (wTup X.K [c1, c2, c3] X.N.length i ts D) D σ H) := by
  constructor
  intro pins s σ H D I h
  have ok := I.ok
  have hfr : X.A.frames = some (X.env :: X.outer) := by rw [ok.frames, hs]
  apply wpAny_Try_except
  generalize hh : ExceptHandler.ExceptHandler (some (Expr.Tuple [.Name x1 p1, .Name x2 p2, .Name x3 p3] j p4)) (some n) (b₀ :: suite) pos' = hd
  have run := (hb (wTup X.K [c1, c2, c3] X.N.length i ts D) (X.pn ++ pins) (fun e s₁ => wpAny (model X.prog X.w) X.A (noteFrame e X.env) (fun _ s₂ => wpAny (model X.prog X.w) X.A (setFlight e none) (fun _ s₃ =>
    wpAny (model X.prog X.w) X.A (handleBy e X.env [hd]) (SP X pins D) X.xe s₃) X.xe s₂) X.xe s₁) ?tk PassesOwn.looking).run [] s σ H D (I.toTry _) h
  case tk =>
    rintro u s' ⟨a, B, sI, pins', σ', H', cls, d, rfl, J', nb, up, sky, na, os, ag, hm, hyes⟩
    have J : Inv X pins σ' H' sI := J'.ofTry ok
    have sky' : Sky B (X.env :: X.outer) a (Zc cls d) X.env.locals s'.heap := by rw [← hs]; exact sky
    show wpAny (model X.prog X.w) X.A (noteFrame (.ref a) X.env) _ _ _
    apply Sky.land Zc.steady hfr hf sky'
    intro h3 fl3 up3
    obtain ⟨oe3, vs3, he3, hz3, hd3⟩ := fl3.there
    have out : a ∉ frs (X.env :: X.outer) := fun hm => by
      obtain ⟨_, o', e', hnf⟩ := fl3.2.2.1.mem hm
      rw [he3] at e'
      cases e'
      exact hnf _ hd3
    have nL : a ≠ X.env.locals := fun z => out (List.mem_filterMap.mpr ⟨X.env, List.mem_cons_self, by rw [hf, z]⟩)
    have nF : a ∉ X.fs := fun hm => by
      obtain ⟨e, he, q⟩ := List.mem_filterMap.mp hm
      exact out (List.mem_filterMap.mpr ⟨e, List.mem_cons_of_mem _ he, q⟩)
    have J3 : Inv X pins σ' H' { s' with heap := h3 } := J.landed nb fl3.1 (up.trans up3) os ag
    have S3 := J3.suite he3 hd3 na nL nF
    subst hh
    refine wpAny_handleBy_cons (codeAny_handlers_test ?_) (by intro q; cases q)
    have nm : ∀ {x : Str} {c : Value} {p : Pos} {Q : Value → Shared → Prop} {E : Value → Shared → Prop}, Names X x c → Q c { s' with heap := h3 } → wpAny (model X.prog X.w) (X.A.mark (some (.ref a))) (eval (.Name x p) X.env) Q E { s' with heap := h3 } := by
      rintro x c p Q E ⟨hg, hdbg, hm | ⟨hm, hv, hnn⟩⟩ q
      · exact ld_glob (X := X.suite a ((a, oe3) :: (X.pn ++ pins))) S3 hg hm q hdbg
      · exact ld_blt (X := X.suite a ((a, oe3) :: (X.pn ++ pins))) S3 hg hm hv q hnn hdbg
    apply wpAny_Tuple
    refine wpAny_items_cons (nm n1 (wpAny_items_cons (nm n2 (wpAny_items_cons (nm n3 (wpAny_items_nil ⟨by show 3 ≤ sizeLine; decide, ?_⟩))))))
    have fl5 := fly_push fl3 { cls := .type "tuple", data := .seq [c1, c2, c3].toArray }
    have up5 : s'.heap.UpToSlots (h3.push { cls := .type "tuple", data := .seq [c1, c2, c3].toArray }) := up3.trans (Heap.UpToSlots.of_keeps fun b o e => Heap.get?_push_of_some _ e)
    have J5 : Inv X pins σ' H' { s' with heap := h3.push { cls := .type "tuple", data := .seq [c1, c2, c3].toArray } } := J.landed nb fl5.1 (up.trans up5) os ag
    have LT : PySem.W.Looks (model X.prog X.w) (h3.push { cls := .type "tuple", data := .seq [c1, c2, c3].toArray }) (typeOf (.ref a)) cls := fun A Q E s k q => wpAny_typeOf_ref (k _ _ (Heap.get?_push_of_some _ he3)) (by rw [hz3.1]; exact q)
    have LM := PySem.W.exm_tup3 (M := model X.prog X.w) (J5.kIn) LT (Heap.get?_push_size _ rfl) hm
    apply LM.here
    apply codeAny_handlers_suite_as
    apply HandSPX.lands_againZ fl5
    intro h4 fl4 up4
    have J4 : Inv X pins σ' H' { s' with heap := h4 } := J.landed nb fl4.1 ((up.trans up5).trans up4) os ag
    obtain ⟨oe4, vs4, he4, hz4, hd4⟩ := fl4.there
    have S4 := J4.suite he4 hd4 na nL nF
    refine store_ok (X := X.suite a ((a, oe4) :: (X.pn ++ pins))) (v := .ref a) S4 hN hi (.inl hln) rfl (fun s5 S5 => ?_) (.inr hln)
    apply wpAny_mono ((hsu a oe4 cls d (X.pn ++ pins) hz4 ⟨_, hd4⟩).run [] s5 _ H' _ S5 (hyes a na J.len))
    · have off : ∀ {σ6 : L2.St} {H6 : Hp} {s6 : Shared} {Q : Shared → Prop}, Inv (X.suite a ((a, oe4) :: (X.pn ++ pins))) [] σ6 H6 s6 → (∀ s7, Inv X pins (σ6.set i none) H6 s7 → Q s7) →
          wpAny (model X.prog X.w) X.A (do bindName X.env n .none; unbindBehindTheSuite X.env n pos') (fun _ s7 => Q s7) X.xe s6 := fun S6 hq => gone_ok (S6.unsuite ok) hN hi hln hq
      intro f s6 hsp
      cases f with
      | ret u =>
        obtain ⟨v6, σ6, H6, S6, r6, q6⟩ := hsp
        exact off S6 fun s7 J7 => ⟨_, _, _, J7, r6, q6⟩
      | next =>
        obtain ⟨σ6, H6, S6, q6⟩ := hsp
        exact off S6 fun s7 J7 => ⟨_, _, J7, q6⟩
      | brk =>
        obtain ⟨σ6, H6, S6, q6⟩ := hsp
        exact off S6 fun s7 J7 => ⟨_, _, J7, q6⟩
      | cont =>
        obtain ⟨σ6, H6, S6, q6⟩ := hsp
        exact off S6 fun s7 J7 => ⟨_, _, J7, q6⟩
    · exact fun _ _ z => z.elim
  refine wpAny_mono run (fun f s1 hsp => ?_) (fun e s1 he => he)
  cases f with
  | next =>
    obtain ⟨σ', H', J', q⟩ := hsp
    exact wpAny_execs_nil ⟨σ', H', J'.ofTry ok, q⟩
  | ret u =>
    obtain ⟨v, σ', H', J', r, q⟩ := hsp
    exact ⟨v, σ', H', J'.ofTry ok, r, q⟩
  | brk =>
    obtain ⟨σ', H', J', q⟩ := hsp
    exact ⟨σ', H', J'.ofTry ok, q⟩
  | cont =>
    obtain ⟨σ', H', J', q⟩ := hsp
    exact ⟨σ', H', J'.ofTry ok, q⟩
end
end My
namespace My
/-! ### what is left of n without b's primes -/
def IsStrip (n b r : Nat) : Prop := r ∣ n ∧ Nat.Coprime r b ∧ ∃ k, n ∣ r * b ^ k
theorem strip_dvd {n b r r' : Nat} (h : IsStrip n b r) (h' : IsStrip n b r') : r ∣ r' := by
  obtain ⟨a, c, _⟩ := h
  obtain ⟨_, _, k, d⟩ := h'
  exact (c.pow_right k).dvd_of_dvd_mul_right (Nat.dvd_trans a d)
theorem strip_one {n b r r' : Nat} (h : IsStrip n b r) (h' : IsStrip n b r') : r = r' := Nat.dvd_antisymm (strip_dvd h h') (strip_dvd h' h)
/-! ### primes -/
def isP (k : Nat) : Prop := 2 ≤ k ∧ ∀ j, 2 ≤ j → j < k → j * j ≤ k → ¬ j ∣ k
theorem isP.divs {k d : Nat} (h : isP k) (hd : d ∣ k) : d = 1 ∨ d = k := by
  obtain ⟨h2, h⟩ := h
  obtain ⟨e, he⟩ := hd
  have d0 : d ≠ 0 := fun z => by subst z; omega
  have e0 : e ≠ 0 := fun z => by subst z; omega
  by_cases d1 : d = 1
  · exact .inl d1
  by_cases e1 : e = 1
  · subst e1
    exact .inr (by omega)
  exfalso
  have hd2 : 2 ≤ d := by omega
  have he2 : 2 ≤ e := by omega
  have dk : d < k := by
    rw [he]
    calc d = d * 1 := (Nat.mul_one d).symm
      _ < d * e := Nat.mul_lt_mul_of_pos_left (by omega) (by omega)
  have ek : e < k := by
    rw [he]
    calc e = 1 * e := (Nat.one_mul e).symm
      _ < d * e := Nat.mul_lt_mul_of_pos_right (by omega) (by omega)
  rcases Nat.le_total d e with z | z
  · exact h d hd2 dk (by rw [he]; exact Nat.mul_le_mul_left d z) ⟨e, he⟩
  · exact h e he2 ek (by rw [he]; exact Nat.mul_le_mul_right e z) ⟨d, by rw [he, Nat.mul_comm]⟩
theorem isP.coprime {k n : Nat} (h : isP k) (hn : ¬ k ∣ n) : Nat.Coprime k n := by
  rcases h.divs (Nat.gcd_dvd_left k n) with z | z
  · exact z
  · exact absurd (by rw [← z]; exact Nat.gcd_dvd_right k n) hn
theorem isP.mul {k a b : Nat} (h : isP k) (hd : k ∣ a * b) : k ∣ a ∨ k ∣ b := by
  by_cases ha : k ∣ a
  · exact .inl ha
  · exact .inr ((h.coprime ha).dvd_of_dvd_mul_left hd)
theorem isP.pow {k b : Nat} (h : isP k) : ∀ {i : Nat}, k ∣ b ^ i → k ∣ b
  | 0, z => by
    rw [Nat.pow_zero] at z
    have := Nat.dvd_one.mp z
    have := h.1
    omega
  | i + 1, z => by
    rw [Nat.pow_succ] at z
    rcases h.mul z with z | z
    · exact h.pow z
    · exact z
theorem has_prime : ∀ (n : Nat), 2 ≤ n → ∃ q, isP q ∧ q ∣ n ∧ q ≤ n := by
  intro n
  induction n using Nat.strongRecOn with
  | _ n ih =>
    intro h2
    by_cases h : isP n
    · exact ⟨n, h, Nat.dvd_refl _, Nat.le_refl _⟩
    · have : ∃ j, 2 ≤ j ∧ j < n ∧ j ∣ n := by
        apply Classical.byContradiction
        intro no
        exact h ⟨h2, fun j a b _ d => no ⟨j, a, b, d⟩⟩
      obtain ⟨j, j2, jn, jd⟩ := this
      obtain ⟨q, q1, q2, q3⟩ := ih j jn j2
      exact ⟨q, q1, Nat.dvd_trans q2 jd, by omega⟩
open Classical in
/-- the product of the primes up to N that divide n -/
noncomputable def prodP (n : Nat) : Nat → Nat
  | 0 => 1
  | N + 1 => if isP (N + 1) ∧ (N + 1) ∣ n then prodP n N * (N + 1) else prodP n N
open Classical in
theorem prodP_succ (n N : Nat) : prodP n (N + 1) = if isP (N + 1) ∧ (N + 1) ∣ n then prodP n N * (N + 1) else prodP n N := rfl
theorem prodP_congr {n m : Nat} : ∀ N, (∀ k, isP k → k ≤ N → (k ∣ n ↔ k ∣ m)) → prodP n N = prodP m N
  | 0, _ => rfl
  | N + 1, h => by
    have ih := prodP_congr N fun k a b => h k a (by omega)
    unfold prodP
    by_cases c : isP (N + 1)
    · have e := h (N + 1) c (Nat.le_refl _)
      by_cases d : (N + 1) ∣ n
      · rw [if_pos ⟨c, d⟩, if_pos ⟨c, e.mp d⟩, ih]
      · rw [if_neg (fun z => d z.2), if_neg (fun z => d (e.mpr z.2)), ih]
    · rw [if_neg (fun z => c z.1), if_neg (fun z => c z.1), ih]
theorem prodP_none {n : Nat} : ∀ N, (∀ k, isP k → k ≤ N → ¬ k ∣ n) → prodP n N = 1
  | 0, _ => rfl
  | N + 1, h => by
    unfold prodP
    rw [if_neg fun z => h _ z.1 (Nat.le_refl _) z.2]
    exact prodP_none N fun k a b => h k a (by omega)
theorem prodP_pos {n : Nat} : ∀ N, 0 < prodP n N
  | 0 => Nat.one_pos
  | N + 1 => by
    unfold prodP
    split
    · exact Nat.mul_pos (prodP_pos N) (Nat.succ_pos N)
    · exact prodP_pos N
/-- more is the same: all divisors of n are at most n -/
theorem prodP_more {n : Nat} (h : 0 < n) : ∀ i, prodP n (n + i) = prodP n n
  | 0 => rfl
  | i + 1 => by
    show prodP n (n + i + 1) = _
    rw [prodP_succ, if_neg fun z => by have := Nat.le_of_dvd h z.2; omega]
    exact prodP_more h i
theorem prodP_at {n N : Nat} (h : 0 < n) (hN : n ≤ N) : prodP n N = prodP n n := by
  obtain ⟨i, rfl⟩ := Nat.le.dest hN
  exact prodP_more h i
noncomputable def radP (n : Nat) : Nat := prodP n n
/-- a prime divides the product exactly if it is one of them -/
theorem prodP_dvd {n k : Nat} (hk : isP k) : ∀ N, k ∣ prodP n N ↔ (k ≤ N ∧ k ∣ n)
  | 0 => by
    have := hk.1
    constructor
    · intro z
      have := Nat.dvd_one.mp (show k ∣ 1 from z)
      omega
    · rintro ⟨z, _⟩
      omega
  | N + 1 => by
    have ih := prodP_dvd (n := n) hk N
    unfold prodP
    by_cases c : isP (N + 1) ∧ (N + 1) ∣ n
    · rw [if_pos c]
      constructor
      · intro z
        rcases hk.mul z with z | z
        · have := ih.mp z
          exact ⟨by omega, this.2⟩
        · rcases c.1.divs z with z | z
          · have := hk.1; omega
          · rw [z]; exact ⟨Nat.le_refl _, c.2⟩
      · rintro ⟨z1, z2⟩
        by_cases e : k = N + 1
        · rw [e]; exact Nat.dvd_mul_left _ _
        · exact Nat.dvd_trans (ih.mpr ⟨by omega, z2⟩) (Nat.dvd_mul_right _ _)
    · rw [if_neg c, ih]
      constructor
      · rintro ⟨a, b⟩; exact ⟨by omega, b⟩
      · rintro ⟨a, b⟩
        refine ⟨?_, b⟩
        by_cases e : k = N + 1
        · subst e; exact absurd ⟨hk, b⟩ c
        · omega
theorem radP_pos (n : Nat) : 0 < radP n := prodP_pos n
theorem radP_prime {n k : Nat} (h : 0 < n) (hk : isP k) : k ∣ radP n ↔ k ∣ n := by
  unfold radP
  rw [prodP_dvd hk]
  exact ⟨fun z => z.2, fun z => ⟨Nat.le_of_dvd h z, z⟩⟩
theorem prodP_dvdn {n : Nat} (h : 0 < n) : ∀ N, prodP n N ∣ n ∧ ∀ k, isP k → N < k → k ∣ n → Nat.Coprime (prodP n N) k
  | 0 => ⟨Nat.one_dvd _, fun k _ _ _ => Nat.coprime_one_left _⟩
  | N + 1 => by
    obtain ⟨d, c⟩ := prodP_dvdn h N
    unfold prodP
    by_cases e : isP (N + 1) ∧ (N + 1) ∣ n
    · rw [if_pos e]
      have co := c (N + 1) e.1 (Nat.lt_succ_self _) e.2
      refine ⟨co.mul_dvd_of_dvd_of_dvd d e.2, fun k hk hl hn => ?_⟩
      have c1 := c k hk (by omega) hn
      have c2 : Nat.Coprime (N + 1) k := e.1.coprime fun z => by
        rcases hk.divs z with z | z
        · have := e.1.1; omega
        · omega
      exact Nat.Coprime.mul_left c1 c2
    · rw [if_neg e]
      exact ⟨d, fun k a b d' => c k a (by omega) d'⟩
theorem radP_dvd {n : Nat} (h : 0 < n) : radP n ∣ n := (prodP_dvdn h n).1
theorem radP_le {n : Nat} (h : 0 < n) : radP n ≤ n := Nat.le_of_dvd h (radP_dvd h)
theorem radP_radP {n : Nat} (h : 0 < n) : radP (radP n) = radP n := by
  have e1 : radP (radP n) = prodP (radP n) n := (prodP_at (radP_pos n) (radP_le h)).symm
  rw [e1]
  exact prodP_congr n fun k hk _ => radP_prime h hk
theorem radP_one : radP 1 = 1 := prodP_none 1 fun k hk _ z => by
  have := hk.1
  have := Nat.le_of_dvd (by decide) z
  omega
theorem radP_of_prime {n : Nat} (hn : isP n) : radP n = n := by
  have h2 := hn.1
  unfold radP
  obtain ⟨m, rfl⟩ : ∃ m, n = m + 1 := ⟨n - 1, by omega⟩
  unfold prodP
  rw [if_pos ⟨hn, Nat.dvd_refl _⟩, prodP_none m fun k hk hl z => by
    rcases hn.divs z with z | z
    · have := hk.1; omega
    · omega]
  omega
/-! ### the program's walk over the primes -/
structure RLoop (n res rest p : Nat) : Prop where
  p2 : 2 ≤ p
  r0 : 0 < rest
  le : rest ≤ n
  eq : res * radP rest = radP n
  no : ∀ k, isP k → k < p → ¬ k ∣ rest
theorem RLoop.start {n : Nat} (h : 0 < n) : RLoop n 1 n 2 := ⟨Nat.le_refl _, h, Nat.le_refl _, Nat.one_mul _, fun k hk hl => by have := hk.1; omega⟩
theorem RLoop.skip {n res rest p : Nat} (L : RLoop n res rest p) (h : ¬ p ∣ rest) : RLoop n res rest (p + 1) := ⟨by have := L.p2; omega, L.r0, L.le, L.eq, fun k hk hl => by
  by_cases e : k = p
  · rw [e]; exact h
  · exact L.no k hk (by omega)⟩
theorem RLoop.prime {n res rest p : Nat} (L : RLoop n res rest p) (h : p ∣ rest) : isP p := by
  refine ⟨L.p2, fun j j2 jp _ jd => ?_⟩
  obtain ⟨q, q1, q2, q3⟩ := has_prime j j2
  exact L.no q q1 (by omega) (Nat.dvd_trans q2 (Nat.dvd_trans jd h))
theorem IsStrip.primes {n b r k : Nat} (h : IsStrip n b r) (hk : isP k) : k ∣ r ↔ (k ∣ n ∧ ¬ k ∣ b) := by
  obtain ⟨d, c, i, e⟩ := h
  constructor
  · intro z
    refine ⟨Nat.dvd_trans z d, fun zb => ?_⟩
    have w : k ∣ Nat.gcd r b := Nat.dvd_gcd z zb
    rw [show Nat.gcd r b = 1 from c] at w
    have := Nat.dvd_one.mp w
    have := hk.1
    omega
  · rintro ⟨z1, z2⟩
    rcases hk.mul (Nat.dvd_trans z1 e) with z | z
    · exact z
    · exact absurd (hk.pow z) z2
theorem RLoop.take {n res rest p r : Nat} (L : RLoop n res rest p) (h : p ∣ rest) (hr : IsStrip rest p r) : RLoop n (res * p) r (p + 1) := by
  have hp := L.prime h
  have p0 : 0 < p := by have := L.p2; omega
  have r0 : 0 < r := Nat.pos_of_ne_zero fun z => by
    rw [z] at hr
    have := Nat.eq_zero_of_zero_dvd hr.1
    have := L.r0
    omega
  have rl : r ≤ rest := Nat.le_of_dvd L.r0 hr.1
  have pl : p ≤ rest := Nat.le_of_dvd L.r0 h
  have key : radP rest = p * radP r := by
    have e1 : radP r = prodP r rest := (prodP_at r0 rl).symm
    rw [e1]
    show prodP rest rest = _
    have low : ∀ i, i < p → prodP rest i = 1 ∧ prodP r i = 1 := fun i hi => ⟨prodP_none i fun k hk hl z => L.no k hk (by omega) z, prodP_none i fun k hk hl z => L.no k hk (by omega) (Nat.dvd_trans z hr.1)⟩
    have all : ∀ i, prodP rest (p + i) = p * prodP r (p + i) := by
      intro i
      induction i with
      | zero =>
        obtain ⟨m, rfl⟩ : ∃ m, p = m + 1 := ⟨p - 1, by omega⟩
        show prodP rest (m + 1) = (m + 1) * prodP r (m + 1)
        unfold prodP
        rw [if_pos ⟨hp, h⟩, if_neg fun z => ((hr.primes hp).mp z.2).2 (Nat.dvd_refl _), (low m (by omega)).1, (low m (by omega)).2]
        omega
      | succ i ih =>
        show prodP rest (p + i + 1) = p * prodP r (p + i + 1)
        unfold prodP
        by_cases c : isP (p + i + 1)
        · have e := hr.primes c
          have np : ¬ (p + i + 1) ∣ p := fun z => by have := Nat.le_of_dvd p0 z; omega
          by_cases d : (p + i + 1) ∣ rest
          · rw [if_pos ⟨c, d⟩, if_pos ⟨c, e.mpr ⟨d, np⟩⟩, ih, Nat.mul_assoc]
          · rw [if_neg (fun z => d z.2), if_neg (fun z => d (e.mp z.2).1), ih]
        · rw [if_neg (fun z => c z.1), if_neg (fun z => c z.1), ih]
    obtain ⟨i, e⟩ := Nat.le.dest pl
    have z := all i
    rw [e] at z
    exact z
  refine ⟨by have := L.p2; omega, r0, by have := L.le; omega, ?_, fun k hk hl z => ?_⟩
  · rw [Nat.mul_assoc, ← key]
    exact L.eq
  · by_cases e : k = p
    · subst e
      exact ((hr.primes hk).mp z).2 (Nat.dvd_refl _)
    · exact L.no k hk (by omega) (Nat.dvd_trans z hr.1)
theorem RLoop.done {n res rest p : Nat} (L : RLoop n res rest p) (h : rest < p * p) : res * rest = radP n := by
  rw [← L.eq]
  congr 1
  by_cases e : rest = 1
  · rw [e, radP_one]
  · have r2 : 2 ≤ rest := by have := L.r0; omega
    refine (radP_of_prime ⟨r2, fun j j2 jr jj jd => ?_⟩).symm
    obtain ⟨q, q1, q2, q3⟩ := has_prime j j2
    have qp : p ≤ q := Nat.le_of_not_lt fun z => L.no q q1 z (Nat.dvd_trans q2 jd)
    have : p * p ≤ j * j := Nat.mul_le_mul (by omega) (by omega)
    omega
/-! ### the law's list -/
def noDiv (k : Nat) : List Nat := (List.range' 2 (k - 2)).filter fun j => Nat.ble (j * j) k && Nat.beq (k % j) 0
def primesOf (n : Nat) : List Nat := (List.range' 2 (n - 1)).filter fun k => Nat.beq (n % k) 0 && (noDiv k).isEmpty
def radL (n : Nat) : Nat := (primesOf n).foldl (fun a b => a * b) 1
theorem noDiv_iff {k : Nat} (h : 2 ≤ k) : (noDiv k).isEmpty = true ↔ isP k := by
  unfold noDiv
  rw [List.isEmpty_iff, List.filter_eq_nil_iff]
  constructor
  · intro z
    refine ⟨h, fun j j2 jk jj jd => z j (List.mem_range'_1.mpr ⟨j2, by omega⟩) ?_⟩
    rw [Bool.and_eq_true]
    exact ⟨Nat.ble_eq.mpr jj, Nat.beq_eq.mpr (Nat.mod_eq_zero_of_dvd jd)⟩
  · rintro ⟨_, z⟩ j hj e
    rw [Bool.and_eq_true] at e
    have := List.mem_range'_1.mp hj
    exact z j this.1 (by omega) (Nat.le_of_ble_eq_true e.1) (Nat.dvd_of_mod_eq_zero (Nat.eq_of_beq_eq_true e.2))
theorem radL_upto (n : Nat) : ∀ N, ((List.range' 2 N).filter fun k => Nat.beq (n % k) 0 && (noDiv k).isEmpty).foldl (fun a b => a * b) 1 = prodP n (N + 1)
  | 0 => by
    show 1 = prodP n 1
    rw [prodP_succ, if_neg fun z => by have := z.1.1; omega]
    rfl
  | N + 1 => by
    rw [List.range'_concat, List.filter_append, List.foldl_append, radL_upto n N]
    show _ = prodP n (N + 1 + 1)
    have e2 : 2 + 1 * N = N + 1 + 1 := by omega
    rw [e2]
    rw [prodP_succ n (N + 1), List.filter_cons]
    by_cases c : (Nat.beq (n % (N + 1 + 1)) 0 && (noDiv (N + 1 + 1)).isEmpty) = true
    · rw [if_pos c]
      rw [Bool.and_eq_true] at c
      rw [if_pos ⟨(noDiv_iff (by omega)).mp c.2, Nat.dvd_of_mod_eq_zero (Nat.eq_of_beq_eq_true c.1)⟩]
      rfl
    · rw [if_neg c]
      rw [if_neg fun z => c (by
        rw [Bool.and_eq_true]
        exact ⟨Nat.beq_eq.mpr (Nat.mod_eq_zero_of_dvd z.2), (noDiv_iff (by omega)).mpr z.1⟩)]
      rfl
theorem radL_eq {n : Nat} (h : 0 < n) : radL n = radP n := by
  have z := radL_upto n (n - 1)
  rw [show n - 1 + 1 = n by omega] at z
  exact z
end My
namespace My
open PySem PySem.Spec PyProof.Rows L2
theorem un64 {k : Nat} {A : Around} (r : Room k A) : A.units + 64 < cLine := by
  have := r.un
  omega
theorem op_eqDK {X : Cx} (K : PySem.W.Frag) (hK : X.K = K) (hu : X.A.units + 64 < cLine) : OpR X (compareOp .Eq) (rEqD K) := by
  subst hK
  exact op_eqD hu
/-! ### lists of whole numbers as data -/
abbrev dNats (xs : List Nat) : List PyData := xs.map fun (x : Nat) => PyData.int x
abbrev vNats (xs : List Nat) : List V := xs.map fun (x : Nat) => V.int x
theorem dp_nats {K : PySem.W.Frag} {H : Hp} : ∀ xs : List Nat, DpAll K H (vNats xs) (dNats xs)
  | [] => .nil
  | x :: xs => .cons (.int _) (dp_nats xs)
theorem lay_nats : ∀ xs : List Nat, PyData.canLayAll0 (dNats xs) = true
  | [] => by simp [PyData.canLayAll0]
  | x :: xs => by
    have h := lay_nats xs
    simp only [dNats, List.map_cons, PyData.canLayAll0, PyData.canLay0, Bool.true_and]
    exact h
theorem depth_nats : ∀ xs : List Nat, PyData.depthAll (dNats xs) = 0
  | [] => by simp [PyData.depthAll]
  | x :: xs => by
    have h := depth_nats xs
    simp only [dNats, List.map_cons, PyData.depthAll, PyData.depth]
    rw [show PyData.depthAll (xs.map fun (x : Nat) => PyData.int x) = 0 from h]
    rfl
theorem shaped_nats (xs : List Nat) : SeqAt.shaped (.list (dNats xs)) = true := by
  have h1 := depth_nats xs
  show (PyData.canLay0 (.list (dNats xs)) && decide (PyData.depth (.list (dNats xs)) ≤ 64)) = true
  rw [Bool.and_eq_true]
  refine ⟨by simp only [PyData.canLay0]; exact lay_nats xs, decide_eq_true ?_⟩
  simp only [PyData.depth]
  omega
theorem eqv_empty (xs : List Nat) : PyData.eqv (.list (dNats xs)) (.list []) = xs.isEmpty := by
  cases xs with
  | nil => simp [PyData.eqv, PyData.eqvAll]
  | cons x xs => simp [PyData.eqv, PyData.eqvAll]
theorem range_snoc (a i : Nat) : List.range' a (i + 1) = List.range' a i ++ [a + i] := by
  rw [List.range'_concat]
  simp
theorem filt_snoc (p : Nat → Bool) (a i : Nat) : (List.range' a (i + 1)).filter p = (List.range' a i).filter p ++ (if p (a + i) = true then [a + i] else []) := by
  rw [range_snoc, List.filter_append]
  cases h : p (a + i) <;> simp [h]
theorem filt_len (p : Nat → Bool) (a i : Nat) : ((List.range' a i).filter p).length ≤ i := by
  refine Nat.le_trans (List.length_filter_le _ _) ?_
  rw [List.length_range']
  exact Nat.le_refl _
theorem small2000 {n : Nat} (h : n ≤ 2000) : n < sizeLine := Nat.lt_of_le_of_lt h (by decide)
theorem divN {y : Int} {p : Nat} (h : 0 < p) (h2 : p < 2 ^ 200) : CDivW y p := wide_div (b := 200) (by omega) (by rw [Int.natAbs_natCast]; exact h2) (by decide) (by decide)
theorem mulN {x y : Nat} (h : x < 2 ^ 200) (h2 : y < 2 ^ 200) : CMulW x y := wide_mul (a := 200) (b := 200) (by rw [Int.natAbs_natCast]; exact h) (by rw [Int.natAbs_natCast]; exact h2) (by decide) (by decide) (by decide)
structure PLoop (n b rest part : Nat) : Prop where
  pos : 0 < rest
  dv : rest ∣ n
  all : ∃ k, n ∣ rest * b ^ k
  pb : ∃ i, part ∣ b ^ i
  pr : part ∣ rest
  pp : 0 < part
  no : ∀ d, d ∣ rest → d ∣ b → Nat.Coprime d part → d = 1
theorem PLoop.start {n b : Nat} (h : 0 < n) : PLoop n b n (Nat.gcd n b) :=
  ⟨h, Nat.dvd_refl _, ⟨0, by simp⟩, ⟨1, by rw [Nat.pow_one]; exact Nat.gcd_dvd_right _ _⟩, Nat.gcd_dvd_left _ _, Nat.gcd_pos_of_pos_left _ h, fun d h1 h2 h3 => by
    have z := Nat.dvd_gcd h1 h2
    have w : d ∣ Nat.gcd d (Nat.gcd n b) := Nat.dvd_gcd (Nat.dvd_refl _) z
    rw [h3.gcd_eq_one] at w
    exact Nat.dvd_one.mp w⟩
theorem PLoop.step {n b rest part : Nat} (h : PLoop n b rest part) : PLoop n b (rest / part) (Nat.gcd (rest / part) (part * part)) := by
  obtain ⟨pos, dv, ⟨k, hk⟩, ⟨i, hi⟩, pr, pp, no⟩ := h
  have e : rest / part * part = rest := Nat.div_mul_cancel pr
  have q0 : 0 < rest / part := Nat.pos_of_ne_zero fun z => by
    rw [z, Nat.zero_mul] at e
    omega
  refine ⟨q0, Nat.dvd_trans (Nat.div_dvd_of_dvd pr) dv, ⟨i + k, Nat.dvd_trans hk ?_⟩, ⟨i + i, Nat.dvd_trans (Nat.gcd_dvd_right _ _) ?_⟩, Nat.gcd_dvd_left _ _, Nat.gcd_pos_of_pos_left _ q0, fun d h1 h2 h3 => no d (Nat.dvd_trans h1 (Nat.div_dvd_of_dvd pr)) h2 ?_⟩
  · have z : rest * b ^ k ∣ rest / part * (b ^ i * b ^ k) := by
      rw [← Nat.mul_assoc]
      refine Nat.mul_dvd_mul ?_ (Nat.dvd_refl _)
      have w : rest / part * part ∣ rest / part * b ^ i := Nat.mul_dvd_mul (Nat.dvd_refl _) hi
      rw [e] at w
      exact w
    rw [Nat.pow_add]
    exact z
  · rw [Nat.pow_add]
    exact Nat.mul_dvd_mul hi hi
  · have w : Nat.gcd d part ∣ Nat.gcd d (Nat.gcd (rest / part) (part * part)) :=
      Nat.dvd_gcd (Nat.gcd_dvd_left _ _) (Nat.dvd_gcd (Nat.dvd_trans (Nat.gcd_dvd_left _ _) h1) (Nat.dvd_trans (Nat.gcd_dvd_right _ _) (Nat.dvd_mul_right _ _)))
    rw [h3.gcd_eq_one] at w
    exact Nat.dvd_one.mp w
theorem PLoop.done {n b rest part : Nat} (h : PLoop n b rest part) (e : ¬ 1 < part) : IsStrip n b rest := by
  have p1 : part = 1 := by have := h.pp; omega
  subst p1
  refine ⟨h.dv, h.no _ (Nat.gcd_dvd_left _ _) (Nat.gcd_dvd_right _ _) (Nat.coprime_one_right _), h.all⟩
/-- the law's loop -/
structure LLoop (n b f : Nat) : Prop where
  pos : 0 < f
  dv : f ∣ n
  all : ∃ k, n ∣ f * b ^ k
theorem LLoop.start {n b : Nat} (h : 0 < n) : LLoop n b n := ⟨h, Nat.dvd_refl _, 0, by simp⟩
theorem LLoop.step {n b f : Nat} (h : LLoop n b f) : LLoop n b (f / Nat.gcd f b) := by
  obtain ⟨pos, dv, k, hk⟩ := h
  have e : f / Nat.gcd f b * Nat.gcd f b = f := Nat.div_mul_cancel (Nat.gcd_dvd_left _ _)
  have q0 : 0 < f / Nat.gcd f b := Nat.pos_of_ne_zero fun z => by
    rw [z, Nat.zero_mul] at e
    omega
  refine ⟨q0, Nat.dvd_trans (Nat.div_dvd_of_dvd (Nat.gcd_dvd_left _ _)) dv, k + 1, Nat.dvd_trans hk ?_⟩
  rw [Nat.pow_succ, Nat.mul_comm (b ^ k) b, ← Nat.mul_assoc]
  refine Nat.mul_dvd_mul ?_ (Nat.dvd_refl _)
  have w : f / Nat.gcd f b * Nat.gcd f b ∣ f / Nat.gcd f b * b := Nat.mul_dvd_mul (Nat.dvd_refl _) (Nat.gcd_dvd_right _ _)
  rw [e] at w
  exact w
theorem LLoop.done {n b f : Nat} (h : LLoop n b f) (e : ¬ 1 < Nat.gcd f b) : IsStrip n b f := by
  have p0 := Nat.gcd_pos_of_pos_left b h.pos
  exact ⟨h.dv, (show Nat.gcd f b = 1 by omega), h.all⟩
structure Txt (mg : Str → Option Value) : Prop where
  m_MOST_RADICAL : ∃ u, mg "MOST_RADICAL" = some (.int 1000000 u)
  m_gcd : mg "gcd" = some (.builtin "math.gcd")
def gcdI (a b : Int) : Int := ((Nat.gcd a.natAbs b.natAbs : Nat) : Int)
theorem gcdN (a b : Nat) : gcdI a b = ((Nat.gcd a b : Nat) : Int) := by unfold gcdI; rw [Int.natAbs_natCast, Int.natAbs_natCast]
def spIsInt : Sp := fun vs H Q _ => ∃ (x : V) (t : String), vs = [x] ∧ Typ H x t ∧ Q (.bl (isIntV x)) H
def spBetween : Sp := fun vs H Q _ => ∃ (x : V) (t : String) (lo hi : Int), vs = [x, .int lo, .int hi] ∧ Typ H x t ∧ Q (.bl (match x with | .int i => decide (lo ≤ i) && decide (i ≤ hi) | _ => false)) H
def spStripped : Sp := fun vs H Q _ => ∃ n b : Nat, vs = [.int n, .int b] ∧ n < 2 ^ 200 ∧ ∀ r : Nat, (n = 0 ∧ r = 0) ∨ (0 < n ∧ IsStrip n b r) → Q (.int r) H
def spProduct (K : PySem.W.Frag) : Sp := fun vs H Q _ => ∃ (a : Addr) (xs : List Nat), vs = [.ref a] ∧ SqL K H a (xs.map fun (x : Nat) => V.int x) ∧ (∀ x ∈ xs, x < 2 ^ 62) ∧ Q (.int (xs.foldl (fun a b => a * b) 1 : Nat)) H
def spRadL : Sp := fun vs H Q _ => ∃ n : Nat, vs = [.int n] ∧ 1 ≤ n ∧ n ≤ 2000 ∧ ∀ H', Same H H' → Q (.int (radL n : Nat)) H'
section
variable {P : Program} {w : World} {K : PySem.W.Frag} {mg : Str → Option Value} {base : Heap}
theorem ok_is_int (F : Fn K mg "is_int" s_is_int ["value"]) (B : Blt mg) : Has P w K mg base 1 "is_int" ["value"] spIsInt := by
  refine F.has sc_is_int (fun vs H Q E h => ?_) (fun f cdv A outer s H vs Q E hr h => ?_)
  · obtain ⟨a, t, rfl, _⟩ := h
    rfl
  obtain ⟨x, t, rfl, ht, q⟩ := h
  refine ⟨_, (pss_one (ps_ret (pe_and (pe_callB call_isi (by rfl) B.isinstance bb_isinstance (pa_cons (pv 0) (pa_cons (pe_bltn (v := .ty "int") (by rfl) B.int bb_int rfl) pa_nil))) (pe_one (pe_not (pe_callB call_isi (by rfl) B.isinstance bb_isinstance (pa_cons (pv 0) (pa_cons (pe_bltn (v := .ty "bool") (by rfl) B.bool bb_bool rfl) pa_nil)))))))), ?_⟩
  have ty := ht.tyx (K := K)
  cases ht with
  | non =>
    refine ⟨_, rfl, _, .ty "int", _, .type "int", false, rfl, .ty _, ty, kit_ty (by decide +kernel), _, rfl, iteF ?_⟩
    exact q
  | bl x =>
    refine ⟨_, rfl, _, .ty "int", _, .type "int", true, rfl, .ty _, ty, kit_ty (by decide +kernel), _, rfl, iteT ?_⟩
    refine ⟨_, rfl, _, .ty "bool", _, .type "bool", true, rfl, .ty _, ty, kit_ty (by decide +kernel), _, rfl, ?_⟩
    exact q
  | int i =>
    refine ⟨_, rfl, _, .ty "int", _, .type "int", true, rfl, .ty _, ty, kit_ty (by decide +kernel), _, rfl, iteT ?_⟩
    refine ⟨_, rfl, _, .ty "bool", _, .type "bool", false, rfl, .ty _, ty, kit_ty (by decide +kernel), _, rfl, ?_⟩
    exact q
  | str z =>
    refine ⟨_, rfl, _, .ty "int", _, .type "int", false, rfl, .ty _, ty, kit_ty (by decide +kernel), _, rfl, iteF ?_⟩
    exact q
  | lst h =>
    refine ⟨_, rfl, _, .ty "int", _, .type "int", false, rfl, .ty _, ty, kit_ty (by decide +kernel), _, rfl, iteF ?_⟩
    exact q
  | tup h =>
    refine ⟨_, rfl, _, .ty "int", _, .type "int", false, rfl, .ty _, ty, kit_ty (by decide +kernel), _, rfl, iteF ?_⟩
    exact q
theorem ok_is_between (F : Fn K mg "is_between" s_is_between ["value", "least", "most"]) (G_is_int : Has P w K mg base 1 "is_int" ["value"] spIsInt) : Has P w K mg base 2 "is_between" ["value", "least", "most"] spBetween := by
  refine F.has sc_is_between (fun vs H Q E h => ?_) (fun f cdv A outer s H vs Q E hr h => ?_)
  · obtain ⟨a, t, lo, hi, rfl, _⟩ := h
    rfl
  obtain ⟨x, t, lo, hi, rfl, ht, q⟩ := h
  refine ⟨_, (pss_one (ps_ret (pe_and (pe_own G_is_int (hr.mono (by decide)) (by rfl) (pa_cons (pv 0) pa_nil)) (pe_one (pe_chain op_le op_le (pv 1) (pv 0) (pv 2)))))), ?_⟩
  refine ⟨_, rfl, x, t, rfl, ht, ?_⟩
  cases ht with
  | int i =>
    refine ⟨_, rfl, iteT ⟨_, rfl, _, rfl, _, _, rfl, rfl, _, rfl, ?_⟩⟩
    have q' : Q (.bl (decide (lo ≤ i) && decide (i ≤ hi))) H := q
    by_cases h1 : lo ≤ i
    · refine ite_of (decide_eq_true h1) ⟨_, rfl, _, _, rfl, rfl, ?_⟩
      rw [decide_eq_true h1] at q'
      exact q'
    · refine ite_no (by simp [h1]) ?_
      rw [decide_eq_false h1] at q'
      exact q'
  | _ => exact ⟨_, rfl, iteF q⟩
theorem ok_stripped (F : Fn K mg "stripped" s_stripped ["number", "base"]) (T : Txt mg) : Has P w K mg base 1 "stripped" ["number", "base"] spStripped := by
  refine F.has sc_stripped (fun vs H Q E h => ?_) (fun f cdv A outer s H vs Q E hr h => ?_)
  · obtain ⟨a, t, rfl, _⟩ := h
    rfl
  obtain ⟨n, b, rfl, hn, q⟩ := h
  refine ⟨_, (pss_cons (ps_if (pt_cmpR op_eq (pv 0) pe_int (nomark _))
        (pss_one (ps_ret pe_int))
        pss_nil)
      (pss_cons (ps_set (i := 2) sc_stripped.nd rfl (Or.inl rfl) (pv 0))
      (pss_cons (ps_set (i := 3) sc_stripped.nd rfl (Or.inl rfl) (pe_callBfun cr_gcd (by rfl) T.m_gcd (pa_cons (pv 2) (pa_cons (pv 1) pa_nil))))
      (pss_cons (ps_while PassesOwn.never (pt_cmpR op_gt (pv 3) pe_int (nomark _))
        (pss_cons (ps_set (i := 2) sc_stripped.nd rfl (Or.inl rfl) (pe_op op_fdivW (pv 2) (pv 3)))
      (pss_one (ps_set (i := 3) sc_stripped.nd rfl (Or.inl rfl) (pe_callBfun cr_gcd (by rfl) T.m_gcd (pa_cons (pv 2) (pa_cons (pe_op op_mulW (pv 3) (pv 3)) pa_nil)))))))
      (pss_one (ps_ret (pv 2))))))), ?_⟩
  refine ⟨_, rfl, rfl, _, rfl, ?_⟩
  by_cases h0 : n = 0
  · subst h0
    exact ite_of (decide_eq_true rfl) (q 0 (.inl ⟨rfl, rfl⟩))
  · have n0 : 0 < n := Nat.pos_of_ne_zero h0
    refine ite_no (by simp [h0]) ⟨_, rfl, _, rfl, _, rfl, _, _, rfl, ?_⟩
    refine while_by (fun σ H' => ∃ l r : Nat, σ = [some (.int n), some (.int b), some (.int (l : Int)), some (.int (r : Int))] ∧ PLoop n b l r ∧ H' = H)
      (fun σ _ => match σ with | [_, _, some (.int l), _] => l.toNat | _ => 0) ⟨n, Nat.gcd n b, rfl, .start n0, rfl⟩ ?_ ?_
    · rintro σ H' ⟨l, r, rfl, L, rfl⟩
      refine ⟨_, rfl, _, _, rfl, rfl, _, rfl, ite2 (fun c => ?_) (fun c => ?_)⟩
      · have hc : 1 < r := by
          have : (1 : Int) < (r : Int) := of_decide_eq_true c
          omega
        have hl : l ≤ n := Nat.le_of_dvd n0 L.dv
        have hr' : r ≤ l := Nat.le_of_dvd L.pos L.pr
        refine ⟨_, rfl, _, rfl, _, _, rfl, rfl, divN (by omega) (by omega), ?_⟩
        refine ⟨_, rfl, _, rfl, _, rfl, _, _, rfl, rfl, mulN (by omega) (by omega), _, _, rfl, ?_⟩
        refine ⟨⟨l / r, Nat.gcd (l / r) (r * r), ?_, L.step, rfl⟩, ?_⟩
        · have e1 : (l : Int) / (r : Int) = ((l / r : Nat) : Int) := (Int.natCast_ediv l r).symm
          rw [← Int.natCast_ediv, ← Int.natCast_mul, Int.natAbs_natCast, Int.natAbs_natCast]
          show [some (V.int n), some (V.int b), some (V.int ((l : Int) / (r : Int))), some (V.int _)] = _
          rw [e1]
        · show ((l : Int) / (r : Int)).toNat < (l : Int).toNat
          rw [← Int.natCast_ediv, Int.toNat_natCast, Int.toNat_natCast]
          exact Nat.div_lt_self L.pos hc
      · have hc : ¬ 1 < r := by
          have : ¬ (1 : Int) < (r : Int) := of_decide_eq_false (Bool.eq_false_iff.mpr c)
          omega
        exact ⟨_, rfl, q l (.inr ⟨n0, L.done hc⟩)⟩
    · rintro σ H' Q1 Q2 hq ⟨v, e, i, j, e1, e2, k, e3, z⟩
      exact ⟨v, e, i, j, e1, e2, k, e3, hq _ _ z⟩
end
end My
namespace My
open PySem PySem.Spec PyProof.Rows L2
/-! ### a def that may raise, by its name -/
structure HasX (P : Program) (w : World) (K : PySem.W.Frag) (mg : Str → Option Value) (base : Heap) (k : Nat) (x : Str) (ps : List Str) (sp : Sp) : Prop where
  ex : ∃ (f : Addr) (fd : FuncData), FnOk P w K mg base (L2.CX P w) k f fd ps sp ∧ mg x = some (.ref f) ∧ PySem.W.keepIn K (.ref f) = true ∧ Binds K fd ps []
section
variable {X : Cx} {k : Nat} {x : Str} {ps : List Str} {sp : Sp} {p pos : Pos} {e : Expr} {es : List Expr} {t : TA}
/-- called where it raises nothing -/
theorem pe_ownX (h : HasX X.prog X.w X.K X.mg X.base k x ps sp) (hr : Room k X.A) (hg : Gl X x) (ha : PA X (e :: es) t) (hdb : (x == ("__debug__" : Str)) = false := by decide)
    (he : starEach (e :: es) X.env = (false, eval e X.env) :: starEach es X.env := by rfl) (hpl : (backTo pos (starEach es X.env)).any (·.1) = false := by rfl) : PE X (.Call (.Name x p) (e :: es) [] pos) (tCall sp [] E0 t) := by
  obtain ⟨f, fd, F, m, kp, b⟩ := h.ex
  exact pe_call F hr hg m kp b .nil passL ha hdb he hpl
/-- called where what it raises is taken by E -/
theorem pe_ownE {E : XK} (h : HasX X.prog X.w X.K X.mg X.base k x ps sp) (tk : Takes X (fun cls d _ H => E cls d H)) (hr : Room k X.A) (hg : Gl X x) (ha : PA X (e :: es) t) (hdb : (x == ("__debug__" : Str)) = false := by decide)
    (he : starEach (e :: es) X.env = (false, eval e X.env) :: starEach es X.env := by rfl) (hpl : (backTo pos (starEach es X.env)).any (·.1) = false := by rfl) : PE X (.Call (.Name x p) (e :: es) [] pos) (tCall sp [] E t) := by
  obtain ⟨f, fd, F, m, kp, b⟩ := h.ex
  exact pe_call F hr hg m kp b .nil (passes_call tk fun _ _ _ _ h => h) ha hdb he hpl
end
/-- the answer, or the error of a value that is none or out of its bounds -/
def spRadical (CE : Addr) : Sp := fun vs H Q E => (∃ n : Nat, vs = [.int n] ∧ 1 ≤ n ∧ n ≤ 1000000 ∧ Q (.int (radL n : Nat)) H) ∨
  ∃ (x : V) (t : String), vs = [x] ∧ Typ H x t ∧ (∀ i : Int, x = .int i → ¬ (1 ≤ i ∧ i ≤ 1000000)) ∧ ∀ d, H d = none → E (.ref CE) (some d) (upd H d (.xd (errD "given" "InvalidNumber" x)))
/-! ### a def by its positional values -/
structure HasR (P : Program) (w : World) (K : PySem.W.Frag) (mg : Str → Option Value) (base : Heap) (k : Nat) (x : Str) (sp : Sp) : Prop where
  ex : ∃ f : Addr, FnR P w K mg base CX0 k f sp ∧ mg x = some (.ref f) ∧ PySem.W.keepIn K (.ref f) = true
section
variable {X : Cx} {k : Nat} {x : Str} {sp : Sp} {p pos : Pos} {e : Expr} {es : List Expr} {t : TA}
theorem pe_ownR (h : HasR X.prog X.w X.K X.mg X.base k x sp) (hr : Room k X.A) (hg : Gl X x) (ha : PA X (e :: es) t) (hdb : (x == ("__debug__" : Str)) = false := by decide)
    (he : starEach (e :: es) X.env = (false, eval e X.env) :: starEach es X.env := by rfl) (hpl : (backTo pos (starEach es X.env)).any (·.1) = false := by rfl) : PE X (.Call (.Name x p) (e :: es) [] pos) (fun σ H Q => t σ H fun vs H1 => sp vs H1 Q E0) := by
  obtain ⟨f, F, m, kp⟩ := h.ex
  constructor
  intro pins s σ H Q I h
  apply wpAny_Call_Name_kw (ld_glob I hg m ?_ hdb)
  apply PySem.W.callWith_K (h₀ := X.base) I.ok.mod.kin kp _ he hpl
  apply thn (ha.run pos pins s σ H _ I h)
  rintro us s1 ⟨vs, H1, I1, r, q⟩
  exact ⟨I1.kIn, wpAny_call (run_fnR F hr pass0 I1 r q)⟩
end
theorem fold_take {f : Int → Int → Int} {z m : Int} {ns : List Int} {i : Nat} (h : ns[i]? = some m) : (ns.take (i + 1)).foldl f z = f ((ns.take i).foldl f z) m := by
  rw [List.take_add_one, h, List.foldl_append]
  rfl
theorem at_ints {ns : List Int} {i : Nat} {x : V} (h : (ns.map V.int)[i]? = some x) : ∃ m, ns[i]? = some m ∧ x = .int m := by
  rw [List.getElem?_map] at h
  cases hi : ns[i]? with
  | none => rw [hi] at h; cases h
  | some m =>
    rw [hi] at h
    cases h
    exact ⟨m, rfl, rfl⟩
/-- common(a, b) -/
def spCommon2 : Sp := fun vs H Q _ => ∃ a b : Int, vs = [.int a, .int b] ∧ ∀ H', Same H H' → Q (.int (gcdI a b)) H'
section
variable {P : Program} {w : World} {K : PySem.W.Frag} {mg : Str → Option Value} {base : Heap}
theorem ok_radical {CE fI cc cd : Addr} (F : Fn K mg "radical" s_radical ["number"]) (T : Txt mg) (E_InvalidNumber : ErrX.ErrTxt P K mg "InvalidNumber" "given" "InvalidNumber" CE fI cc cd)
    (G_is_between : Has P w K mg base 2 "is_between" ["value", "least", "most"] spBetween) (G_stripped : Has P w K mg base 1 "stripped" ["number", "base"] spStripped) : HasX P w K mg base 3 "radical" ["number"] (spRadical CE) := by
  obtain ⟨f, fd, F, m, b⟩ := F.ex
  refine ⟨f, fd, F.okX sc_radical (fun vs H Q E h => ?_) (fun cdv A outer s H vs Q E hr h => ?_), m, F.kp, b⟩
  · rcases h with ⟨n, rfl, _⟩ | ⟨x, t, rfl, _⟩
    · rfl
    · rfl
  have TK : Takes (cxOf (L2.CX P w) P w K mg base N_radical "radical" (defScope s_radical) f cdv A outer s H E) (fun cls d _ H => E cls d H) := takes_of rfl rfl rfl rfl
  refine ⟨_, (pss_cons (ps_if (pt_not (pt_val (pe_own G_is_between (hr.mono (by decide)) (by rfl) (pa_cons (pv 0) (pa_cons pe_int (pa_cons (pe_gint T.m_MOST_RADICAL (by rfl)) pa_nil))))))
        (pss_one (ps_raise rfl TK (pmk_err E_InvalidNumber hr (pa_cons (pv 0) pa_nil) (by rfl))))
        pss_nil)
      (pss_cons (ps_set (i := 1) sc_radical.nd rfl (Or.inl rfl) pe_int)
      (pss_cons (ps_set (i := 2) sc_radical.nd rfl (Or.inl rfl) (pv 0))
      (pss_cons (ps_set (i := 3) sc_radical.nd rfl (Or.inl rfl) pe_int)
      (pss_cons (ps_while (passes_of rfl) (pt_cmpR op_le (pe_op op_mul (pv 3) (pv 3)) (pv 2) (nomark _))
        (pss_cons (ps_if (pt_cmpR op_eq (pe_op op_mod (pv 2) (pv 3)) pe_int (nomark _))
        (pss_cons (ps_set (i := 1) sc_radical.nd rfl (Or.inl rfl) (pe_op op_mul (pv 1) (pv 3)))
      (pss_one (ps_set (i := 2) sc_radical.nd rfl (Or.inl rfl) (pe_own G_stripped (hr.mono (by decide)) (by rfl) (pa_cons (pv 2) (pa_cons (pv 3) pa_nil))))))
        pss_nil)
      (pss_one (ps_aug (i := 3) sc_radical.nd rfl (Or.inl rfl) pe_int ip_add))))
      (pss_one (ps_ret (pe_op op_mul (pv 1) (pv 2))))))))), ?_⟩
  rcases h with ⟨n, rfl, h1, h2, q⟩ | ⟨x, t, rfl, ht, hn, q⟩
  · refine ⟨_, rfl, _, "int", 1, 1000000, rfl, .int _, ?_⟩
    have e : (decide ((1 : Int) ≤ (n : Int)) && decide ((n : Int) ≤ 1000000)) = true := by
      rw [Bool.and_eq_true]
      exact ⟨decide_eq_true (by omega), decide_eq_true (by omega)⟩
    refine ⟨true, by show V.bl (decide ((1 : Int) ≤ (n : Int)) && decide ((n : Int) ≤ 1000000)) = _; rw [e], iteF ?_⟩
    refine ⟨_, rfl, ?_⟩
    refine while_by (fun σ H' => ∃ res rest p : Nat, σ = [some (.int n), some (.int (res : Int)), some (.int (rest : Int)), some (.int (p : Int))] ∧ RLoop n res rest p ∧ p ≤ 1001 ∧ H' = H)
      (fun σ _ => match σ with | [_, _, _, some (.int p)] => 1003 - p.toNat | _ => 0) ⟨1, n, 2, rfl, .start h1, by decide, rfl⟩ ?_ ?_
    · rintro σ H' ⟨res, rest, p, rfl, L, hp, rfl⟩
      have r0 := L.r0
      have rn := L.le
      have p2 := L.p2
      refine ⟨_, rfl, _, rfl, _, _, rfl, rfl, .inl ⟨by omega, by omega⟩, _, rfl, _, _, rfl, rfl, _, rfl, ?_⟩
      by_cases hc : p * p ≤ rest
      · have hp1000 : p ≤ 1000 := Nat.le_of_not_lt fun z => by
          have := Nat.mul_le_mul z z
          omega
        refine ite_of (decide_eq_true (by rw [← Int.natCast_mul]; exact Int.ofNat_le.mpr hc)) ⟨_, rfl, _, rfl, _, _, rfl, rfl, (by omega), rfl, _, rfl, ?_⟩
        by_cases hm : rest % p = 0
        · have hd := Nat.dvd_of_mod_eq_zero hm
          refine ite_of (decide_eq_true (by show V.int ((rest : Int) % (p : Int)) = V.int 0; rw [← Int.natCast_emod, hm]; rfl)) ?_
          refine ⟨_, rfl, _, rfl, _, _, rfl, rfl, .inr ⟨by omega, by omega⟩, _, rfl, _, rfl, rest, p, rfl, by omega, fun r hr => ?_⟩
          rcases hr with ⟨z, _⟩ | ⟨_, hr⟩
          · omega
          refine ⟨_, rfl, _, _, rfl, rfl, ⟨res * p, r, p + 1, ?_, L.take hd hr, by omega, rfl⟩, ?_⟩
          · rw [Int.natCast_mul, Int.natCast_add]
            rfl
          · show 1003 - ((p : Int) + 1).toNat < 1003 - (p : Int).toNat
            omega
        · refine ite_no (fun z => hm ?_) ⟨_, rfl, _, _, rfl, rfl, ⟨res, rest, p + 1, ?_, L.skip fun z => hm (Nat.mod_eq_zero_of_dvd z), by omega, rfl⟩, ?_⟩
          · have z' : V.int ((rest : Int) % (p : Int)) = V.int 0 := of_decide_eq_true z
            rw [← Int.natCast_emod] at z'
            injection z' with z'
            omega
          · rw [Int.natCast_add]
            rfl
          · show 1003 - ((p : Int) + 1).toNat < 1003 - (p : Int).toNat
            omega
      · refine ite_no (fun z => hc ?_) ?_
        · have z' := of_decide_eq_true z
          rw [← Int.natCast_mul] at z'
          exact Int.ofNat_le.mp z'
        · have e := L.done (by omega)
          refine ⟨_, rfl, _, rfl, _, _, rfl, rfl, .inr ⟨by omega, by omega⟩, ?_⟩
          have e' : V.int ((res : Int) * (rest : Int)) = V.int ((radL n : Nat) : Int) := by
            rw [← Int.natCast_mul, e, ← radL_eq (by omega)]
          show Q (V.int ((res : Int) * (rest : Int))) H'
          rw [e']
          exact q
    · rintro σ H' Q1 Q2 hq ⟨v1, e1, v2, e2, i, j, e3, e4, c, v3, e5, i2, j2, e6, e7, k, e8, z⟩
      exact ⟨v1, e1, v2, e2, i, j, e3, e4, c, v3, e5, i2, j2, e6, e7, k, e8, hq _ _ z⟩
  · refine ⟨_, rfl, x, t, 1, 1000000, rfl, ht, ?_⟩
    refine ⟨false, ?_, iteT ⟨_, rfl, x, rfl, q⟩⟩
    cases x with
    | int i =>
      have := hn i rfl
      show V.bl (decide (1 ≤ i) && decide (i ≤ 1000000)) = _
      congr 1
      rw [Bool.and_eq_false_iff]
      by_cases h1 : 1 ≤ i
      · exact .inr (decide_eq_false fun z => this ⟨h1, z⟩)
      · exact .inl (decide_eq_false h1)
    | _ => rfl
theorem ok_common (F : ∃ (f : Addr) (fd : FuncData), Fun K "common" "common" s_common f fd ∧ mg "common" = some (.ref f)) (T : Txt mg) : HasR P w K mg base 1 "common" spCommon2 := by
  obtain ⟨f, fd, F, m⟩ := F
  have kp := F.kp
  obtain ⟨oc, od, kV, doc, pm, an, cdv, ct, osl, rfl, lk, hcd⟩ := F.ex
  have R := StX.fn_star (P := P) (w := w) (mg := mg) (base := base) (CX := CX0) (k := 0) (sp := fun vs H Q _ => ∃ (p : Addr) (ns : List Int), vs = [.ref p] ∧ H p = some (.tup (ns.map V.int)) ∧ Q (.int (ns.foldl gcdI 0)) H) (ps := []) (pv := "numbers") (N := N_common) lk hcd sc_common StX.cxUp_none (fun us rest hl => match us, rest, hl with | [], [], _ => rfl | [], _ :: _, _ => rfl) (fun A outer s H vs Q E hr h => by
    obtain ⟨p, ns, rfl, hp, q⟩ := h
    refine ⟨_, PSs.nox (pss_cons (ps_set (i := 1) sc_common.nd rfl (Or.inl rfl) pe_int)
      (pss_cons (ps_for PassesOwn.never rfl (pi_tup (pv 0)) (pg_name (i := 2) sc_common.nd rfl (Or.inl rfl))
        (pss_one (ps_set (i := 1) sc_common.nd rfl (Or.inl rfl) (pe_callBfun cr_gcd (by rfl) T.m_gcd (pa_cons (pv 1) (pa_cons (pv 2) pa_nil))))))
      (pss_one (ps_ret (pv 1))))), ?_⟩
    refine ⟨_, rfl, p, rfl, ⟨_, SqT.of hp⟩, for_tup (fun i σ H' => ∃ y, σ = [some (.ref p), some (.int ((ns.take i).foldl gcdI 0)), y] ∧ H' = H) ⟨none, rfl, rfl⟩ (fun i σ H' _ ⟨_, _, e⟩ => e ▸ SqT.of hp) ?_ ?_⟩
    · rintro i x σ H' hx ⟨y, rfl, rfl⟩
      obtain ⟨m, hm, rfl⟩ := at_ints hx
      refine ⟨_, rfl, _, rfl, _, _, rfl, some (.int m), ?_, rfl⟩
      rw [fold_take hm]
      rfl
    · rintro σ H' ⟨y, rfl, rfl⟩
      rw [List.length_map, List.take_length]
      exact ⟨_, rfl, q⟩)
  refine ⟨f, R.imp fun vs H Q E ⟨a, b, ev, q⟩ => ⟨[], vs, rfl, rfl, ?_, fun p hp => ⟨p, [a, b], rfl, ?_, ?_⟩⟩, m, kp⟩
  · rw [ev]
    exact (by show 2 ≤ sizeLine; decide)
  · rw [ev]
    exact upd_same
  · have e : [a, b].foldl gcdI 0 = gcdI a b := by
      show gcdI (gcdI 0 a) b = gcdI a b
      unfold gcdI
      simp
    rw [e]
    exact q _ (same_upd hp)
end
end My
/-! own classes: static methods, properties, ==, repr, bool -/
namespace OwO
open PySem PySem.Spec PyProof.Rows L2
/-- C.m is a static method: its record at p, its def at g -/
structure CStat (K : PySem.W.Frag) (C : Addr) (mc : Value) (m : Str) (p g : Addr) : Prop where
  at_ : PySem.W.findCls K (.ref C) mc m = some (.get (.builtin "staticmethod.__get__") (.ref p) .none (.ref C))
  rc : ∃ rest, PySem.W.recIn K p "staticmethod" = some (.ref g :: rest)
/-- a special method of the class at C: a def of it -/
structure Spc (K : PySem.W.Frag) (C : Addr) (m : Str) (f : Addr) : Prop where
  at_ : PySem.W.findIn K (.ref C) m = some (some (.ref f))
  fn : PySem.W.isFn K (.ref f) = true
def tStat (C : Addr) (sp : Sp) (dvs : List V) (E : XK) (ta : TE) (t : TA) : TE := fun σ H Q => ta σ H fun x H1 => x = .ref C ∧ t σ H1 fun vs H2 => sp (vs ++ dvs) H2 Q E
section
variable {X : Cx} {pins : List (Addr × Obj)} {σ : L2.St} {H : Hp} {s : Shared}
theorem getmethst_ok {C p g : Addr} {mc : Value} {m : Str} {pl : Sem Bool} {A : Around} {E : Value → Shared → Prop} {Q : Value × List Value → Shared → Prop} (I : Inv X pins σ H s) (r : ClX.CRead X.K C mc) (k : CStat X.K C mc m p g)
    (h : ∀ s', Inv X pins σ H s' → Q (.ref g, []) s') : wpAny (model X.prog X.w) A (getMethod (.ref C) m pl) Q E s := by
  obtain ⟨rest, hp⟩ := k.rc
  refine PySem.W.method_cls I.kIn r.ga (PySem.W.cls_bind I.kIn r.rd k.at_ ?_)
  exact wpAny_call (PySem.W.sm_get (s := { s with toks := s.toks + 1 }) I.kIn hp (PySem.W.handed_on rfl (h _ (I.tok _))))
end
section
variable {X : Cx} {CX : CXT} {k : Nat} {C p g : Addr} {mc : Value} {fd : FuncData} {ps : List Str} {ds : List Value} {dvs : List V} {sp : Sp} {E : XK} {o e : Expr} {es : List Expr} {m : Str} {pos apos : Pos} {ta : TE} {t : TA} {pl : Sem Bool}
/-- C.m() -/
theorem pe_stat0 (he : PE X o ta) (r : ClX.CRead X.K C mc) (c : CStat X.K C mc m p g) (F : FnOk X.prog X.w X.K X.mg X.base CX k g fd ps sp) (hr : Room k X.A) (hk : PySem.W.keepIn X.K (.ref g) = true) (hb : Binds X.K fd ps ds) (hd : Vals dvs ds) (hx : Passes CX X E)
    (ht : eval (.Call (.Attribute o m apos) [] [] pos) X.env = (do
      let ov ← eval o X.env
      standAt apos.atName
      let (f, first) ← holding [ov] (getMethod ov m pl)
      callWith pos f first (backTo pos (starEach [] X.env)) (backToKw pos (keywordEach [] X.env))) := by rfl) :
    PE X (.Call (.Attribute o m apos) [] [] pos) (tStat C sp dvs E ta tNil) := by
  refine ⟨fun pins s σ H Q I h => ?_⟩
  refine PySem.W.methodCall_KW (pl := pl) (thn (he.run pins s σ H _ I h) fun u s1 ⟨x, H1, I1, rx, ex, q⟩ => ?_) ht
  subst ex
  obtain rfl : u = Value.ref C := rx
  refine getmethst_ok I1 r c fun s2 I2 => ?_
  exact PySem.W.callWith_K0 I2.kIn hk (run_fn F hr hb hd hx I2 .nil q)
/-- C.m(e, ..) -/
theorem pe_stat (he : PE X o ta) (r : ClX.CRead X.K C mc) (c : CStat X.K C mc m p g) (F : FnOk X.prog X.w X.K X.mg X.base CX k g fd ps sp) (hr : Room k X.A) (hk : PySem.W.keepIn X.K (.ref g) = true) (hb : Binds X.K fd ps ds) (hd : Vals dvs ds) (hx : Passes CX X E) (ha : PA X (e :: es) t)
    (hst : starEach (e :: es) X.env = (false, eval e X.env) :: starEach es X.env := by rfl) (hpl : (backTo pos (starEach es X.env)).any (·.1) = false := by rfl)
    (ht : eval (.Call (.Attribute o m apos) (e :: es) [] pos) X.env = (do
      let ov ← eval o X.env
      standAt apos.atName
      let (f, first) ← holding [ov] (getMethod ov m pl)
      callWith pos f first (backTo pos (starEach (e :: es) X.env)) (backToKw pos (keywordEach [] X.env))) := by rfl) :
    PE X (.Call (.Attribute o m apos) (e :: es) [] pos) (tStat C sp dvs E ta t) := by
  refine ⟨fun pins s σ H Q I h => ?_⟩
  refine PySem.W.methodCall_KW (pl := pl) (thn (he.run pins s σ H _ I h) fun u s1 ⟨x, H1, I1, rx, ex, q⟩ => ?_) ht
  subst ex
  obtain rfl : u = Value.ref C := rx
  refine getmethst_ok I1 r c fun s2 I2 => ?_
  refine PySem.W.callWith_K (h₀ := X.base) I2.ok.mod.kin hk (thn (ha.run pos pins s2 σ H1 _ I2 q) fun us s3 ⟨vs, H2, I3, rv, q2⟩ => ⟨I3.kIn, ?_⟩) hst hpl
  exact run_fn F hr hb hd hx I3 rv q2
end
/-! ### what an own special method answers -/
section
variable {X : Cx} {K0 : PySem.W.Frag} {k : Nat} {C f : Addr} {fd : FuncData} {ps : List Str} {sp : Sp}
/-- repr(o) -/
theorem cr_repr {m : Str} (hm : m = "__repr__") (S : Spc X.K C m f) (F : FnOk X.prog X.w X.K X.mg X.base CX0 k f fd ps sp) (hb : Binds X.K fd ps []) (hr : Room (k + 1) X.A) :
    CallR X (.builtin "repr") (fun xs H Q => ∃ a dx fs, xs = [.ref a] ∧ H a = some (.ins C dx fs) ∧ sp [.ref a] H (fun v H' => ∃ z : Str, v = .str z ∧ Q (.str z) H') E0) := by
  subst hm
  intro pins s σ H xs us Q I r h
  obtain ⟨a, dx, fs, rfl, ha, hsp⟩ := h
  obtain rfl := Vals.ref1 r
  obtain ⟨mA, J, _⟩ := ins_get I.hok ha
  obtain ⟨od, J, _⟩ := J.look
  obtain ⟨m, hF⟩ := I.fr
  have hl := F.len _ _ _ _ hsp
  refine PySem.W.repr_K hr.in1.units0 hF I.ok.mod.kin J S.at_ S.fn ?_
  refine wpAny_call (codeAny_mono (F.run X.A.in1 X.stack s H ⟨[.ref a], []⟩ [.ref a] [.ref a] _ E0 hr.in1 I.env0.in1 (hb s [.ref a] I.kIn (by simpa using hl)) (.cons rfl .nil) hsp) fun r s' hq => ?_)
  cases r with
  | error e => exact (show False from hq).elim
  | ok fl =>
    cases fl with
    | ret w =>
      obtain ⟨v, H', I', rv, z, rfl, q⟩ := I.after hq
      obtain ⟨t, rfl⟩ := rv
      exact ⟨.str z, H', I', ⟨t, rfl⟩, q⟩
    | next => exact False.elim hq
    | brk => exact False.elim hq
    | cont => exact False.elim hq
/-- bool(o), by an own __bool__ -/
theorem call_boolK {prog : Program} {w : World} {A : Around} {E : Value → Shared → Prop} {s : Shared} {K : PySem.W.Frag} {L x C f : Addr} {h₀ : Heap} {mm : Str → Option Value} {ox : Obj} {od : Option Obj} {Q : Value → Shared → Prop} (F : Fr h₀ L s.heap mm) (X₀ : K.In h₀) (I : PySem.W.InstAt s.heap x ox C od)
    (hs : PySem.W.findIn K (.ref C) "__bool__" = some (some (.ref f))) (hf : PySem.W.isFn K (.ref f) = true) (h : wpAny (model prog w) A.in1.in1 (call (.ref f) [.ref x]) (PySem.W.BoolBack fun b => Q (.bool b)) E s) : wpAny (model prog w) A (call (.type "bool") [.ref x]) Q E s := by
  refine callType_codes (T := "bool") (Bi := Builtin.«object.__init__») (Q₁ := fun r s₁ => ∃ b, r = .bool b ∧ Q r s₁) PySem.F.called_bool (PySem.F.typeCall_bool_1 _) PySem.F.entry_object_init ?_ ?_
  · refine codeAny_of_tree ?_
    show wpAny _ A.in1.in1 (do checkBuiltinCall "bool.__new__" ⟨[.type "bool", .ref x], []⟩; again (.builtin "bool.__new__" ⟨[.type "bool", .ref x], []⟩)) _ _ s
    refine wpAny_bind (wpAny_of_eq (PySem.F.newCall_bool_1 _) (wpAny_pure ⟨plainId_quiet (by decide +kernel) _, codeAny_builtin PySem.F.entry_bool_new ?_⟩))
    rw [Around.under_plainId (by decide +kernel) _]
    unfold Builtin.«bool.__new__»
    have f1 := PySem.F.conv_sub_bool
    have key : wpAny (model prog w) A.in1.in1 (truthy (.ref x)) (fun b s₁ => Q (.bool b) s₁) E s := PySem.W.truthy_K F X₀ I hs hf h
    obtain ⟨hp, g, d, tk, os⟩ := s
    repeat (any_goals (first | assumption | (with_reducible refine wpAny_bind (wpAny_mono key (fun b s₁ hq => ?_) fun _ _ y => y)) | wp_step))
    all_goals first | exact ⟨_, rfl, _, rfl, hq⟩ | exact ⟨_, rfl, hq⟩ | exact hq | skip
  · rintro obj s₁ ⟨b, rfl, hq⟩
    exact ⟨rfl, PySem.F.args_object_init_2 _ _, object_init_meets PySem.F.called_bool.init.lookup PySem.F.called_bool.made (by decide) prog w A.in1 _ s₁ ⟨rfl, rfl, hq⟩⟩
theorem ct_bool {m : Str} (hm : m = "__bool__") (S : Spc X.K C m f) (F : FnOk X.prog X.w X.K X.mg X.base CX0 k f fd ps sp) (hb : Binds X.K fd ps []) (hr : Room (k + 2) X.A) :
    CallR X (.type "bool") (fun xs H Q => ∃ a dx fs, xs = [.ref a] ∧ H a = some (.ins C dx fs) ∧ sp [.ref a] H (fun v H' => ∃ b : Bool, v = .bl b ∧ Q (.bl b) H') E0) := by
  subst hm
  intro pins s σ H xs us Q I r h
  obtain ⟨a, dx, fs, rfl, ha, hsp⟩ := h
  obtain rfl := Vals.ref1 r
  obtain ⟨mA, J, _⟩ := ins_get I.hok ha
  obtain ⟨od, J, _⟩ := J.look
  obtain ⟨m, hF⟩ := I.fr
  have hl := F.len _ _ _ _ hsp
  refine call_boolK hF I.ok.mod.kin J S.at_ S.fn ?_
  refine wpAny_call (codeAny_mono (F.run X.A.in1.in1 X.stack s H ⟨[.ref a], []⟩ [.ref a] [.ref a] _ E0 hr.in1.in1 I.env0.in1.in1 (hb s [.ref a] I.kIn (by simpa using hl)) (.cons rfl .nil) hsp) fun r s' hq => ?_)
  cases r with
  | error e => exact (show False from hq).elim
  | ok fl =>
    cases fl with
    | ret w =>
      obtain ⟨v, H', I', rv, z, rfl, q⟩ := I.after hq
      cases rv
      exact ⟨.bl z, H', I', rfl, q⟩
    | next => exact False.elim hq
    | brk => exact False.elim hq
    | cont => exact False.elim hq
/-- o == y, by an own __eq__ (y no instance of a class below o's) -/
def rEqO (K : PySem.W.Frag) (C : Addr) (sp : Sp) : R2 := fun x y H Q => ∃ a dx fs t, x = .ref a ∧ H a = some (.ins C dx fs) ∧ TyX K H y t ∧ PySem.W.notFirst K C t = true ∧ sp [.ref a, y] H (fun v H' => ∃ b : Bool, v = .bl b ∧ Q (.bl b) H') E0
theorem op_eqO {m : Str} (hm : m = "__eq__") (S : Spc X.K C m f) (F : FnOk X.prog X.w X.K X.mg X.base CX0 k f fd ps sp) (hb : Binds X.K fd ps []) (hr : Room k X.A) (hK : X.K = K0) : OpR X (compareOp .Eq) (rEqO K0 C sp) := by
  subst hm hK
  intro pins s σ H x y u v Q I rx ry h
  obtain ⟨a, dx, fs, t, rfl, ha, ty, hn, hsp⟩ := h
  obtain rfl : u = Value.ref a := rx
  obtain ⟨mA, J, _⟩ := ins_get I.hok ha
  obtain ⟨od, J, _⟩ := J.look
  obtain ⟨m, hF⟩ := I.fr
  obtain ⟨P, kx, hP, _⟩ := kit_of I ry ty
  have hl := F.len _ _ _ _ hsp
  show wpAny _ _ (richCompare .Eq (.ref a) v) _ _ _
  refine PySem.W.cmp_K (op := .Eq) hr.units0 hF I.ok.mod.kin J (kx.ty _ _ I.kIn hP) hn S.at_ S.fn ?_
  refine wpAny_call (codeAny_mono (F.run X.A X.stack s H ⟨[.ref a, v], []⟩ [.ref a, v] [.ref a, y] _ E0 hr I.env0 (by
    have z := hb s [.ref a, v] I.kIn (by simpa using hl)
    simpa using z) (.cons rfl (.cons ry .nil)) hsp) fun r s' hq => ?_)
  cases r with
  | error e => exact (show False from hq).elim
  | ok fl =>
    cases fl with
    | ret w =>
      obtain ⟨z, H', I', rv, b, rfl, q⟩ := I.after hq
      cases rv
      exact ⟨.bl b, H', I', rfl, q⟩
    | next => exact False.elim hq
    | brk => exact False.elim hq
    | cont => exact False.elim hq
end
end OwO
/-! normal numbers -/
namespace My
open PySem PySem.Spec PyProof.Rows L2
theorem dec0 (n : Nat) : decide (V.int (n : Int) = V.int 0) = decide (n = 0) := by
  by_cases h : n = 0
  · subst h
    rfl
  · rw [decide_eq_false h, decide_eq_false]
    intro z
    injection z with z
    omega
def Strip (n b r : Nat) : Prop := (n = 0 ∧ r = 0) ∨ (0 < n ∧ IsStrip n b r)
theorem Strip.one {n b r r' : Nat} (h : Strip n b r) (h' : Strip n b r') : r = r' := by
  rcases h with ⟨a, rfl⟩ | ⟨a, h⟩
  · rcases h' with ⟨_, rfl⟩ | ⟨b, _⟩
    · rfl
    · omega
  · rcases h' with ⟨b, _⟩ | ⟨_, h'⟩
    · omega
    · exact strip_one h h'
theorem Strip.zero {n b r : Nat} (h : Strip n b r) : r = 0 ↔ n = 0 := by
  rcases h with ⟨a, b⟩ | ⟨a, h⟩
  · exact ⟨fun _ => a, fun _ => b⟩
  · constructor
    · intro z
      subst z
      exact Nat.eq_zero_of_zero_dvd h.1
    · omega
theorem Strip.le {n b r : Nat} (h : Strip n b r) : r ≤ n := by
  rcases h with ⟨a, b⟩ | ⟨a, h⟩
  · omega
  · exact Nat.le_of_dvd a h.1
theorem Strip.by_one {n : Nat} : Strip n 1 n := by
  by_cases h : n = 0
  · exact .inl ⟨h, h⟩
  · exact .inr ⟨by omega, Nat.dvd_refl _, Nat.coprime_one_right _, 0, by simp⟩
theorem Strip.again {n b r : Nat} (h : Strip n b r) : Strip r b r := by
  rcases h with ⟨a, h⟩ | ⟨a, h1, h2, h3⟩
  · exact .inl ⟨h, h⟩
  · by_cases r0 : r = 0
    · exact .inl ⟨r0, r0⟩
    · exact .inr ⟨by omega, Nat.dvd_refl _, h2, 0, by simp⟩
/-- stripping keeps divisors, up to a factor c -/
theorem Strip.dvd {n m b r q c : Nat} (h : Strip n b r) (h' : Strip m b q) (hd : n ∣ c * m) : r ∣ c * q := by
  rcases h with ⟨a, rfl⟩ | ⟨a, h1, h2, _⟩
  · subst a
    have z := Nat.eq_zero_of_zero_dvd hd
    rcases Nat.mul_eq_zero.mp z with e | e
    · rw [e, Nat.zero_mul]; exact Nat.dvd_refl _
    · rw [h'.zero.mpr e]; exact Nat.dvd_zero _
  · rcases h' with ⟨e, rfl⟩ | ⟨_, _, _, k, h3⟩
    · exact Nat.dvd_zero _
    · have w : r ∣ c * q * b ^ k := by
        rw [Nat.mul_assoc]
        exact Nat.dvd_trans h1 (Nat.dvd_trans hd (Nat.mul_dvd_mul_left c h3))
      exact (h2.pow_right k).dvd_of_dvd_mul_right w
/-- the normal form d' o' s' t' of the numbers d o s t (d a product of primes) -/
structure Nrm (d o s t d' o' s' t' : Nat) : Prop where
  ed : d' = if Nat.gcd o (2 * t) = 0 then d else 1
  eo : Strip (Nat.gcd o (2 * t)) d o'
  es : Strip (Nat.gcd s (Nat.gcd t (Nat.gcd o (2 * t)))) d s'
  et : Strip (Nat.gcd t (Nat.gcd o (2 * t))) d t'
theorem Nrm.one {d o s t d' o' s' t' d'' o'' s'' t'' : Nat} (h : Nrm d o s t d' o' s' t') (h' : Nrm d o s t d'' o'' s'' t'') : d' = d'' ∧ o' = o'' ∧ s' = s'' ∧ t' = t'' := ⟨h.ed.trans h'.ed.symm, h.eo.one h'.eo, h.es.one h'.es, h.et.one h'.et⟩
theorem Nrm.st {d o s t d' o' s' t' : Nat} (h : Nrm d o s t d' o' s' t') : s' ∣ t' := by
  have z := h.es.dvd h.et (c := 1) (by rw [Nat.one_mul]; exact Nat.gcd_dvd_right _ _)
  rw [Nat.one_mul] at z
  exact z
theorem Nrm.to {d o s t d' o' s' t' : Nat} (h : Nrm d o s t d' o' s' t') : t' ∣ o' := by
  have z := h.et.dvd h.eo (c := 1) (by rw [Nat.one_mul]; exact Nat.gcd_dvd_right _ _)
  rw [Nat.one_mul] at z
  exact z
theorem Nrm.ot {d o s t d' o' s' t' : Nat} (h : Nrm d o s t d' o' s' t') : o' ∣ 2 * t' := by
  refine h.eo.dvd h.et (c := 2) ?_
  rw [← Nat.gcd_mul_left]
  exact Nat.dvd_gcd (Nat.gcd_dvd_right _ _) (Nat.dvd_mul_left _ _)
theorem Nrm.dz {d o s t d' o' s' t' : Nat} (h : Nrm d o s t d' o' s' t') (h1 : 1 < d') : o' = 0 := by
  have e := h.ed
  by_cases c : Nat.gcd o (2 * t) = 0
  · exact h.eo.zero.mpr c
  · rw [if_neg c] at e
    omega
/-- the normal form of a normal form -/
theorem Nrm.again {d o s t d' o' s' t' : Nat} (h : Nrm d o s t d' o' s' t') : Nrm d' o' s' t' d' o' s' t' := by
  have g1 : Nat.gcd o' (2 * t') = o' := Nat.gcd_eq_left h.ot
  have g2 : Nat.gcd t' o' = t' := Nat.gcd_eq_left h.to
  have g3 : Nat.gcd s' t' = s' := Nat.gcd_eq_left h.st
  have st : ∀ {n r : Nat}, Strip n d r → Strip r d' r := fun {n r} z => by
    rw [h.ed]
    split
    · exact z.again
    · exact .by_one
  refine ⟨?_, ?_, ?_, ?_⟩
  · rw [g1]
    by_cases c : o' = 0
    · rw [if_pos c]
    · rw [if_neg c, h.ed, if_neg fun z => c (h.eo.zero.mpr z)]
  · rw [g1]; exact st h.eo
  · rw [g1, g2, g3]; exact st h.es
  · rw [g1, g2]; exact st h.et
theorem Nrm.rad {d o s t d' o' s' t' : Nat} (h : Nrm d o s t d' o' s' t') (d0 : 0 < d) (hd : radP d = d) : 0 < d' ∧ d' ≤ d ∧ radP d' = d' := by
  rw [h.ed]
  split
  · exact ⟨d0, Nat.le_refl _, hd⟩
  · exact ⟨Nat.one_pos, d0, radP_one⟩
def tupR (d o s t : Nat) : HO := .tup [.int (d : Int), .int (o : Int), .int (s : Int), .int (t : Int)]
def spNormal : Sp := fun vs H Q _ => ∃ d o s t : Nat, vs = [.int d, .int o, .int s, .int t] ∧ o < 2 ^ 100 ∧ s < 2 ^ 100 ∧ t < 2 ^ 100 ∧
  ∀ (H' : Hp) (T : Addr) (d' o' s' t' : Nat), Nrm d o s t d' o' s' t' → Same H H' → H T = none → H' T = some (tupR d' o' s' t') → Q (.ref T) H'
section
variable {P : Program} {w : World} {K : PySem.W.Frag} {mg : Str → Option Value} {base : Heap}
theorem ok_normal (F : Fn K mg "normal_numbers" s_normal_numbers ["inverse", "ones", "swaps", "squares"]) (B : Blt mg) (G_common : HasR P w K mg base 1 "common" spCommon2) (G_stripped : Has P w K mg base 1 "stripped" ["number", "base"] spStripped) :
    Has P w K mg base 2 "normal_numbers" ["inverse", "ones", "swaps", "squares"] spNormal := by
  refine F.has sc_normal_numbers (fun vs H Q E h => ?_) (fun f cdv A outer s H vs Q E hr h => ?_)
  · obtain ⟨d, o, s, t, rfl, _⟩ := h
    rfl
  obtain ⟨d, o, sw, t, rfl, ho, hs, ht, q⟩ := h
  refine ⟨_, (pss_cons (ps_set (i := 1) sc_normal_numbers.nd rfl (Or.inl rfl) (pe_ownR G_common (hr.mono (by decide)) (by rfl) (pa_cons (pv 1) (pa_cons (pe_op op_mul pe_int (pv 3)) pa_nil))))
      (pss_cons (ps_set (i := 3) sc_normal_numbers.nd rfl (Or.inl rfl) (pe_ownR G_common (hr.mono (by decide)) (by rfl) (pa_cons (pv 3) (pa_cons (pv 1) pa_nil))))
      (pss_cons (ps_set (i := 2) sc_normal_numbers.nd rfl (Or.inl rfl) (pe_ownR G_common (hr.mono (by decide)) (by rfl) (pa_cons (pv 2) (pa_cons (pv 3) pa_nil))))
      (pss_cons (ps_setLc (i := 4) (own := [("number", 5)]) (g := gName 5) (tt := tYes) (by rfl) sc_normal_numbers.nd rfl rfl (sw_true rfl rfl rfl (by decide +kernel)) (pi_tup (pe_tup (pa_cons (pv 1) (pa_cons (pv 2) (pa_cons (pv 3) pa_nil))))) (blkOk_by (own := [("number", 5)]) (N := N_normal_numbers) (sc := defScope s_normal_numbers) (by decide +kernel)) (fun _ _ _ _ _ => (pg_name (i := 5) sc_normal_numbers.nd rfl (Or.inl rfl))) (fun _ _ _ _ _ => pts_nil) (fun _ _ _ _ _ => (pe_own G_stripped (hr.mono (by decide)) (by rfl) (pa_cons (pv 5) (pa_cons (pv 0) pa_nil)))))
      (pss_one (ps_ret (pe_tup (pa_cons (pe_ifExp (pt_cmpR op_ne (pv 1) pe_int (nomark _)) pe_int (pv 0)) (StX.pa_star (pv 4) pa_nil))))))))), ?_⟩
  have e1 : gcdI (o : Int) (2 * (t : Int)) = ((Nat.gcd o (2 * t) : Nat) : Int) := gcdN o (2 * t)
  refine ⟨_, rfl, _, rfl, _, _, rfl, rfl, .inl ⟨by omega, by omega⟩, _, _, rfl, fun H1 s1 => ?_⟩
  rw [e1]
  refine ⟨_, rfl, _, rfl, _, _, rfl, fun H2 s2 => ?_⟩
  rw [gcdN]
  refine ⟨_, rfl, _, rfl, _, _, rfl, fun H3 s3 => ?_⟩
  rw [gcdN]
  have b1 : Nat.gcd o (2 * t) < 2 ^ 200 := by
    by_cases z : o = 0
    · rw [z, Nat.gcd_zero_left]; omega
    · exact Nat.lt_of_le_of_lt (Nat.le_of_dvd (by omega) (Nat.gcd_dvd_left _ _)) (by omega)
  have b2 : Nat.gcd t (Nat.gcd o (2 * t)) < 2 ^ 200 := by
    by_cases z : t = 0
    · rw [z, Nat.gcd_zero_left]; rw [z] at b1; exact b1
    · exact Nat.lt_of_le_of_lt (Nat.le_of_dvd (by omega) (Nat.gcd_dvd_left _ _)) (by omega)
  have b3 : Nat.gcd sw (Nat.gcd t (Nat.gcd o (2 * t))) < 2 ^ 200 := by
    by_cases z : sw = 0
    · rw [z, Nat.gcd_zero_left]; exact b2
    · exact Nat.lt_of_le_of_lt (Nat.le_of_dvd (by omega) (Nat.gcd_dvd_left _ _)) (by omega)
  have s13 := s1.trans (s2.trans s3)
  refine ⟨_, rfl, _, rfl, _, rfl, (by show 3 ≤ sizeLine; decide), fun p hp => ?_⟩
  have ep : ∀ H' : Hp, H' p = some (.tup (vNats [Nat.gcd o (2 * t), Nat.gcd sw (Nat.gcd t (Nat.gcd o (2 * t))), Nat.gcd t (Nat.gcd o (2 * t))])) → SqT K H' p (vNats [Nat.gcd o (2 * t), Nat.gcd sw (Nat.gcd t (Nat.gcd o (2 * t))), Nat.gcd t (Nat.gcd o (2 * t))]) := fun H' e => SqT.of e
  obtain ⟨ns, hns⟩ : ∃ ns, ns = [Nat.gcd o (2 * t), Nat.gcd sw (Nat.gcd t (Nat.gcd o (2 * t))), Nat.gcd t (Nat.gcd o (2 * t))] := ⟨_, rfl⟩
  have hb : ∀ n ∈ ns, n < 2 ^ 200 := by
    rw [hns]
    intro n hn
    simp only [List.mem_cons, List.not_mem_nil, or_false] at hn
    rcases hn with rfl | rfl | rfl <;> assumption
  have ns3 : ns.length = 3 := by rw [hns]; rfl
  have s4 : Same H3 (upd H3 p (.tup (vNats ns))) := same_upd hp
  have at_ : (upd H3 p (.tup (vNats ns))) p = some (.tup (vNats ns)) := upd_same
  have g0 : ns[0]? = some (Nat.gcd o (2 * t)) := by rw [hns]; rfl
  have g1 : ns[1]? = some (Nat.gcd sw (Nat.gcd t (Nat.gcd o (2 * t)))) := by rw [hns]; rfl
  have g2 : ns[2]? = some (Nat.gcd t (Nat.gcd o (2 * t))) := by rw [hns]; rfl
  have ev : [V.int ((Nat.gcd o (2 * t) : Nat) : Int), V.int ((Nat.gcd sw (Nat.gcd t (Nat.gcd o (2 * t))) : Nat) : Int), V.int ((Nat.gcd t (Nat.gcd o (2 * t)) : Nat) : Int)] = vNats ns := by rw [hns]; rfl
  rw [ev]
  refine ⟨p, rfl, ⟨_, SqT.of at_⟩, fun D hD => ?_⟩
  refine lc_it (walk_tup (xs := vNats ns)) (fun i H' => Same (upd H3 p (.tup (vNats ns))) H' ∧ ∃ rs : List Nat, rs.length = i ∧ H' D = some (.lst (vNats rs)) ∧ ∀ (j r n : Nat), rs[j]? = some r → ns[j]? = some n → Strip n d r)
    ⟨same_upd hD, [], rfl, upd_same, fun j r n z => by simp at z⟩ (fun i H' _ h => SqT.of (h.1 _ _ at_)) ?_ ?_
  · rintro i v H4 H5 hi ⟨s5, rs, hl, e5, all⟩ ⟨rfl, hv⟩
    obtain ⟨n, hn⟩ : ∃ n, ns[i]? = some n := by
      have : i < ns.length := by simpa using hi
      exact ⟨_, List.getElem?_eq_getElem this⟩
    have hv' : v = V.int (n : Int) := by
      rw [List.getElem?_map, hn] at hv
      exact (Option.some.inj hv).symm
    subst hv'
    refine ⟨rfl, tYes_ok ⟨_, rfl, _, rfl, n, d, rfl, hb n (List.mem_of_getElem? hn), fun r hr => ?_⟩⟩
    have hi3 : i < 3 := by
      have : i < ns.length := by simpa using hi
      omega
    refine ⟨_, e5, small1000 (by rw [List.length_map]; omega), fun c o' hc => ?_, rs ++ [r], by simp [hl], ?_, fun j r' n' h1 h2 => ?_⟩
    · rw [upd_ne (ne_of_none hc hD)]
      exact s5 _ _ hc
    · rw [upd_same]
      simp
    · by_cases hj : j < rs.length
      · rw [List.getElem?_append_left hj] at h1
        exact all j r' n' h1 h2
      · have ej : j = i := by
          have := (List.getElem?_eq_some_iff.mp h1).1
          simp at this
          omega
        subst ej
        rw [List.getElem?_append_right (by omega), hl] at h1
        simp at h1
        rw [hn] at h2
        cases h2
        subst h1
        exact hr
  · rintro H6 ⟨s6, rs, hl, e6, all⟩
    rw [List.length_map, ns3] at hl
    match rs, hl with
    | [a, b, c], _ =>
    have ha := all 0 a _ rfl g0
    have hbq := all 1 b _ rfl g1
    have hc := all 2 c _ rfl g2
    have sa := s13.trans (s4.trans s6)
    by_cases z : Nat.gcd o (2 * t) = 0
    · refine ⟨_, rfl, rfl, _, rfl, ite_no (by rw [dec0, decide_eq_true z]; decide) ?_⟩
      refine ⟨_, rfl, _, rfl, D, _, rfl, .inr (SqL.of e6), (by show 4 ≤ sizeLine; decide), fun T hT => ?_⟩
      exact q _ T d a b c ⟨by rw [if_pos z], ha, hbq, hc⟩ (sa.trans (same_upd hT)) (sa.free hT) upd_same
    · refine ⟨_, rfl, rfl, _, rfl, ite_of (by rw [dec0, decide_eq_false z]; rfl) ?_⟩
      refine ⟨_, rfl, D, _, rfl, .inr (SqL.of e6), (by show 4 ≤ sizeLine; decide), fun T hT => ?_⟩
      exact q _ T 1 a b c ⟨by rw [if_neg z], ha, hbq, hc⟩ (sa.trans (same_upd hT)) (sa.free hT) upd_same
end
end My
/-! a realm and its making -/
namespace My
open PySem PySem.Spec PyProof.Rows L2
abbrev psR : List Str := ["self", "inverse", "ones", "swaps", "squares"]
abbrev kwsR : List (Str × V) := [("inverse", .int 1), ("ones", .int 0), ("swaps", .int 0), ("squares", .int 0)]
def RealmAt (C : Addr) (H : Hp) (a : Addr) (d o s t : Nat) : Prop := ∃ dx T, H a = some (.ins C dx [("_normal", .ref T)]) ∧ H T = some (tupR d o s t)
theorem RealmAt.same {C : Addr} {H H' : Hp} {a : Addr} {d o s t : Nat} (h : RealmAt C H a d o s t) (k : Same H H') : RealmAt C H' a d o s t := by
  obtain ⟨dx, T, h1, h2⟩ := h
  exact ⟨dx, T, k _ _ h1, k _ _ h2⟩
/-- the four arguments, good ones (G) or with a first wrong one (E) -/
def RlmG (CE : Addr) (xs : List V) (H : Hp) (G : Nat → Nat → Nat → Nat → Prop) (E : XK) : Prop :=
  (∃ i o s t : Nat, xs = [.int i, .int o, .int s, .int t] ∧ 1 ≤ i ∧ i ≤ 1000000 ∧ o < 2 ^ 100 ∧ s < 2 ^ 100 ∧ t < 2 ^ 100 ∧ G i o s t) ∨
  (∃ (x0 x1 x2 x3 : V) (ty : String), xs = [x0, x1, x2, x3] ∧ Typ H x0 ty ∧ (∀ i : Int, x0 = .int i → ¬ (1 ≤ i ∧ i ≤ 1000000)) ∧ ∀ H' d, Same H H' → H' d = none → E (.ref CE) (some d) (upd H' d (.xd (errD "given" "InvalidNumber" x0)))) ∨
  (∃ (i : Nat) (x1 x2 x3 : V) (j : Nat) (x : V) (ty : String), xs = [.int i, x1, x2, x3] ∧ 1 ≤ i ∧ i ≤ 1000000 ∧ [x1, x2, x3][j]? = some x ∧ (∀ k y, k < j → [x1, x2, x3][k]? = some y → ∃ n : Nat, y = .int n) ∧ Typ H x ty ∧ (∀ n : Int, x = .int n → n < 0) ∧
    ∀ H' d, Same H H' → H' d = none → E (.ref CE) (some d) (upd H' d (.xd (errD "given" "InvalidNumber" x))))
theorem RlmG.imp {CE : Addr} {xs : List V} {H H2 : Hp} {G G2 : Nat → Nat → Nat → Nat → Prop} {E : XK} (h : RlmG CE xs H G E) (s : Same H H2) (g : ∀ i o s t, G i o s t → G2 i o s t) : RlmG CE xs H2 G2 E := by
  rcases h with ⟨i, o, s', t, a1, a2, a3, a4, a5, a6, a7⟩ | ⟨x0, x1, x2, x3, ty, a1, a2, a3, a4⟩ | ⟨i, x1, x2, x3, j, x, ty, a1, a2, a3, a4, a5, a6, a7, a8⟩
  · exact .inl ⟨i, o, s', t, a1, a2, a3, a4, a5, a6, g _ _ _ _ a7⟩
  · exact .inr (.inl ⟨x0, x1, x2, x3, ty, a1, a2.same s, a3, fun H' d k n => a4 H' d (s.trans k) n⟩)
  · exact .inr (.inr ⟨i, x1, x2, x3, j, x, ty, a1, a2, a3, a4, a5, a6.same s, a7, fun H' d k n => a8 H' d (s.trans k) n⟩)
/-- Realm(..): a new realm with the normal form of the numbers, or the error of the first wrong one -/
def RlmWish (C CE : Addr) (xs : List V) (H : Hp) (Q : VK) (E : XK) : Prop :=
  RlmG CE xs H (fun i o s t => ∀ (H' : Hp) (a : Addr) (d' o' s' t' : Nat), Nrm (radL i) o s t d' o' s' t' → Same H H' → H a = none → RealmAt C H' a d' o' s' t' → Q (.ref a) H') E
def spInit (C CE : Addr) : Sp := fun vs H Q E => ∃ (a dx : Addr) (xs : List V), vs = .ref a :: xs ∧ H a = some (.ins C dx []) ∧
  RlmG CE xs H (fun i o s t => ∀ (H' : Hp) (d' o' s' t' : Nat), Nrm (radL i) o s t d' o' s' t' → Kp a H H' → RealmAt C H' a d' o' s' t' → Q .non H') E
theorem wish_init {C CE : Addr} {xs : List V} {H : Hp} {Q : VK} {E : XK} (h : RlmWish C CE xs H Q E) {x dx : Addr} (hx : H x = none) (hdx : H dx = none) (ne : dx ≠ x) :
    spInit C CE (.ref x :: xs) (upd (upd H dx (.own x)) x (.ins C dx [])) (fun v H2 => v = .non ∧ Q (.ref x) H2) E := by
  have s1 : Same H (upd (upd H dx (.own x)) x (.ins C dx [])) := fun b o e => by
    rw [upd_ne (ne_of_none e hx), upd_ne (ne_of_none e hdx)]
    exact e
  refine ⟨x, dx, xs, rfl, upd_same, RlmG.imp h s1 fun i o s t g H' d' o' s' t' N kp R => ⟨rfl, g H' x d' o' s' t' N (fun b u e => kp b u (ne_of_none e hx) (s1 b u e)) hx R⟩⟩
structure Rlm (P : Program) (w : World) (K : PySem.W.Frag) (mg : Str → Option Value) (base : Heap) (C CE f : Addr) (fd : FuncData) : Prop where
  gC : mg "Realm" = some (.ref C)
  M : Mk K C f
  F : FnOk P w K mg base (L2.CX P w) 4 f fd psR (spInit C CE)
  D : FunD K "__init__" "Realm.__init__" (defArgs s_Realm_init) (defBody s_Realm_init) (defScope s_Realm_init) [] kwsR f fd
section
variable {X : Cx} {C CE f : Addr} {fd : FuncData} {p pos : Pos} {E : XK}
/-- Realm() -/
theorem pe_make0Realm (R : Rlm X.prog X.w X.K X.mg X.base C CE f fd) (hx : Passes (L2.CX X.prog X.w) X E) (hr : Room 5 X.A) (hg : Gl X "Realm") :
    PE X (.Call (.Name "Realm" p) [] [] pos) (fun σ H Q => RlmWish C CE [.int 1, .int 0, .int 0, .int 0] H Q E) := by
  obtain ⟨ds, hd, hb⟩ := FunD.binds0 R.D (ps := psR) 1 (by simp) rfl (fun D doc pm an cdv ct us ks l1 l2 => match us, ks, l1, l2 with
    | [_], [_, _, _, _], _, _ => ⟨_, _, _, _, _, _, rfl, rfl, ⟨_, _, _, _, _, _, rfl, rfl, ⟨_, _, _, _, _, _, rfl, rfl, ⟨_, _, _, _, _, _, rfl, rfl, rfl⟩⟩⟩⟩)
  refine ⟨fun pins s σ H Q I h => ?_⟩
  exact (pe_make0 R.M R.F hr hg R.gC hb hd hx).run pins s σ H Q I fun x dx h1 h2 h3 => wish_init h h1 h2 h3
/-- Realm(k = v, ..) -/
theorem pe_makeKRealm {ks : List Str} {kws : List Keyword} {tk : TA} {gW : List V → List V} (R : Rlm X.prog X.w X.K X.mg X.base C CE f fd)
    (hb : ∃ (g : List Value → List Value → List Value) (gV : List V → List V → List V), KBn X.K fd psR 1 ks g gV ∧ ∀ x zs, zs.length = ks.length → gV [x] zs = x :: gW zs)
    (hx : Passes (L2.CX X.prog X.w) X E) (hr : Room 5 X.A) (hg : Gl X "Realm") (hkw : PK X kws tk)
    (hall : (backToKw pos (keywordEach kws X.env)).all (·.1.isSome) = true := by rfl) (hks : (backToKw pos (keywordEach kws X.env)).filterMap (·.1) = ks := by rfl)
    (hpl : ((backTo pos (starEach [] X.env)).any (·.1) || (backToKw pos (keywordEach kws X.env)).any (·.1.isNone)) = false := by rfl) :
    PE X (.Call (.Name "Realm" p) [] kws pos) (fun σ H Q => tk σ H fun zs H2 => zs.length = ks.length ∧ RlmWish C CE (gW zs) H2 Q E) := by
  obtain ⟨g, gV, kb, eg⟩ := hb
  refine ⟨fun pins s σ H Q I h => ?_⟩
  refine wpAny_Call_Name_kw (ld_glob I hg R.gC ?_ (by decide))
  refine PySem.W.callWith_KW0 (h₀ := X.base) I.ok.mod.kin R.M.kp hall ?_ hpl
  refine thn (hkw.run pos pins s σ H _ I h) fun ws s2 ⟨zs, H2, I2, rz, l2, q2⟩ => ⟨I2.kIn, ?_⟩
  rw [hks]
  exact run_makeK (us := []) (vs := []) R.M R.F hr kb hx I2 .nil rz rfl l2 fun x dx h1 h2 h3 => by
    rw [eg _ _ l2]
    exact wish_init q2 h1 h2 h3
end
/-! ### the patterns of keywords -/
section
variable {K : PySem.W.Frag} {f : Addr} {fd : FuncData}
abbrev DInit (K : PySem.W.Frag) (f : Addr) (fd : FuncData) : Prop := FunD K "__init__" "Realm.__init__" (defArgs s_Realm_init) (defBody s_Realm_init) (defScope s_Realm_init) [] kwsR f fd
abbrev KBR (K : PySem.W.Frag) (fd : FuncData) (ks : List Str) (gW : List V → List V) : Prop := ∃ (g : List Value → List Value → List Value) (gV : List V → List V → List V), KBn K fd psR 1 ks g gV ∧ ∀ x zs, zs.length = ks.length → gV [x] zs = x :: gW zs
theorem kbRealm_inverse_ones_swaps_squares (D : DInit K f fd) : KBR K fd ["inverse", "ones", "swaps", "squares"] (fun zs => (zs.drop 0).take 1 ++ ((zs.drop 1).take 1 ++ ((zs.drop 2).take 1 ++ ((zs.drop 3).take 1)))) := by
  obtain ⟨mv, kb⟩ := FunD.kbinds0 D (ps := psR) 1 ["inverse", "ones", "swaps", "squares"] [] (fun us mv ws => us ++ ((ws.drop 0).take 1 ++ ((ws.drop 1).take 1 ++ ((ws.drop 2).take 1 ++ ((ws.drop 3).take 1))))) (by simp) (by simp) (fun a b c => a.append (((c.drop 0).take 1).append (((c.drop 1).take 1).append (((c.drop 2).take 1).append ((c.drop 3).take 1)))))
    (fun D doc pm an cdv ct us mv ws l1 l2 l3 => match us, mv, ws, l1, l2, l3 with | [_], [], [_, _, _, _], _, _, _ => rfl)
  exact ⟨_, _, kb, fun x zs _ => rfl⟩
theorem kbRealm_ones (D : DInit K f fd) : KBR K fd ["ones"] (fun zs => [.int 1] ++ ((zs.drop 0).take 1 ++ ([.int 0] ++ ([.int 0])))) := by
  obtain ⟨mv, kb⟩ := FunD.kbinds0 D (ps := psR) 1 ["ones"] [("inverse", .int 1), ("swaps", .int 0), ("squares", .int 0)] (fun us mv ws => us ++ ((mv.drop 0).take 1 ++ ((ws.drop 0).take 1 ++ ((mv.drop 1).take 1 ++ ((mv.drop 2).take 1))))) (by simp) (by simp) (fun a b c => a.append (((b.drop 0).take 1).append (((c.drop 0).take 1).append (((b.drop 1).take 1).append ((b.drop 2).take 1)))))
    (fun D doc pm an cdv ct us mv ws l1 l2 l3 => match us, mv, ws, l1, l2, l3 with | [_], [_, _, _], [_], _, _, _ => ⟨_, _, _, _, _, _, rfl, rfl, ⟨_, _, _, _, _, _, rfl, rfl, ⟨_, _, _, _, _, _, rfl, rfl, rfl⟩⟩⟩)
  exact ⟨_, _, kb, fun x zs _ => rfl⟩
theorem kbRealm_swaps (D : DInit K f fd) : KBR K fd ["swaps"] (fun zs => [.int 1] ++ ([.int 0] ++ ((zs.drop 0).take 1 ++ ([.int 0])))) := by
  obtain ⟨mv, kb⟩ := FunD.kbinds0 D (ps := psR) 1 ["swaps"] [("inverse", .int 1), ("ones", .int 0), ("squares", .int 0)] (fun us mv ws => us ++ ((mv.drop 0).take 1 ++ ((mv.drop 1).take 1 ++ ((ws.drop 0).take 1 ++ ((mv.drop 2).take 1))))) (by simp) (by simp) (fun a b c => a.append (((b.drop 0).take 1).append (((b.drop 1).take 1).append (((c.drop 0).take 1).append ((b.drop 2).take 1)))))
    (fun D doc pm an cdv ct us mv ws l1 l2 l3 => match us, mv, ws, l1, l2, l3 with | [_], [_, _, _], [_], _, _, _ => ⟨_, _, _, _, _, _, rfl, rfl, ⟨_, _, _, _, _, _, rfl, rfl, ⟨_, _, _, _, _, _, rfl, rfl, rfl⟩⟩⟩)
  exact ⟨_, _, kb, fun x zs _ => rfl⟩
theorem kbRealm_swaps_inverse (D : DInit K f fd) : KBR K fd ["swaps", "inverse"] (fun zs => (zs.drop 1).take 1 ++ ([.int 0] ++ ((zs.drop 0).take 1 ++ ([.int 0])))) := by
  obtain ⟨mv, kb⟩ := FunD.kbinds0 D (ps := psR) 1 ["swaps", "inverse"] [("ones", .int 0), ("squares", .int 0)] (fun us mv ws => us ++ ((ws.drop 1).take 1 ++ ((mv.drop 0).take 1 ++ ((ws.drop 0).take 1 ++ ((mv.drop 1).take 1))))) (by simp) (by simp) (fun a b c => a.append (((c.drop 1).take 1).append (((b.drop 0).take 1).append (((c.drop 0).take 1).append ((b.drop 1).take 1)))))
    (fun D doc pm an cdv ct us mv ws l1 l2 l3 => match us, mv, ws, l1, l2, l3 with | [_], [_, _], [_, _], _, _, _ => ⟨_, _, _, _, _, _, rfl, rfl, ⟨_, _, _, _, _, _, rfl, rfl, rfl⟩⟩)
  exact ⟨_, _, kb, fun x zs _ => rfl⟩
theorem kbRealm_squares (D : DInit K f fd) : KBR K fd ["squares"] (fun zs => [.int 1] ++ ([.int 0] ++ ([.int 0] ++ ((zs.drop 0).take 1)))) := by
  obtain ⟨mv, kb⟩ := FunD.kbinds0 D (ps := psR) 1 ["squares"] [("inverse", .int 1), ("ones", .int 0), ("swaps", .int 0)] (fun us mv ws => us ++ ((mv.drop 0).take 1 ++ ((mv.drop 1).take 1 ++ ((mv.drop 2).take 1 ++ ((ws.drop 0).take 1))))) (by simp) (by simp) (fun a b c => a.append (((b.drop 0).take 1).append (((b.drop 1).take 1).append (((b.drop 2).take 1).append ((c.drop 0).take 1)))))
    (fun D doc pm an cdv ct us mv ws l1 l2 l3 => match us, mv, ws, l1, l2, l3 with | [_], [_, _, _], [_], _, _, _ => ⟨_, _, _, _, _, _, rfl, rfl, ⟨_, _, _, _, _, _, rfl, rfl, ⟨_, _, _, _, _, _, rfl, rfl, rfl⟩⟩⟩)
  exact ⟨_, _, kb, fun x zs _ => rfl⟩
theorem kbRealm_ones_inverse (D : DInit K f fd) : KBR K fd ["ones", "inverse"] (fun zs => (zs.drop 1).take 1 ++ ((zs.drop 0).take 1 ++ ([.int 0] ++ ([.int 0])))) := by
  obtain ⟨mv, kb⟩ := FunD.kbinds0 D (ps := psR) 1 ["ones", "inverse"] [("swaps", .int 0), ("squares", .int 0)] (fun us mv ws => us ++ ((ws.drop 1).take 1 ++ ((ws.drop 0).take 1 ++ ((mv.drop 0).take 1 ++ ((mv.drop 1).take 1))))) (by simp) (by simp) (fun a b c => a.append (((c.drop 1).take 1).append (((c.drop 0).take 1).append (((b.drop 0).take 1).append ((b.drop 1).take 1)))))
    (fun D doc pm an cdv ct us mv ws l1 l2 l3 => match us, mv, ws, l1, l2, l3 with | [_], [_, _], [_, _], _, _, _ => ⟨_, _, _, _, _, _, rfl, rfl, ⟨_, _, _, _, _, _, rfl, rfl, rfl⟩⟩)
  exact ⟨_, _, kb, fun x zs _ => rfl⟩
theorem kbRealm_inverse_ones (D : DInit K f fd) : KBR K fd ["inverse", "ones"] (fun zs => (zs.drop 0).take 1 ++ ((zs.drop 1).take 1 ++ ([.int 0] ++ ([.int 0])))) := by
  obtain ⟨mv, kb⟩ := FunD.kbinds0 D (ps := psR) 1 ["inverse", "ones"] [("swaps", .int 0), ("squares", .int 0)] (fun us mv ws => us ++ ((ws.drop 0).take 1 ++ ((ws.drop 1).take 1 ++ ((mv.drop 0).take 1 ++ ((mv.drop 1).take 1))))) (by simp) (by simp) (fun a b c => a.append (((c.drop 0).take 1).append (((c.drop 1).take 1).append (((b.drop 0).take 1).append ((b.drop 1).take 1)))))
    (fun D doc pm an cdv ct us mv ws l1 l2 l3 => match us, mv, ws, l1, l2, l3 with | [_], [_, _], [_, _], _, _, _ => ⟨_, _, _, _, _, _, rfl, rfl, ⟨_, _, _, _, _, _, rfl, rfl, rfl⟩⟩)
  exact ⟨_, _, kb, fun x zs _ => rfl⟩
theorem kbRealm_ones_squares_swaps (D : DInit K f fd) : KBR K fd ["ones", "squares", "swaps"] (fun zs => [.int 1] ++ ((zs.drop 0).take 1 ++ ((zs.drop 2).take 1 ++ ((zs.drop 1).take 1)))) := by
  obtain ⟨mv, kb⟩ := FunD.kbinds0 D (ps := psR) 1 ["ones", "squares", "swaps"] [("inverse", .int 1)] (fun us mv ws => us ++ ((mv.drop 0).take 1 ++ ((ws.drop 0).take 1 ++ ((ws.drop 2).take 1 ++ ((ws.drop 1).take 1))))) (by simp) (by simp) (fun a b c => a.append (((b.drop 0).take 1).append (((c.drop 0).take 1).append (((c.drop 2).take 1).append ((c.drop 1).take 1)))))
    (fun D doc pm an cdv ct us mv ws l1 l2 l3 => match us, mv, ws, l1, l2, l3 with | [_], [_], [_, _, _], _, _, _ => ⟨_, _, _, _, _, _, rfl, rfl, rfl⟩)
  exact ⟨_, _, kb, fun x zs _ => rfl⟩
theorem kbRealm_squares_swaps (D : DInit K f fd) : KBR K fd ["squares", "swaps"] (fun zs => [.int 1] ++ ([.int 0] ++ ((zs.drop 1).take 1 ++ ((zs.drop 0).take 1)))) := by
  obtain ⟨mv, kb⟩ := FunD.kbinds0 D (ps := psR) 1 ["squares", "swaps"] [("inverse", .int 1), ("ones", .int 0)] (fun us mv ws => us ++ ((mv.drop 0).take 1 ++ ((mv.drop 1).take 1 ++ ((ws.drop 1).take 1 ++ ((ws.drop 0).take 1))))) (by simp) (by simp) (fun a b c => a.append (((b.drop 0).take 1).append (((b.drop 1).take 1).append (((c.drop 1).take 1).append ((c.drop 0).take 1)))))
    (fun D doc pm an cdv ct us mv ws l1 l2 l3 => match us, mv, ws, l1, l2, l3 with | [_], [_, _], [_, _], _, _, _ => ⟨_, _, _, _, _, _, rfl, rfl, ⟨_, _, _, _, _, _, rfl, rfl, rfl⟩⟩)
  exact ⟨_, _, kb, fun x zs _ => rfl⟩
theorem kbRealm_inverse (D : DInit K f fd) : KBR K fd ["inverse"] (fun zs => (zs.drop 0).take 1 ++ ([.int 0] ++ ([.int 0] ++ ([.int 0])))) := by
  obtain ⟨mv, kb⟩ := FunD.kbinds0 D (ps := psR) 1 ["inverse"] [("ones", .int 0), ("swaps", .int 0), ("squares", .int 0)] (fun us mv ws => us ++ ((ws.drop 0).take 1 ++ ((mv.drop 0).take 1 ++ ((mv.drop 1).take 1 ++ ((mv.drop 2).take 1))))) (by simp) (by simp) (fun a b c => a.append (((c.drop 0).take 1).append (((b.drop 0).take 1).append (((b.drop 1).take 1).append ((b.drop 2).take 1)))))
    (fun D doc pm an cdv ct us mv ws l1 l2 l3 => match us, mv, ws, l1, l2, l3 with | [_], [_, _, _], [_], _, _, _ => ⟨_, _, _, _, _, _, rfl, rfl, ⟨_, _, _, _, _, _, rfl, rfl, ⟨_, _, _, _, _, _, rfl, rfl, rfl⟩⟩⟩)
  exact ⟨_, _, kb, fun x zs _ => rfl⟩
end
end My
/-! Realm's methods -/
namespace My
open PySem PySem.Spec PyProof.Rows L2
structure RCls (K : PySem.W.Frag) (C : Addr) (mc : Value) : Prop where
  cl : Cls K C
  n_normal : NoAttr K C "_normal"
  rd : ClX.CRead K C mc
  ha : PySem.W.findIn K (.ref C) "__class__" = some (some (.builtin "object.__class__"))
  hn : PySem.W.specialIn K (.builtin "object.__class__") "__get__" = some (some (.builtin "getset_descriptor.__get__"))
  htk : PySem.W.takesIn K (.builtin "object.__class__") = some true
  hm : PySem.W.mroIn K C (.type "object") = some true
  k1 : PySem.W.kitOne K (.ref C) (.ref C) = some true
  k0 : PySem.W.kitOne K (.type "int") (.ref C) = some false
  nf : PySem.W.notFirst K C (.type "int") = true
theorem RCls.ty {K : PySem.W.Frag} {C : Addr} {mc : Value} (R : RCls K C mc) {H : Hp} {a dx : Addr} {fs : List (Str × V)} (e : H a = some (.ins C dx fs)) : TyX K H (.ref a) (.ref C) := .base (.ins e R.cl R.ha R.hn R.htk R.hm)
theorem RCls.nf1 {K : PySem.W.Frag} {C : Addr} : PySem.W.notFirst K C (.ref C) = true := by simp [PySem.W.notFirst]
section
variable {P : Program} {w : World} {K : PySem.W.Frag} {mg : Str → Option Value} {base : Heap} {C CE : Addr} {mc : Value}
theorem ok_init {f fI cc cd : Addr} {fd : FuncData} (D : DInit K f fd) (M : Mk K C f) (gC : mg "Realm" = some (.ref C)) (R : RCls K C mc) (E_InvalidNumber : ErrX.ErrTxt P K mg "InvalidNumber" "given" "InvalidNumber" CE fI cc cd)
    (G_radical : HasX P w K mg base 3 "radical" ["number"] (spRadical CE)) (G_is_int : Has P w K mg base 1 "is_int" ["value"] spIsInt) (G_normal_numbers : Has P w K mg base 2 "normal_numbers" ["inverse", "ones", "swaps", "squares"] spNormal) : Rlm P w K mg base C CE f fd := by
  refine ⟨gC, M, D.ok sc_Realm_init (fun vs H Q E h => ?_) (fun cdv A outer s H vs Q E hr h => ?_), D⟩
  · obtain ⟨a, dx, xs, rfl, _, h⟩ := h
    rcases h with ⟨i, o, s', t, rfl, _⟩ | ⟨x0, x1, x2, x3, ty, rfl, _⟩ | ⟨i, x1, x2, x3, j, x, ty, rfl, _⟩ <;> rfl
  have TK : Takes (cxOf (L2.CX P w) P w K mg base N_Realm_init "Realm.__init__" (defScope s_Realm_init) f cdv A outer s H E) (fun cls d _ H => E cls d H) := takes_of rfl rfl rfl rfl
  refine ⟨_, (pss_cons (ps_set (i := 5) sc_Realm_init.nd rfl (Or.inl rfl) (pe_ownE G_radical TK (hr.mono (by decide)) (by rfl) (pa_cons (pv 1) pa_nil)))
      (pss_cons (ps_for (passes_of rfl) rfl (pi_tup (pe_tup (pa_cons (pv 2) (pa_cons (pv 3) (pa_cons (pv 4) pa_nil))))) (pg_name (i := 6) sc_Realm_init.nd rfl (Or.inl rfl))
        (pss_one (ps_if (PW.pt (pw_or (pt_not (pt_val (pe_own G_is_int (hr.mono (by decide)) (by rfl) (pa_cons (pv 6) pa_nil)))) (pw_or1 (pt_cmpR op_lt (pv 6) pe_int (nomark _)))))
        (pss_one (ps_raise rfl TK (pmk_err E_InvalidNumber hr (pa_cons (pv 6) pa_nil) (by rfl))))
        pss_nil)))
      (pss_one (ps_fld (pv 0) (pe_own G_normal_numbers (hr.mono (by decide)) (by rfl) (pa_cons (pv 5) (pa_cons (pv 2) (pa_cons (pv 3) (pa_cons (pv 4) pa_nil))))) rfl)))), ?_⟩
  obtain ⟨a, dx, xs, rfl, ha, h⟩ := h
  have nx : ∀ {n : Nat}, [V.int (n : Int)] = [V.int (n : Int)] := rfl
  rcases h with ⟨i, o, s', t, rfl, h1, h2, ho, hs, ht, g⟩ | ⟨x0, x1, x2, x3, ty, rfl, hty, hb, e⟩ | ⟨i, x1, x2, x3, j, x, ty, rfl, h1, h2, hj, hk, hty, hb, e⟩
  · refine ⟨_, rfl, .inl ⟨i, rfl, h1, h2, ?_⟩⟩
    refine ⟨_, rfl, _, rfl, _, rfl, (by show 3 ≤ sizeLine; decide), fun p hp => ⟨p, rfl, ⟨_, SqT.of upd_same⟩, ?_⟩⟩
    have sp : Same H (upd H p (.tup [.int (o : Int), .int (s' : Int), .int (t : Int)])) := same_upd hp
    refine for_tup (xs := [.int (o : Int), .int (s' : Int), .int (t : Int)]) (fun k σ H' => ∃ y, σ = [some (.ref a), some (.int (i : Int)), some (.int (o : Int)), some (.int (s' : Int)), some (.int (t : Int)), some (.int ((radL i : Nat) : Int)), y] ∧ H' = upd H p (.tup [.int (o : Int), .int (s' : Int), .int (t : Int)])) ⟨none, rfl, rfl⟩ (fun k σ H' _ ⟨_, _, e⟩ => e ▸ SqT.of upd_same) ?_ ?_
    · rintro k v σ H' hv ⟨y, rfl, rfl⟩
      obtain ⟨n, rfl⟩ : ∃ n : Nat, v = .int (n : Int) := by
        have := List.mem_of_getElem? hv
        simp only [List.mem_cons, List.not_mem_nil, or_false] at this
        rcases this with rfl | rfl | rfl <;> exact ⟨_, rfl⟩
      refine ⟨_, rfl, _, "int", rfl, .int _, _, rfl, iteF ⟨_, rfl, _, _, rfl, rfl, _, rfl, ite_no (by simp) ⟨_, rfl, rfl⟩⟩⟩
    · rintro σ H' ⟨y, rfl, rfl⟩
      refine ⟨_, rfl, _, rfl, _, rfl, _, rfl, radL i, o, s', t, rfl, ho, hs, ht, fun H' T d' o' s'' t' N sm hT eT => ?_⟩
      have ha' := sm _ _ (sp _ _ ha)
      refine ⟨_, rfl, a, C, dx, [], rfl, ha', R.cl, R.n_normal, by decide, ?_⟩
      refine g _ d' o' s'' t' N ((Kp.of (sp.trans sm)).trans Kp.upd) ⟨dx, T, upd_same, ?_⟩
      rw [upd_ne (ne_of eT ha' (by intro z; cases z))]
      exact eT
  · exact ⟨_, rfl, .inr ⟨x0, ty, rfl, hty, hb, fun d hd => e H d (Same.refl _) hd⟩⟩
  · refine ⟨_, rfl, .inl ⟨i, rfl, h1, h2, ?_⟩⟩
    refine ⟨_, rfl, _, rfl, _, rfl, (by show 3 ≤ sizeLine; decide), fun p hp => ⟨p, rfl, ⟨_, SqT.of upd_same⟩, ?_⟩⟩
    have sp : Same H (upd H p (.tup [x1, x2, x3])) := same_upd hp
    refine for_tup (xs := [x1, x2, x3]) (fun k σ H' => k ≤ j ∧ ∃ y, σ = [some (.ref a), some (.int (i : Int)), some x1, some x2, some x3, some (.int ((radL i : Nat) : Int)), y] ∧ H' = upd H p (.tup [x1, x2, x3])) ⟨Nat.zero_le _, none, rfl, rfl⟩ (fun k σ H' _ ⟨_, _, _, e⟩ => e ▸ SqT.of upd_same) ?_ ?_
    · rintro k v σ H' hv ⟨kj, y, rfl, rfl⟩
      by_cases ej : k = j
      · subst ej
        rw [hv] at hj
        cases hj
        refine ⟨_, rfl, x, ty, rfl, hty.same sp, ?_⟩
        cases hx : isIntV x with
        | false => exact ⟨_, rfl, iteT ⟨_, rfl, x, rfl, fun d hd => e _ d sp hd⟩⟩
        | true =>
          cases x with
          | int z =>
            have := hb z rfl
            exact ⟨_, rfl, iteF ⟨_, rfl, _, _, rfl, rfl, _, rfl, ite_of (decide_eq_true this) ⟨_, rfl, _, rfl, fun d hd => e _ d sp hd⟩⟩⟩
          | _ => cases hx
      · obtain ⟨n, rfl⟩ := hk k v (by omega) hv
        refine ⟨_, rfl, _, "int", rfl, .int _, _, rfl, iteF ⟨_, rfl, _, _, rfl, rfl, _, rfl, ite_no (by simp) ⟨by omega, _, rfl, rfl⟩⟩⟩
    · rintro σ H' ⟨kj, y, rfl, rfl⟩
      have := (List.getElem?_eq_some_iff.mp hj).1
      simp at this kj
      omega
end
/-! ### properties, ==, bool, repr -/
structure HasPr (P : Program) (w : World) (K : PySem.W.Frag) (mg : Str → Option Value) (base : Heap) (C : Addr) (n : Str) (sp : Sp) : Prop where
  ex : ∃ (p g : Addr) (fd : FuncData), PropOf K C n p g ∧ FnOk P w K mg base CX0 1 g fd ["self"] sp ∧ Binds K fd ["self"] []
theorem pe_pr {X : Cx} {C : Addr} {n : Str} {sp : Sp} {e : Expr} {ta : TE} {pos : Pos} (c : Cls X.K C) (h : HasPr X.prog X.w X.K X.mg X.base C n sp) (hr : Room 2 X.A) (he : PE X e ta) (hab : attributeBase e n X.env (eval e X.env) = eval e X.env) :
    PE X (.Attribute e n pos) (tProp C sp [] E0 ta) := by
  obtain ⟨p, g, fd, hp, F, b⟩ := h.ex
  exact pe_prop he c hp F hr b .nil pass0 hab
def spGetR (C : Addr) (sel : Nat → Nat → Nat → Nat → Nat) : Sp := fun vs H Q _ => ∃ (a : Addr) (d o s t : Nat), vs = [.ref a] ∧ RealmAt C H a d o s t ∧ Q (.int ((sel d o s t : Nat) : Int)) H
theorem dp_nats' {K : PySem.W.Frag} {H : Hp} {T : Addr} {d o s t : Nat} (h : H T = some (tupR d o s t)) : Dp K H (.ref T) (.tuple (dNats [d, o, s, t])) := .tup (SqT.of h) (dp_nats [d, o, s, t])
theorem shapedT (xs : List Nat) : SeqAt.shaped (.tuple (dNats xs)) = true := by
  have h1 := depth_nats xs
  show (PyData.canLay0 (.tuple (dNats xs)) && decide (PyData.depth (.tuple (dNats xs)) ≤ 64)) = true
  rw [Bool.and_eq_true]
  refine ⟨by simp only [PyData.canLay0]; exact lay_nats xs, decide_eq_true ?_⟩
  simp only [PyData.depth]
  omega
theorem eqvA_nats : ∀ xs ys : List Nat, xs.length = ys.length → PyData.eqvAll (dNats xs) (dNats ys) = decide (xs = ys)
  | [], [], _ => by simp [PyData.eqvAll]
  | x :: xs, y :: ys, h => by
    have ih := eqvA_nats xs ys (by simpa using h)
    simp only [dNats, List.map_cons, PyData.eqvAll, PyData.eqv] at ih ⊢
    rw [show PyData.eqvAll (xs.map fun (x : Nat) => PyData.int x) (ys.map fun (x : Nat) => PyData.int x) = decide (xs = ys) from ih]
    by_cases e : x = y
    · subst e
      by_cases e2 : xs = ys <;> simp [e2]
    · have : ((x : Int) == (y : Int)) = false := by
        rw [beq_eq_false_iff_ne]
        omega
      simp [e, this]
theorem eqvT_nats (xs ys : List Nat) (h : xs.length = ys.length) : PyData.eqv (.tuple (dNats xs)) (.tuple (dNats ys)) = decide (xs = ys) := by
  rw [← eqvA_nats xs ys h]
  simp [PyData.eqv]
/-- r == y: with another realm, or with a value that is none -/
def spEqR (C : Addr) : Sp := fun vs H Q _ => ∃ (a : Addr) (d o s t : Nat) (y : V), vs = [.ref a, y] ∧ RealmAt C H a d o s t ∧
  ((∃ (b : Addr) (d' o' s' t' : Nat), y = .ref b ∧ RealmAt C H b d' o' s' t' ∧ Q (.bl (decide ([d, o, s, t] = [d', o', s', t']))) H) ∨ (∃ i : Int, y = .int i ∧ Q (.bl false) H))
def spBoolR (C : Addr) : Sp := fun vs H Q _ => ∃ (a : Addr) (d o s t : Nat), vs = [.ref a] ∧ RealmAt C H a d o s t ∧ Q (.bl (!decide (o = 1))) H
section
variable {P : Program} {w : World} {K : PySem.W.Frag} {mg : Str → Option Value} {base : Heap} {C CE : Addr} {mc : Value}
theorem ok_inverse {f p : Addr} {fd : FuncData} (R : RCls K C mc) (F : Fun K "inverse" "Realm.inverse" s_Realm_inverse f fd) (pr : PropOf K C "inverse" p f) (b : Binds K fd ["self"] []) : HasPr P w K mg base C "inverse" (spGetR C fun d _ _ _ => d) := by
  refine ⟨p, f, fd, pr, F.ok sc_Realm_inverse (fun vs H Q E h => ?_) (fun cdv A outer s H vs Q E hr h => ?_), b⟩
  · obtain ⟨a, d, o, s, t, rfl, _⟩ := h
    rfl
  obtain ⟨a, d, o, s', t, rfl, ⟨dx, T, h1, h2⟩, q⟩ := h
  refine ⟨_, (pss_one (ps_ret (pe_ix ix_tup (L2.pe_fld (pv 0) rfl) pe_int (fun _ _ => rfl)))), ?_⟩
  exact ⟨_, rfl, a, C, dx, _, _, rfl, h1, R.cl, R.n_normal, rfl, T, _, _, _, rfl, rfl, SqT.of h2, atI_nat (j := 0) rfl, q⟩
theorem ok_ones {f p : Addr} {fd : FuncData} (R : RCls K C mc) (F : Fun K "ones" "Realm.ones" s_Realm_ones f fd) (pr : PropOf K C "ones" p f) (b : Binds K fd ["self"] []) : HasPr P w K mg base C "ones" (spGetR C fun _ o _ _ => o) := by
  refine ⟨p, f, fd, pr, F.ok sc_Realm_ones (fun vs H Q E h => ?_) (fun cdv A outer s H vs Q E hr h => ?_), b⟩
  · obtain ⟨a, d, o, s, t, rfl, _⟩ := h
    rfl
  obtain ⟨a, d, o, s', t, rfl, ⟨dx, T, h1, h2⟩, q⟩ := h
  refine ⟨_, (pss_one (ps_ret (pe_ix ix_tup (L2.pe_fld (pv 0) rfl) pe_int (fun _ _ => rfl)))), ?_⟩
  exact ⟨_, rfl, a, C, dx, _, _, rfl, h1, R.cl, R.n_normal, rfl, T, _, _, _, rfl, rfl, SqT.of h2, atI_nat (j := 1) rfl, q⟩
theorem ok_swaps {f p : Addr} {fd : FuncData} (R : RCls K C mc) (F : Fun K "swaps" "Realm.swaps" s_Realm_swaps f fd) (pr : PropOf K C "swaps" p f) (b : Binds K fd ["self"] []) : HasPr P w K mg base C "swaps" (spGetR C fun _ _ s _ => s) := by
  refine ⟨p, f, fd, pr, F.ok sc_Realm_swaps (fun vs H Q E h => ?_) (fun cdv A outer s H vs Q E hr h => ?_), b⟩
  · obtain ⟨a, d, o, s, t, rfl, _⟩ := h
    rfl
  obtain ⟨a, d, o, s', t, rfl, ⟨dx, T, h1, h2⟩, q⟩ := h
  refine ⟨_, (pss_one (ps_ret (pe_ix ix_tup (L2.pe_fld (pv 0) rfl) pe_int (fun _ _ => rfl)))), ?_⟩
  exact ⟨_, rfl, a, C, dx, _, _, rfl, h1, R.cl, R.n_normal, rfl, T, _, _, _, rfl, rfl, SqT.of h2, atI_nat (j := 2) rfl, q⟩
theorem ok_squares {f p : Addr} {fd : FuncData} (R : RCls K C mc) (F : Fun K "squares" "Realm.squares" s_Realm_squares f fd) (pr : PropOf K C "squares" p f) (b : Binds K fd ["self"] []) : HasPr P w K mg base C "squares" (spGetR C fun _ _ _ t => t) := by
  refine ⟨p, f, fd, pr, F.ok sc_Realm_squares (fun vs H Q E h => ?_) (fun cdv A outer s H vs Q E hr h => ?_), b⟩
  · obtain ⟨a, d, o, s, t, rfl, _⟩ := h
    rfl
  obtain ⟨a, d, o, s', t, rfl, ⟨dx, T, h1, h2⟩, q⟩ := h
  refine ⟨_, (pss_one (ps_ret (pe_ix ix_tup (L2.pe_fld (pv 0) rfl) pe_int (fun _ _ => rfl)))), ?_⟩
  exact ⟨_, rfl, a, C, dx, _, _, rfl, h1, R.cl, R.n_normal, rfl, T, _, _, _, rfl, rfl, SqT.of h2, atI_nat (j := 3) rfl, q⟩
theorem ok_eqR {f : Addr} {fd : FuncData} (R : RCls K C mc) (gC : mg "Realm" = some (.ref C)) (B : Blt mg) (F : Fun K "__eq__" "Realm.__eq__" s_Realm_eq f fd) : FnOk P w K mg base CX0 1 f fd ["self", "other"] (spEqR C) := by
  refine F.ok sc_Realm_eq (fun vs H Q E h => ?_) (fun cdv A outer s H vs Q E hr h => ?_)
  · obtain ⟨a, d, o, s, t, y, rfl, _⟩ := h
    rfl
  obtain ⟨a, d, o, s', t, y, rfl, ⟨dx, T, h1, h2⟩, h⟩ := h
  refine ⟨_, (pss_one (ps_ret (pe_and (pe_callB call_isi (by rfl) B.isinstance bb_isinstance (pa_cons (pv 1) (pa_cons (pe_gref gC (by rfl)) pa_nil))) (pe_one (pe_cmpR (op_eqD (un64 hr)) (L2.pe_fld (pv 0) rfl) (L2.pe_fld (pv 1) rfl) (nomark _)))))), ?_⟩
  rcases h with ⟨b, d', o', s'', t', rfl, ⟨dy, T', g1, g2⟩, q⟩ | ⟨i, rfl, q⟩
  · refine ⟨_, rfl, _, .ref C, .ref C, .ref C, true, rfl, .own C, R.ty g1, R.k1, _, rfl, iteT ?_⟩
    refine ⟨_, rfl, a, C, dx, _, _, rfl, h1, R.cl, R.n_normal, rfl, _, rfl, b, C, dy, _, _, rfl, g1, R.cl, R.n_normal, rfl, _, _, dp_nats' h2, dp_nats' g2, shapedT _, shapedT _, ?_⟩
    rw [eqvT_nats [d, o, s', t] [d', o', s'', t'] rfl]
    exact q
  · exact ⟨_, rfl, _, .ref C, .type "int", .ref C, false, rfl, .own C, .base (.int i), R.k0, _, rfl, iteF q⟩
theorem ok_boolR {f : Addr} {fd : FuncData} (R : RCls K C mc) (B : Blt mg) (F : Fun K "__bool__" "Realm.__bool__" s_Realm_bool f fd) (PR_ones : HasPr P w K mg base C "ones" (spGetR C fun _ o _ _ => o)) : FnOk P w K mg base CX0 3 f fd ["self"] (spBoolR C) := by
  refine F.ok sc_Realm_bool (fun vs H Q E h => ?_) (fun cdv A outer s H vs Q E hr h => ?_)
  · obtain ⟨a, d, o, s, t, rfl, _⟩ := h
    rfl
  obtain ⟨a, d, o, s', t, rfl, hR, q⟩ := h
  have cl_ := R.cl
  refine ⟨_, (pss_one (ps_ret (pe_callTy call_bool1 (by rfl) B.bool bb_bool (pa_cons (pe_cmpR op_ne (pe_pr cl_ PR_ones (hr.mono (by decide)) (pv 0) rfl) pe_int (nomark _)) pa_nil)))), ?_⟩
  obtain ⟨dx, T, h1, h2⟩ := id hR
  refine ⟨_, rfl, a, dx, _, rfl, h1, a, d, o, s', t, rfl, hR, rfl, .inr ⟨_, rfl, ?_⟩⟩
  have e : decide (V.int (o : Int) = V.int 1) = decide (o = 1) := by
    by_cases z : o = 1
    · subst z; rfl
    · rw [decide_eq_false z, decide_eq_false]
      intro y
      injection y with y
      omega
  rw [e]
  exact q
end
end My
/-! what the law makes of numbers and realms -/
namespace My
open PySem PySem.Spec PyProof.Rows L2
def spLDiv : Sp := fun vs H Q _ => ∃ a b : Nat, vs = [.int a, .int b] ∧ a ∣ b ∧ Q (.bl true) H
def spSettled : Sp := fun vs H Q _ => ∃ d o s t : Nat, vs = [.int d, .int o, .int s, .int t] ∧ o < 2 ^ 60 ∧ s < 2 ^ 60 ∧ t < 2 ^ 60 ∧
  ∀ (H' : Hp) (T : Addr) (d' o' s' t' : Nat), Nrm d o s t d' o' s' t' → Same H H' → H T = none → H' T = some (tupR d' o' s' t') → Q (.ref T) H'
def spTold (C : Addr) : Sp := fun vs H Q _ => ∃ (a : Addr) (d o s t : Nat), vs = [.ref a] ∧ RealmAt C H a d o s t ∧ ∀ (H' : Hp) (T : Addr), Same H H' → H T = none → H' T = some (tupR d o s t) → Q (.ref T) H'
def spLRealm (C : Addr) : Sp := fun vs H Q _ => ∃ (T : Addr) (i o s t : Nat), vs = [.ref T] ∧ H T = some (tupR i o s t) ∧ 1 ≤ i ∧ i ≤ 1000000 ∧ o < 2 ^ 60 ∧ s < 2 ^ 60 ∧ t < 2 ^ 60 ∧
  ∀ (H' : Hp) (a d' o' s' t' : Nat), Nrm (radL i) o s t d' o' s' t' → Same H H' → H a = none → RealmAt C H' a d' o' s' t' → Q (.ref a) H'
def spLSettle : Sp := fun vs H Q _ => ∃ (T : Addr) (i o s t : Nat), vs = [.ref T] ∧ H T = some (tupR i o s t) ∧ 1 ≤ i ∧ i ≤ 2000 ∧ o < 2 ^ 60 ∧ s < 2 ^ 60 ∧ t < 2 ^ 60 ∧
  ∀ (H' : Hp) (T' : Addr) (d' o' s' t' : Nat), Nrm (radL i) o s t d' o' s' t' → Same H H' → H T' = none → H' T' = some (tupR d' o' s' t') → Q (.ref T') H'
def spDrawnR : Sp := fun vs H Q _ => ∃ b c : Addr, vs = [.ref b] ∧ Bg H b c ∧ ∀ (H' : Hp) (T : Addr) (i o s t : Nat), Kp b H H' → Bg H' b c → H T = none → T ≠ b → H' T = some (tupR i o s t) → 1 ≤ i → i ≤ 35 → o ≤ 1000 → s ≤ 1000 → t ≤ 1000 → Q (.ref T) H'
theorem gcdF (a b : Nat) : V.int ((Nat.gcd (a : Int).natAbs (b : Int).natAbs : Nat) : Int) = V.int ((Nat.gcd a b : Nat) : Int) := by rw [Int.natAbs_natCast, Int.natAbs_natCast]
theorem gcd_small {a b : Nat} {B : Nat} (ha : a < B) (hb : b < B) : Nat.gcd a b < B := by
  by_cases z : a = 0
  · rw [z, Nat.gcd_zero_left]; exact hb
  · exact Nat.lt_of_le_of_lt (Nat.le_of_dvd (by omega) (Nat.gcd_dvd_left _ _)) ha
section
variable {P : Program} {w : World} {K : PySem.W.Frag} {mg : Str → Option Value} {base : Heap} {C CE : Addr} {mc : Value}
theorem ok_l_realm {f0 : Addr} {fd0 : FuncData} (F : Fn K mg "_law_realm" s_l_realm ["_law_numbers"]) (MK_Realm : Rlm P w K mg base C CE f0 fd0) : Has P w K mg base 6 "_law_realm" ["_law_numbers"] (spLRealm C) := by
  refine F.has sc_l_realm (fun vs H Q E h => ?_) (fun f cdv A outer s H vs Q E hr h => ?_)
  · obtain ⟨T, i, o, s, t, rfl, _⟩ := h
    rfl
  obtain ⟨T, i, o, s', t, rfl, hT, h1, h2, ho, hs, ht, q⟩ := h
  refine ⟨_, (pss_one (ps_ret (pe_makeKRealm MK_Realm (kbRealm_inverse_ones_swaps_squares MK_Realm.D) passL (hr.mono (by decide)) (by rfl) (pk_cons (pe_ix ix_tup (pv 0) pe_int (fun _ _ => rfl)) (pk_cons (pe_ix ix_tup (pv 0) pe_int (fun _ _ => rfl)) (pk_cons (pe_ix ix_tup (pv 0) pe_int (fun _ _ => rfl)) (pk_cons (pe_ix ix_tup (pv 0) pe_int (fun _ _ => rfl)) pk_nil))))))), ?_⟩
  refine ⟨_, rfl, T, _, _, _, rfl, rfl, SqT.of hT, atI_nat (j := 0) rfl, _, rfl, T, _, _, _, rfl, rfl, SqT.of hT, atI_nat (j := 1) rfl, _, rfl, T, _, _, _, rfl, rfl, SqT.of hT, atI_nat (j := 2) rfl, _, rfl, T, _, _, _, rfl, rfl, SqT.of hT, atI_nat (j := 3) rfl, rfl, ?_⟩
  exact .inl ⟨i, o, s', t, rfl, h1, h2, by omega, by omega, by omega, q⟩
end
end My
/-! a method of an own class that says super(): its body, its last statement super().__init__(..) -/
namespace PySem
namespace SupX
open PySem.W PySem.Calls PyProof.Rows L2
theorem cells_app : ∀ (names : List (Str × NameKind)) (n : Nat) (acc : List (Str × Addr)), cellsFrom n names acc = cellsFrom n names [] ++ acc
  | [], _, _ => rfl
  | (x, k) :: r, n, acc => by
    unfold cellsFrom
    cases (k == NameKind.cell) with
    | true =>
      rw [if_pos rfl, if_pos rfl, cells_app r (n + 1) ((x, n) :: acc), cells_app r (n + 1) [(x, n)], List.append_assoc]
      rfl
    | false =>
      rw [if_neg (by decide), if_neg (by decide)]
      exact cells_app r n acc
theorem cells_mem : ∀ (names : List (Str × NameKind)) (n : Nat) {x : Str} {c : Addr}, (x, c) ∈ cellsFrom n names [] → (x, NameKind.cell) ∈ names
  | [], _, x, c, h => by cases h
  | (y, k) :: r, n, x, c, h => by
    unfold cellsFrom at h
    cases hk : (k == NameKind.cell) with
    | true =>
      rw [hk, if_pos rfl, cells_app] at h
      rcases List.mem_append.mp h with h | h
      · exact List.mem_cons_of_mem _ (cells_mem r (n + 1) h)
      · rw [List.mem_singleton] at h
        cases h
        rw [show k = NameKind.cell from beq_iff_eq.mp hk]
        exact List.mem_cons_self
    | false =>
      rw [hk, if_neg (by decide)] at h
      exact List.mem_cons_of_mem _ (cells_mem r n h)
abbrev clsC (cc : Addr) : List (Str × Addr) := [("__class__", cc)]
abbrev ownC (L : Addr) (scope : Scope) : List (Str × Addr) := cellsFrom (L + 1) scope.names []
abbrev envS (qual : Str) (scope : Scope) (L f : Addr) (cd : Value) (cc : Addr) : Env := envX qual scope L f cd (ownC L scope ++ clsC cc)
section
variable {M : Model} {A : Around} {E : Value → Shared → Prop} {s₀ : Shared} {env : Env} {cs : List (Str × Addr)}
/-- parameters stored in locals and own cells, beside them the class's cell -/
theorem bind_own (f : Str × Value → PUnit → Sem (ForInStep PUnit)) (hf : ∀ n v u, f (n, v) u = (do storeName env n v; pure (.yield ⟨⟩))) (hk : env.scope.kind = .function) (hcs : ∀ n c, cs.lookup n = some c → env.cells.lookup n = some c) :
    ∀ (binds : List (Str × Value)) (m cm : Str → Option Value) (s : Shared) (Q : PUnit → Shared → Prop), InCallC s₀ env.locals m cs cm s →
      (∀ x ∈ binds, env.kindOf x.1 = some .local ∨ (env.kindOf x.1 = some .cell ∧ (cs.lookup x.1).isSome = true)) →
      (∀ s', InCallC s₀ env.locals (bindL env.kindOf binds m) cs (bindC env.kindOf binds cm) s' → Q ⟨⟩ s') → wpAny M A (forIn binds ⟨⟩ f) Q E s := by
  intro binds
  induction binds with
  | nil =>
    intro m cm s Q x _ h
    rw [List.forIn_nil]
    exact wpAny_pure (h s x)
  | cons b r ih =>
    obtain ⟨n, v⟩ := b
    intro m cm s Q x hkind h
    rw [List.forIn_cons, hf]
    have hr : ∀ y ∈ r, env.kindOf y.1 = some .local ∨ (env.kindOf y.1 = some .cell ∧ (cs.lookup y.1).isSome = true) := fun y hy => hkind y (List.mem_cons_of_mem _ hy)
    rcases hkind (n, v) List.mem_cons_self with hl | ⟨hl, hc⟩
    · refine wpAny_bind (wpAny_bind (wpAny_storeName_local hl x.toInCall.ns (fun h' hn' hs' => wpAny_pure ?_) (by rw [hk]; rfl)))
      refine ih (fun y => if y = n then some v else m y) cm _ Q ⟨⟨?_, hn', fun b o e => ?_, x.toInCall.fresh⟩, fun k c hc => ?_, x.apart, x.above⟩ hr fun s'' x'' => h s'' ?_
      · obtain ⟨h₁, tk, rfl⟩ := x.toInCall.same
        exact ⟨h', _, rfl⟩
      · exact hs'.extBut b o (Nat.ne_of_lt (Nat.lt_of_lt_of_le (Heap.lt_size e) x.toInCall.fresh)) (x.toInCall.keep b o e)
      · exact (x.cell k c hc).sameBut hs' (Nat.ne_of_gt (x.above k c (PySem.mem_of_lookup hc)))
      · unfold bindL bindC
        rw [if_pos hl, if_pos hl]
        exact x''
    · obtain ⟨c, hc⟩ := Option.isSome_iff_exists.mp hc
      have hnl : ¬ env.kindOf n = some .local := by rw [hl]; decide
      have hLc := x.above n c (PySem.mem_of_lookup hc)
      refine wpAny_bind (wpAny_bind (wpAny_storeName_cell hk hl (hcs n c hc) (x.cell n c hc) fun h' hc' hs' => wpAny_pure ?_))
      refine ih m (fun y => if y = n then some v else cm y) _ Q ⟨⟨?_, x.toInCall.ns.sameBut hs' (Nat.ne_of_lt hLc), fun b o e => ?_, x.toInCall.fresh⟩, fun k c' hk' => ?_, x.apart, x.above⟩ hr fun s'' x'' => h s'' ?_
      · obtain ⟨h₁, tk, rfl⟩ := x.toInCall.same
        exact ⟨h', _, rfl⟩
      · exact hs'.extBut b o (Nat.ne_of_lt (Nat.lt_trans (Nat.lt_of_lt_of_le (Heap.lt_size e) x.toInCall.fresh) hLc)) (x.toInCall.keep b o e)
      · by_cases hkn : k = n
        · subst hkn
          rw [hc] at hk'
          cases hk'
          simpa using hc'
        · rw [if_neg hkn]
          exact (x.cell k c' hk').sameBut hs' fun e => hkn (name_of_addr x.apart (PySem.mem_of_lookup hk') (e ▸ PySem.mem_of_lookup hc))
      · unfold bindL bindC
        rw [if_neg hnl, if_neg hnl]
        exact x''
end
section
variable {M : Model} {A : Around} {E : Value → Shared → Prop} {s : Shared}
theorem env_own {scope : Scope} {binds : List (Str × Value)} {qual : Str} {f cc : Addr} {cd : Value} {Q : Env → Shared → Prop} (hk : scope.kind = .function)
    (hkind : ∀ x ∈ binds, scope.names.lookup x.1 = some .local ∨ (scope.names.lookup x.1 = some .cell ∧ ((ownC s.heap.objs.size scope).lookup x.1).isSome = true))
    (hQ : ∀ s', InCallC s s.heap.objs.size (bindL (envS qual scope s.heap.objs.size f cd cc).kindOf binds fun _ => none) (ownC s.heap.objs.size scope) (bindC (envS qual scope s.heap.objs.size f cd cc).kindOf binds fun _ => none) s' → Q (envS qual scope s.heap.objs.size f cd cc) s') :
    wpAny M A (newFunctionEnv scope mainGlobals (clsC cc) binds (qual ++ ".<locals>.") (some f) cd none builtinsNs) Q E s := by
  simp only [newFunctionEnv, Option.isSome_none, Bool.false_eq_true, if_false]
  refine wpAny_bind (wpAny_alloc ?_)
  refine wpAny_bind (wpAny_layCells _ (fun name kind cells => by cases hkc : kind == NameKind.cell <;> simp [hkc]) _ _ _ _ ?_)
  have ok := cellsFrom_ok scope.names (s.heap.push { cls := .type "frame", data := .dict #[] }) (s.heap.objs.size + 1) [] ⟨fun _ _ hm => (nomatch hm), List.Pairwise.nil⟩ (by rw [Heap.size_push]; exact Nat.le_refl _)
  rw [Heap.size_push] at ok
  rw [show ({ s with heap := s.heap.push { cls := .type "frame", data := .dict #[] } } : Shared).heap.objs.size = s.heap.objs.size + 1 from Heap.size_push .., cells_app]
  refine wpAny_bind (bind_own (s₀ := s) (env := envS qual scope s.heap.objs.size f cd cc) (cs := ownC s.heap.objs.size scope) _ (fun _ _ _ => rfl) hk (fun n c e => ?_) binds (fun _ => none) (fun _ => none) _ _
    ⟨⟨⟨_, _, rfl⟩, (Heap.Ns.new s.heap (.type "frame")).keeps (pushCells_keeps _ _), fun b o e => pushCells_keeps _ _ b o (Heap.get?_push_of_some _ e), Nat.le_refl _⟩, fun n c hc => (ok.empty n c (PySem.mem_of_lookup hc)).1, ok.apart, fun n c hm => (ok.empty n c hm).2⟩
    hkind fun s' x => wpAny_pure (hQ s' x))
  show (ownC s.heap.objs.size scope ++ clsC cc).lookup n = some c
  rw [List.lookup_append, e]
  rfl
end
end SupX
end PySem
namespace PySem
namespace SupX
open PySem.W PySem.Calls PyProof.Rows L2
structure SupScope (N P : List Str) (sc : Scope) : Prop where
  kind : sc.kind = .function
  co : sc.isCoroutine = false
  gen : sc.isGenerator = false
  nd : N.Nodup
  pre : N.take P.length = P
  par : ∀ x ∈ P, sc.names.lookup x = some .local ∨ sc.names.lookup x = some .cell
  free : ∀ y ∈ sc.names, y.2 = .free → y.1 = "__class__"
  cls : sc.names.lookup ("__class__" : Str) = some .free
  noc : ∀ y ∈ sc.names, y.1 = "__class__" → y.2 ≠ .cell
  sup : sc.names.lookup ("super" : Str) = some .globalImplicit
/-- the context of its body -/
def cxS (CX : CXT) (P : Program) (w : World) (K : Frag) (mg : Str → Option Value) (base : Heap) (N : List Str) (qual : Str) (scope : Scope) (f : Addr) (cd : Value) (cc : Addr) (A : Around) (outer : List Env) (s : Shared) (H : Hp) (E : XK) : Cx where
  prog := P
  w := w
  K := K
  mg := mg
  base := base
  A := A.deeper (envS qual scope s.heap.objs.size f cd cc)
  N := N
  s_0 := s
  H_0 := H
  env := envS qual scope s.heap.objs.size f cd cc
  outer := outer
  stack := envS qual scope s.heap.objs.size f cd cc :: outer
  ex := []
  fn := fun y => !(y == ("__class__" : Str))
  calm := true
  pn := []
  xe := fun e s' => wpAny (model P w) (A.deeper (envS qual scope s.heap.objs.size f cd cc)) (leaving (envS qual scope s.heap.objs.size f cd cc) e) (fun _ s'' => CX outer H s E e s'') (fun e' s'' => CX outer H s E e' s'') s'
theorem own_none {sc : Scope} {N P : List Str} {n : Nat} (S : SupScope N P sc) : (cellsFrom n sc.names []).lookup ("__class__" : Str) = none := by
  cases e : (cellsFrom n sc.names []).lookup ("__class__" : Str) with
  | none => rfl
  | some c => exact absurd rfl (S.noc _ (cells_mem _ _ (PySem.mem_of_lookup e)) rfl)
theorem cells_cases {L cc : Addr} {sc : Scope} {y : Str} {c : Addr} (h : (ownC L sc ++ clsC cc).lookup y = some c) : (ownC L sc).lookup y = some c ∨ (y = "__class__" ∧ c = cc) := by
  rw [List.lookup_append] at h
  cases e : (ownC L sc).lookup y with
  | some c' =>
    rw [e] at h
    exact .inl h
  | none =>
    rw [e] at h
    have h' : List.lookup y [(("__class__" : Str), cc)] = some c := h
    simp only [List.lookup] at h'
    cases b : (y == ("__class__" : Str)) with
    | true =>
      rw [b] at h'
      cases h'
      exact .inr ⟨beq_iff_eq.mp b, rfl⟩
    | false =>
      rw [b] at h'
      cases h'
section
variable {CX : CXT} {P : Program} {w : World} {K : Frag} {mg : Str → Option Value} {base : Heap} {N ps : List Str} {qual : Str} {scope : Scope} {f cc D : Addr} {cd : Value} {A : Around} {outer : List Env} {s s1 : Shared} {H : Hp} {E : XK} {us : List Value} {vs : List V}
theorem startS {cl : Value} {cld : Option Addr} {csl : Array (Option Value)} (S : SupScope N ps scope) (hd : A.handled = none) (e0 : Env0 P w K mg base A outer s H) (hcc : K.lookup cc = some ⟨cl, cld, .cell (some (.ref D)), csl⟩) (hl : vs.length = ps.length) (r : Vals vs us)
    (x : InCallC s s.heap.objs.size (bindL (envS qual scope s.heap.objs.size f cd cc).kindOf (ps.zip us) fun _ => none) (ownC s.heap.objs.size scope) (bindC (envS qual scope s.heap.objs.size f cd cc).kindOf (ps.zip us) fun _ => none) s1) :
    Inv (cxS CX P w K mg base N qual scope f cd cc A outer s H E) [] (L2.start N vs) H s1 := by
  have hpl : ps.length ≤ N.length := by have := congrArg List.length S.pre; rw [List.length_take] at this; omega
  obtain ⟨h1, tk, rfl, hk⟩ := x.done
  have noA : ∀ b : Addr, b ∉ (cxS CX P w K mg base N qual scope f cd cc A outer s H E).ex := fun b z => absurd (show b ∈ ([] : List Addr) from z) (by simp)
  have eb := e0.mod.kin cc _ hcc
  have es := (e0.bs _ _ eb).1
  have lt := Heap.lt_size es
  have nd : ps.Nodup := by rw [← S.pre]; exact S.nd.sublist (List.take_sublist _ _)
  have low : ∀ {y c}, (ownC s.heap.objs.size scope).lookup y = some c → s.heap.objs.size < c := fun h => x.above _ _ (PySem.mem_of_lookup h)
  refine ⟨⟨e0.mod, S.kind, rfl, rfl, Nat.le_refl _, fun y z c h1 h2 => ?_, fun y hy => ?_, fun y c hf h => ?_, fun _ => hd, Around.frames_deeper e0.frames, .inr ⟨rfl, rfl⟩, fun b z => absurd z (noA b), e0.bs, e0.bsz, fun b _ _ => noA b, fun b z => absurd z (noA b), e0.funs, e0.frf⟩,
    rfl, e0.bare, Un.kept hk, ⟨_, x.toInCall.ns, fun i y v h1 h2 h3 => ?_⟩, fun y c h => ?_, e0.hok.fresh (Nat.le_refl _), fun y c h => ?_, fun p hp => absurd (show p ∈ ([] : List (Addr × Obj)) from hp) (by simp), e0.hok.kept hk, ?_⟩
  · rcases cells_cases h1 with a | ⟨a, rfl⟩
    · rcases cells_cases h2 with b | ⟨b, rfl⟩
      · exact name_of_addr x.apart (PySem.mem_of_lookup a) (PySem.mem_of_lookup b)
      · exact absurd (Nat.lt_trans lt (low a)) (Nat.lt_irrefl _)
    · rcases cells_cases h2 with b | ⟨b, _⟩
      · exact absurd (Nat.lt_trans lt (low b)) (Nat.lt_irrefl _)
      · rw [a, b]
  · have hy : scope.names.lookup y = some .cell ∨ scope.names.lookup y = some .free := hy
    show ∃ c, (ownC s.heap.objs.size scope ++ clsC cc).lookup y = some c
    rw [List.lookup_append]
    rcases hy with hy | hy
    · obtain ⟨c, e⟩ := cell_has (n := s.heap.objs.size + 1) hy
      rw [e]
      exact ⟨c, rfl⟩
    · have e := S.free _ (PySem.mem_of_lookup hy) rfl
      have e' : y = "__class__" := e
      subst e'
      rw [own_none S]
      exact ⟨cc, rfl⟩
  · rcases cells_cases h with a | ⟨a, _⟩
    · exact Nat.le_of_lt (low a)
    · rw [a] at hf
      exact absurd (show (!(("__class__" : Str) == ("__class__" : Str))) = true from hf) (by decide)
  · have hi : i < vs.length := by
      unfold L2.start at h2
      by_cases hi : i < vs.length
      · exact hi
      · rw [List.getElem?_append_right (by simpa using hi), List.getElem?_replicate] at h2
        split at h2 <;> cases h2
    have ha : vs[i]? = some v := by
      unfold L2.start at h2
      rw [List.getElem?_append_left (by simpa using hi), List.getElem?_map] at h2
      cases e : vs[i]? with
      | none => rw [e] at h2; cases h2
      | some a => rw [e] at h2; cases h2; rfl
    obtain ⟨u, hu, rv⟩ := r.get ha
    have hp : ps[i]? = some y := by
      rw [← S.pre, List.getElem?_take_of_lt (by omega)]
      exact h1
    refine ⟨u, rv, ?_⟩
    rcases S.par y (List.mem_of_getElem? hp) with k | k
    · exact .inl ⟨k, bindL_get nd hp hu k⟩
    · obtain ⟨c, e⟩ := cell_has (n := s.heap.objs.size + 1) k
      have q := x.cell y c e
      rw [bindC_get nd hp hu (by show scope.names.lookup y ≠ _; rw [k]; decide)] at q
      refine .inr ⟨.inl k, c, ?_, q⟩
      show (ownC s.heap.objs.size scope ++ clsC cc).lookup y = some c
      rw [List.lookup_append, e]
      rfl
  · rcases cells_cases h with a | ⟨_, rfl⟩
    · exact ⟨_, x.cell y c a⟩
    · exact ⟨_, _, hk _ _ es, rfl⟩
  · rcases cells_cases h with a | ⟨_, rfl⟩
    · exact e0.hok.fresh (Nat.le_of_lt (low a))
    · exact (e0.bs _ _ eb).2
  · unfold L2.start
    show _ = N.length
    rw [List.length_append, List.length_map, List.length_replicate]
    omega
end
/-- what is known of such a method: the class D that its cell holds, its code -/
structure SupFn (prog : Program) (K : Frag) (f : Addr) (fd : FuncData) (name qual : Str) (st : Stmt) (cc cda D : Addr) : Prop where
  ex : ∃ (dv oc kV doc pm ct cl ccl : Value) (od an cld cdd : Option Addr) (osl csl ccs : Array (Option Value)) (vs : Array Value) (file : Str) (tf : Tok),
    fd = ksFn name qual (defArgs st) (defBody st) (defScope st) dv kV doc pm an (.ref cda) ct cc ∧ K.lookup f = some ⟨oc, od, .func fd, osl⟩ ∧ codeIn K (.ref cda) qual = true ∧
    K.lookup cc = some ⟨cl, cld, .cell (some (.ref D)), csl⟩ ∧ K.lookup cda = some ⟨ccl, cdd, .fields vs, ccs⟩ ∧ vs[2]? = some (.str file tf) ∧ ((prog.main.file : Str) == file) = true
  top : (prog.main.scope.names.lookup ("super" : Str)).isSome = false
theorem execs_app {env : Env} (post : List Stmt) : ∀ pre : List Stmt, execs (pre ++ post) env = (execs pre env >>= fun f => match f with | .next => execs post env | f => pure f)
  | [] => rfl
  | st :: r => by
    rw [List.cons_append, execs_cons, execs_cons, bind_assoc]
    congr 1
    funext f
    cases f with
    | next => exact execs_app post r
    | _ => rfl
end SupX
end PySem
namespace PySem
namespace SupX
open PySem.W PySem.Calls PyProof.Rows L2
abbrev supE (es : List Expr) (p0 p1 p2 p3 : Pos) : Expr := .Call (.Attribute (.Call (.Name "super" p0) [] [] p1) "__init__" p2) es [] p3
/-- the class C of the instance: above it stands D, behind D comes the __init__ at f2 -/
structure Above (K : Frag) (C D f2 : Addr) : Prop where
  cD : (clsIn K D).isSome = true
  sub : mroIn K C (.ref D) = some true
  ini : ks_superIn K C D "__init__" = some (some (.ref f2))
  ty : typeIn K (.ref f2) = some (.type "function")
  fn : fnIn K f2 = true
  opq : nsIn K cStatics "thirdparty.any" = some none
/-- super().__init__(..) as the last statement -/
def tSup (K : Frag) (D f2 : Addr) (sp : Sp) (E : XK) (t : TA) : TS := fun Dn σ H => ∃ (a C dx : Addr) (fs : List (Str × V)), σ[0]? = some (some (.ref a)) ∧ H a = some (.ins C dx fs) ∧ Above K C D f2 ∧ t σ H fun vs H1 => sp (.ref a :: vs) H1 (fun _ H2 => Dn.nx σ H2) E
section
variable {X : Cx} {CX : CXT} {name qual : Str} {st : Stmt} {f cc cda D f2 : Addr} {fd : FuncData} {s : Shared} {H : Hp} {E : XK} {k : Nat} {sp : Sp} {e : Expr} {es : List Expr} {t : TA}
  {ar : Arg} {body : List Stmt} {p0 p1 p2 p3 p4 : Pos} {pl : Sem Bool} {pins : List (Addr × Obj)} {σ : L2.St} {Dn : Ends}
theorem sup_run (F : SupFn X.prog X.K f fd name qual st cc cda D) (hk : X.env.scope.kind = .function) (hks : X.env.kindOf ("super" : Str) = some .globalImplicit) (hkc : X.env.kindOf ("__class__" : Str) = some .free) (hcl : X.env.cells.lookup ("__class__" : Str) = some cc)
    (hfu : X.env.func = some f) (hco : X.env.code = .ref cda) (hN : X.N[0]? = some ar.arg) (hv : Vis X.env.scope ar.arg) (hcd : (ar.arg == ("__classdict__" : Str)) = false) (har : ((defArgs st).posonlyargs ++ (defArgs st).args).head? = some ar) (hms : X.mg "super" = none)
    (F2 : FnR X.prog X.w X.K X.mg X.base CX k f2 sp) (hr : Room k X.A) (hx : Passes CX X E) (ha : PA X (e :: es) t) (I : Inv X pins σ H s) (h : tSup X.K D f2 sp E t Dn σ H)
    (hev : eval (supE (e :: es) p0 p1 p2 p3) X.env = (do
      let ov ← attributeBase (.Call (.Name "super" p0) [] [] p1) "__init__" X.env (eval (.Call (.Name "super" p0) [] [] p1) X.env)
      standAt p2.atName
      let (g, first) ← holding [ov] (getMethod ov "__init__" pl)
      callWith p3 g first (backTo p3 (starEach (e :: es) X.env)) []))
    (hi : interactive X.env = false) (hs : swapsWith (supE (e :: es) p0 p1 p2 p3) none p4.line X.env = pure false)
    (he : starEach (e :: es) X.env = (false, eval e X.env) :: starEach es X.env) (hpl : (backTo p3 (starEach es X.env)).any (·.1) = false) :
    wpAt (model X.prog X.w) X.A (.func body X.env) (exec (.Expr (supE (e :: es) p0 p1 p2 p3) p4) X.env) (SP X pins Dn) X.xe s := by
  obtain ⟨dv, oc, kV, doc, pm, ct, cl, ccl, od, an, cld, cdd, osl, csl, ccs, vs, file, tf, rfl, lk, hcd', lcc, lcd, hvs, hfile⟩ := F.ex
  obtain ⟨a, C, dx, fs, hσ, hA, Ab, hq⟩ := h
  refine ks_wpAt_Expr_any (ks_wpAt_MethodCall (pl := pl) ?_ hev) hi hs
  have KX := I.kIn
  refine ks_wpAt_super_base (env := X.env) hks hkc (by decide +kernel) hfu (KX _ _ lk) rfl har hco (KX _ _ lcd) rfl hvs hfile F.top ?_
  obtain ⟨mb, hb1, hb2⟩ := I.mod.blt
  refine ks_loadName_global hk hks ?_
  have gl : X.env.globals = mainGlobals := I.ok.glob
  have bl : X.env.builtins = builtinsNs := I.ok.blt
  refine loadGlobal_builtin (env := X.env) (by rw [gl]; exact I.mod.glob.keeps I.bk) hms (by rw [bl]; exact hb1.keeps I.bk) ((hb2 _ (by decide +kernel)).trans (show bootBuiltins ("super" : Str) = some (.type "super") by decide +kernel)) ⟨rfl, ?_⟩
  refine wpAny_loadName_free hk hkc hcl ⟨_, KX _ _ lcc, rfl⟩ ?_
  obtain ⟨m, hns, hlk⟩ := I.loc
  obtain ⟨u, ru, look⟩ := hlk 0 ar.arg (.ref a) hN hσ hv
  obtain rfl : u = Value.ref a := ru
  have self : ∀ {Q : Value → Shared → Prop} {E' : Value → Shared → Prop}, Q (.ref a) s → wpAny (model X.prog X.w) X.A (loadName X.env ar.arg) Q E' s := fun q => by
    rcases look with ⟨hl, hm⟩ | ⟨hl | hl, c, hc, hcell⟩
    · exact wpAny_loadName_local hk hl hns hm q
    · exact wpAny_loadName_cell hk hl hc hcell q
    · exact wpAny_loadName_free hk hl hc hcell q hcd
  refine self ?_
  obtain ⟨mA, O, rO, wi, _, ho⟩ := ins_get I.hok hA
  obtain ⟨cdD, hcdD⟩ := Option.isSome_iff_exists.mp Ab.cD
  obtain ⟨oD, hD1, hD2⟩ : ∃ oD, s.heap.get? D = some oD ∧ oD.data = .cls cdD := by
    unfold clsIn at hcdD
    split at hcdD
    · rename_i c d cd' sl ho
      cases hcdD
      exact ⟨_, KX _ _ ho, rfl⟩
    · cases hcdD
  refine ks_wpAny_isType_cls hD1 hD2 ⟨rfl, ?_⟩
  refine ks_wpAny_call_super hD1 hD2 O.obj rfl (fun c z => by cases z) (looks_mroIn KX Ab.sub) (fun h2 hso k2 => ?_)
  have I2 : Inv X pins σ H { s with heap := h2 } := I.kept k2
  have K2 := I2.kIn
  cases hc : clsIn X.K C with
  | none =>
    have z := Ab.ini
    unfold ks_superIn at z
    rw [hc] at z
    cases z
  | some cdC =>
    have z := Ab.ini
    unfold ks_superIn at z
    rw [hc] at z
    obtain ⟨of, hof, hofc⟩ : ∃ of, h2.get? f2 = some of ∧ of.cls = .type "function" := by
      have ht' : (X.K.lookup f2).map (·.cls) = some (.type "function") := Ab.ty
      cases y : X.K.lookup f2 with
      | none => rw [y] at ht'; cases ht'
      | some of => rw [y] at ht'; exact ⟨of, K2 _ _ y, Option.some.inj ht'⟩
    obtain ⟨odd, hodd, _⟩ := lookIn_ns O.ns
    have J : InstAt s.heap a (instObj C dx) C (some odd) := ⟨O.obj, rfl, rfl, hodd⟩
    refine ks_wpAny_getMethod_super hso (looks_opaque K2 Ab.opq) (l₀ := cdC.mro) ?_ rfl K2 z hof hofc (ks_ne KX J hc) (by decide +kernel) ?_
    · exact fun A Q E s k q => wpAny_bind ((looks_clsIn K2 hc) A _ E s k (wpAny_pure q))
    · have I3 := ClX.met_new (g := f2) (C := a) I2
      have run : wpAny (model X.prog X.w) X.A (callWith p3 (.ref h2.objs.size) [] (backTo p3 (starEach (e :: es) X.env)) []) (EP X pins σ fun _ H2 => Dn.nx σ H2) X.xe { s with heap := h2.push (methodObj (.ref f2) (.ref a)), toks := s.toks + 1 } := by
        refine ClX.callwith_cm I3 (ClX.base_none I2 (Nat.le_refl _)) Ab.fn (thn (ha.run p3 _ _ σ H _ I3 hq) fun us s3 ⟨vs, H2, I4, rv, q2⟩ => ⟨⟨ClX.pin_at I4, I4.kIn⟩, ?_⟩) he hpl
        exact ClX.run_cm F2 hr hx I4 rv q2
      refine thn run fun v s' h' => ?_
      obtain ⟨v', H', I', _, q'⟩ := h'
      exact ⟨σ, H', I', q'⟩
end
end SupX
end PySem
namespace PySem
namespace SupX
open PySem.W PySem.Calls PyProof.Rows L2
/-- what the syntax of such a last statement gives, in an environment -/
def SupSyn (env : Env) (e : Expr) (es : List Expr) (p0 p1 p2 p3 p4 : Pos) : Prop := (∃ pl : Sem Bool, eval (supE (e :: es) p0 p1 p2 p3) env = (do
      let ov ← attributeBase (.Call (.Name "super" p0) [] [] p1) "__init__" env (eval (.Call (.Name "super" p0) [] [] p1) env)
      standAt p2.atName
      let (g, first) ← holding [ov] (getMethod ov "__init__" pl)
      callWith p3 g first (backTo p3 (starEach (e :: es) env)) [])) ∧ interactive env = false ∧ swapsWith (supE (e :: es) p0 p1 p2 p3) none p4.line env = pure false ∧
  starEach (e :: es) env = (false, eval e env) :: starEach es env ∧ (backTo p3 (starEach es env)).any (·.1) = false
section
variable {CX : CXT} {P : Program} {w : World} {K : Frag} {mg : Str → Option Value} {base : Heap} {N ps : List Str} {name qual : Str} {st : Stmt} {f cc cda D f2 : Addr} {fd : FuncData} {k : Nat} {sp : Sp} {e : Expr} {es : List Expr} {pre : List Stmt}
  {ar : Arg} {p0 p1 p2 p3 p4 : Pos}
/-- THE RULE: a method by its statements pre and a last super().__init__(e, ..) -/
theorem fnS_of (F : SupFn P K f fd name qual st cc cda D) (S : SupScope N ps (defScope st)) (hb0 : defBody st = pre ++ [.Expr (supE (e :: es) p0 p1 p2 p3) p4]) (hN : N[0]? = some ar.arg) (hv : Vis (defScope st) ar.arg) (hcd0 : (ar.arg == ("__classdict__" : Str)) = false)
    (har : ((defArgs st).posonlyargs ++ (defArgs st).args).head? = some ar) (hms : mg "super" = none) (hsyn : ∀ L : Addr, SupSyn (envS qual (defScope st) L f (.ref cda) cc) e es p0 p1 p2 p3 p4) (len : ∀ vs H Q E, sp vs H Q E → vs.length = ps.length)
    (hbody : ∀ (A : Around) (outer : List Env) (s : Shared) (H : Hp) (vs : List V) (Q : VK) (E : XK), Room k (A.deeper (envS qual (defScope st) s.heap.objs.size f (.ref cda) cc)) → sp vs H Q E →
      ∃ (t : TS) (ta : TA) (sp2 : Sp) (E2 : XK), PSs (cxS CX P w K mg base N qual (defScope st) f (.ref cda) cc A outer s H E) pre t ∧ FnR P w K mg base CX k f2 sp2 ∧ Passes CX (cxS CX P w K mg base N qual (defScope st) f (.ref cda) cc A outer s H E) E2 ∧
        PA (cxS CX P w K mg base N qual (defScope st) f (.ref cda) cc A outer s H E) (e :: es) ta ∧ t { nx := fun σ H' => tSup K D f2 sp2 E2 ta { nx := fun _ H' => Q .non H', rt := Q } σ H', rt := Q } (L2.start N vs) H) :
    FnOk P w K mg base CX (k + 1) f fd ps sp := by
  refine ⟨len, fun A outer s H args us vs Q E hr e0 hb r hsp => ?_⟩
  have F' := F
  obtain ⟨dv, oc, kV, doc, pm, ct, cl, ccl, od, an, cld, cdd, osl, csl, ccs, ws, file, tf, rfl, lk, hcd, lcc, lcd, hvs, hfile⟩ := F'.ex
  have hl := len _ _ _ _ hsp
  have KX : K.In s.heap := e0.mod.kin.keeps fun b o e => (e0.bs b o e).1
  have lim : s.heap.NoLimit := e0.mod.nolimit.keeps fun b o e => (e0.bs b o e).1
  have kinds : ∀ y ∈ ps.zip us, (defScope st).names.lookup y.1 = some .local ∨ ((defScope st).names.lookup y.1 = some .cell ∧ ((ownC s.heap.objs.size (defScope st)).lookup y.1).isSome = true) := by
    rintro ⟨n, v⟩ hy
    rcases S.par n (List.of_mem_zip hy).1 with q | q
    · exact .inl q
    · exact .inr ⟨q, PySem.W.cellsFrom_some _ _ _ (.inl q)⟩
  refine codeAny_call_function hr.depth (KX _ _ lk) rfl S.co S.gen rfl (codeRec_of KX hcd) (hb _ _ _ _ ?_)
  refine env_own S.kind kinds fun s1 x => ⟨lim.keeps x.toInCall.keep, ks_codeAny_funcAt ?_⟩
  obtain ⟨t, ta, sp2, E2, ht, F2, hx, ha, hq⟩ := hbody A outer s H vs Q E (hr.deeper _) hsp
  have I : Inv (cxS CX P w K mg base N qual (defScope st) f (.ref cda) cc A outer s H E) [] (L2.start N vs) H s1 := startS S hr.hd e0 lcc hl r x
  obtain ⟨⟨pl, hev⟩, hi, hs, he, hpl⟩ := hsyn s.heap.objs.size
  have fin : ∀ {σ' : L2.St} {H' : Hp} {v : V} {u : Value} {s' : Shared}, Inv (cxS CX P w K mg base N qual (defScope st) f (.ref cda) cc A outer s H E) [] σ' H' s' → RelV v u → Q v H' → CE outer P w H s Q u s' :=
    fun J rv q => ⟨_, _, J.os, J.bare, J.base, J.hok, rv, q⟩
  have eb : execs (defBody st) (envS qual (defScope st) s.heap.objs.size f (.ref cda) cc) = (execs pre (envS qual (defScope st) s.heap.objs.size f (.ref cda) cc) >>= fun fl => match fl with | .next => execs [.Expr (supE (e :: es) p0 p1 p2 p3) p4] (envS qual (defScope st) s.heap.objs.size f (.ref cda) cc) | fl => pure fl) := by
    rw [hb0]
    exact execs_app _ _
  rw [eb]
  refine wpAt_bind (wpAt_mono (wpAt_of_wpAny (ht.run [] s1 (L2.start N vs) H _ I hq)) (fun fl s' hs' => ?_) fun _ _ z => z)
  cases fl with
  | next =>
    obtain ⟨σ', H', J, q⟩ := hs'
    refine ks_wpAt_execs_cons (wpAt_mono (sup_run (X := cxS CX P w K mg base N qual (defScope st) f (.ref cda) cc A outer s H E) (pl := pl) F S.kind S.sup S.cls ?_ rfl rfl hN hv hcd0 har hms F2 (hr.deeper _) hx ha J q hev hi hs he hpl) (fun fl2 s2 h2 => ?_) fun _ _ z => z)
    · show (ownC s.heap.objs.size (defScope st) ++ clsC cc).lookup ("__class__" : Str) = some cc
      rw [List.lookup_append, own_none S]
      rfl
    · cases fl2 with
      | next =>
        obtain ⟨σ2, H2, J2, q2⟩ := h2
        exact wpAt_of_wpAny (wpAny_execs_nil (fin (v := V.non) (u := Value.none) J2 rfl q2))
      | ret u =>
        obtain ⟨v, σ2, H2, J2, rv, q2⟩ := h2
        exact fin J2 rv q2
      | brk =>
        obtain ⟨_, _, _, q2⟩ := h2
        exact False.elim q2
      | cont =>
        obtain ⟨_, _, _, q2⟩ := h2
        exact False.elim q2
  | ret u =>
    obtain ⟨v, σ', H', J, rv, q⟩ := hs'
    exact wpAt_of_wpAny (wpAny_pure (fin J rv q))
  | brk =>
    obtain ⟨_, _, _, q⟩ := hs'
    exact False.elim q
  | cont =>
    obtain ⟨_, _, _, q⟩ := hs'
    exact False.elim q
end
end SupX
end PySem
/-! a list comprehension of any number of clauses -/
namespace LcN
open PySem PySem.Spec PyProof.Rows L2
theorem turn_more {elt tg it tg1 it1 : Expr} {ifs ifs1 : List Expr} {gens : List Comprehension} {scope : Scope} {pos : Pos} {d : Nat} {itv acc : Value} {env : Env} (h : gens[d]? = some ⟨tg, it, ifs, 0⟩) (h1 : gens[d + 1]? = some ⟨tg1, it1, ifs1, 0⟩) :
    compTurn (.ListComp elt gens scope pos) d itv acc env = (do
      standAt it.pos
      match ← pyNext itv with
      | none => pure (.done .next)
      | some v =>
        letOwnedTupleGo tg itv v
        assign tg env v
        let mut ok := true
        for c in ifs do
          if ok then ok ← isTrue c env (eval c env)
        if ok then
          let x ← eval it1 env
          standAt it1.pos
          let x ← foldedSetIterable it1 env x
          let _ ← runOwn (.compStart (.ListComp elt gens scope pos) (d + 1) (← holding [x] (pyIter x)) acc env) env
        again (.compLoop (.ListComp elt gens scope pos) d itv acc env)) := by
  unfold compTurn
  simp only [h, h1]
  rfl
theorem turn_last {elt tg it : Expr} {ifs : List Expr} {gens : List Comprehension} {scope : Scope} {pos : Pos} {d : Nat} {itv acc : Value} {env : Env} (h : gens[d]? = some ⟨tg, it, ifs, 0⟩) (h1 : gens[d + 1]? = none) :
    compTurn (.ListComp elt gens scope pos) d itv acc env = (do
      standAt it.pos
      match ← pyNext itv with
      | none => pure (.done .next)
      | some v =>
        letOwnedTupleGo tg itv v
        assign tg env v
        let mut ok := true
        for c in ifs do
          if ok then ok ← isTrue c env (eval c env)
        if ok then
          (do let _ ← call (.builtin "list.append") [acc, ← eval elt env])
        again (.compLoop (.ListComp elt gens scope pos) d itv acc env)) := by
  unfold compTurn
  simp only [h, h1]
  rfl

section
variable {prog : Program} {w : World} {A : Around} {R : Result → Shared → Prop} {s : Shared} {elt tg it tg1 it1 : Expr} {ifs ifs1 : List Expr} {gens : List Comprehension} {scope : Scope} {pos : Pos} {d : Nat} {itv acc : Value} {env : Env}
/-- what is done behind the tests of clause d -/
abbrev innerP (elt : Expr) (gens : List Comprehension) (scope : Scope) (pos : Pos) (d : Nat) (acc : Value) (env : Env) : Sem Unit := match gens[d + 1]? with
        | some g' => do
          let x ← eval g'.iter env
          standAt g'.iter.pos
          let x ← if g'.is_async != 0 then foldedIterable g'.iter x else foldedSetIterable g'.iter env x
          let _ ← runOwn (.compStart (.ListComp elt gens scope pos) (d + 1) (← holding [x] (if g'.is_async != 0 then asyncIter x else pyIter x)) acc env) env
        | none => do let _ ← call (.builtin "list.append") [acc, ← eval elt env]
abbrev testsOf (ifs : List Expr) (env : Env) : Sem Bool := forIn ifs true fun c r => if r = true then do let ok ← isTrue c env (eval c env); pure (ForInStep.yield ok) else pure (ForInStep.yield r)
/-- one clause's loop: what is done behind its tests is told by In -/
theorem loop_by (In : (Shared → Prop) → Shared → Prop) (hIn : ∀ (Q : Shared → Prop) (s : Shared) (E : Value → Shared → Prop), In Q s → wpAny (model prog w) A (match gens[d + 1]? with
        | some g' => do
          let x ← eval g'.iter env
          standAt g'.iter.pos
          let x ← if g'.is_async != 0 then foldedIterable g'.iter x else foldedSetIterable g'.iter env x
          let _ ← runOwn (.compStart (.ListComp elt gens scope pos) (d + 1) (← holding [x] (if g'.is_async != 0 then asyncIter x else pyIter x)) acc env) env
        | none => do let _ ← call (.builtin "list.append") [acc, ← eval elt env]) (fun _ s' => Q s') E s)
    (hd : gens[d]? = some ⟨tg, it, ifs, 0⟩) (hg : gens[d + 1]? = none ∨ ∃ tg1 it1 ifs1, gens[d + 1]? = some ⟨tg1, it1, ifs1, 0⟩) (Iv : Nat → Shared → Prop)
    (turn : ∀ n s, Iv n s → wpAny (model prog w) A (pyNext itv) (fun r s₁ => match r with
      | none => R (.ok .next) s₁
      | some v => wpAny (model prog w) A (letOwnedTupleGo tg itv v) (fun _ s₂ => wpAny (model prog w) A (assign tg env v) (fun _ s₃ => wpAny (model prog w) A (testsOf ifs env) (fun ok s₄ =>
          if ok = true then In (fun s₅ => ∃ m, m < n ∧ Iv m s₅) s₄ else ∃ m, m < n ∧ Iv m s₄) (fun _ _ => False) s₃) (fun _ _ => False) s₂) (fun _ _ => False) s₁) (fun _ _ => False) s)
    (n : Nat) (h : Iv n s) : codeAny (model prog w) A (.compLoop (.ListComp elt gens scope pos) d itv acc env) R s := by
  refine codeAny_loop rfl Iv (fun n s hI => ?_) n h
  show wpAny _ A ((compTurn (.ListComp elt gens scope pos) d itv acc env).onRaise (fun x => do noteFrame x env; theTreesLotGoes x)) _ _ s
  refine wpAny_noted ?_
  unfold compTurn
  simp only [hd]
  have no : ∀ {α : Type} {t : Sem α} {Q Q' : α → Shared → Prop} {E : Value → Shared → Prop} {s : Shared}, wpAny (model prog w) A t Q (fun _ _ => False) s → (∀ a s, Q a s → Q' a s) → wpAny (model prog w) A t Q' E s := fun h hq => wpAny_mono h hq fun _ _ z => z.elim
  refine wpAny_bind (wpAny_standAt (wpAny_bind (no (turn n s hI) fun r s₁ h₁ => ?_)))
  cases r with
  | none => exact wpAny_pure h₁
  | some v =>
    refine wpAny_bind (no h₁ fun _ s₂ h₂ => wpAny_bind (no h₂ fun _ s₃ h₃ => wpAny_bind (no h₃ fun ok s₄ h₄ => ?_)))
    cases ok with
    | false => exact wpAny_pure ⟨rfl, h₄⟩
    | true =>
      have z := hIn _ s₄ (notedBy (model prog w) A env fun x s' => R (.error x) s') h₄
      rcases hg with hg | ⟨tg1, it1, ifs1, hg⟩
      · rw [hg] at z ⊢
        exact wpAny_bind (wpAny_mono z (fun _ s' h' => wpAny_pure ⟨rfl, h'⟩) fun _ _ h' => h')
      · rw [hg] at z ⊢
        have z2 := wpAny_bind (f := fun _ => (again (.compLoop (.ListComp elt gens scope pos) d itv acc env) : Sem PySem.Fin)) (wpAny_mono z (fun _ s' h' => wpAny_pure (Q := fun (fin : PySem.Fin) s' => match fin with | .done f => R (.ok f) s' | .again c' => c' = Code.compLoop (.ListComp elt gens scope pos) d itv acc env ∧ ∃ m, m < n ∧ Iv m s') ⟨rfl, h'⟩) fun _ _ h' => h')
        simp only [bind_assoc, pure_bind, if_true, bne_self_eq_false, Bool.false_eq_true, if_false] at z2 ⊢
        exact z2
end
/-- a clause's inner part, at its slots and heap: the list at D, what is to be reached -/
abbrev TC := L2.St → Hp → Addr → (Hp → Prop) → Prop
structure Inner (Y : Cx) (elt : Expr) (gens : List Comprehension) (scope : Scope) (pos : Pos) (d : Nat) (tC : TC) (ws : List Nat) : Prop where
  run : ∀ (pins : List (Addr × Obj)) (s : Shared) (σ : L2.St) (H : Hp) (D : Addr) (Nx : Hp → Prop) (E : Value → Shared → Prop), Inv Y pins σ H s → tC σ H D Nx →
    wpAny (model Y.prog Y.w) Y.A (innerP elt gens scope pos d (.ref D) Y.env) (fun _ s' => ∃ H', Inv Y pins (wipe σ ws) H' s' ∧ Nx H') E s
def tEmit (te : TE) : TC := fun σ H D Nx => te σ H fun y H4 => ∃ acc, H4 D = some (.lst acc) ∧ acc.length < sizeLine ∧ Nx (upd H4 D (.lst (acc ++ [y])))
def tClause (wi : TI) (g : TG) (tt : TT) (tC : TC) (vs : List Nat) : TC := fun σ H D Nx => wi σ H fun J H1 => ∃ W : Nat → Nat → Hp → Prop, (∃ m, W 0 m H1) ∧ ∀ j k H, W j k H →
  (J.stop j H ∧ Nx H) ∨ (J.go j H ∧ ∃ Nx1 : Hp → Prop, (∀ H', Nx1 H' → ∃ k', k' < k ∧ W (j + 1) k' H') ∧ ∀ x H', J.yld j H x H' → g x (wipe σ vs) H' fun σ3 H5 => wipe σ3 vs = wipe σ vs ∧ tt σ3 H5 fun b H6 => if b = true then tC σ3 H6 D Nx1 else Nx1 H6)
section
variable {Y : Cx} {elt tg it tg1 it1 : Expr} {ifs ifs1 : List Expr} {gens : List Comprehension} {scope : Scope} {pos : Pos} {d : Nat} {te : TE} {tC : TC} {ws vs : List Nat} {wi : TI} {g : TG} {tt : TT}
theorem out_of {α : Type} {M : Model} {A : Around} {t : Sem α} {Q : α → Shared → Prop} {E E' : Value → Shared → Prop} {s : Shared} (hE : E = fun _ _ => False) (h : wpAny M A t Q E s) : wpAny M A t Q E' s := by
  subst hE
  exact wpAny_mono h (fun _ _ q => q) fun _ _ z => z.elim
theorem inner_last (hxe : Y.xe = fun _ _ => False) (hg : gens[d + 1]? = none) (he : PE Y elt te) : Inner Y elt gens scope pos d (tEmit te) [] := by
  constructor
  intro pins s σ H D Nx E I h
  unfold innerP
  rw [hg]
  refine wpAny_bind (out_of hxe (thn (he.run pins s σ H _ I h) fun z s1 hz => ?_))
  obtain ⟨y, H4, I4, r, acc, hD, hl, nx⟩ := hz
  exact wpAny_bind (app_ok I4 hD hl r fun s2 I5 => wpAny_pure ⟨_, I5, nx⟩)
theorem clause_loop (hxe : Y.xe = fun _ _ => False) (hc : Y.calm = true) (hd : gens[d]? = some ⟨tg, it, ifs, 0⟩) (hg : gens[d + 1]? = none ∨ ∃ tg1 it1 ifs1, gens[d + 1]? = some ⟨tg1, it1, ifs1, 0⟩) (pg : PG Y tg g) (pt : PTs Y ifs tt) (In : Inner Y elt gens scope pos d tC ws)
    (hws : ∀ j ∈ ws, j ∈ vs) {itv D : Addr} {fp : List Addr} {tn : Nat → Heap → Prop} {J : It} (T : Turn Y.prog Y.w Y.K tg J fp itv tn) {pins : List (Addr × Obj)} {s : Shared} {σ : L2.St} {H : Hp} {Nx : Hp → Prop} {W : Nat → Nat → Hp → Prop} {m : Nat} (I : Inv Y pins σ H s) (st : tn 0 s.heap) (f : ∀ b ∈ fp, FpOk Y pins H b)
    (w0 : W 0 m H) (turn : ∀ j k H, W j k H → (J.stop j H ∧ Nx H) ∨ (J.go j H ∧ ∃ Nx1 : Hp → Prop, (∀ H', Nx1 H' → ∃ k', k' < k ∧ W (j + 1) k' H') ∧ ∀ x H', J.yld j H x H' → g x (wipe σ vs) H' fun σ3 H5 => wipe σ3 vs = wipe σ vs ∧ tt σ3 H5 fun b H6 => if b = true then tC σ3 H6 D Nx1 else Nx1 H6)) :
    codeAny (model Y.prog Y.w) Y.A (.compLoop (.ListComp elt gens scope pos) d (.ref itv) (.ref D) Y.env) (fun r s' => match r with | .ok f => f = .next ∧ ∃ H', Inv Y pins (wipe σ vs) H' s' ∧ Nx H' | .error _ => False) s := by
  have stat : ∀ {H' : Hp}, (∀ b ∈ fp, H' b = none) → ∀ b ∈ fp, FpOk Y pins H' b := fun hn b hb => ⟨hn b hb, (f b hb).2⟩
  refine loop_by (fun Q s => ∃ (pins : List (Addr × Obj)) (σ3 : L2.St) (H6 : Hp) (Nx1 : Hp → Prop), Inv Y pins σ3 H6 s ∧ tC σ3 H6 D Nx1 ∧ ∀ s' H', Inv Y pins (wipe σ3 ws) H' s' → Nx1 H' → Q s')
    (fun Q s E ⟨pn, σ3, H6, Nx1, I6, h6, k⟩ => wpAny_mono (In.run pn s σ3 H6 D Nx1 E I6 h6) (fun _ s' ⟨H', I', n'⟩ => k s' H' I' n') fun _ _ z => z) hd hg
    (fun n s' => ∃ j H', Inv Y pins (wipe σ vs) H' s' ∧ tn j s'.heap ∧ (∀ b ∈ fp, H' b = none) ∧ W j n H') ?_ m ⟨0, H, I.weak (wipe_length _ _) (fun j v e => (wipe_some e).1), st, fun b hb => (f b hb).1, w0⟩
  rintro n s1 ⟨j, H1, I1, st1, n1, w1⟩
  rcases turn j n H1 w1 with ⟨stop, nx⟩ | ⟨go, Nx1, hN, step⟩
  · refine thnF (T.done Y rfl rfl rfl hc j pins s1 _ H1 (fun _ _ => False) I1 (stat n1) st1 stop) fun r s2 ⟨hr, I2⟩ => ?_
    subst hr
    exact ⟨rfl, H1, I2, nx⟩
  · refine thnF (T.item Y rfl rfl rfl hc j pins s1 _ H1 (fun _ _ => False) I1 (stat n1) st1 go) fun r s2 ⟨u, hr, h2⟩ => ?_
    subst hr
    refine thnF h2 fun _ s3 ⟨x, H3, I3, r3, y3, st3, n3⟩ => ?_
    have I3' := I3.pinned (stat n3) (T.obj _ _ st3)
    refine out_of hxe (thn (pg.run _ s3 _ H3 x u _ I3' r3 (step x H3 y3)) fun _ s4 h4 => ?_)
    obtain ⟨σ4, H4, I4, hw4, q4⟩ := h4
    refine out_of hxe (thn (pt.run _ s4 σ4 H4 _ I4 q4) fun b s5 h5 => ?_)
    obtain ⟨H5, I5, q5⟩ := h5
    have back : ∀ {σ5 : L2.St} {s' : Shared} {H' : Hp}, Inv Y (pins ++ pinsAt fp s3.heap) σ5 H' s' → (wipe σ vs).length = σ5.length → (∀ (i : Nat) v, (wipe σ vs)[i]? = some (some v) → σ5[i]? = some (some v)) → Nx1 H' →
        ∃ k, k < n ∧ ∃ j H', Inv Y pins (wipe σ vs) H' s' ∧ tn j s'.heap ∧ (∀ b ∈ fp, H' b = none) ∧ W j k H' := fun {σ5 s' H'} I' hl hk nx => by
      obtain ⟨k, hkn, w'⟩ := hN H' nx
      have pin' : ∀ b ∈ fp, ∀ o, s3.heap.get? b = some o → s'.heap.get? b = some o ∧ H' b = none := fun b hb o e =>
        let z := I'.pin (b, o) (List.mem_append_right _ (List.mem_append_right _ (mem_pinsAt hb e)))
        ⟨z.1, z.2.1⟩
      refine ⟨k, hkn, j + 1, H', I'.unpinned.weak hl hk, T.keep _ _ _ st3 fun b hb o e => (pin' b hb o e).1, fun b hb => ?_, w'⟩
      obtain ⟨o, e, _⟩ := T.obj _ _ st3 b hb
      exact (pin' b hb o e).2
    have l4 : (wipe σ vs).length = σ4.length := by rw [← hw4, wipe_length]
    have k4 : ∀ (i : Nat) v, (wipe σ vs)[i]? = some (some v) → σ4[i]? = some (some v) := fun i v e => by
      rw [← hw4] at e
      exact (wipe_some e).1
    cases b with
    | false => exact back I5 l4 k4 q5
    | true =>
      refine ⟨_, σ4, H5, Nx1, I5, q5, fun s' H' I' nx => back I' (l4.trans (wipe_length σ4 ws).symm) (fun i v e => ?_) nx⟩
      rw [← hw4] at e
      obtain ⟨e1, e2⟩ := wipe_some e
      rw [wipe_out fun z => e2 (hws i z)]
      exact e1
end
end LcN
/-! a clause within a clause, and the whole comprehension -/
namespace LcN
open PySem PySem.Spec PyProof.Rows L2
theorem wipe_in {σ : L2.St} {i : Nat} (hi : i < σ.length) : ∀ {vs : List Nat}, i ∈ vs → (wipe σ vs)[i]? = some none
  | [], h => by cases h
  | v :: vs, h => by
    unfold wipe
    by_cases e : v = i
    · subst e
      rw [List.getElem?_set_self (by rw [wipe_length]; exact hi)]
    · rw [List.getElem?_set_ne e]
      exact wipe_in hi ((List.mem_cons.1 h).resolve_left fun z => e z.symm)
theorem wipe_twice (σ : L2.St) (vs : List Nat) : wipe (wipe σ vs) vs = wipe σ vs := by
  refine List.ext_getElem? fun i => ?_
  by_cases h : i ∈ vs
  · by_cases hl : i < σ.length
    · rw [wipe_in hl h, wipe_in (by rw [wipe_length]; exact hl) h]
    · rw [List.getElem?_eq_none (by rw [wipe_length, wipe_length]; omega), List.getElem?_eq_none (by rw [wipe_length]; omega)]
  · rw [wipe_out h]
section
variable {prog : Program} {w : World} {A : Around} {R : Result → Shared → Prop} {s : Shared} {elt tg iter : Expr} {ifs : List Expr} {gens : List Comprehension} {scope : Scope} {pos : Pos} {d : Nat} {it acc : Value} {env : Env}
theorem startN_ok (hd : gens[d]? = some ⟨tg, iter, ifs, 0⟩) (h0 : codeAny (model prog w) A (.compLoop (.ListComp elt gens scope pos) d it acc env) R s)
    (h : wpAny (model prog w) A (pyIter it) (fun it' s' => codeAny (model prog w) A (.compLoop (.ListComp elt gens scope pos) d it' acc env) R s')
      (notedBy (model prog w) A env fun x s' => R (.error x) s') s) :
    codeAny (model prog w) A (.compStart (.ListComp elt gens scope pos) d it acc env) R s := by
  refine codeAny_of_tree ?_
  show wpAny _ _ ((compStart (.ListComp elt gens scope pos) d it acc env).onRaise (fun x => do noteFrame x env; standAt theWindowsPlace)) _ _ s
  refine wpAny_notedAt ?_
  have e : (clausesOf (.ListComp elt gens scope pos))[d]? = some ⟨tg, iter, ifs, 0⟩ := hd
  unfold compStart
  rw [e]
  show wpAny _ _ (ask >>= _) _ _ s
  refine wpAny_bind (wpAny_askSetting (wpAny_ite ?_))
  split
  · first
      | exact wpAny_bind (wpAny_pure (wpAny_pure (And.intro rfl h0)))
      | exact wpAny_pure (And.intro rfl h0)
  · first
      | exact wpAny_bind (wpAny_rule (wpAny_bind (wpAny_standAt (wpAny_bind (wpAny_mono h (fun it' s' h' => wpAny_pure (And.intro rfl h')) fun _ _ x => x)))))
      | (refine wpAny_bind (wpAny_rule ?_); show wpAny _ _ (standAt iter.pos >>= _) _ _ s; exact wpAny_bind (wpAny_standAt (wpAny_bind (wpAny_mono h (fun it' s' h' => wpAny_pure (And.intro rfl h')) fun _ _ x => x))))
end
section
variable {Y : Cx} {elt tg it : Expr} {ifs : List Expr} {gens : List Comprehension} {scope : Scope} {pos : Pos} {d : Nat} {te : TE} {tC : TC} {ws vs : List Nat} {wi : TI} {g : TG} {tt : TT}
theorem inner_more (hxe : Y.xe = fun _ _ => False) (hc : Y.calm = true) (hd : gens[d + 1]? = some ⟨tg, it, ifs, 0⟩) (hg : gens[d + 1 + 1]? = none ∨ ∃ tg1 it1 ifs1, gens[d + 1 + 1]? = some ⟨tg1, it1, ifs1, 0⟩) (pi : PI Y tg it wi) (pg : PG Y tg g) (pt : PTs Y ifs tt) (In : Inner Y elt gens scope pos (d + 1) tC ws)
    (hws : ∀ j ∈ ws, j ∈ vs) (hs : ∀ x, foldedSetIterable it Y.env x = pure x) : Inner Y elt gens scope pos d (tClause wi g tt tC vs) vs := by
  constructor
  intro pins s σ H D Nx E I h
  unfold innerP
  rw [hd]
  simp only [bne_self_eq_false, Bool.false_eq_true, if_false]
  refine wpAny_bind (out_of hxe (thn (pi.run pins s σ H _ I h) fun xv s1 hx => ?_))
  refine wpAny_bind (wpAny_standAt (wpAny_bind (wpAny_of_eq (hs xv) (wpAny_bind (wpAny_holding (out_of hxe (thn hx fun itv s2 h2 => ?_)))))))
  obtain ⟨it1, fp, tn, J, H2, e, I2, T, st2, f2, W, ⟨m, w0⟩, turn⟩ := h2
  subst e
  refine wpAny_bind (wpAny_runOwn ?_)
  rw [Around.mark_none]
  have loop := clause_loop (Nx := Nx) (D := D) hxe hc hd hg pg pt In hws T I2 st2 f2 w0 turn
  refine codeAny_mono (startN_ok hd loop (T.self Y.A 0 _ _ _ st2 loop)) fun r s' hr => ?_
  cases r with
  | ok f => exact wpAny_pure hr.2
  | error e => exact hr.elim
end
section
variable {X : Cx}
/-- a comprehension of any number of clauses: the first one's source, the new list, then what its turns owe -/
def tLcN (wi : TI) (g : TG) (tt : TT) (tC : TC) (vs : List Nat) : TE := fun σ H Q => wi σ H fun J H1 => ∀ D, H1 D = none → ∃ W : Nat → Nat → Hp → Prop, (∃ m, W 0 m (upd H1 D (.lst []))) ∧ ∀ i m H, W i m H →
  (J.stop i H ∧ Q (.ref D) H) ∨ (J.go i H ∧ ∃ Nx : Hp → Prop, (∀ H', Nx H' → ∃ m', m' < m ∧ W (i + 1) m' H') ∧ ∀ x H', J.yld i H x H' → g x (wipe σ vs) H' fun σ2 H2 => wipe σ2 vs = wipe σ vs ∧ tt σ2 H2 fun b H3 => if b = true then tC σ2 H3 D Nx else Nx H3)
theorem lcN_core {pins : List (Addr × Obj)} {s : Shared} {σ : L2.St} {H : Hp} {Q : VK} {elt tg iter : Expr} {ifs : List Expr} {rest : List Comprehension} {scope : Scope} {own : List (Str × Nat)} {ws : List Nat} {pos pos' : Pos} {wi : TI} {g : TG} {tt : TT} {tC : TC} {use : Option (Value → Sem Unit)} {Qf : Value → Shared → Prop}
    (hc : X.calm = true) (hN : X.N.Nodup) (I : Inv X pins σ H s) (hi : PI X tg iter wi) (ok : BlkOk X.N X.env.scope scope own) (hv : ∀ i ∈ ws, i ∈ own.map (·.2))
    (hr : (⟨tg, iter, ifs, 0⟩ :: rest : List Comprehension)[0 + 1]? = none ∨ ∃ tg1 it1 ifs1, (⟨tg, iter, ifs, 0⟩ :: rest : List Comprehension)[0 + 1]? = some ⟨tg1, it1, ifs1, 0⟩)
    (hg : ∀ (s : Shared) (H : Hp) (C : Addr) (cl : List (Str × Addr)) (fp : List Addr), PG (X.blk s H scope (compEnvC scope cl C X.env) fp) tg g) (ht : ∀ (s : Shared) (H : Hp) (C : Addr) (cl : List (Str × Addr)) (fp : List Addr), PTs (X.blk s H scope (compEnvC scope cl C X.env) fp) ifs tt)
    (hC : ∀ (s : Shared) (H : Hp) (C : Addr) (cl : List (Str × Addr)) (fp : List Addr), Inner (X.blk s H scope (compEnvC scope cl C X.env) fp) elt (⟨tg, iter, ifs, 0⟩ :: rest) scope pos 0 tC ws) (hs : ∀ x, foldedSetIterable iter X.env x = pure x)
    (h : tLcN wi g tt tC (own.map (·.2)) σ H Q)
    (hRR : ∀ D C s' m H', Inv X pins σ H' s' → Q (.ref D) H' → s'.heap.Ns C m → FpOk X pins H' C → compPost (model X.prog X.w) X.A X.xe use Qf (.ref D) C (.ok .next) s') :
    wpAny (model X.prog X.w) X.A (comprehension (.ListComp elt (⟨tg, iter, ifs, 0⟩ :: rest) scope pos) scope X.env pos' (newList []) false (eval iter X.env) use) Qf X.xe s := by
  have hfree : ∀ y ∈ scope.names, y.2 = .free → ∃ c, X.env.cells.lookup y.1 = some c := fun y hy e => by
    rcases ok.free y hy e with k | k
    · exact I.ok.has _ (.inl k)
    · exact I.ok.has _ (.inr k)
  refine wpAny_comprehension_free (use := use) rfl hs (closure_ok hfree) ok.kind (fun y hy e => by rw [ok.uniq y hy, e])
    (thn (hi.run pins s σ H _ I h) fun xv s1 hx => thn hx fun itv s2 h2 => ?_)
  obtain ⟨it, fp, tn, J, H2, e, I2, T, st2, f2, q⟩ := h2
  subst e
  refine wpAny_newObj_type (newEnv_comp ?_) (by show 0 ≤ sizeLine; decide)
  generalize hD : s2.heap.objs.size = D
  have hDn : H2 D = none := I2.hok.fresh (Nat.le_of_eq hD)
  obtain ⟨W, ⟨m0, w0⟩, turn⟩ := q D hDn
  generalize hs3 : ({ s2 with heap := s2.heap.push { cls := .type "list", data := .seq ([] : List Value).toArray } } : Shared) = s3
  have I3 : Inv X pins σ (upd H2 D (.lst [])) s3 := by
    rw [← hs3]
    refine I2.laid (t' := s2.toks) (fun b o e => Heap.get?_push_of_some _ e) (Nat.le_of_eq hD) ⟨Nat.zero_le _, [], 0, .nil, ?_⟩
    rw [← hD]
    exact Heap.get?_push_size _ rfl
  have h3 : s3.heap = s2.heap.push { cls := .type "list", data := .seq ([] : List Value).toArray } := by rw [← hs3]
  have sz : ∀ b ∈ fp, b < s2.heap.objs.size := fun b hb => by
    obtain ⟨o, e, _⟩ := T.obj _ _ st2 b hb
    exact Heap.lt_size e
  have f3 : ∀ b ∈ fp, FpOk X pins (upd H2 D (.lst [])) b ∧ b < s3.heap.objs.size := fun b hb => by
    have hlt := sz b hb
    refine ⟨⟨?_, (f2 b hb).2⟩, by rw [h3, Heap.size_push]; exact Nat.lt_succ_of_lt hlt⟩
    rw [upd_ne (by rw [← hD]; exact Nat.ne_of_lt hlt)]
    exact (f2 b hb).1
  have st3 : tn 0 s3.heap := T.keep _ _ _ st2 fun b _ o e => by rw [h3]; exact Heap.get?_push_of_some _ e
  have I4 := block_start I3 ok hN f3
  have pg := hg s3 (upd H2 D (.lst [])) s3.heap.objs.size (cellsFrom (s3.heap.objs.size + 1) scope.names (cloFrom X.env.cells scope.names [])) fp
  have pt := ht s3 (upd H2 D (.lst [])) s3.heap.objs.size (cellsFrom (s3.heap.objs.size + 1) scope.names (cloFrom X.env.cells scope.names [])) fp
  have pc := hC s3 (upd H2 D (.lst [])) s3.heap.objs.size (cellsFrom (s3.heap.objs.size + 1) scope.names (cloFrom X.env.cells scope.names [])) fp
  show codeAny _ _ (.compStart (.ListComp elt (⟨tg, iter, ifs, 0⟩ :: rest) scope pos) 0 (.ref it) (.ref D) (compEnvC scope (cellsFrom (s3.heap.objs.size + 1) scope.names (cloFrom X.env.cells scope.names [])) s3.heap.objs.size X.env)) (compPost (model X.prog X.w) X.A X.xe use Qf (.ref D) s3.heap.objs.size) { s3 with heap := pushCells (s3.heap.push { cls := .type "dict", data := .dict #[] }) scope.names }
  have nfp : ∀ b ∈ fp, (upd H2 D (.lst [])) b = none := fun b hb => (f3 b hb).1.1
  generalize hce : compEnvC scope (cellsFrom (s3.heap.objs.size + 1) scope.names (cloFrom X.env.cells scope.names [])) s3.heap.objs.size X.env = ce at I4 pg pt pc ⊢
  have cL : ce.locals = s3.heap.objs.size := by subst hce; rfl
  generalize hH3 : upd H2 D (.lst []) = H3 at I3 I4 pg pt pc w0 nfp f3
  generalize hs4 : ({ s3 with heap := pushCells (s3.heap.push { cls := .type "dict", data := .dict #[] }) scope.names } : Shared) = s4 at I4 ⊢
  have st4 : tn 0 s4.heap := T.keep _ _ _ st3 fun b _ o e => by rw [← hs4]; exact pushCells_keeps _ _ _ _ (Heap.get?_push_of_some _ e)
  have stat : ∀ {σ' : L2.St} {H' : Hp} {s' : Shared}, Inv (X.blk s3 H3 scope ce fp) [] σ' H' s' → (∀ b ∈ fp, H' b = none) → ∀ b ∈ fp, FpOk (X.blk s3 H3 scope ce fp) [] H' b := fun {σ' H' s'} I' hn b hb =>
    ⟨hn b hb, (I'.ok.exf b hb).1, I'.ok.exfs b hb, .inl hb, fun x c e => (I'.ok.exf b hb).2 x c e, fun p hp => absurd (show p ∈ ([] : List (Addr × Obj)) ++ [] from hp) (by simp)⟩
  have loop0 := clause_loop (Y := X.blk s3 H3 scope ce fp) (itv := it) (D := D) (vs := own.map (·.2)) (Nx := fun H' => Q (.ref D) H') rfl hc (gens := ⟨tg, iter, ifs, 0⟩ :: rest) (d := 0) rfl hr pg pt pc hv T I4 st4 (stat I4 nfp) w0
    (by rw [wipe_twice]; exact turn)
  have loop : codeAny (model X.prog X.w) X.A (.compLoop (.ListComp elt (⟨tg, iter, ifs, 0⟩ :: rest) scope pos) 0 (.ref it) (.ref D) ce) (compPost (model X.prog X.w) X.A X.xe use Qf (.ref D) s3.heap.objs.size) s4 := by
    refine codeAny_mono loop0 fun r s6 hr => ?_
    cases r with
    | error e => exact hr.elim
    | ok f =>
      obtain ⟨hf, H5, I6, qq⟩ := hr
      subst hf
      have I7 : Inv X pins σ H5 s6 := I3.call' (ch := fp) I6.os I6.base I6.hok I6.bare fun b hb => ⟨(f3 b hb).1.2.2.2.1, (f3 b hb).1.2.1, (f3 b hb).1.2.2.2.2.1, (f3 b hb).1.2.2.2.2.2⟩
      have nC : H5 s3.heap.objs.size = none := by
        have z : H5 ce.locals = none := I6.free
        rw [cL] at z
        exact z
      obtain ⟨m, hn, _⟩ := I6.loc
      have hn : s6.heap.Ns ce.locals m := hn
      rw [cL] at hn
      exact hRR D s3.heap.objs.size s6 m H5 I7 qq hn (I3.fpOk (Nat.le_refl _) nC)
  exact codeAny_compStart_list loop (T.self X.A 0 _ _ _ st4 loop)
/-- as a value -/
theorem pe_lcN {elt tg iter : Expr} {ifs : List Expr} {rest : List Comprehension} {scope : Scope} {own : List (Str × Nat)} {ws : List Nat} {pos : Pos} {wi : TI} {g : TG} {tt : TT} {tC : TC} (hc : X.calm = true) (hN : X.N.Nodup) (hi : PI X tg iter wi) (ok : BlkOk X.N X.env.scope scope own) (hv : ∀ i ∈ ws, i ∈ own.map (·.2))
    (hr : (⟨tg, iter, ifs, 0⟩ :: rest : List Comprehension)[0 + 1]? = none ∨ ∃ tg1 it1 ifs1, (⟨tg, iter, ifs, 0⟩ :: rest : List Comprehension)[0 + 1]? = some ⟨tg1, it1, ifs1, 0⟩)
    (hg : ∀ (s : Shared) (H : Hp) (C : Addr) (cl : List (Str × Addr)) (fp : List Addr), PG (X.blk s H scope (compEnvC scope cl C X.env) fp) tg g) (ht : ∀ (s : Shared) (H : Hp) (C : Addr) (cl : List (Str × Addr)) (fp : List Addr), PTs (X.blk s H scope (compEnvC scope cl C X.env) fp) ifs tt)
    (hC : ∀ (s : Shared) (H : Hp) (C : Addr) (cl : List (Str × Addr)) (fp : List Addr), Inner (X.blk s H scope (compEnvC scope cl C X.env) fp) elt (⟨tg, iter, ifs, 0⟩ :: rest) scope pos 0 tC ws) (hs : ∀ x, foldedSetIterable iter X.env x = pure x := by intro _; rfl) :
    PE X (.ListComp elt (⟨tg, iter, ifs, 0⟩ :: rest) scope pos) (tLcN wi g tt tC (own.map (·.2))) := by
  refine ⟨fun pins s σ H Q I h => ?_⟩
  rw [eval_ListComp]
  refine lcN_core hc hN I hi ok hv hr hg ht hC hs h fun D C s' m H' I' q hn f => ⟨m, hn, fun h'' sb => ?_⟩
  obtain ⟨f0, f1, f2, f3, f4, f5⟩ := f
  exact ⟨.ref D, H', I'.turned (t' := s'.toks) (fun b o hb e => (sb.2 b hb).trans e) f0 f1 f3 f4 f5, rfl, q⟩
/-- given to a name -/
theorem ps_setLcN {i : Nat} {y : Str} {py : Pos} {elt tg iter : Expr} {ifs : List Expr} {rest : List Comprehension} {scope : Scope} {own : List (Str × Nat)} {ws : List Nat} {pos spos : Pos} {wi : TI} {g : TG} {tt : TT} {tC : TC} (hc : X.calm = true) (hN : X.N.Nodup) (hy : X.N[i]? = some y) (hyl : X.env.scope.names.lookup y = some .local)
    (hsw : swapsWith (.ListComp elt (⟨tg, iter, ifs, 0⟩ :: rest) scope pos) (some (.Name y py)) spos.line X.env = pure true) (hi : PI X tg iter wi) (ok : BlkOk X.N X.env.scope scope own) (hv : ∀ i ∈ ws, i ∈ own.map (·.2))
    (hr : (⟨tg, iter, ifs, 0⟩ :: rest : List Comprehension)[0 + 1]? = none ∨ ∃ tg1 it1 ifs1, (⟨tg, iter, ifs, 0⟩ :: rest : List Comprehension)[0 + 1]? = some ⟨tg1, it1, ifs1, 0⟩)
    (hg : ∀ (s : Shared) (H : Hp) (C : Addr) (cl : List (Str × Addr)) (fp : List Addr), PG (X.blk s H scope (compEnvC scope cl C X.env) fp) tg g) (ht : ∀ (s : Shared) (H : Hp) (C : Addr) (cl : List (Str × Addr)) (fp : List Addr), PTs (X.blk s H scope (compEnvC scope cl C X.env) fp) ifs tt)
    (hC : ∀ (s : Shared) (H : Hp) (C : Addr) (cl : List (Str × Addr)) (fp : List Addr), Inner (X.blk s H scope (compEnvC scope cl C X.env) fp) elt (⟨tg, iter, ifs, 0⟩ :: rest) scope pos 0 tC ws) (hs : ∀ x, foldedSetIterable iter X.env x = pure x := by intro _; rfl) :
    PS X (.Assign [.Name y py] (.ListComp elt (⟨tg, iter, ifs, 0⟩ :: rest) scope pos) spos) (tAsg (tLcN wi g tt tC (own.map (·.2))) (gName i)) := by
  refine ⟨fun pins s σ H D I h => ?_⟩
  rw [exec_Assign_Name_used _ _ _ _ hsw]
  refine wpAny_bind (wpAny_standAt (wpAny_bind ?_))
  show wpAny _ X.A (do let _ ← comprehension (.ListComp elt (⟨tg, iter, ifs, 0⟩ :: rest) scope pos) scope X.env (firstIterPos (⟨tg, iter, ifs, 0⟩ :: rest) pos) (newList []) false (eval iter X.env) (some (assign (.Name y py) X.env))) _ _ s
  have h : tLcN wi g tt tC (own.map (·.2)) σ H (fun x H1 => gName i x σ H1 D.nx) := h
  refine wpAny_bind (thn (lcN_core (Qf := fun _ s' => SP X pins D .next s') hc hN I hi ok hv hr hg ht hC hs h fun L C s' m H' I' q hn f => ?_) fun _ s' hq => wpAny_pure (wpAny_pure hq))
  show wpAny _ _ (assign (.Name y py) X.env (.ref L)) _ _ _
  refine wpAny_assign_Name (store_ok2 (v := V.ref L) I' hN hy (.inl hyl) rfl (fun s2 I2 ⟨a, sb, ha⟩ => ?_) (.inr hyl))
  obtain ⟨f0, f1, f2, f3, f4, f5⟩ := f
  have haC : C ≠ a := by
    rcases ha with z | z
    · rw [z]; exact f1
    · exact fun e => f4 y a z e.symm
  refine ⟨m, hn.sameBut sb haC, fun h3 sb3 => ?_⟩
  exact ⟨_, H', I2.turned (t' := s2.toks) (fun b o hb e => (sb3.2 b hb).trans e) f0 f1 f3 f4 f5, q⟩
end
end LcN
/-! a range that a name holds; max(.., default=0) -/
namespace LcN
open PySem PySem.Spec PyProof.Rows L2 PySem.W
section
variable {X : Cx} {tg : Expr}
def iRngV (tl : TE) : TI := fun σ H R => tl σ H fun v H1 => ∃ (a : Addr) (j : Int), v = .ref a ∧ H1 a = some (.rng 0 j) ∧ -(2 ^ 62) ≤ j ∧ j < 2 ^ 62 ∧ R (Itr 0 j.toNat) H1
/-- a walk over a range object that stands in the heap -/
theorem pi_rng {l : Expr} {tl : TE} (hl : PE X l tl) : PI X tg l (iRngV tl) := by
  refine ⟨fun pins s σ H R I h => ?_⟩
  refine thn (hl.run pins s σ H _ I h) fun v s1 ⟨x, H1, I1, r1, q1⟩ => ?_
  obtain ⟨a, j, e, ha, h1, h2, q⟩ := q1
  subst e
  cases r1
  obtain ⟨t, u, v, ho⟩ := I1.hok _ _ ha
  refine wpAny_pyIter_range (a := 0) (b := j) (c := 1) (show IsRange s1.heap a 0 j 1 t u v from ho) (small_one (by omega) (by omega) h1 h2) ?_
  refine ⟨s1.heap.objs.size, [s1.heap.objs.size], _, _, H1, rfl,
    I1.kept (t' := s1.toks) fun b o e => Heap.get?_push_of_some _ e, turn_range _ 0 j.toNat, ?_, fun b hb => ?_, q⟩
  · have e1 : (0 : Int) + ((0 : Nat) : Int) * 1 = 0 := by simp
    have e2 : ((j.toNat : Nat) : Int) - ((0 : Nat) : Int) = Builtin.Range.rangeSize 0 j 1 := by rw [rangeSize_one]; split <;> omega
    show IsRangeIter _ _ ((0 : Int) + ((0 : Nat) : Int) * 1) (((j.toNat : Nat) : Int) - ((0 : Nat) : Int)) 1
    rw [e1, e2]
    exact Heap.get?_push_size _ rfl
  · have e : b = s1.heap.objs.size := by simpa using hb
    subst e
    exact I1.fpOk (Nat.le_refl _) (I1.hok.fresh (Nat.le_refl _))
/-- range(n) as a value -/
theorem cr_range1 : CallR X (.type "range") (fun vs H Q => ∃ j, vs = [V.int j] ∧ ∀ p, H p = none → Q (.ref p) (upd H p (.rng 0 j))) := by
  intro pins s σ H vs us Q I r h
  obtain ⟨j, rfl, q⟩ := h
  cases r with
  | cons r rr =>
    cases rr
    obtain ⟨t, rfl⟩ := r
    refine call_range_1 ⟨.ref s.heap.objs.size, upd H s.heap.objs.size (.rng 0 j), I.laid (t' := s.toks + 2) (fun b o e => Heap.get?_push_of_some _ e) (Nat.le_refl _) ?_, rfl, q _ (I.hok.fresh (Nat.le_refl _))⟩
    exact ⟨_, t, _, Heap.get?_push_size _ rfl⟩
/-- what max(ns, default=d) gives -/
def maxDef (d : Int) : List Int → Int
  | [] => d
  | n :: r => r.foldl max n
def rMaxDef (K : PySem.W.Frag) : List V → List V → Hp → VK → Prop := fun vs zs H Q => ∃ (a : Addr) (ns : List Int) (d : Int), vs = [V.ref a] ∧ zs = [V.int d] ∧ SqL K H a (ns.map V.int) ∧ Q (.int (maxDef d ns)) H
theorem depth_ints : ∀ ns : List Int, PyData.depthAll (ns.map PyData.int) ≤ 1
  | [] => Nat.zero_le _
  | n :: r => by
    have e := depth_ints r
    show max (PyData.depth (.int n)) (PyData.depthAll (r.map PyData.int)) ≤ 1
    have e1 : PyData.depth (.int n) ≤ 1 := by first | exact Nat.le_refl _ | exact Nat.zero_le _ | (unfold PyData.depth; omega)
    omega
theorem alike_ints (ns : List Int) : AlikeAll (ns.map PyData.int) := by
  constructor
  · intro x hx y hy
    obtain ⟨i, _, rfl⟩ := List.mem_map.1 hx
    obtain ⟨j, _, rfl⟩ := List.mem_map.1 hy
    unfold alike
    rfl
  · intro x hx
    obtain ⟨i, _, rfl⟩ := List.mem_map.1 hx
    exact fun z => by cases z
theorem cr_maxDef (hc : X.calm = true) (hu : X.A.units + 65 < cLine) : CallRK X (.builtin "max") [Str.ofString "default"] (rMaxDef X.K) := by
  intro pins s σ H vs zs us ws Q I r rz h
  obtain ⟨a, ns, d, rfl, rfl, hs, q⟩ := h
  obtain rfl := Vals.ref1 r
  obtain ⟨w1, rfl, e1⟩ := vals1 rz
  obtain ⟨t1, rfl⟩ := e1
  obtain ⟨its, rv, hl, hz⟩ := I.list hs
  have hi := rv.ints
  have hd := depth_ints ns
  refine max_list_default (I.ok.hd hc) hl.isList (hi.reads _) (alike_ints ns) (by omega) (fun e h' tk k => ?_) (fun y ys i v h' tk bs e hv hr k => ?_)
  · cases ns with
    | nil => exact ⟨.int d, H, I.kept k, ⟨_, rfl⟩, q⟩
    | cons n r => cases e
  · cases ns with
    | nil => cases e
    | cons n r =>
      injection e with e1 e2
      subst e1
      subst e2
      rw [maxD_ints] at hr
      cases hr
      exact ⟨.int _, H, I.kept k, ⟨_, rfl⟩, q⟩
end
end LcN
/-! a field as a target; a clause over a range that a name holds, read -/
namespace LcN
open PySem PySem.Spec PyProof.Rows L2 PySem.W
section
variable {X : Cx} {o : Expr} {ta : TE} {f : Str} {pos : Pos}
def gFld (K : PySem.W.Frag) (ta : TE) (f : Str) : TG := fun y σ H Q => ta σ H fun x H2 => ∃ a C dx fs, x = .ref a ∧ H2 a = some (.ins C dx fs) ∧ Cls K C ∧ NoAttr K C f ∧ fs.length < 1000 ∧ Q σ (upd H2 a (.ins C dx (putF f y fs)))
theorem pg_fld (ha : PE X o ta) : PG X (.Attribute o f pos) (gFld X.K ta f) := by
  refine ⟨fun pins s σ H v u Q I r h => ?_⟩
  rw [assign_Attribute]
  refine wpAny_bind (wpAny_holding (thn (ha.run pins s σ H _ I h) fun ov s1 ⟨x, H1, I1, r1, a, C, dx, fs, ex, ea, c, n, l, q⟩ => ?_))
  subst ex
  obtain rfl : ov = Value.ref a := r1
  refine wpAny_bind (wpAny_standAt (wpAny_bind (wpAny_holding (setattr_ok I1 ea c n l r fun s2 I2 => ?_))))
  exact wpAny_release ⟨σ, _, I2, q⟩
end
theorem wipe_set {σ : L2.St} {k : Nat} {x : Option V} {vs : List Nat} (h : k ∈ vs) : wipe (σ.set k x) vs = wipe σ vs := by
  refine List.ext_getElem? fun i => ?_
  by_cases hi : i ∈ vs
  · by_cases hl : i < σ.length
    · rw [wipe_in (by rw [List.length_set]; exact hl) hi, wipe_in hl hi]
    · rw [List.getElem?_eq_none (by rw [wipe_length, List.length_set]; omega), List.getElem?_eq_none (by rw [wipe_length]; omega)]
  · rw [wipe_out hi, wipe_out hi, List.getElem?_set_ne fun z => hi (by rw [← z]; exact h)]
/-- what a clause's turns over 0, .., n - 1 ask -/
theorem walk_rng {n k : Nat} {vs : List Nat} {σ : L2.St} {H : Hp} {Nx : Hp → Prop} {B : L2.St → Hp → (Hp → Prop) → Prop} (hk : k ∈ vs) (P : Nat → Hp → Prop) (h0 : P 0 H) (hn : ∀ H', P n H' → Nx H')
    (hs : ∀ j H', j < n → P j H' → B ((wipe σ vs).set k (some (.int j))) H' (P (j + 1))) :
    ∃ W : Nat → Nat → Hp → Prop, (∃ m, W 0 m H) ∧ ∀ j m H, W j m H →
      ((Itr 0 n).stop j H ∧ Nx H) ∨ ((Itr 0 n).go j H ∧ ∃ Nx1 : Hp → Prop, (∀ H', Nx1 H' → ∃ m', m' < m ∧ W (j + 1) m' H') ∧ ∀ x H', (Itr 0 n).yld j H x H' → gName k x (wipe σ vs) H' fun σ3 H5 => wipe σ3 vs = wipe σ vs ∧ tYes σ3 H5 fun b H6 => if b = true then B σ3 H6 Nx1 else Nx1 H6) := by
  refine ⟨fun i m H => m = n - i ∧ i ≤ n ∧ P i H, ⟨n, by simp, Nat.zero_le _, h0⟩, ?_⟩
  rintro i m H ⟨rfl, hi, p⟩
  by_cases hlt : i < n
  · refine .inr ⟨hlt, P (i + 1), fun H' p' => ⟨n - (i + 1), by omega, rfl, hlt, p'⟩, fun x H' y => ?_⟩
    obtain ⟨e, y⟩ := y
    subst e y
    refine ⟨by rw [wipe_set hk, wipe_twice], ?_⟩
    have z := hs i H' hlt p
    show (if true = true then B ((wipe σ vs).set k (some (.int ((0 : Int) + (i : Int))))) H' (P (i + 1)) else P (i + 1) H')
    rw [if_pos rfl, show (0 : Int) + (i : Int) = (i : Int) from Int.zero_add _]
    exact z
  · have e : i = n := by omega
    subst e
    exact .inl ⟨Nat.le_refl _, hn H p⟩
/-- a comprehension over such a range: what it asks -/
theorem lcN_rng {n k : Nat} {vs : List Nat} {σ : L2.St} {H : Hp} {Q : VK} {tl : TE} {tC : TC} (hk : k ∈ vs)
    (h : tl σ H fun v H1 => ∃ a : Addr, v = .ref a ∧ H1 a = some (.rng 0 n) ∧ n < 1000000 ∧ ∀ D, H1 D = none → ∃ P : Nat → Hp → Prop, P 0 (upd H1 D (.lst [])) ∧ (∀ H', P n H' → Q (.ref D) H') ∧
      ∀ j H', j < n → P j H' → tC ((wipe σ vs).set k (some (.int j))) H' D (P (j + 1)))
    (mono : ∀ (σ : L2.St) (H : Hp) (Q Q' : VK), (∀ v H, Q v H → Q' v H) → tl σ H Q → tl σ H Q') : tLcN (iRngV tl) (gName k) tYes tC vs σ H Q := by
  refine mono _ _ _ _ (fun v H1 ⟨a, e, ha, hn, q⟩ => ⟨a, n, e, ha, by omega, by omega, ?_⟩) h
  intro D hD
  obtain ⟨P, h0, hn', hs⟩ := q D hD
  exact walk_rng (B := fun σ3 H6 N => tC σ3 H6 D N) hk P h0 hn' hs
theorem clause_rng {n k : Nat} {vs : List Nat} {σ : L2.St} {H : Hp} {D : Addr} {Nx : Hp → Prop} {tl : TE} {tC : TC} (hk : k ∈ vs)
    (h : tl σ H fun v H1 => ∃ a : Addr, v = .ref a ∧ H1 a = some (.rng 0 n) ∧ n < 1000000 ∧ ∃ P : Nat → Hp → Prop, P 0 H1 ∧ (∀ H', P n H' → Nx H') ∧
      ∀ j H', j < n → P j H' → tC ((wipe σ vs).set k (some (.int j))) H' D (P (j + 1)))
    (mono : ∀ (σ : L2.St) (H : Hp) (Q Q' : VK), (∀ v H, Q v H → Q' v H) → tl σ H Q → tl σ H Q') : tClause (iRngV tl) (gName k) tYes tC vs σ H D Nx := by
  refine mono _ _ _ _ (fun v H1 ⟨a, e, ha, hn, q⟩ => ⟨a, n, e, ha, by omega, by omega, ?_⟩) h
  obtain ⟨P, h0, hn', hs⟩ := q
  exact walk_rng (B := fun σ3 H6 N => tC σ3 H6 D N) hk P h0 hn' hs
end LcN
namespace My
open PySem PySem.Spec PyProof.Rows L2
/-! ### a def by its positional values, with *args, that may raise -/
structure HasRX (P : Program) (w : World) (K : PySem.W.Frag) (mg : Str → Option Value) (base : Heap) (k : Nat) (x : Str) (sp : Sp) : Prop where
  ex : ∃ f : Addr, FnR P w K mg base (L2.CX P w) k f sp ∧ mg x = some (.ref f) ∧ PySem.W.keepIn K (.ref f) = true
section
variable {X : Cx} {k : Nat} {x : Str} {sp : Sp} {p pos : Pos} {e : Expr} {es : List Expr} {t : TA} {te : TE} {E : XK}
theorem pe_ownRE (h : HasRX X.prog X.w X.K X.mg X.base k x sp) (tk : Takes X (fun cls d _ H => E cls d H)) (hr : Room k X.A) (hg : Gl X x) (ha : PA X (e :: es) t) (hdb : (x == ("__debug__" : Str)) = false := by decide)
    (he : starEach (e :: es) X.env = (false, eval e X.env) :: starEach es X.env := by rfl) (hpl : (backTo pos (starEach es X.env)).any (·.1) = false := by rfl) : PE X (.Call (.Name x p) (e :: es) [] pos) (fun σ H Q => t σ H fun vs H1 => sp vs H1 Q E) := by
  obtain ⟨f, F, m, kp⟩ := h.ex
  constructor
  intro pins s σ H Q I h
  apply wpAny_Call_Name_kw (ld_glob I hg m ?_ hdb)
  apply PySem.W.callWith_K (h₀ := X.base) I.ok.mod.kin kp _ he hpl
  apply thn (ha.run pos pins s σ H _ I h)
  rintro us s1 ⟨vs, H1, I1, r, q⟩
  exact ⟨I1.kIn, wpAny_call (run_fnR F hr (passes_call tk fun _ _ _ _ h => h) I1 r q)⟩
theorem pe_ownRE0 (h : HasRX X.prog X.w X.K X.mg X.base k x sp) (tk : Takes X (fun cls d _ H => E cls d H)) (hr : Room k X.A) (hg : Gl X x) (hdb : (x == ("__debug__" : Str)) = false := by decide) : PE X (.Call (.Name x p) [] [] pos) (fun σ H Q => sp [] H Q E) := by
  obtain ⟨f, F, m, kp⟩ := h.ex
  constructor
  intro pins s σ H Q I h
  apply wpAny_Call_Name_kw (ld_glob I hg m ?_ hdb)
  exact PySem.W.callWith_K0 I.kIn kp (wpAny_call (run_fnR F hr (passes_call tk fun _ _ _ _ h => h) I .nil h))
/-- x(e, .., *y) that raises nothing -/
theorem pe_ownS2 (h : HasR X.prog X.w X.K X.mg X.base k x sp) (hr : Room k X.A) (hg : Gl X x) (ha : PA X (e :: es) t) (hdb : (x == ("__debug__" : Str)) = false := by decide)
    (he : starEach (e :: es) X.env = (false, eval e X.env) :: starEach es X.env := by rfl) (hst : (backTo pos (starEach es X.env)).any (·.1) = true := by rfl) : PE X (.Call (.Name x p) (e :: es) [] pos) (fun σ H Q => t σ H fun vs H1 => sp vs H1 Q E0) := by
  obtain ⟨f, F, m, kp⟩ := h.ex
  exact StX.pe_callS2 F hr kp hg m pass0 ha hdb he hst
end
/-! ### a def that may raise, also called with its arguments by name alone -/
def swapL {α : Type} : List α → List α → List α
  | [], [a, b] => [b, a]
  | _, _ => []
theorem swap_rel {vs zs : List V} {us ws : List Value} (r : Vals vs us) (rz : Vals zs ws) : Vals (swapL vs zs) (swapL us ws) := by
  cases r with
  | cons _ _ => exact .nil
  | nil =>
    cases rz with
    | nil => exact .nil
    | cons r1 rz =>
      cases rz with
      | nil => exact .nil
      | cons r2 rz =>
        cases rz with
        | nil => exact .cons r2 (.cons r1 .nil)
        | cons _ _ => exact .nil
structure HasXK (P : Program) (w : World) (K : PySem.W.Frag) (mg : Str → Option Value) (base : Heap) (k : Nat) (x : Str) (ps ks : List Str) (g : List Value → List Value → List Value) (gV : List V → List V → List V) (sp : Sp) : Prop where
  ex : ∃ (f : Addr) (fd : FuncData), FnOk P w K mg base (L2.CX P w) k f fd ps sp ∧ mg x = some (.ref f) ∧ PySem.W.keepIn K (.ref f) = true ∧ Binds K fd ps [] ∧ KBinds K fd ps ks g gV
theorem HasXK.has {P : Program} {w : World} {K : PySem.W.Frag} {mg : Str → Option Value} {base : Heap} {k : Nat} {x : Str} {ps ks : List Str} {g : List Value → List Value → List Value} {gV : List V → List V → List V} {sp : Sp} (h : HasXK P w K mg base k x ps ks g gV sp) : HasX P w K mg base k x ps sp := by
  obtain ⟨f, fd, F, m, kp, b, _⟩ := h.ex
  exact ⟨f, fd, F, m, kp, b⟩
section
variable {X : Cx} {k : Nat} {x : Str} {ps ks : List Str} {g : List Value → List Value → List Value} {gV : List V → List V → List V} {sp : Sp} {p pos : Pos} {kws : List Keyword} {t : TA} {E : XK}
theorem pe_ownKE (h : HasXK X.prog X.w X.K X.mg X.base k x ps ks g gV sp) (tk : Takes X (fun cls d _ H => E cls d H)) (hr : Room k X.A) (hg : Gl X x) (hkw : PK X kws t) (hdb : (x == ("__debug__" : Str)) = false := by decide) (hall : (backToKw pos (keywordEach kws X.env)).all (·.1.isSome) = true := by rfl)
    (hks : (backToKw pos (keywordEach kws X.env)).filterMap (·.1) = ks := by rfl) (hpl : ((backTo pos (starEach [] X.env)).any (·.1) || (backToKw pos (keywordEach kws X.env)).any (·.1.isNone)) = false := by rfl) :
    PE X (.Call (.Name x p) [] kws pos) (fun σ H Q => t σ H fun zs H1 => sp (gV [] zs) H1 Q E) := by
  obtain ⟨f, fd, F, m, kp, _, b⟩ := h.ex
  constructor
  intro pins s σ H Q I h
  apply wpAny_Call_Name_kw (ld_glob I hg m ?_ hdb)
  apply PySem.W.callWith_KW0 (h₀ := X.base) I.ok.mod.kin kp hall _ hpl
  apply thn (hkw.run pos pins s σ H _ I h)
  rintro us s1 ⟨zs, H1, I1, rz, q⟩
  refine ⟨I1.kIn, ?_⟩
  rw [hks]
  exact run_fnk F hr b (passes_call tk fun _ _ _ _ h => h) I1 .nil rz q
end
/-- its proof from the body -/
theorem star_has {P : Program} {w : World} {K : PySem.W.Frag} {mg : Str → Option Value} {base : Heap} {x pv : Str} {st : Stmt} {N : List Str} {k : Nat} {sp : Sp} (F : ∃ (f : Addr) (fd : FuncData), Fun K x x st f fd ∧ mg x = some (.ref f)) (S : FnScope N [pv] (defScope st))
    (hb : ∀ (rest : List Value) (kV doc pm cdv ct : Value) (an : Option Addr), bindArgs (PySem.W.fnOf x x (defArgs st) (defBody st) (defScope st) .none kV doc pm an cdv ct) ⟨rest, []⟩ = (newTuple rest >>= fun t => pure [(pv, t)]))
    (hbody : ∀ (f : Addr) (cdv : Value) (A : Around) (outer : List Env) (s : Shared) (H : Hp) (vs : List V) (Q : VK) (E : XK), Room k (A.deeper (envOfC x (defScope st) s.heap.objs.size f cdv)) → sp vs H Q E →
      ∃ t, PSs (cxOf (L2.CX P w) P w K mg base N x (defScope st) f cdv A outer s H E) (defBody st) t ∧ t { nx := fun _ H' => Q .non H', rt := Q } (start N vs) H) :
    HasRX P w K mg base (k + 1) x (fun vs H Q E => vs.length ≤ sizeLine ∧ ∀ p, H p = none → sp [V.ref p] (upd H p (.tup vs)) Q E) := by
  obtain ⟨f, fd, F, m⟩ := F
  have kp := F.kp
  obtain ⟨oc, od, kV, doc, pm, an, cdv, ct, osl, rfl, lk, hcd⟩ := F.ex
  have R := StX.fn_star (P := P) (w := w) (mg := mg) (base := base) (CX := L2.CX P w) (k := k) (sp := sp) (ps := []) (pv := pv) (N := N) lk hcd S StX.cxUp (fun us rest hl => match us, hl with | [], _ => (by rw [List.nil_append, hb]; rfl)) (fun A outer s H vs Q E hr h => hbody f cdv A outer s H vs Q E hr h)
  exact ⟨f, R.imp fun vs H Q E ⟨hz, h⟩ => ⟨[], vs, rfl, rfl, hz, h⟩, m, kp⟩
end My
/-! own methods -/
namespace My
open PySem PySem.Spec PyProof.Rows L2
structure HasM (P : Program) (w : World) (K : PySem.W.Frag) (mg : Str → Option Value) (base : Heap) (k : Nat) (C : Addr) (m : Str) (ps : List Str) (sp : Sp) : Prop where
  ex : ∃ (f : Addr) (fd : FuncData), FnOk P w K mg base CX0 k f fd ps sp ∧ Meth K C m f ∧ Binds K fd ps []
structure FnM (K : PySem.W.Frag) (C : Addr) (m qual : Str) (st : Stmt) (ps : List Str) : Prop where
  ex : ∃ (f : Addr) (fd : FuncData), Fun K m qual st f fd ∧ Meth K C m f ∧ Binds K fd ps []
section
variable {X : Cx} {k : Nat} {m : Str} {ps : List Str} {sp : Sp} {pos apos : Pos} {o e : Expr} {es : List Expr} {ta : TE} {t : TA} {C : Addr}
theorem pe_ownM {pl : Sem Bool} (c : Cls X.K C) (h : HasM X.prog X.w X.K X.mg X.base k C m ps sp) (hr : Room k X.A) (he : PE X o ta) (ha : PA X (e :: es) t)
    (hst : starEach (e :: es) X.env = (false, eval e X.env) :: starEach es X.env := by rfl) (hpl : (backTo pos (starEach es X.env)).any (·.1) = false := by rfl)
    (ht : eval (.Call (.Attribute o m apos) (e :: es) [] pos) X.env = (do
      let ov ← eval o X.env
      standAt apos.atName
      let (f, first) ← holding [ov] (getMethod ov m pl)
      callWith pos f first (backTo pos (starEach (e :: es) X.env)) (backToKw pos (keywordEach [] X.env))) := by rfl) :
    PE X (.Call (.Attribute o m apos) (e :: es) [] pos) (tMeth C m sp [] E0 ta t) := by
  obtain ⟨f, fd, F, M, b⟩ := h.ex
  exact pe_meth he c M F hr b .nil pass0 ha hst hpl ht
theorem pe_ownM0 {pl : Sem Bool} (c : Cls X.K C) (h : HasM X.prog X.w X.K X.mg X.base k C m ps sp) (hr : Room k X.A) (he : PE X o ta)
    (ht : eval (.Call (.Attribute o m apos) [] [] pos) X.env = (do
      let ov ← eval o X.env
      standAt apos.atName
      let (f, first) ← holding [ov] (getMethod ov m pl)
      callWith pos f first (backTo pos (starEach [] X.env)) (backToKw pos (keywordEach [] X.env))) := by rfl) :
    PE X (.Call (.Attribute o m apos) [] [] pos) (tMeth C m sp [] E0 ta tNil) := by
  obtain ⟨f, fd, F, M, b⟩ := h.ex
  exact pe_meth0 he c M F hr b .nil pass0 ht
end
end My
/-! rings: what is seen of them -/
namespace My
open PySem PySem.Spec PyProof.Rows L2
theorem un65 {k : Nat} {A : Around} (r : Room k A) : A.units + 65 < cLine := by
  have := r.un
  omega
theorem max_ones : ∀ n : Nat, LcN.maxDef 0 (List.replicate (n + 1) (1 : Int)) = 1 := fun n => by
  show (List.replicate n (1 : Int)).foldl max 1 = 1
  induction n with
  | zero => rfl
  | succ n ih =>
    rw [List.replicate_succ, List.foldl_cons]
    exact ih
theorem at_map {α β : Type} {f : α → β} {xs : List α} {i : Nat} {y : β} (h : (xs.map f)[i]? = some y) : ∃ x, xs[i]? = some x ∧ y = f x := by
  rw [List.getElem?_map] at h
  cases e : xs[i]? with
  | none =>
    rw [e] at h
    cases h
  | some x =>
    rw [e] at h
    exact ⟨x, rfl, (Option.some.inj h).symm⟩
def tOr (t1 t2 : TE) : TE := fun σ H Q => t1 σ H Q ∨ t2 σ H Q
theorem pe_or {X : Cx} {e : Expr} {t1 t2 : TE} (h1 : PE X e t1) (h2 : PE X e t2) : PE X e (tOr t1 t2) :=
  ⟨fun pins s σ H Q I h => h.elim (h1.run pins s σ H Q I) (h2.run pins s σ H Q I)⟩
/-- the fields that are seen: ones, swaps, squares, depth; and that no method is hidden by a field -/
structure Flds (fs : List (Str × V)) (o s q dep : Nat) : Prop where
  ones : fs.lookup ("_ones" : Str) = some (.int (o : Nat))
  swaps : fs.lookup ("_swaps" : Str) = some (.int (s : Nat))
  squares : fs.lookup ("_squares" : Str) = some (.int (q : Nat))
  depth : fs.lookup ("_depth" : Str) = some (.int (dep : Nat))
  zero : ∃ z, fs.lookup ("_zero" : Str) = some z
  m1 : fs.lookup ("_share" : Str) = none
  m2 : fs.lookup ("has_inverse" : Str) = none
  m3 : fs.lookup ("zero" : Str) = none
  m4 : fs.lookup ("_has_rests" : Str) = none
inductive BD
  | rests (m : Nat)
  | whole (d : Nat)
  deriving DecidableEq
namespace BD
def ok : BD → Prop
  | rests m => 2 ≤ m ∧ m ≤ 100
  | whole d => 1 ≤ d ∧ d ≤ 1000000
def o : BD → Nat
  | rests m => m
  | whole _ => 0
def q : BD → Nat
  | rests m => m / Nat.gcd m 2
  | whole _ => 0
def key : BD → Str
  | rests _ => "_modulus"
  | whole _ => "_primes"
def val : BD → Nat
  | rests m => m
  | whole d => d
def cls (CR CW : Addr) : BD → Addr
  | rests _ => CR
  | whole _ => CW
end BD
def BaseAt (CR CW : Addr) (H : Hp) (a : Addr) (b : BD) : Prop := b.ok ∧ ∃ dx fs, H a = some (.ins (b.cls CR CW) dx fs) ∧ Flds fs b.o 1 b.q 1 ∧ fs.lookup b.key = some (.int (b.val : Nat))
inductive RD
  | base (b : BD)
  | duals (b : BD)
  | twists (h : Nat) (b : BD)
  deriving DecidableEq
namespace RD
def bd : RD → BD
  | base b => b
  | duals b => b
  | twists _ b => b
def o (r : RD) : Nat := r.bd.o
def s : RD → Nat
  | twists h _ => h
  | _ => 1
def q : RD → Nat
  | base b => b.q
  | duals b => b.o
  | twists _ b => b.o
end RD
def RingAt (CR CW CD CT : Addr) (H : Hp) (a : Addr) : RD → Prop
  | .base b => BaseAt CR CW H a b
  | .duals b => ∃ dx fs B x, H a = some (.ins CD dx fs) ∧ Flds fs b.o 1 b.o 2 ∧ fs.lookup ("_bases" : Str) = some (.ref B) ∧ H B = some (.tup [.ref x, .ref x]) ∧ BaseAt CR CW H x b
  | .twists h b => ∃ dx fs B x, H a = some (.ins CT dx fs) ∧ Flds fs b.o h b.o 2 ∧ fs.lookup ("_bases" : Str) = some (.ref B) ∧ H B = some (.tup [.ref x]) ∧ BaseAt CR CW H x b
theorem BaseAt.same {CR CW : Addr} {H H' : Hp} {a : Addr} {b : BD} (h : BaseAt CR CW H a b) (s : Same H H') : BaseAt CR CW H' a b := by
  obtain ⟨h0, dx, fs, h1, h2, h3⟩ := h
  exact ⟨h0, dx, fs, s _ _ h1, h2, h3⟩
theorem BaseAt.kp {CR CW : Addr} {H H' : Hp} {a p : Addr} {b : BD} (h : BaseAt CR CW H a b) (k : Kp p H H') (n : a ≠ p) : BaseAt CR CW H' a b := by
  obtain ⟨h0, dx, fs, h1, h2, h3⟩ := h
  exact ⟨h0, dx, fs, k _ _ n h1, h2, h3⟩
theorem RingAt.same {CR CW CD CT : Addr} {H H' : Hp} {a : Addr} {r : RD} (h : RingAt CR CW CD CT H a r) (s : Same H H') : RingAt CR CW CD CT H' a r := by
  cases r with
  | base b => exact BaseAt.same h s
  | duals b =>
    obtain ⟨dx, fs, B, x, h1, h2, h3, h4, h5⟩ := h
    exact ⟨dx, fs, B, x, s _ _ h1, h2, h3, s _ _ h4, h5.same s⟩
  | twists k b =>
    obtain ⟨dx, fs, B, x, h1, h2, h3, h4, h5⟩ := h
    exact ⟨dx, fs, B, x, s _ _ h1, h2, h3, s _ _ h4, h5.same s⟩
/-- a field read by a property -/
def spFld (C : Addr) (f : Str) : Sp := fun vs H Q _ => ∃ (a dx : Addr) (fs : List (Str × V)) (v : V), vs = [.ref a] ∧ H a = some (.ins C dx fs) ∧ fs.lookup f = some v ∧ Q v H
section
variable {P : Program} {w : World} {K : PySem.W.Frag} {mg : Str → Option Value} {base : Heap} {C : Addr}
theorem ok_rones {f p : Addr} {fd : FuncData} (c : Cls K C) (n : NoAttr K C "_ones") (F : Fun K "ones" "Ring.ones" s_Ring_ones f fd) (pr : PropOf K C "ones" p f) (b : Binds K fd ["self"] []) : HasPr P w K mg base C "ones" (spFld C "_ones") := by
  refine ⟨p, f, fd, pr, F.ok sc_Ring_ones (fun vs H Q E h => ?_) (fun cdv A outer s H vs Q E hr h => ?_), b⟩
  · obtain ⟨a, dx, fs, v, rfl, _⟩ := h
    rfl
  obtain ⟨a, dx, fs, v, rfl, h1, h2, q⟩ := h
  exact ⟨_, (pss_one (ps_ret (L2.pe_fld (pv 0) rfl))), _, rfl, a, C, dx, fs, _, rfl, h1, c, n, h2, q⟩
theorem ok_rswaps {f p : Addr} {fd : FuncData} (c : Cls K C) (n : NoAttr K C "_swaps") (F : Fun K "swaps" "Ring.swaps" s_Ring_swaps f fd) (pr : PropOf K C "swaps" p f) (b : Binds K fd ["self"] []) : HasPr P w K mg base C "swaps" (spFld C "_swaps") := by
  refine ⟨p, f, fd, pr, F.ok sc_Ring_swaps (fun vs H Q E h => ?_) (fun cdv A outer s H vs Q E hr h => ?_), b⟩
  · obtain ⟨a, dx, fs, v, rfl, _⟩ := h
    rfl
  obtain ⟨a, dx, fs, v, rfl, h1, h2, q⟩ := h
  exact ⟨_, (pss_one (ps_ret (L2.pe_fld (pv 0) rfl))), _, rfl, a, C, dx, fs, _, rfl, h1, c, n, h2, q⟩
theorem ok_rsquares {f p : Addr} {fd : FuncData} (c : Cls K C) (n : NoAttr K C "_squares") (F : Fun K "squares" "Ring.squares" s_Ring_squares f fd) (pr : PropOf K C "squares" p f) (b : Binds K fd ["self"] []) : HasPr P w K mg base C "squares" (spFld C "_squares") := by
  refine ⟨p, f, fd, pr, F.ok sc_Ring_squares (fun vs H Q E h => ?_) (fun cdv A outer s H vs Q E hr h => ?_), b⟩
  · obtain ⟨a, dx, fs, v, rfl, _⟩ := h
    rfl
  obtain ⟨a, dx, fs, v, rfl, h1, h2, q⟩ := h
  exact ⟨_, (pss_one (ps_ret (L2.pe_fld (pv 0) rfl))), _, rfl, a, C, dx, fs, _, rfl, h1, c, n, h2, q⟩
theorem ok_rdepth {f p : Addr} {fd : FuncData} (c : Cls K C) (n : NoAttr K C "_depth") (F : Fun K "depth" "Ring.depth" s_Ring_depth f fd) (pr : PropOf K C "depth" p f) (b : Binds K fd ["self"] []) : HasPr P w K mg base C "depth" (spFld C "_depth") := by
  refine ⟨p, f, fd, pr, F.ok sc_Ring_depth (fun vs H Q E h => ?_) (fun cdv A outer s H vs Q E hr h => ?_), b⟩
  · obtain ⟨a, dx, fs, v, rfl, _⟩ := h
    rfl
  obtain ⟨a, dx, fs, v, rfl, h1, h2, q⟩ := h
  exact ⟨_, (pss_one (ps_ret (L2.pe_fld (pv 0) rfl))), _, rfl, a, C, dx, fs, _, rfl, h1, c, n, h2, q⟩
/-- Ring.zero -/
theorem ok_rzero (F : FnM K C "zero" "Ring.zero" s_Ring_zero ["self"]) (c : Cls K C) (n : NoAttr K C "_zero") : HasM P w K mg base 1 C "zero" ["self"] (spFld C "_zero") := by
  obtain ⟨f, fd, F, M, b⟩ := F.ex
  refine ⟨f, fd, F.ok sc_Ring_zero (fun vs H Q E h => ?_) (fun cdv A outer s H vs Q E hr h => ?_), M, b⟩
  · obtain ⟨a, dx, fs, v, rfl, _⟩ := h
    rfl
  obtain ⟨a, dx, fs, v, rfl, h1, h2, q⟩ := h
  exact ⟨_, (pss_one (ps_ret (L2.pe_fld (pv 0) rfl))), _, rfl, a, C, dx, fs, _, rfl, h1, c, n, h2, q⟩
/-- depth_over(bases) -/
def spDepth (CR CW : Addr) : Sp := fun vs H Q _ => ∃ (t : Addr) (xs : List Addr), vs = [.ref t] ∧ H t = some (.tup (xs.map V.ref)) ∧ xs.length ≤ 10 ∧ (∀ x ∈ xs, ∃ b, BaseAt CR CW H x b) ∧ ∀ H', Same H H' → Q (.int (if xs = [] then 1 else 2)) H'
theorem ok_depth_over {CR CW : Addr} (F : Fn K mg "depth_over" s_depth_over ["bases"]) (B : Blt mg) (clR : Cls K CR) (clW : Cls K CW) (PR_R_depth : HasPr P w K mg base CR "depth" (spFld CR "_depth")) (PR_W_depth : HasPr P w K mg base CW "depth" (spFld CW "_depth")) : Has P w K mg base 3 "depth_over" ["bases"] (spDepth CR CW) := by
  refine F.has sc_depth_over (fun vs H Q E h => ?_) (fun f cdv A outer s H vs Q E hr h => ?_)
  · obtain ⟨t, xs, rfl, _⟩ := h
    rfl
  obtain ⟨t, xs, rfl, ht, lx, hb, q⟩ := h
  refine ⟨_, (pss_one (ps_ret (pe_op op_add pe_int (pe_callBK (LcN.cr_maxDef rfl (un65 hr)) (by rfl) B.max bb_max (pa_cons (pe_lc (own := [("base", 1)]) (g := gName 1) (tt := tYes) (by rfl) sc_depth_over.nd (pi_tup (pv 0)) (blkOk_by (own := [("base", 1)]) (N := N_depth_over) (sc := defScope s_depth_over) (by decide +kernel)) (fun _ _ _ _ _ => (pg_name (i := 1) sc_depth_over.nd rfl (Or.inl rfl))) (fun _ _ _ _ _ => pts_nil) (fun _ _ _ _ _ => (pe_or (pe_pr clR PR_R_depth (hr.mono (by decide)) (pv 1) rfl) (pe_pr clW PR_W_depth (hr.mono (by decide)) (pv 1) rfl)))) pa_nil) (pk_cons pe_int pk_nil))))), ?_⟩
  refine ⟨_, rfl, t, rfl, ⟨_, SqT.of ht⟩, fun D nD => ?_⟩
  refine lc_it (walk_tup (K := K) (xs := xs.map V.ref)) (fun i H' => Same H H' ∧ H' D = some (.lst ((List.replicate i (1 : Int)).map V.int))) ⟨same_upd nD, upd_same⟩ (fun i H' _ e => SqT.of (e.1 _ _ ht)) ?_ ?_
  · rintro i v Ha Hb hi ⟨sa, eD⟩ ⟨rfl, hv⟩
    obtain ⟨x, hx, rfl⟩ := at_map hv
    obtain ⟨b, hbx⟩ := hb x (List.mem_of_getElem? hx)
    have hbx := hbx.same sa
    obtain ⟨h0, dx, fs, h1, h2, h3⟩ := hbx
    have fin : ∃ acc, Hb D = some (.lst acc) ∧ acc.length < sizeLine ∧ Same H (upd Hb D (.lst (acc ++ [.int (1 : Nat)]))) ∧ (upd Hb D (.lst (acc ++ [.int (1 : Nat)]))) D = some (.lst ((List.replicate (i + 1) (1 : Int)).map V.int)) := by
      refine ⟨_, eD, small1000 ?_, fun c o hc => ?_, ?_⟩
      · rw [List.length_map] at hi ⊢
        rw [List.length_replicate]
        omega
      · rw [upd_ne (ne_of_none hc nD)]
        exact sa _ _ hc
      · rw [upd_same, List.replicate_succ', List.map_append]
        rfl
    refine ⟨rfl, tYes_ok ?_⟩
    cases b with
    | rests m => exact .inl ⟨_, rfl, x, dx, fs, rfl, h1, x, dx, fs, _, rfl, h1, h2.depth, fin⟩
    | whole d => exact .inr ⟨_, rfl, x, dx, fs, rfl, h1, x, dx, fs, _, rfl, h1, h2.depth, fin⟩
  · rintro H2 ⟨s2, eD⟩
    rw [List.length_map] at eD
    refine ⟨D, _, 0, rfl, rfl, SqL.of eD, _, _, rfl, rfl, ?_⟩
    have e : (1 : Int) + LcN.maxDef 0 (List.replicate xs.length (1 : Int)) = if xs = [] then 1 else 2 := by
      cases xs with
      | nil => rfl
      | cons y ys =>
        rw [if_neg (by simp)]
        rw [show LcN.maxDef 0 (List.replicate (y :: ys).length (1 : Int)) = 1 from max_ones ys.length]
        rfl
    show Q (.int (1 + LcN.maxDef 0 (List.replicate xs.length (1 : Int)))) H2
    rw [e]
    exact q _ s2
end
end My
/-! Ring.__init__ -/
namespace My
open PySem PySem.Spec PyProof.Rows L2
abbrev ringF : List Str := ["_parts", "_ones", "_swaps", "_squares", "_bases", "_depth", "_zero", "_one"]
structure ClsF (K : PySem.W.Frag) (C : Addr) : Prop where
  cl : Cls K C
  n_parts : NoAttr K C "_parts"
  n_ones : NoAttr K C "_ones"
  n_swaps : NoAttr K C "_swaps"
  n_squares : NoAttr K C "_squares"
  n_bases : NoAttr K C "_bases"
  n_depth : NoAttr K C "_depth"
  n_zero : NoAttr K C "_zero"
  n_one : NoAttr K C "_one"
/-- what the own _share of the class asks of an object, kept while the fields are set -/
structure ShP (C : Addr) (S : Hp → Addr → Addr → List (Str × V) → Prop) : Prop where
  put : ∀ {H : Hp} {p dx : Addr} {fs : List (Str × V)} {g : Str} {y : V}, H p = some (.ins C dx fs) → S H p dx fs → g ∈ ringF → S (upd H p (.ins C dx (putF g y fs))) p dx (putF g y fs)
  same : ∀ {H H' : Hp} {p dx : Addr} {fs : List (Str × V)}, S H p dx fs → Same H H' → S H' p dx fs
def spSh (C : Addr) (S : Hp → Addr → Addr → List (Str × V) → Prop) : Sp := fun vs H Q _ => ∃ (p dx : Addr) (fs : List (Str × V)) (a : Nat), vs = [.ref p, .int (a : Nat), .int 1] ∧ a ≤ 1 ∧ H p = some (.ins C dx fs) ∧ S H p dx fs ∧ ∀ v H', Same H H' → Q v H'
theorem lkn {f g : Str} {v : V} {fs : List (Str × V)} (h : ¬ g = f) : (putF f v fs).lookup g = fs.lookup g := by
  rw [lookup_putF, if_neg h]
theorem lks {f : Str} {v : V} {fs : List (Str × V)} : (putF f v fs).lookup f = some v := by
  rw [lookup_putF, if_pos rfl]
theorem lko {g : Str} {f : Str} {v : V} {fs : List (Str × V)} (h : g ∉ ringF) (hf : f ∈ ringF) : (putF f v fs).lookup g = fs.lookup g := lkn fun e => h (by rw [e]; exact hf)
def spRingInit (CR CW C : Addr) (S : Hp → Addr → Addr → List (Str × V) → Prop) : Sp := fun vs H Q _ => ∃ (p N Bq dx : Addr) (parts : V) (a b c : Nat) (xs : List Addr) (fs : List (Str × V)), vs = [.ref p, parts, .ref N, .ref Bq] ∧ H p = some (.ins C dx fs) ∧ S H p dx fs ∧
  H N = some (.tup [.int (a : Nat), .int (b : Nat), .int (c : Nat)]) ∧ H Bq = some (.tup (xs.map V.ref)) ∧ xs.length ≤ 10 ∧ (∀ x ∈ xs, x ≠ p ∧ ∃ b, BaseAt CR CW H x b) ∧ fs.lookup ("_share" : Str) = none ∧ fs.length ≤ 20 ∧
  ∀ (H' : Hp) (fs' : List (Str × V)), Kp p H H' → H' p = some (.ins C dx fs') → (∀ g, g ∉ ringF → fs'.lookup g = fs.lookup g) → fs'.lookup ("_ones" : Str) = some (.int (a : Nat)) → fs'.lookup ("_swaps" : Str) = some (.int (b : Nat)) → fs'.lookup ("_squares" : Str) = some (.int (c : Nat)) →
    fs'.lookup ("_depth" : Str) = some (.int (if xs = [] then 1 else 2)) → fs'.lookup ("_bases" : Str) = some (.ref Bq) → (∃ z, fs'.lookup ("_zero" : Str) = some z) → fs'.length ≤ 30 → Q .non H'
section
variable {P : Program} {w : World} {K : PySem.W.Frag} {mg : Str → Option Value} {base : Heap} {C CR CW : Addr} {S : Hp → Addr → Addr → List (Str × V) → Prop}
theorem ok_ring_init {f1 : Addr} {fd : FuncData} (F : Fun K "__init__" "Ring.__init__" s_Ring_init f1 fd) (R : ClsF K C) (SP : ShP C S) (G_depth_over : Has P w K mg base 3 "depth_over" ["bases"] (spDepth CR CW)) (M__share : HasM P w K mg base 6 C "_share" ["self", "p", "q"] (spSh C S)) :
    FnOk P w K mg base (L2.CX P w) 7 f1 fd ["self", "parts", "numbers", "bases"] (spRingInit CR CW C S) := by
  refine F.okX sc_Ring_init (fun vs H Q E h => ?_) (fun cdv A outer s H vs Q E hr h => ?_)
  · obtain ⟨p, N, Bq, dx, parts, a, b, c, xs, fs, rfl, _⟩ := h
    rfl
  obtain ⟨p, N, Bq, dx, parts, a, b, c, xs, fs, rfl, hp, hS, hN, hB, lx, hbs, ns, hl, q⟩ := h
  have cl_ := R.cl
  refine ⟨_, (pss_cons (ps_fld (pv 0) (pv 1) rfl)
      (pss_cons (ps_asg (pv 2) (pg_tup rfl (pgs_cons (LcN.pg_fld (pv 0)) (pgs_cons (LcN.pg_fld (pv 0)) (pgs_cons (LcN.pg_fld (pv 0)) pgs_nil)))))
      (pss_cons (ps_fld (pv 0) (pv 3) rfl)
      (pss_cons (ps_fld (pv 0) (pe_own G_depth_over (hr.mono (by decide)) (by rfl) (pa_cons (pv 3) pa_nil)) rfl)
      (pss_cons (ps_fld (pv 0) (pe_ownM cl_ M__share (hr.mono (by decide)) (pv 0) (pa_cons pe_int (pa_cons pe_int pa_nil))) rfl)
      (pss_one (ps_fld (pv 0) (pe_ownM cl_ M__share (hr.mono (by decide)) (pv 0) (pa_cons pe_int (pa_cons pe_int pa_nil))) rfl))))))), ?_⟩
  have Np : N ≠ p := ne_of hN hp (by intro q; cases q)
  have Bp : Bq ≠ p := ne_of hB hp (by intro q; cases q)
  have l1 := length_putF ("_parts" : Str) parts fs
  have l2 := length_putF ("_ones" : Str) (.int (a : Nat)) (putF ("_parts" : Str) parts fs)
  have l3 := length_putF ("_swaps" : Str) (.int (b : Nat)) (putF ("_ones" : Str) (.int (a : Nat)) (putF ("_parts" : Str) parts fs))
  have l4 := length_putF ("_squares" : Str) (.int (c : Nat)) (putF ("_swaps" : Str) (.int (b : Nat)) (putF ("_ones" : Str) (.int (a : Nat)) (putF ("_parts" : Str) parts fs)))
  have l5 := length_putF ("_bases" : Str) (.ref Bq) (putF ("_squares" : Str) (.int (c : Nat)) (putF ("_swaps" : Str) (.int (b : Nat)) (putF ("_ones" : Str) (.int (a : Nat)) (putF ("_parts" : Str) parts fs))))
  have t1 := SP.put (g := "_parts") (y := parts) hp hS (by simp)
  have t2 := SP.put (g := "_ones") (y := .int (a : Nat)) upd_same t1 (by simp)
  have t3 := SP.put (g := "_swaps") (y := .int (b : Nat)) upd_same t2 (by simp)
  have t4 := SP.put (g := "_squares") (y := .int (c : Nat)) upd_same t3 (by simp)
  have t5 := SP.put (g := "_bases") (y := .ref Bq) upd_same t4 (by simp)
  refine ⟨_, rfl, _, rfl, p, C, dx, fs, rfl, hp, R.cl, R.n_parts, by omega, ?_⟩
  refine ⟨_, rfl, N, _, rfl, .inl (.inl (by rw [upd_ne Np]; exact hN)), rfl, _, _, rfl, _, rfl, p, C, dx, _, rfl, upd_same, R.cl, R.n_ones, by omega, ?_⟩
  refine ⟨_, _, rfl, _, rfl, p, C, dx, _, rfl, upd_same, R.cl, R.n_swaps, by omega, ?_⟩
  refine ⟨_, _, rfl, _, rfl, p, C, dx, _, rfl, upd_same, R.cl, R.n_squares, by omega, rfl, ?_⟩
  refine ⟨_, rfl, _, rfl, p, C, dx, _, rfl, upd_same, R.cl, R.n_bases, by omega, ?_⟩
  have k04 : Kp p H _ := (((Kp.upd (H := H) (o := .ins C dx (putF ("_parts" : Str) parts fs))).trans (Kp.upd (o := .ins C dx (putF ("_ones" : Str) (.int (a : Nat)) (putF ("_parts" : Str) parts fs))))).trans (Kp.upd (o := .ins C dx (putF ("_swaps" : Str) (.int (b : Nat)) (putF ("_ones" : Str) (.int (a : Nat)) (putF ("_parts" : Str) parts fs)))))).trans ((Kp.upd (o := .ins C dx (putF ("_squares" : Str) (.int (c : Nat)) (putF ("_swaps" : Str) (.int (b : Nat)) (putF ("_ones" : Str) (.int (a : Nat)) (putF ("_parts" : Str) parts fs)))))).trans (Kp.upd (o := .ins C dx (putF ("_bases" : Str) (.ref Bq) (putF ("_squares" : Str) (.int (c : Nat)) (putF ("_swaps" : Str) (.int (b : Nat)) (putF ("_ones" : Str) (.int (a : Nat)) (putF ("_parts" : Str) parts fs))))))))
  refine ⟨_, rfl, Bq, xs, rfl, k04 _ _ Bp hB, lx, fun x hx => ?_, fun H5 s5 => ?_⟩
  · obtain ⟨n, bd, hb⟩ := hbs x hx
    exact ⟨bd, hb.kp k04 n⟩
  have k5 : Kp p H H5 := k04.trans (Kp.of s5)
  have hp5 := s5 _ _ (upd_same (a := p))
  have t5' := SP.same t5 s5
  clear k04
  generalize hF5 : putF ("_bases" : Str) (.ref Bq) (putF ("_squares" : Str) (.int (c : Nat)) (putF ("_swaps" : Str) (.int (b : Nat)) (putF ("_ones" : Str) (.int (a : Nat)) (putF ("_parts" : Str) parts fs)))) = F5 at *
  have go : ∀ g, g ∉ ringF → F5.lookup g = fs.lookup g := fun g hg => by
    rw [← hF5, lko hg (by simp), lko hg (by simp), lko hg (by simp), lko hg (by simp), lko hg (by simp)]
  have g2 : F5.lookup ("_share" : Str) = none := (go _ (by decide +kernel)).trans ns
  have g3 : F5.lookup ("_bases" : Str) = some (.ref Bq) := by
    rw [← hF5]
    exact lks
  have g4 : F5.lookup ("_ones" : Str) = some (.int (a : Nat)) := by
    rw [← hF5, lkn (by decide +kernel), lkn (by decide +kernel), lkn (by decide +kernel)]
    exact lks
  have g5 : F5.lookup ("_swaps" : Str) = some (.int (b : Nat)) := by
    rw [← hF5, lkn (by decide +kernel), lkn (by decide +kernel)]
    exact lks
  have g6 : F5.lookup ("_squares" : Str) = some (.int (c : Nat)) := by
    rw [← hF5, lkn (by decide +kernel)]
    exact lks
  have m5 : F5.length ≤ 25 := by omega
  clear l1 l2 l3 l4 l5 t1 t2 t3 t4 t5
  obtain ⟨dv, hdv⟩ : ∃ dv : Int, dv = if xs = [] then 1 else 2 := ⟨_, rfl⟩
  rw [← hdv]
  have l6 := length_putF ("_depth" : Str) (.int dv) F5
  have t6 := SP.put (g := "_depth") (y := .int dv) hp5 t5' (by simp)
  refine ⟨_, rfl, p, C, dx, F5, rfl, hp5, R.cl, R.n_depth, by omega, ?_⟩
  refine ⟨_, rfl, p, dx, _, rfl, upd_same, (lkn (by decide +kernel)).trans g2, p, dx, _, 0, rfl, by decide, upd_same, t6, fun z H7 s7 => ?_⟩
  have hp7 := s7 _ _ (upd_same (a := p))
  have t7 := SP.put (g := "_zero") (y := z) hp7 (SP.same t6 s7) (by simp)
  have l7 := length_putF ("_zero" : Str) z (putF ("_depth" : Str) (.int dv) F5)
  refine ⟨_, rfl, p, C, dx, _, rfl, hp7, R.cl, R.n_zero, by omega, ?_⟩
  refine ⟨_, rfl, p, dx, _, rfl, upd_same, (lkn (by decide +kernel)).trans ((lkn (by decide +kernel)).trans g2), p, dx, _, 1, rfl, by decide, upd_same, t7, fun u H8 s8 => ?_⟩
  have hp8 := s8 _ _ (upd_same (a := p))
  have l8 := length_putF ("_one" : Str) u (putF ("_zero" : Str) z (putF ("_depth" : Str) (.int dv) F5))
  refine ⟨_, rfl, p, C, dx, _, rfl, hp8, R.cl, R.n_one, by omega, ?_⟩
  have up : ∀ {g : Str} {r : Option V}, ¬ g = ("_depth" : Str) → ¬ g = ("_zero" : Str) → ¬ g = ("_one" : Str) → F5.lookup g = r → (putF ("_one" : Str) u (putF ("_zero" : Str) z (putF ("_depth" : Str) (.int dv) F5))).lookup g = r := fun h1 h2 h3 h => by
    rw [lkn h3, lkn h2, lkn h1]
    exact h
  refine q _ _ (((((k5.trans Kp.upd).trans (Kp.of s7)).trans Kp.upd).trans (Kp.of s8)).trans Kp.upd) upd_same (fun g hg => ?_) (up (by decide +kernel) (by decide +kernel) (by decide +kernel) g4) (up (by decide +kernel) (by decide +kernel) (by decide +kernel) g5) (up (by decide +kernel) (by decide +kernel) (by decide +kernel) g6) ?_ (up (by decide +kernel) (by decide +kernel) (by decide +kernel) g3) ⟨z, ?_⟩ (by omega)
  · rw [lko hg (by simp), lko hg (by simp), lko hg (by simp)]
    exact go g hg
  · rw [lkn (by decide +kernel), lkn (by decide +kernel), hdv.symm]
    exact lks
  · rw [lkn (by decide +kernel)]
    exact lks
end
end My
/-! the inverse of 1 -/
namespace My
open PySem PySem.Spec PyProof.Rows L2
def spInv1 : Sp := fun vs H Q _ => ∃ m : Nat, vs = [.int 1, .int m] ∧ 1 ≤ m ∧ m ≤ 100 ∧ ∀ H', Same H H' → Q (.int ((1 % m : Nat) : Int)) H'
section
variable {P : Program} {w : World} {K : PySem.W.Frag} {mg : Str → Option Value} {base : Heap} {C : Addr}
theorem ok_inv1 (F : Fn K mg "inverse_modulo" s_inverse_modulo ["number", "modulus"]) : Has P w K mg base 1 "inverse_modulo" ["number", "modulus"] spInv1 := by
  refine F.has sc_inverse_modulo (fun vs H Q E h => ?_) (fun f cdv A outer s H vs Q E hr h => ?_)
  · obtain ⟨m, rfl, _⟩ := h
    rfl
  obtain ⟨m, rfl, h1, h2, q⟩ := h
  refine ⟨_, (pss_cons (ps_par (i := 2) (j := 3) rfl sc_inverse_modulo.nd rfl rfl (by decide) rfl rfl (pa_cons (pv 1) (pa_cons (pe_op op_mod (pv 0) (pv 1)) pa_nil)) rfl)
      (pss_cons (ps_asg (pe_tup (pa_cons pe_int (pa_cons pe_int pa_nil))) (pg_tup rfl (pgs_cons (pg_name (i := 4) sc_inverse_modulo.nd rfl (Or.inl rfl)) (pgs_cons (pg_name (i := 5) sc_inverse_modulo.nd rfl (Or.inl rfl)) pgs_nil))))
      (pss_cons (ps_while PassesOwn.never (pt_cmpR op_ne (pv 3) pe_int (nomark _))
        (pss_cons (ps_set (i := 6) sc_inverse_modulo.nd rfl (Or.inl rfl) (pe_op op_fdiv (pv 2) (pv 3)))
      (pss_cons (ps_par (i := 2) (j := 3) rfl sc_inverse_modulo.nd rfl rfl (by decide) rfl rfl (pa_cons (pv 3) (pa_cons (pe_op op_sub (pv 2) (pe_op op_mul (pv 6) (pv 3))) pa_nil)) rfl)
      (pss_one (ps_par (i := 4) (j := 5) rfl sc_inverse_modulo.nd rfl rfl (by decide) rfl rfl (pa_cons (pv 5) (pa_cons (pe_op op_sub (pv 4) (pe_op op_mul (pv 6) (pv 5))) pa_nil)) rfl)))))
      (pss_one (ps_ret (pe_op op_mod (pv 4) (pv 1))))))), ?_⟩
  refine ⟨_, rfl, _, rfl, _, rfl, _, _, rfl, rfl, by omega, _, _, rfl, ?_⟩
  refine ⟨by show 2 ≤ sizeLine; decide, fun u hu => ⟨u, _, rfl, .inl (.inl upd_same), rfl, _, _, rfl, _, _, rfl, ?_⟩⟩
  refine ⟨rfl, ?_⟩
  have hS : Same H (upd H u (.tup [.int 0, .int 1])) := same_upd hu
  refine while_by (fun σ H' => H' = upd H u (.tup [.int 0, .int 1]) ∧ ((∃ t, σ = [some (.int 1), some (.int m), some (.int m), some (.int ((1 % m : Nat) : Int)), some (.int 0), some (.int 1), t]) ∨ (2 ≤ m ∧ ∃ t, σ = [some (.int 1), some (.int m), some (.int 1), some (.int 0), some (.int 1), some (.int (0 - (m : Int))), t])))
    (fun σ _ => match σ with | [_, _, _, some (.int k), _, _, _] => k.toNat | _ => 0) ⟨rfl, .inl ⟨none, ?_⟩⟩ ?_ ?_
  · rw [Int.natCast_emod]
    rfl
  · rintro σ H' ⟨rfl, ⟨t, rfl⟩ | ⟨hm, t, rfl⟩⟩
    · by_cases hm : m = 1
      · subst hm
        exact ⟨_, rfl, rfl, _, rfl, ite_no (by decide) ⟨_, rfl, _, rfl, _, _, rfl, rfl, by decide, q _ hS⟩⟩
      · have e : 1 % m = 1 := Nat.mod_eq_of_lt (by omega)
        rw [e]
        refine ⟨_, rfl, rfl, _, rfl, ite_of (by decide) ?_⟩
        refine ⟨_, rfl, _, rfl, _, _, rfl, rfl, ⟨by decide, by decide⟩, ?_⟩
        have ed : (m : Int) / ((1 : Nat) : Int) = m := Int.ediv_one _
        refine ⟨_, rfl, _, rfl, _, rfl, _, rfl, _, _, rfl, rfl, .inl ⟨by rw [ed]; omega, by rw [ed]; omega⟩, _, _, rfl, rfl, _, _, rfl, ?_⟩
        refine ⟨_, rfl, _, rfl, _, rfl, _, rfl, _, _, rfl, rfl, .inl ⟨by rw [ed]; omega, by rw [ed]; omega⟩, _, _, rfl, rfl, _, _, rfl, ?_⟩
        have e1 : (m : Int) - (m : Int) / ((1 : Nat) : Int) * ((1 : Nat) : Int) = 0 := by rw [ed]; omega
        have e2 : (0 : Int) - (m : Int) / ((1 : Nat) : Int) * 1 = 0 - (m : Int) := by rw [ed, Int.mul_one]
        refine ⟨⟨rfl, .inr ⟨by omega, some (.int ((m : Int) / ((1 : Nat) : Int))), ?_⟩⟩, ?_⟩
        · show [some (V.int 1), some (V.int m), some (V.int ((1 : Nat) : Int)), some (V.int ((m : Int) - (m : Int) / ((1 : Nat) : Int) * ((1 : Nat) : Int))), some (V.int 1), some (V.int ((0 : Int) - (m : Int) / ((1 : Nat) : Int) * 1)), some (V.int ((m : Int) / ((1 : Nat) : Int)))] = _
          rw [e1, e2]
          rfl
        · show ((m : Int) - (m : Int) / ((1 : Nat) : Int) * ((1 : Nat) : Int)).toNat < (((1 : Nat) : Int)).toNat
          rw [e1]
          decide
    · refine ⟨_, rfl, rfl, _, rfl, ite_no (by decide) ⟨_, rfl, _, rfl, _, _, rfl, rfl, by omega, ?_⟩⟩
      have z := q _ hS
      rw [Int.natCast_emod] at z
      exact z
  · rintro σ H' Q1 Q2 hq ⟨v1, e1, b6, k, e8, z⟩
    exact ⟨v1, e1, b6, k, e8, hq _ _ z⟩
end
end My
/-! rules within a comprehension: the written part given from outside -/
namespace NK
open PySem PySem.Spec PyProof.Rows L2
section
variable {X : Cx} {tg : Expr}
theorem pi_listK (K : PySem.W.Frag) (hK : X.K = K) {l : Expr} {tl : TE} (hl : PE X l tl) : PI X tg l (iList K tl) := by
  subst hK
  exact pi_list hl
theorem pi_tupK (K : PySem.W.Frag) (hK : X.K = K) {l : Expr} {tl : TE} (hl : PE X l tl) : PI X tg l (iTup K tl) := by
  subst hK
  exact pi_tup hl
theorem pe_joinK (K : PySem.W.Frag) (hK : X.K = K) {o e : Expr} {to te : TE} {apos pos : Pos} (ho : PE X o to) (he : PE X e te) (hs : starEach [e] X.env = [(false, eval e X.env)] := by rfl) (hbase : attributeBase o "join" X.env (eval o X.env) = eval o X.env := by rfl) (hline : (apos.endLine == pos.line) = true := by rfl) :
    PE X (.Call (.Attribute o "join" apos) [e] [] pos) (tM1 (fun x xs H Q => ∃ a p, ∃ ys : List Str, x = .str a ∧ xs = [.ref p] ∧ (SqL K H p (ys.map V.str) ∨ SqT K H p (ys.map V.str)) ∧
      (ys.map (·.length)).sum + ys.length * a.length ≤ 16777216 ∧ Q (.str (Txt.join a ys)) H) to te) := by
  subst hK
  exact pe_join ho he hs hbase hline
theorem call_lenK (K : PySem.W.Frag) (hK : X.K = K) : CallR X (.builtin "len") (fun xs H Q => ∃ x n, xs = [x] ∧ LenV K x H n ∧ Q (.int n) H) := by
  subst hK
  exact call_len
theorem cr_sumK (K : PySem.W.Frag) (hK : X.K = K) (hc : X.calm = true) : CallR X (.builtin "sum") (rSum K) := by
  subst hK
  exact cr_sum hc
theorem cr_allK (K : PySem.W.Frag) (hK : X.K = K) (hc : X.calm = true) : CallR X (.builtin "all") (rAll K) := by
  subst hK
  exact cr_all hc
theorem cr_anyK (K : PySem.W.Frag) (hK : X.K = K) (hc : X.calm = true) : CallR X (.builtin "any") (rAny K) := by
  subst hK
  exact cr_any hc
theorem call_tuple_ofK (K : PySem.W.Frag) (hK : X.K = K) : CallR X (.type "tuple") (fun xs H Q => ∃ p ys, xs = [.ref p] ∧ ((SqL K H p ys ∧ ∀ l, H l = none → Q (.ref l) (upd H l (.tup ys))) ∨ (SqT K H p ys ∧ Q (.ref p) H))) := by
  subst hK
  exact call_tuple_of
theorem call_list_ofK (K : PySem.W.Frag) (hK : X.K = K) : CallR X (.type "list") (fun xs H Q => ∃ p ys, xs = [.ref p] ∧ (SqL K H p ys ∨ SqT K H p ys) ∧ ∀ l, H l = none → Q (.ref l) (upd H l (.lst ys))) := by
  subst hK
  exact call_list_of
theorem pi_zipAK (K : PySem.W.Frag) (hK : X.K = K) {e e2 : Expr} {ta : TA} {p pos tpos : Pos} {elts : List Expr} {kk : Nat} (hg : Gl X "zip") (hm : X.mg "zip" = none) (ha : PA X [e, e2] ta)
    (hs : starEach [e, e2] X.env = (false, eval e X.env) :: starEach [e2] X.env := by rfl) (hpl : (backTo pos (starEach [e2] X.env)).any (·.1) = false := by rfl) :
    PI X (.Tuple elts kk tpos) (.Call (.Name "zip" p) [e, e2] [] pos) (RZ.iZipA K ta) := by
  subst hK
  exact RZ.pi_zipA hg hm ha hs hpl
theorem pi_enumK (K : PySem.W.Frag) (hK : X.K = K) {e : Expr} {ta : TA} {p pos tpos : Pos} {elts : List Expr} {kk : Nat} (hg : Gl X "enumerate") (hm : X.mg "enumerate" = none) (ha : PA X [e] ta) (hs : starEach [e] X.env = (false, eval e X.env) :: starEach [] X.env := by rfl) :
    PI X (.Tuple elts kk tpos) (.Call (.Name "enumerate" p) [e] [] pos) (iEnum K ta) := by
  subst hK
  exact pi_enum hg hm ha hs
end
end NK
/-! Rests -/
namespace My
open PySem PySem.Spec PyProof.Rows L2
structure TxtM (mg : Str → Option Value) : Prop where
  m_MOST_MODULUS : ∃ t, mg "MOST_MODULUS" = some (.int 1000000000 t)
def spCheckNum : Sp := fun vs H Q _ => ∃ v lo hi : Int, vs = [.int v, .int lo, .int hi] ∧ lo ≤ v ∧ v ≤ hi ∧ Q .non H
def SR (H : Hp) (p dx : Addr) (fs : List (Str × V)) : Prop := ∃ m : Nat, 2 ≤ m ∧ m ≤ 100 ∧ fs.lookup ("_modulus" : Str) = some (.int (m : Nat))
theorem shR (C : Addr) : ShP C SR := ⟨fun hp ⟨m, h1, h2, h3⟩ hg => ⟨m, h1, h2, (lko (by decide +kernel) hg).trans h3⟩, fun h _ => h⟩
theorem sc_Rests_init : SupX.SupScope N_Rests_init ["self", "modulus"] (defScope s_Rests_init) := ⟨rfl, rfl, rfl, by decide +kernel, rfl, by decide +kernel, by decide +kernel, rfl, by decide +kernel, rfl⟩
def spRests (CR CW : Addr) : Sp := fun vs H Q _ => ∃ (p dx : Addr) (m : Nat), vs = [.ref p, .int (m : Nat)] ∧ H p = some (.ins CR dx []) ∧ 2 ≤ m ∧ m ≤ 100 ∧ ∀ H', Kp p H H' → BaseAt CR CW H' p (.rests m) → Q .non H'
def spHasRests (C : Addr) (b : BD → Prop) (CR CW : Addr) (f : BD → Nat → Bool) : Sp := fun vs H Q _ => ∃ (a : Addr) (x : BD) (k : Nat), vs = [.ref a, .int (k : Nat)] ∧ BaseAt CR CW H a x ∧ b x ∧ 1 ≤ k ∧ k ≤ 1000 ∧ ∀ H', Same H H' → Q (.bl (f x k)) H'
def spDivs : Sp := fun vs H Q _ => ∃ a b : Nat, vs = [.int (a : Nat), .int (b : Nat)] ∧ Q (.bl (decide (a ∣ b))) H
section
variable {P : Program} {w : World} {K : PySem.W.Frag} {mg : Str → Option Value} {base : Heap} {CR CW : Addr}
theorem ok_check_number {CE fI xI dI : Addr} (F : Fn K mg "check_number" s_check_number ["value", "least", "most"]) (E_InvalidNumber : ErrX.ErrTxt P K mg "InvalidNumber" "given" "InvalidNumber" CE fI xI dI) (G_is_between : Has P w K mg base 2 "is_between" ["value", "least", "most"] spBetween) : HasX P w K mg base 3 "check_number" ["value", "least", "most"] spCheckNum := by
  obtain ⟨f, fd, F, m, b⟩ := F.ex
  refine ⟨f, fd, F.okX sc_check_number (fun vs H Q E h => ?_) (fun cdv A outer s H vs Q E hr h => ?_), m, F.kp, b⟩
  · obtain ⟨v, lo, hi, rfl, _⟩ := h
    rfl
  obtain ⟨v, lo, hi, rfl, h1, h2, q⟩ := h
  have TK : Takes (cxOf (L2.CX P w) P w K mg base N_check_number "check_number" (defScope s_check_number) f cdv A outer s H E) (fun cls d _ H => E cls d H) := takes_of rfl rfl rfl rfl
  refine ⟨_, (pss_one (ps_if (pt_not (pt_val (pe_own G_is_between (hr.mono (by decide)) (by rfl) (pa_cons (pv 0) (pa_cons (pv 1) (pa_cons (pv 2) pa_nil))))))
        (pss_one ps_never)
        pss_nil)), ?_⟩
  refine ⟨_, rfl, _, rfl, _, rfl, _, "int", lo, hi, rfl, .int _, _, rfl, ite_no ?_ q⟩
  dsimp only
  rw [decide_eq_true h1, decide_eq_true h2]
  decide
theorem ok_divides (F : Fn K mg "divides" s_divides ["one", "other"]) : Has P w K mg base 1 "divides" ["one", "other"] spDivs := by
  refine F.has sc_divides (fun vs H Q E h => ?_) (fun f cdv A outer s H vs Q E hr h => ?_)
  · obtain ⟨a, b, rfl, _⟩ := h
    rfl
  obtain ⟨a, b, rfl, q⟩ := h
  refine ⟨_, (pss_cons (ps_if (pt_cmpR op_eq (pv 0) pe_int (nomark _))
        (pss_one (ps_ret (pe_cmpR op_eq (pv 1) pe_int (nomark _))))
        pss_nil)
      (pss_one (ps_ret (pe_cmpR op_eq (pe_op op_mod (pv 1) (pv 0)) pe_int (nomark _))))), ?_⟩
  have e0 : ∀ n : Nat, decide (V.int (n : Nat) = V.int 0) = decide (n = 0) := fun n => decide_eq_decide.mpr ⟨fun z => by
    have := V.int.inj z
    omega, fun z => by rw [z]; rfl⟩
  refine ⟨_, rfl, rfl, _, rfl, ?_⟩
  rw [e0]
  by_cases c : a = 0
  · refine ite_of (decide_eq_true c) ⟨_, rfl, rfl, ?_⟩
    rw [e0]
    subst c
    have : decide (b = 0) = decide (0 ∣ b) := decide_eq_decide.mpr Nat.zero_dvd.symm
    rw [this]
    exact q
  · refine ite_no (by rw [decide_eq_false c]; decide) ⟨_, rfl, _, rfl, _, _, rfl, rfl, by omega, rfl, ?_⟩
    have : (b : Int) % (a : Int) = ((b % a : Nat) : Int) := by omega
    show Q (.bl (decide (V.int ((b : Int) % (a : Int)) = V.int 0))) H
    rw [this, e0]
    have : decide (b % a = 0) = decide (a ∣ b) := decide_eq_decide.mpr Nat.dvd_iff_mod_eq_zero.symm
    rw [this]
    exact q
theorem ok_rests_share (F : FnM K CR "_share" "Rests._share" s_Rests__share ["self", "p", "q"]) (R : ClsF K CR) (n_mod : NoAttr K CR "_modulus") (G_inverse_modulo : Has P w K mg base 1 "inverse_modulo" ["number", "modulus"] spInv1) : HasM P w K mg base 3 CR "_share" ["self", "p", "q"] (spSh CR SR) := by
  obtain ⟨f, fd, F, M, b⟩ := F.ex
  refine ⟨f, fd, F.ok sc_Rests__share (fun vs H Q E h => ?_) (fun cdv A outer s H vs Q E hr h => ?_), M, b⟩
  · obtain ⟨p, dx, fs, a, rfl, _⟩ := h
    rfl
  obtain ⟨p, dx, fs, a, rfl, a1, h1, ⟨m, m2, m100, hm⟩, q⟩ := h
  have cl_ := R.cl
  refine ⟨_, (pss_one (ps_ret (pe_op op_mod (pe_op op_mul (pv 1) (pe_own G_inverse_modulo (hr.mono (by decide)) (by rfl) (pa_cons (pv 2) (pa_cons (L2.pe_fld (pv 0) rfl) pa_nil)))) (L2.pe_fld (pv 0) rfl)))), ?_⟩
  refine ⟨_, rfl, _, rfl, _, rfl, p, CR, dx, fs, _, rfl, h1, cl_, n_mod, hm, m, rfl, by omega, m100, fun H1 s1 => ?_⟩
  exact ⟨_, _, rfl, rfl, .inl ⟨by omega, by omega⟩, _, rfl, p, CR, dx, fs, _, rfl, s1 _ _ h1, cl_, n_mod, hm, _, _, rfl, rfl, by omega, q _ _ s1⟩
theorem ok_rests_init {f cc cda fR : Addr} {fd : FuncData} (S : SupX.SupFn P K f fd "__init__" "Rests.__init__" s_Rests_init cc cda CR) (hms : mg "super" = none) (Ab : SupX.Above K CR CR fR) (RI : FnR P w K mg base (L2.CX P w) 7 fR (spRingInit CR CW CR SR)) (T : TxtM mg) (R : ClsF K CR) (n_mod : NoAttr K CR "_modulus")
    (G_check_number : HasX P w K mg base 3 "check_number" ["value", "least", "most"] spCheckNum) (G_common : HasR P w K mg base 1 "common" spCommon2) : FnOk P w K mg base (L2.CX P w) 9 f fd ["self", "modulus"] (spRests CR CW) := by
  have cl_ := R.cl
  refine SupX.fnS_of (pre := (defBody s_Rests_init).take 2) (k := 8) (f2 := fR) (ar := (((defArgs s_Rests_init).posonlyargs ++ (defArgs s_Rests_init).args).head?).get rfl) S sc_Rests_init rfl rfl (Or.inl rfl) rfl rfl hms (fun L => ⟨⟨_, rfl⟩, rfl, rfl, rfl, rfl⟩) (fun vs H Q E h => ?_) (fun A outer s H vs Q E hr h => ?_)
  · obtain ⟨p, dx, m, rfl, _⟩ := h
    rfl
  obtain ⟨p, dx, m, rfl, hp, m2, m100, q⟩ := h
  refine ⟨_, _, spRingInit CR CW CR SR, E0, (pss_cons (ps_expr (pe_ownX G_check_number (hr.mono (by decide)) (by rfl) (pa_cons (pv 1) (pa_cons pe_int (pa_cons (pe_gint T.m_MOST_MODULUS (by rfl)) pa_nil)))))
      (pss_one (ps_fld (pv 0) (pv 1) rfl))), RI.mono (by decide), passL, (pa_cons (pe_tup (pa_cons pe_str (pa_cons (pv 1) pa_nil))) (pa_cons (pe_tup (pa_cons (pv 1) (pa_cons pe_int (pa_cons (pe_op op_fdiv (pv 1) (pe_ownR G_common (hr.mono (by decide)) (by rfl) (pa_cons (pv 1) (pa_cons pe_int pa_nil)))) pa_nil)))) (pa_cons (pe_tup pa_nil) pa_nil))), ?_⟩
  have hp1 : (upd H p (.ins CR dx [("_modulus", .int (m : Nat))])) p = some (.ins CR dx [("_modulus", .int (m : Nat))]) := upd_same
  have k1 : Kp p H (upd H p (.ins CR dx [("_modulus", .int (m : Nat))])) := Kp.upd
  refine ⟨_, rfl, (m : Int), 2, 1000000000, rfl, by omega, by omega, _, rfl, _, rfl, p, CR, dx, [], rfl, hp, R.cl, n_mod, by decide, ?_⟩
  change SupX.tSup _ _ _ _ _ _ _ _ (upd H p (.ins CR dx [("_modulus", .int (m : Nat))]))
  generalize upd H p (.ins CR dx [("_modulus", .int (m : Nat))]) = H1 at hp1 k1 ⊢
  refine ⟨p, CR, dx, _, rfl, hp1, Ab, ?_⟩
  refine ⟨_, rfl, (by show 2 ≤ sizeLine; decide), fun t nt => ⟨_, rfl, _, rfl, _, rfl, (m : Int), 2, rfl, fun H3 s3 => ?_⟩⟩
  have u1 := same_upd (o := .tup [V.str "rests", V.int (m : Nat)]) nt
  have s13 := u1.trans s3
  have eg : gcdI (m : Int) 2 = ((Nat.gcd m 2 : Nat) : Int) := gcdN m 2
  have gp : 0 < Nat.gcd m 2 := Nat.gcd_pos_of_pos_left _ (by omega)
  have gl : Nat.gcd m 2 ≤ 2 := Nat.le_of_dvd (by decide) (Nat.gcd_dvd_right _ _)
  rw [eg]
  refine ⟨_, _, rfl, rfl, ⟨by omega, by omega⟩, (by show 3 ≤ sizeLine; decide), fun N nN => ⟨(by show 0 ≤ sizeLine; decide), fun Bq nB => ?_⟩⟩
  have u2 := same_upd (o := .tup [V.int (m : Nat), V.int 1, V.int ((m : Int) / ((Nat.gcd m 2 : Nat) : Int))]) nN
  have u3 := same_upd (o := .tup []) nB
  have s15 := s13.trans (u2.trans u3)
  have ed : (m : Int) / ((Nat.gcd m 2 : Nat) : Int) = ((m / Nat.gcd m 2 : Nat) : Int) := (Int.natCast_ediv _ _).symm
  refine ⟨p, N, Bq, dx, _, m, 1, m / Nat.gcd m 2, [], _, rfl, s15 _ _ hp1, ⟨m, m2, m100, rfl⟩, ?_, upd_same, by decide, (fun x hx => by cases hx), rfl, (by show 1 ≤ 20; decide), fun H5 fs' k5 h5 oth f1 f2 f3 f4 f5 f6 l5 => ?_⟩
  · rw [← ed]
    exact u3 _ _ upd_same
  · refine q H5 ((k1.trans (Kp.of s15)).trans k5) ⟨⟨m2, m100⟩, dx, fs', h5, ⟨f1, f2, f3, f4, f6, ?_, ?_, ?_, ?_⟩, ?_⟩
    · exact (oth ("_share" : Str) (by decide +kernel)).trans rfl
    · exact (oth ("has_inverse" : Str) (by decide +kernel)).trans rfl
    · exact (oth ("zero" : Str) (by decide +kernel)).trans rfl
    · exact (oth ("_has_rests" : Str) (by decide +kernel)).trans rfl
    · exact (oth ("_modulus" : Str) (by decide +kernel)).trans rfl
end
end My
/-! Whole; has_inverse -/
namespace My
open PySem PySem.Spec PyProof.Rows L2
def SW (H : Hp) (p dx : Addr) (fs : List (Str × V)) : Prop := True
theorem shW (C : Addr) : ShP C SW := ⟨fun _ _ _ => trivial, fun _ _ => trivial⟩
theorem sc_Whole_init : SupX.SupScope N_Whole_init ["self", "inverse"] (defScope s_Whole_init) := ⟨rfl, rfl, rfl, by decide +kernel, rfl, by decide +kernel, by decide +kernel, rfl, by decide +kernel, rfl⟩
/-- the radical is between 1 and the number -/
theorem radL_range {d : Nat} (h1 : 1 ≤ d) (h2 : d ≤ 1000000) : 1 ≤ radL d ∧ radL d ≤ 1000000 := by
  rw [radL_eq (by omega)]
  exact ⟨radP_pos d, Nat.le_trans (radP_le (by omega)) h2⟩
def spShare01 : Sp := fun vs H Q _ => ∃ a : Nat, vs = [.int (a : Nat), .int 1] ∧ a ≤ 1 ∧ ∀ v H', Same H H' → Q v H'
/-- all that it shares with b struck out -/
def stripN : Nat → Nat → Nat → Nat
  | 0, _, f => f
  | k + 1, b, f => if 1 < Nat.gcd f b then stripN k b (f / Nat.gcd f b) else f
theorem stripN_is {n b : Nat} : ∀ (k f : Nat), LLoop n b f → f ≤ k → IsStrip n b (stripN k b f)
  | 0, f, h, hk => absurd h.pos (by omega)
  | k + 1, f, h, hk => by
    unfold stripN
    by_cases c : 1 < Nat.gcd f b
    · rw [if_pos c]
      have := h.step
      refine stripN_is k _ this ?_
      have hp := h.pos
      have : f / Nat.gcd f b < f := Nat.div_lt_self hp c
      omega
    · rw [if_neg c]
      exact h.done c
def invW (q d : Nat) : Bool := decide (stripN q d q = 1)
theorem invW_of {q d r : Nat} (hq : 1 ≤ q) (h : IsStrip q d r) : decide (r = 1) = invW q d := by
  have h2 := stripN_is q q (LLoop.start (b := d) (by omega)) (Nat.le_refl _)
  unfold invW
  rw [strip_one h h2]
def BD.inv (x : BD) (q : Nat) : Bool := match x with | .rests m => decide (Nat.gcd q m = 1) | .whole d => invW q d
def BD.hr (x : BD) (k : Nat) : Bool := match x with | .rests m => decide (k ∣ m) | .whole d => decide (Nat.gcd k d = 1)
def BD.isW (x : BD) : Prop := ∃ d, x = .whole d
def BD.isR (x : BD) : Prop := ∃ m, x = .rests m
def spInvW (CR CW : Addr) : Sp := fun vs H Q _ => ∃ (a : Addr) (d q : Nat), vs = [.ref a, .int (q : Nat)] ∧ BaseAt CR CW H a (.whole d) ∧ 1 ≤ q ∧ q ≤ 1000000 ∧ ∀ H', Same H H' → Q (.bl (invW q d)) H'
def spWhole (CR CW : Addr) : Sp := fun vs H Q _ => ∃ (p dx : Addr) (d : Nat), vs = [.ref p, .int (d : Nat)] ∧ H p = some (.ins CW dx []) ∧ 1 ≤ d ∧ d ≤ 1000000 ∧ ∀ H' : Hp, Kp p H H' → BaseAt CR CW H' p (.whole (radL d)) → Q .non H'
/-- Ring.has_inverse -/
def spInv (CR CW C : Addr) : Sp := fun vs H Q _ => ∃ (a dx : Addr) (fs : List (Str × V)) (o q : Nat), vs = [.ref a, .int (q : Nat)] ∧ H a = some (.ins C dx fs) ∧ fs.lookup ("_ones" : Str) = some (.int (o : Nat)) ∧ 1 ≤ q ∧ q ≤ 1000000 ∧
  ((o ≠ 0 ∧ o ≤ 1000 ∧ ∀ H', Same H H' → Q (.bl (decide (Nat.gcd q o = 1))) H') ∨
   (o = 0 ∧ ∃ (B : Addr) (xs : List Addr) (d : Nat), fs.lookup ("_bases" : Str) = some (.ref B) ∧ H B = some (.tup (xs.map V.ref)) ∧ xs ≠ [] ∧ xs.length ≤ 10 ∧ (∀ x ∈ xs, BaseAt CR CW H x (.whole d)) ∧ ∀ H', Same H H' → Q (.bl (invW q d)) H'))
section
variable {P : Program} {w : World} {K : PySem.W.Frag} {mg : Str → Option Value} {base : Heap} {CR CW C : Addr}
theorem ok_share01 {CE fI cc cd f : Addr} {fd : FuncData} (D : FunD K "share" "share" (defArgs s_share) (defBody s_share) (defScope s_share) [.int 1] [] f fd) (hm : mg "share" = some (.ref f)) (T : Txt mg)
    (E_InvalidNumber : ErrX.ErrTxt P K mg "InvalidNumber" "given" "InvalidNumber" CE fI cc cd) (G_is_int : Has P w K mg base 1 "is_int" ["value"] spIsInt) : HasX P w K mg base 2 "share" ["p", "q"] spShare01 := by
  obtain ⟨ds, hd, b⟩ := FunD.binds1 D (ps := ["p", "q"]) 2 1 (by simp) rfl (fun _ _ _ _ _ _ _ us its h1 h2 => match us, its, h1, h2 with | [_, _], [_], _, _ => ⟨_, rfl, rfl⟩)
  refine ⟨f, fd, D.ok sc_share (fun vs H Q E h => ?_) (fun cdv A outer s H vs Q E hr h => ?_), hm, D.kp, ?_⟩
  · obtain ⟨a, rfl, _⟩ := h
    rfl
  · obtain ⟨a, rfl, a1, q⟩ := h
    have TK : Takes (cxOf (L2.CX P w) P w K mg base N_share "share" (defScope s_share) f cdv A outer s H E) (fun cls d _ H => E cls d H) := takes_of rfl rfl rfl rfl
    refine ⟨_, (pss_cons (ps_if (PW.pt (pw_or (pt_not (pt_val (pe_own G_is_int (hr.mono (by decide)) (by rfl) (pa_cons (pv 1) pa_nil)))) (pw_or1 (pt_cmpR op_lt (pv 1) pe_int (nomark _)))))
        (pss_one ps_never)
        pss_nil)
      (pss_cons (ps_set (i := 2) sc_share.nd rfl (Or.inl rfl) (pe_callBfun cr_gcd (by rfl) T.m_gcd (pa_cons (pv 0) (pa_cons (pv 1) pa_nil))))
      (pss_one (ps_ret (pe_tup (pa_cons (pe_op op_fdiv (pv 0) (pv 2)) (pa_cons (pe_op op_fdiv (pv 1) (pv 2)) pa_nil))))))), ?_⟩
    refine ⟨_, rfl, _, "int", rfl, .int _, ?_⟩
    have eg : Nat.gcd (a : Int).natAbs (1 : Int).natAbs = 1 := Nat.gcd_one_right _
    refine ⟨_, rfl, iteF ⟨_, rfl, _, _, rfl, rfl, _, rfl, ite_no (by decide) ?_⟩⟩
    refine ⟨_, rfl, _, rfl, _, _, rfl, _, rfl, _, rfl, _, _, rfl, rfl, ⟨by rw [eg]; decide, by rw [eg]; decide⟩, _, rfl, _, rfl, _, _, rfl, rfl, ⟨by rw [eg]; decide, by rw [eg]; decide⟩, (by show 2 ≤ sizeLine; decide), fun t ht => q _ _ (same_upd ht)⟩
  · cases hd
    exact b
theorem ok_whole_share (F : FnM K CW "_share" "Shares._share" s_Shares__share ["self", "p", "q"]) (G_share : HasX P w K mg base 2 "share" ["p", "q"] spShare01) : HasM P w K mg base 3 CW "_share" ["self", "p", "q"] (spSh CW SW) := by
  obtain ⟨f, fd, F, M, b⟩ := F.ex
  refine ⟨f, fd, F.ok sc_Shares__share (fun vs H Q E h => ?_) (fun cdv A outer s H vs Q E hr h => ?_), M, b⟩
  · obtain ⟨p, dx, fs, a, rfl, _⟩ := h
    rfl
  obtain ⟨p, dx, fs, a, rfl, a1, h1, _, q⟩ := h
  refine ⟨_, (pss_one (ps_ret (pe_ownX G_share (hr.mono (by decide)) (by rfl) (pa_cons (pv 1) (pa_cons (pv 2) pa_nil))))), ?_⟩
  exact ⟨_, rfl, _, rfl, a, rfl, a1, q⟩
theorem ok_whole_inv (F : FnM K CW "has_inverse" "Whole.has_inverse" s_Whole_has_inverse ["self", "q"]) (R : ClsF K CW) (n_pr : NoAttr K CW "_primes") (B : Blt mg) (G_stripped : Has P w K mg base 1 "stripped" ["number", "base"] spStripped) : HasM P w K mg base 2 CW "has_inverse" ["self", "q"] (spInvW CR CW) := by
  obtain ⟨f, fd, F, M, b⟩ := F.ex
  refine ⟨f, fd, F.ok sc_Whole_has_inverse (fun vs H Q E h => ?_) (fun cdv A outer s H vs Q E hr h => ?_), M, b⟩
  · obtain ⟨a, d, q, rfl, _⟩ := h
    rfl
  obtain ⟨a, d, qq, rfl, ⟨⟨d1, d2⟩, dx, fs, h1, h2, h3⟩, q1, q2, q⟩ := h
  have cl_ := R.cl
  refine ⟨_, (pss_one (ps_ret (pe_cmpR op_eq (pe_own G_stripped (hr.mono (by decide)) (by rfl) (pa_cons (pe_callB call_abs (by rfl) B.abs bb_abs (pa_cons (pv 1) pa_nil)) (pa_cons (L2.pe_fld (pv 0) rfl) pa_nil))) pe_int (nomark _)))), ?_⟩
  have ea : V.int (if (qq : Int) < 0 then -(qq : Int) else (qq : Int)) = V.int (qq : Nat) := by rw [if_neg (by omega)]
  refine ⟨_, rfl, _, rfl, _, rfl, a, CW, dx, fs, _, rfl, h1, cl_, n_pr, h3, qq, d, by rw [ea]; rfl, by omega, fun r hr => ⟨rfl, ?_⟩⟩
  rcases hr with ⟨z, _⟩ | ⟨_, hr⟩
  · omega
  · have e : decide (V.int (r : Nat) = V.int 1) = invW qq d := (decide_eq_decide.mpr ⟨fun z => by
      have := V.int.inj z
      omega, fun z => by rw [z]; rfl⟩).trans (invW_of q1 hr)
    show Q (.bl (decide (V.int (r : Nat) = V.int 1))) H
    rw [e]
    exact q _ (Same.refl _)
theorem ok_ring_inv (F : FnM K C "has_inverse" "Ring.has_inverse" s_Ring_has_inverse ["self", "q"]) (R : ClsF K C) (B : Blt mg) (clW : Cls K CW) (G_common : HasR P w K mg base 1 "common" spCommon2) (M_W_inv : HasM P w K mg base 2 CW "has_inverse" ["self", "q"] (spInvW CR CW)) : HasM P w K mg base 4 C "has_inverse" ["self", "q"] (spInv CR CW C) := by
  obtain ⟨f, fd, F, M, b⟩ := F.ex
  refine ⟨f, fd, F.ok sc_Ring_has_inverse (fun vs H Q E h => ?_) (fun cdv A outer s H vs Q E hr h => ?_), M, b⟩
  · obtain ⟨a, dx, fs, o, q, rfl, _⟩ := h
    rfl
  obtain ⟨a, dx, fs, o, qq, rfl, h1, h2, q1, q2, h⟩ := h
  have cl_ := R.cl
  refine ⟨_, (pss_cons (ps_if (pt_cmpR op_ne (L2.pe_fld (pv 0) rfl) pe_int (nomark _))
        (pss_one (ps_ret (pe_cmpR op_eq (pe_ownR G_common (hr.mono (by decide)) (by rfl) (pa_cons (pv 1) (pa_cons (L2.pe_fld (pv 0) rfl) pa_nil))) pe_int (nomark _))))
        pss_nil)
      (pss_one (ps_ret (pe_callB (cr_all rfl) (by rfl) B.all bb_all (pa_cons (pe_lc (own := [("base", 2)]) (g := gName 2) (tt := tYes) (by rfl) sc_Ring_has_inverse.nd (pi_tup (L2.pe_fld (pv 0) rfl)) (blkOk_by (own := [("base", 2)]) (N := N_Ring_has_inverse) (sc := defScope s_Ring_has_inverse) (by decide +kernel)) (fun _ _ _ _ _ => (pg_name (i := 2) sc_Ring_has_inverse.nd rfl (Or.inl rfl))) (fun _ _ _ _ _ => pts_nil) (fun _ _ _ _ _ => (pe_ownM clW M_W_inv (hr.mono (by decide)) (pv 2) (pa_cons (pv 1) pa_nil)))) pa_nil))))), ?_⟩
  refine ⟨_, rfl, a, C, dx, fs, _, rfl, h1, cl_, R.n_ones, h2, rfl, _, rfl, ?_⟩
  rcases h with ⟨o0, ol, q⟩ | ⟨rfl, B, xs, d, e1, e2, xn, xl, hx, q⟩
  · refine ite_of (by simp; omega) ⟨_, rfl, _, rfl, a, C, dx, fs, _, rfl, h1, cl_, R.n_ones, h2, (qq : Int), (o : Int), rfl, fun H1 s1 => ?_⟩
    have e : decide (V.int (gcdI (qq : Int) (o : Int)) = V.int 1) = decide (Nat.gcd qq o = 1) := by
      rw [gcdN]
      exact decide_eq_decide.mpr ⟨fun z => by
        have := V.int.inj z
        omega, fun z => by rw [z]; rfl⟩
    refine ⟨rfl, ?_⟩
    show Q (.bl (decide (V.int (gcdI (qq : Int) (o : Int)) = V.int 1))) H1
    rw [e]
    exact q _ s1
  · refine ite_no (by simp) ?_
    refine ⟨_, rfl, a, C, dx, fs, _, rfl, h1, cl_, R.n_bases, e1, B, rfl, ⟨_, SqT.of e2⟩, fun D nD => ?_⟩
    refine lc_it (walk_tup (K := K) (xs := xs.map V.ref)) (fun i H' => Same H H' ∧ H' D = some (.lst ((List.replicate i (invW qq d)).map V.bl))) ⟨same_upd nD, upd_same⟩ (fun i H' _ e => SqT.of (e.1 _ _ e2)) ?_ ?_
    · rintro i v Ha Hb hi ⟨sa, eD⟩ ⟨rfl, hv⟩
      obtain ⟨x, hxi, rfl⟩ := at_map hv
      have hb := (hx x (List.mem_of_getElem? hxi)).same sa
      obtain ⟨hok, dy, gs, b1, b2, b3⟩ := id hb
      refine ⟨rfl, tYes_ok ⟨_, rfl, x, dy, gs, rfl, b1, b2.m2, _, rfl, x, d, qq, rfl, hb, q1, q2, fun H5 s5 => ⟨_, s5 _ _ eD, small1000 ?_, fun c o hc => ?_, ?_⟩⟩⟩
      · rw [List.length_map] at hi ⊢
        rw [List.length_replicate]
        omega
      · rw [upd_ne (ne_of_none hc nD)]
        exact s5 _ _ (sa _ _ hc)
      · rw [upd_same, List.replicate_succ', List.map_append]
        rfl
    · rintro H2 ⟨s2, eD⟩
      rw [List.length_map] at eD
      have e : (List.replicate xs.length (invW qq d)).all id = invW qq d := by
        cases xs with
        | nil => exact absurd rfl xn
        | cons y ys =>
          rw [List.length_cons, List.replicate_succ, List.all_cons]
          cases invW qq d with
          | false => rfl
          | true => simp
      refine ⟨D, _, rfl, SqL.of eD, ?_⟩
      rw [e]
      exact q _ s2
theorem ok_whole_init {f cc cda fR CE : Addr} {fd : FuncData} (S : SupX.SupFn P K f fd "__init__" "Whole.__init__" s_Whole_init cc cda CW) (hms : mg "super" = none) (Ab : SupX.Above K CW CW fR) (RI : FnR P w K mg base (L2.CX P w) 7 fR (spRingInit CR CW CW SW)) (R : ClsF K CW) (n_pr : NoAttr K CW "_primes")
    (G_radical : HasX P w K mg base 3 "radical" ["number"] (spRadical CE)) : FnOk P w K mg base (L2.CX P w) 9 f fd ["self", "inverse"] (spWhole CR CW) := by
  have cl_ := R.cl
  refine SupX.fnS_of (pre := (defBody s_Whole_init).take 1) (k := 8) (f2 := fR) (ar := (((defArgs s_Whole_init).posonlyargs ++ (defArgs s_Whole_init).args).head?).get rfl) S sc_Whole_init rfl rfl (Or.inl rfl) rfl rfl hms (fun L => ⟨⟨_, rfl⟩, rfl, rfl, rfl, rfl⟩) (fun vs H Q E h => ?_) (fun A outer s H vs Q E hr h => ?_)
  · obtain ⟨p, dx, m, rfl, _⟩ := h
    rfl
  obtain ⟨p, dx, d, rfl, hp, d1, d2, q⟩ := h
  refine ⟨_, _, spRingInit CR CW CW SW, E0, (pss_one (ps_fld (pv 0) (pe_ownX G_radical (hr.mono (by decide)) (by rfl) (pa_cons (pv 1) pa_nil)) rfl)), RI.mono (by decide), passL, (pa_cons (pe_tup (pa_cons pe_str (pa_cons (L2.pe_fld (pv 0) rfl) pa_nil))) (pa_cons (pe_tup (pa_cons pe_int (pa_cons pe_int (pa_cons pe_int pa_nil)))) (pa_cons (pe_tup pa_nil) pa_nil))), ?_⟩
  have hp1 : (upd H p (.ins CW dx [("_primes", .int (radL d : Nat))])) p = some (.ins CW dx [("_primes", .int (radL d : Nat))]) := upd_same
  have k1 : Kp p H (upd H p (.ins CW dx [("_primes", .int (radL d : Nat))])) := Kp.upd
  refine ⟨_, rfl, .inl ⟨d, rfl, d1, d2, _, rfl, p, CW, dx, [], rfl, hp, R.cl, n_pr, by decide, ?_⟩⟩
  change SupX.tSup _ _ _ _ _ _ _ _ (upd H p (.ins CW dx [("_primes", .int (radL d : Nat))]))
  generalize upd H p (.ins CW dx [("_primes", .int (radL d : Nat))]) = H1 at hp1 k1 ⊢
  refine ⟨p, CW, dx, _, rfl, hp1, Ab, ?_⟩
  refine ⟨_, rfl, p, CW, dx, _, _, rfl, hp1, R.cl, n_pr, rfl, (by show 2 ≤ sizeLine; decide), fun t nt => ⟨(by show 3 ≤ sizeLine; decide), fun N nN => ⟨(by show 0 ≤ sizeLine; decide), fun Bq nB => ?_⟩⟩⟩
  have u1 := same_upd (o := .tup [V.str "whole", V.int (radL d : Nat)]) nt
  have u2 := same_upd (o := .tup [V.int 0, V.int 1, V.int 0]) nN
  have u3 := same_upd (o := .tup []) nB
  have s15 := u1.trans (u2.trans u3)
  have rp := radL_range d1 d2
  refine ⟨p, N, Bq, dx, _, 0, 1, 0, [], _, rfl, s15 _ _ hp1, trivial, u3 _ _ upd_same, upd_same, by decide, (fun x hx => by cases hx), rfl, (by show 1 ≤ 20; decide), fun H5 fs' k5 h5 oth f1 f2 f3 f4 f5 f6 l5 => ?_⟩
  refine q H5 ((k1.trans (Kp.of s15)).trans k5) ⟨rp, dx, fs', h5, ⟨f1, f2, f3, f4, f6, ?_, ?_, ?_, ?_⟩, ?_⟩
  · exact (oth ("_share" : Str) (by decide +kernel)).trans rfl
  · exact (oth ("has_inverse" : Str) (by decide +kernel)).trans rfl
  · exact (oth ("zero" : Str) (by decide +kernel)).trans rfl
  · exact (oth ("_has_rests" : Str) (by decide +kernel)).trans rfl
  · exact (oth ("_primes" : Str) (by decide +kernel)).trans rfl
end
end My
/-! Duals: four inits one above the other -/
namespace My
open PySem PySem.Spec PyProof.Rows L2
theorem HasM.mono {P : Program} {w : World} {K : PySem.W.Frag} {mg : Str → Option Value} {base : Heap} {j k : Nat} {C : Addr} {m : Str} {ps : List Str} {sp : Sp} (h : HasM P w K mg base j C m ps sp) (l : j ≤ k) : HasM P w K mg base k C m ps sp := by
  obtain ⟨f, fd, F, M, b⟩ := h.ex
  exact ⟨f, fd, F.mono l, M, b⟩
theorem HasM.imp {P : Program} {w : World} {K : PySem.W.Frag} {mg : Str → Option Value} {base : Heap} {j : Nat} {C : Addr} {m : Str} {ps : List Str} {sp sp' : Sp} (h : HasM P w K mg base j C m ps sp) (i : ∀ vs H Q E, sp' vs H Q E → sp vs H Q E) : HasM P w K mg base j C m ps sp' := by
  obtain ⟨f, fd, F, M, b⟩ := h.ex
  exact ⟨f, fd, F.imp i, M, b⟩
section
variable {X : Cx} {k : Nat} {x : Str} {sp : Sp} {p pos : Pos} {e : Expr} {es : List Expr} {t : TA}
theorem pe_ownRX (h : HasRX X.prog X.w X.K X.mg X.base k x sp) (hr : Room k X.A) (hg : Gl X x) (ha : PA X (e :: es) t) (hdb : (x == ("__debug__" : Str)) = false := by decide)
    (he : starEach (e :: es) X.env = (false, eval e X.env) :: starEach es X.env := by rfl) (hpl : (backTo pos (starEach es X.env)).any (·.1) = false := by rfl) : PE X (.Call (.Name x p) (e :: es) [] pos) (fun σ H Q => t σ H fun vs H1 => sp vs H1 Q E0) := by
  obtain ⟨f, F, m, kp⟩ := h.ex
  constructor
  intro pins s σ H Q I h
  apply wpAny_Call_Name_kw (ld_glob I hg m ?_ hdb)
  apply PySem.W.callWith_K (h₀ := X.base) I.ok.mod.kin kp _ he hpl
  apply thn (ha.run pos pins s σ H _ I h)
  rintro us s1 ⟨vs, H1, I1, r, q⟩
  exact ⟨I1.kIn, wpAny_call (run_fnR F hr passL I1 r q)⟩
end
/-- instances of C are instances of CG -/
structure BTy (K : PySem.W.Frag) (C CG : Addr) : Prop where
  cl : Cls K C
  ha : PySem.W.findIn K (.ref C) "__class__" = some (some (.builtin "object.__class__"))
  hn : PySem.W.specialIn K (.builtin "object.__class__") "__get__" = some (some (.builtin "getset_descriptor.__get__"))
  htk : PySem.W.takesIn K (.builtin "object.__class__") = some true
  hm : PySem.W.mroIn K C (.type "object") = some true
  kg : PySem.W.kitOne K (.ref C) (.ref CG) = some true
theorem BTy.ty {K : PySem.W.Frag} {C CG : Addr} (T : BTy K C CG) {H : Hp} {a dx : Addr} {fs : List (Str × V)} (e : H a = some (.ins C dx fs)) : TyX K H (.ref a) (.ref C) := .base (.ins e T.cl T.ha T.hn T.htk T.hm)
theorem base_ty {K : PySem.W.Frag} {CR CW CG : Addr} (TR : BTy K CR CG) (TW : BTy K CW CG) {H : Hp} {x : Addr} {b : BD} (h : BaseAt CR CW H x b) : ∃ t, TyX K H (.ref x) t ∧ PySem.W.kitOne K t (.ref CG) = some true := by
  obtain ⟨_, dx, fs, h1, _⟩ := h
  cases b with
  | rests m => exact ⟨_, TR.ty h1, TR.kg⟩
  | whole d => exact ⟨_, TW.ty h1, TW.kg⟩
def SD (CR CW : Addr) (H : Hp) (p dx : Addr) (fs : List (Str × V)) : Prop := ∃ (B M x : Addr) (b : BD), fs.lookup ("_slots" : Str) = some (.ref B) ∧ H B = some (.tup [.ref x, .ref x]) ∧ fs.lookup ("_marks" : Str) = some (.ref M) ∧ H M = some (.tup [.int 1, .int 0]) ∧ x ≠ p ∧ BaseAt CR CW H x b
theorem shD (CR CW C : Addr) : ShP C (SD CR CW) := ⟨fun hp ⟨B, M, x, b, h1, h2, h3, h4, h5, h6⟩ hg => by
    exact ⟨B, M, x, b, (lko (by decide +kernel) hg).trans h1, Kp.upd _ _ (ne_of h2 hp (by intro q; cases q)) h2, (lko (by decide +kernel) hg).trans h3, Kp.upd _ _ (ne_of h4 hp (by intro q; cases q)) h4, h5, h6.kp Kp.upd h5⟩,
  fun ⟨B, M, x, b, h1, h2, h3, h4, h5, h6⟩ s => ⟨B, M, x, b, h1, s _ _ h2, h3, s _ _ h4, h5, h6.same s⟩⟩
theorem sc_Duals_init : SupX.SupScope N_Duals_init ["self", "base"] (defScope s_Duals_init) := ⟨rfl, rfl, rfl, by decide +kernel, rfl, by decide +kernel, by decide +kernel, rfl, by decide +kernel, rfl⟩
theorem sc_Extended_init : SupX.SupScope N_Extended_init ["self", "parts", "square", "base"] (defScope s_Extended_init) := ⟨rfl, rfl, rfl, by decide +kernel, rfl, by decide +kernel, by decide +kernel, rfl, by decide +kernel, rfl⟩
theorem sc_Slotwise_init : SupX.SupScope N_Slotwise_init ["self", "parts", "numbers", "slots", "marks"] (defScope s_Slotwise_init) := ⟨rfl, rfl, rfl, by decide +kernel, rfl, by decide +kernel, by decide +kernel, rfl, by decide +kernel, rfl⟩
def spChk (CR CW : Addr) : Sp := fun vs H Q _ => ∃ (x : Addr) (b : BD), vs = [.ref x] ∧ BaseAt CR CW H x b ∧ ∀ H', Same H H' → Q .non H'
/-- what is there behind Slotwise.__init__ -/
def slotF : List Str := "_slots" :: "_marks" :: ringF
def Aft (CD p Bq : Addr) (fs : List (Str × V)) (a b c : Nat) (H : Hp) (Q : VK) : Prop := ∀ (H' : Hp) (dx : Addr) (fs' : List (Str × V)), Kp p H H' → H' p = some (.ins CD dx fs') → (∀ g, g ∉ slotF → fs'.lookup g = fs.lookup g) → fs'.lookup ("_ones" : Str) = some (.int (a : Nat)) → fs'.lookup ("_swaps" : Str) = some (.int (b : Nat)) → fs'.lookup ("_squares" : Str) = some (.int (c : Nat)) →
  fs'.lookup ("_depth" : Str) = some (.int 2) → fs'.lookup ("_bases" : Str) = some (.ref Bq) → (∃ z, fs'.lookup ("_zero" : Str) = some z) → Q .non H'
def spSlot (CR CW CD : Addr) : Sp := fun vs H Q _ => ∃ (p N B M dx x : Addr) (parts : V) (a b c : Nat) (bd : BD) (fs : List (Str × V)), vs = [.ref p, parts, .ref N, .ref B, .ref M] ∧ H p = some (.ins CD dx fs) ∧ H N = some (.tup [.int (a : Nat), .int (b : Nat), .int (c : Nat)]) ∧ H B = some (.tup [.ref x, .ref x]) ∧ H M = some (.tup [.int 1, .int 0]) ∧
  x ≠ p ∧ BaseAt CR CW H x bd ∧ fs.lookup ("_share" : Str) = none ∧ fs.length ≤ 10 ∧ Aft CD p B fs a b c H Q
def spExt (CR CW CD : Addr) : Sp := fun vs H Q _ => ∃ (p dx x : Addr) (parts : V) (sq : Int) (bd : BD), vs = [.ref p, parts, .int sq, .ref x] ∧ H p = some (.ins CD dx []) ∧ x ≠ p ∧ BaseAt CR CW H x bd ∧ ∀ H' dx' fs' B, Kp p H H' → H' p = some (.ins CD dx' fs') → Flds fs' bd.o 1 bd.o 2 → fs'.lookup ("_bases" : Str) = some (.ref B) → H' B = some (.tup [.ref x, .ref x]) → Q .non H'
def spDuals (CR CW CD CT : Addr) : Sp := fun vs H Q _ => ∃ (p dx x : Addr) (bd : BD), vs = [.ref p, .ref x] ∧ H p = some (.ins CD dx []) ∧ x ≠ p ∧ BaseAt CR CW H x bd ∧ ∀ H', Kp p H H' → RingAt CR CW CD CT H' p (.duals bd) → Q .non H'
section
variable {P : Program} {w : World} {K : PySem.W.Frag} {mg : Str → Option Value} {base : Heap} {CR CW CD CT CG : Addr}
theorem ok_check_bases {CE fI xI dI CE2 f2 x2 d2 : Addr} {mc u : Value} (F : ∃ (f : Addr) (fd : FuncData), Fun K "check_bases" "check_bases" s_check_bases f fd ∧ mg "check_bases" = some (.ref f)) (B : Blt mg) (TR : BTy K CR CG) (TW : BTy K CW CG) (gC_Ring : mg "Ring" = some (.ref CG)) (rdG : ClX.CRead K CG mc) (cv : ClX.CVal K CG mc "MOST_DEPTH" (.int 4) u)
    (E_InvalidRing : ErrX.ErrTxt P K mg "InvalidRing" "given" "InvalidRing" CE fI xI dI) (E_TooMany : ErrX.ErrTxt P K mg "TooMany" "most" "TooMany" CE2 f2 x2 d2) (G_depth_over : Has P w K mg base 3 "depth_over" ["bases"] (spDepth CR CW)) : HasRX P w K mg base 5 "check_bases" (spChk CR CW) := by
  obtain ⟨f, R', m, kp⟩ := (star_has (P := P) (w := w) (base := base) (k := 4) (sp := fun vs H Q E => ∃ (t x : Addr) (b : BD), vs = [.ref t] ∧ H t = some (.tup [.ref x]) ∧ BaseAt CR CW H x b ∧ ∀ H', Same H H' → Q .non H') (pv := "bases") F sc_check_bases (fun rest kV doc pm cdv ct an => match rest with | [] => rfl | _ :: _ => rfl) (fun f cdv A outer s H vs Q E hr h => by
    obtain ⟨t, x, b, rfl, ht, hb, q⟩ := h
    have TK : Takes (cxOf (L2.CX P w) P w K mg base N_check_bases "check_bases" (defScope s_check_bases) f cdv A outer s H E) (fun cls d _ H => E cls d H) := takes_of rfl rfl rfl rfl
    refine ⟨_, (pss_cons (ps_for (passes_of rfl) rfl (pi_tup (pv 0)) (pg_name (i := 1) sc_check_bases.nd rfl (Or.inl rfl))
        (pss_one (ps_if (pt_not (pt_val (pe_callB call_isi (by rfl) B.isinstance bb_isinstance (pa_cons (pv 1) (pa_cons (pe_gref gC_Ring (by rfl)) pa_nil)))))
        (pss_one (ps_raise rfl TK (pmk_err E_InvalidRing hr (pa_cons (pv 1) pa_nil) (by rfl))))
        pss_nil)))
      (pss_one (ps_if (pt_cmpR op_gt (pe_own G_depth_over (hr.mono (by decide)) (by rfl) (pa_cons (pv 0) pa_nil)) (ClX.pe_cval (pe_gref gC_Ring (by rfl))) (nomark _))
        (pss_one (ps_raise rfl TK (pmk_err E_TooMany hr (pa_cons (ClX.pe_cval (pe_gref gC_Ring (by rfl))) pa_nil) (by rfl))))
        pss_nil))), ?_⟩
    refine ⟨_, rfl, t, rfl, ⟨_, SqT.of ht⟩, for_tup (xs := [.ref x]) (fun i σ H' => Same H H' ∧ ∃ y, σ = [some (.ref t), y]) ⟨Same.refl _, _, rfl⟩ (fun i σ H' _ e => SqT.of (e.1 _ _ ht)) ?_ ?_⟩
    · rintro i v σ H1 hv ⟨s1, y, rfl⟩
      obtain rfl : v = V.ref x := by
        match i, hv with
        | 0, hv => exact (Option.some.inj hv).symm
        | i + 1, hv => cases hv
      obtain ⟨tt, ty, kt⟩ := base_ty TR TW (hb.same s1)
      exact ⟨_, rfl, .ref x, .ref CG, tt, .ref CG, true, rfl, .own CG, ty, kt, _, rfl, iteF ⟨s1, _, rfl⟩⟩
    · rintro σ H1 ⟨s1, y, rfl⟩
      refine ⟨_, rfl, t, [x], rfl, s1 _ _ ht, (by show 1 ≤ 10; decide), fun z hz => ⟨b, by rw [List.mem_singleton.mp hz]; exact hb.same s1⟩, fun H2 s2 => ⟨CG, mc, .int 4, u, rfl, rdG, cv, _, _, rfl, rfl, _, rfl, ite_no (by rw [if_neg (by simp)]; decide) (q _ (s1.trans s2))⟩⟩)).ex
  refine ⟨f, R'.imp fun vs H Q E h => ?_, m, kp⟩
  obtain ⟨x, b, rfl, hb, q⟩ := h
  exact ⟨by show 1 ≤ sizeLine; decide, fun p hp => ⟨p, x, b, rfl, upd_same, hb.same (same_upd hp), fun H' s' => q H' ((same_upd hp).trans s')⟩⟩
theorem ok_slot_share (F : FnM K CD "_share" "Slotwise._share" s_Slotwise__share ["self", "p", "q"]) (R : ClsF K CD) (n_sl : NoAttr K CD "_slots") (n_ma : NoAttr K CD "_marks") (B : Blt mg) (clR : Cls K CR) (clW : Cls K CW) (M_R_share : HasM P w K mg base 3 CR "_share" ["self", "p", "q"] (spSh CR SR)) (M_W_share : HasM P w K mg base 3 CW "_share" ["self", "p", "q"] (spSh CW SW)) :
    HasM P w K mg base 6 CD "_share" ["self", "p", "q"] (spSh CD (SD CR CW)) := by
  obtain ⟨f, fd, F, M, b⟩ := F.ex
  refine ⟨f, fd, F.ok sc_Slotwise__share (fun vs H Q E h => ?_) (fun cdv A outer s H vs Q E hr h => ?_), M, b⟩
  · obtain ⟨p, dx, fs, a, rfl, _⟩ := h
    rfl
  obtain ⟨p, dx, fs, a, rfl, a1, h1, ⟨B2, M2, x, bd, e1, e2, e3, e4, xp, hb⟩, q⟩ := h
  have cl_ := R.cl
  refine ⟨_, (pss_one (ps_ret (pe_callTy call_tuple_of (by rfl) B.tuple bb_tuple (pa_cons (pe_lc (own := [("slot", 3), ("mark", 4)]) (g := gTup K 2 (gCons (gName 3) (gCons (gName 4) gNil))) (tt := tYes) (by rfl) sc_Slotwise__share.nd (RZ.pi_zipA (by rfl) B.zip (pa_cons (L2.pe_fld (pv 0) rfl) (pa_cons (L2.pe_fld (pv 0) rfl) pa_nil))) (blkOk_by (own := [("slot", 3), ("mark", 4)]) (N := N_Slotwise__share) (sc := defScope s_Slotwise__share) (by decide +kernel)) (fun _ _ _ _ _ => (pg_tup rfl (pgs_cons (pg_name (i := 3) sc_Slotwise__share.nd rfl (Or.inl rfl)) (pgs_cons (pg_name (i := 4) sc_Slotwise__share.nd rfl (Or.inl rfl)) pgs_nil)))) (fun _ _ _ _ _ => pts_nil) (fun _ _ _ _ _ => (pe_or (pe_ownM clR M_R_share (hr.mono (by decide)) (pv 3) (pa_cons (pe_op op_mul (pv 1) (pv 4)) (pa_cons (pv 2) pa_nil))) (pe_ownM clW M_W_share (hr.mono (by decide)) (pv 3) (pa_cons (pe_op op_mul (pv 1) (pv 4)) (pa_cons (pv 2) pa_nil)))))) pa_nil)))), ?_⟩
  refine ⟨_, rfl, p, CD, dx, fs, _, rfl, h1, cl_, n_sl, e1, _, rfl, p, CD, dx, fs, _, rfl, h1, cl_, n_ma, e3, B2, M2, [.ref x, .ref x], [.int 1, .int 0], rfl, .inr ⟨SqT.of e2, SqT.of e4, fun D nD => ?_⟩⟩
  refine lc_it (walk_zipT (K := K) (xs := [.ref x, .ref x]) (ys := [.int 1, .int 0]) (n := 2) rfl) (fun i H' => Same H H' ∧ ∃ acc, H' D = some (.lst acc) ∧ acc.length = i) ⟨same_upd nD, [], upd_same, rfl⟩ (fun i H' _ e => ⟨SqT.of (e.1 _ _ e2), SqT.of (e.1 _ _ e4)⟩) ?_ ?_
  · rintro i v Ha Hb hi ⟨sa, acc, eD, la⟩ ⟨U, y, z, rfl, hU, rfl, hy, hz⟩
    have sU := same_upd (o := .tup [y, z]) hU
    obtain ⟨rfl, c, rfl, cv⟩ : y = V.ref x ∧ ∃ c : Nat, z = V.int (c : Nat) ∧ c ≤ 1 := by
      match i, hi, hy, hz with
      | 0, _, hy, hz => exact ⟨(Option.some.inj hy).symm, 1, (Option.some.inj hz).symm, by decide⟩
      | 1, _, hy, hz => exact ⟨(Option.some.inj hy).symm, 0, (Option.some.inj hz).symm, by decide⟩
    have sb := sa.trans sU
    obtain ⟨hok, dy, gs, b1, b2, b3⟩ := id (hb.same sb)
    have em : (a : Int) * (c : Int) = ((a * c : Nat) : Int) := (Int.natCast_mul _ _).symm
    have ac : a * c ≤ 1 := by
      have := Nat.mul_le_mul a1 cv
      omega
    have fin : ∀ (v : V) (H5 : Hp), Same (upd Ha U (.tup [V.ref x, V.int (c : Nat)])) H5 → ∃ acc, H5 D = some (.lst acc) ∧ acc.length < sizeLine ∧ Same H (upd H5 D (.lst (acc ++ [v]))) ∧ ∃ acc2, (upd H5 D (.lst (acc ++ [v]))) D = some (.lst acc2) ∧ acc2.length = i + 1 := fun v H5 s5 => by
      refine ⟨acc, s5 _ _ (sU _ _ eD), small1000 (by omega), fun k o hk => ?_, _, upd_same, by rw [List.length_append, la]; rfl⟩
      rw [upd_ne (ne_of_none hk nD)]
      exact s5 _ _ (sb _ _ hk)
    refine ⟨U, [.ref x, .int (c : Nat)], rfl, SqT.of upd_same, rfl, _, _, rfl, _, _, rfl, rfl, rfl, tYes_ok ?_⟩
    cases bd with
    | rests m => exact .inl ⟨_, rfl, x, dy, gs, rfl, b1, b2.m1, _, rfl, _, rfl, _, _, rfl, rfl, .inl ⟨by omega, by omega⟩, _, rfl, x, dy, gs, a * c, by show [V.ref x, V.int ((a : Int) * (c : Int)), V.int 1] = _; rw [em], ac, b1, ⟨m, hok.1, hok.2, b3⟩, fin⟩
    | whole d => exact .inr ⟨_, rfl, x, dy, gs, rfl, b1, b2.m1, _, rfl, _, rfl, _, _, rfl, rfl, .inl ⟨by omega, by omega⟩, _, rfl, x, dy, gs, a * c, by show [V.ref x, V.int ((a : Int) * (c : Int)), V.int 1] = _; rw [em], ac, b1, trivial, fin⟩
  · rintro H2 ⟨s2, acc, eD, la⟩
    exact ⟨D, acc, rfl, .inl ⟨SqL.of eD, fun l nl => q _ _ (s2.trans (same_upd nl))⟩⟩
end
end My
/-! Duals: the inits -/
namespace My
open PySem PySem.Spec PyProof.Rows L2
/-- a field of a base by its property -/
theorem or_fld {CR CW : Addr} {f : Str} {i : Nat} {σ : L2.St} {H : Hp} {Q : VK} {x : Addr} {b : BD} {v : V} (hi : σ[i]? = some (some (.ref x))) (hb : BaseAt CR CW H x b) (hf : ∀ fs, Flds fs b.o 1 b.q 1 → fs.lookup f = some v) (q : Q v H) :
    tOr (tProp CR (spFld CR f) [] E0 (tVar i)) (tProp CW (spFld CW f) [] E0 (tVar i)) σ H Q := by
  obtain ⟨hok, dx, fs, h1, h2, h3⟩ := hb
  cases b with
  | rests m => exact .inl ⟨_, hi, x, dx, fs, rfl, h1, x, dx, fs, v, rfl, h1, hf _ h2, q⟩
  | whole d => exact .inr ⟨_, hi, x, dx, fs, rfl, h1, x, dx, fs, v, rfl, h1, hf _ h2, q⟩
section
variable {P : Program} {w : World} {K : PySem.W.Frag} {mg : Str → Option Value} {base : Heap} {CR CW CD CT CSl CEx : Addr}
theorem ok_slot_init {f cc cda fR : Addr} {fd : FuncData} (S : SupX.SupFn P K f fd "__init__" "Slotwise.__init__" s_Slotwise_init cc cda CSl) (hms : mg "super" = none) (Ab : SupX.Above K CD CSl fR) (RI : FnR P w K mg base (L2.CX P w) 7 fR (spRingInit CR CW CD (SD CR CW))) (R : ClsF K CD) (n_sl : NoAttr K CD "_slots") (n_ma : NoAttr K CD "_marks") :
    FnOk P w K mg base (L2.CX P w) 8 f fd ["self", "parts", "numbers", "slots", "marks"] (spSlot CR CW CD) := by
  have cl_ := R.cl
  refine SupX.fnS_of (pre := (defBody s_Slotwise_init).take 2) (k := 7) (f2 := fR) (ar := (((defArgs s_Slotwise_init).posonlyargs ++ (defArgs s_Slotwise_init).args).head?).get rfl) S sc_Slotwise_init rfl rfl (Or.inl rfl) rfl rfl hms (fun L => ⟨⟨_, rfl⟩, rfl, rfl, rfl, rfl⟩) (fun vs H Q E h => ?_) (fun A outer s H vs Q E hr h => ?_)
  · obtain ⟨p, N, B, M, dx, x, parts, a, b, c, bd, fs, rfl, _⟩ := h
    rfl
  obtain ⟨p, N, B, M, dx, x, parts, a, b, c, bd, fs, rfl, hp, hN, hB, hM, xp, hb, ns, lf, q⟩ := h
  refine ⟨_, _, spRingInit CR CW CD (SD CR CW), E0, (pss_cons (ps_fld (pv 0) (pv 3) rfl)
      (pss_one (ps_fld (pv 0) (pv 4) rfl))), RI.mono (by decide), passL, (pa_cons (pv 1) (pa_cons (pv 2) (pa_cons (pv 3) pa_nil))), ?_⟩
  have Np : N ≠ p := ne_of hN hp (by intro q; cases q)
  have Bp : B ≠ p := ne_of hB hp (by intro q; cases q)
  have Mp : M ≠ p := ne_of hM hp (by intro q; cases q)
  have l1 := length_putF ("_slots" : Str) (.ref B) fs
  have l2 := length_putF ("_marks" : Str) (.ref M) (putF ("_slots" : Str) (.ref B) fs)
  refine ⟨_, rfl, _, rfl, p, CD, dx, fs, rfl, hp, cl_, n_sl, by omega, ?_⟩
  refine ⟨_, rfl, _, rfl, p, CD, dx, _, rfl, upd_same, cl_, n_ma, by omega, ?_⟩
  have k2 : Kp p H (upd (upd H p (.ins CD dx (putF ("_slots" : Str) (.ref B) fs))) p (.ins CD dx (putF ("_marks" : Str) (.ref M) (putF ("_slots" : Str) (.ref B) fs)))) := Kp.upd.trans Kp.upd
  have hp2 : (upd (upd H p (.ins CD dx (putF ("_slots" : Str) (.ref B) fs))) p (.ins CD dx (putF ("_marks" : Str) (.ref M) (putF ("_slots" : Str) (.ref B) fs)))) p = some (.ins CD dx (putF ("_marks" : Str) (.ref M) (putF ("_slots" : Str) (.ref B) fs))) := upd_same
  change SupX.tSup _ _ _ _ _ _ _ _ (upd (upd H p (.ins CD dx (putF ("_slots" : Str) (.ref B) fs))) p (.ins CD dx (putF ("_marks" : Str) (.ref M) (putF ("_slots" : Str) (.ref B) fs))))
  generalize upd (upd H p (.ins CD dx (putF ("_slots" : Str) (.ref B) fs))) p (.ins CD dx (putF ("_marks" : Str) (.ref M) (putF ("_slots" : Str) (.ref B) fs))) = H2 at k2 hp2 ⊢
  generalize hF : putF ("_marks" : Str) (.ref M) (putF ("_slots" : Str) (.ref B) fs) = F2 at hp2 l2 ⊢
  have go : ∀ g, g ≠ ("_slots" : Str) → g ≠ ("_marks" : Str) → F2.lookup g = fs.lookup g := fun g h1 h2 => by
    rw [← hF, lkn h2, lkn h1]
  have f1 : F2.lookup ("_slots" : Str) = some (.ref B) := by
    rw [← hF, lkn (by decide +kernel)]
    exact lks
  have f2 : F2.lookup ("_marks" : Str) = some (.ref M) := by
    rw [← hF]
    exact lks
  refine ⟨p, CD, dx, _, rfl, hp2, Ab, ?_⟩
  refine ⟨_, rfl, _, rfl, _, rfl, p, N, B, dx, _, a, b, c, [x, x], F2, rfl, hp2, ⟨B, M, x, bd, f1, k2 _ _ Bp hB, f2, k2 _ _ Mp hM, xp, hb.kp k2 xp⟩, k2 _ _ Np hN, k2 _ _ Bp hB, (by show 2 ≤ 10; decide), fun y hy => ?_, (go _ (by decide +kernel) (by decide +kernel)).trans ns, by omega, fun H5 fs' k5 h5 oth g1 g2 g3 g4 g5 g6 l5 => ?_⟩
  · have : y = x := by simpa using hy
    rw [this]
    exact ⟨xp, bd, hb.kp k2 xp⟩
  · refine q H5 dx fs' (k2.trans k5) h5 (fun g hg => ?_) g1 g2 g3 (by rw [if_neg (by simp)] at g4; exact g4) g5 g6
    have hg2 : g ∉ ringF := fun h => hg (List.mem_cons_of_mem _ (List.mem_cons_of_mem _ h))
    rw [oth g hg2]
    exact go g (fun e => hg (by rw [e]; exact List.mem_cons_self)) (fun e => hg (by rw [e]; exact List.mem_cons_of_mem _ List.mem_cons_self))
theorem ok_ext_init {f cc cda fS : Addr} {fd : FuncData} (S : SupX.SupFn P K f fd "__init__" "Extended.__init__" s_Extended_init cc cda CEx) (hms : mg "super" = none) (Ab : SupX.Above K CD CEx fS) (RI : FnR P w K mg base (L2.CX P w) 8 fS (spSlot CR CW CD)) (R : ClsF K CD) (n_sq : NoAttr K CD "_square") (n_ba : NoAttr K CD "_base")
    (clR : Cls K CR) (clW : Cls K CW) (PR_R_ones : HasPr P w K mg base CR "ones" (spFld CR "_ones")) (PR_W_ones : HasPr P w K mg base CW "ones" (spFld CW "_ones")) (PR_R_swaps : HasPr P w K mg base CR "swaps" (spFld CR "_swaps")) (PR_W_swaps : HasPr P w K mg base CW "swaps" (spFld CW "_swaps")) :
    FnOk P w K mg base (L2.CX P w) 9 f fd ["self", "parts", "square", "base"] (spExt CR CW CD) := by
  have cl_ := R.cl
  refine SupX.fnS_of (pre := (defBody s_Extended_init).take 2) (k := 8) (f2 := fS) (ar := (((defArgs s_Extended_init).posonlyargs ++ (defArgs s_Extended_init).args).head?).get rfl) S sc_Extended_init rfl rfl (Or.inl rfl) rfl rfl hms (fun L => ⟨⟨_, rfl⟩, rfl, rfl, rfl, rfl⟩) (fun vs H Q E h => ?_) (fun A outer s H vs Q E hr h => ?_)
  · obtain ⟨p, dx, x, parts, sq, bd, rfl, _⟩ := h
    rfl
  obtain ⟨p, dx, x, parts, sq, bd, rfl, hp, xp, hb, q⟩ := h
  refine ⟨_, _, spSlot CR CW CD, E0, (pss_cons (ps_fld (pv 0) (pv 2) rfl)
      (pss_one (ps_fld (pv 0) (pv 3) rfl))), RI.mono (by decide), passL, (pa_cons (pv 1) (pa_cons (pe_tup (pa_cons (pe_or (pe_pr clR PR_R_ones (hr.mono (by decide)) (pv 3) rfl) (pe_pr clW PR_W_ones (hr.mono (by decide)) (pv 3) rfl)) (pa_cons (pe_or (pe_pr clR PR_R_swaps (hr.mono (by decide)) (pv 3) rfl) (pe_pr clW PR_W_swaps (hr.mono (by decide)) (pv 3) rfl)) (pa_cons (pe_or (pe_pr clR PR_R_ones (hr.mono (by decide)) (pv 3) rfl) (pe_pr clW PR_W_ones (hr.mono (by decide)) (pv 3) rfl)) pa_nil)))) (pa_cons (pe_tup (pa_cons (pv 3) (pa_cons (pv 3) pa_nil))) (pa_cons (pe_tup (pa_cons pe_int (pa_cons pe_int pa_nil))) pa_nil)))), ?_⟩
  refine ⟨_, rfl, _, rfl, p, CD, dx, [], rfl, hp, cl_, n_sq, by decide, ?_⟩
  refine ⟨_, rfl, _, rfl, p, CD, dx, _, rfl, upd_same, cl_, n_ba, (by show 1 < 1000; decide), ?_⟩
  have k2 : Kp p H (upd (upd H p (.ins CD dx [("_square", .int sq)])) p (.ins CD dx [("_square", .int sq), ("_base", .ref x)])) := Kp.upd.trans Kp.upd
  have hp2 : (upd (upd H p (.ins CD dx [("_square", .int sq)])) p (.ins CD dx [("_square", .int sq), ("_base", .ref x)])) p = some (.ins CD dx [("_square", .int sq), ("_base", .ref x)]) := upd_same
  change SupX.tSup _ _ _ _ _ _ _ _ (upd (upd H p (.ins CD dx [("_square", .int sq)])) p (.ins CD dx [("_square", .int sq), ("_base", .ref x)]))
  generalize upd (upd H p (.ins CD dx [("_square", .int sq)])) p (.ins CD dx [("_square", .int sq), ("_base", .ref x)]) = H2 at k2 hp2 ⊢
  have hb2 := hb.kp k2 xp
  refine ⟨p, CD, dx, _, rfl, hp2, Ab, ?_⟩
  refine ⟨_, rfl, or_fld rfl hb2 (fun fs F => F.ones) (or_fld rfl hb2 (fun fs F => F.swaps) (or_fld rfl hb2 (fun fs F => F.ones) ?_))⟩
  refine ⟨(by show 3 ≤ sizeLine; decide), fun N nN => ⟨_, rfl, _, rfl, (by show 2 ≤ sizeLine; decide), fun B nB => ⟨(by show 2 ≤ sizeLine; decide), fun M nM => ?_⟩⟩⟩
  have u1 := same_upd (o := .tup [V.int (bd.o : Nat), V.int 1, V.int (bd.o : Nat)]) nN
  have u2 := same_upd (o := .tup [V.ref x, V.ref x]) nB
  have u3 := same_upd (o := .tup [V.int 1, V.int 0]) nM
  have s3 := u1.trans (u2.trans u3)
  refine ⟨p, N, B, M, dx, x, _, bd.o, 1, bd.o, bd, _, rfl, s3 _ _ hp2, u3 _ _ (u2 _ _ upd_same), u3 _ _ upd_same, upd_same, xp, hb2.same s3, rfl, (by show 2 ≤ 10; decide), fun H5 dx' fs' k5 h5 oth g1 g2 g3 g4 g5 g6 => ?_⟩
  have Bp : B ≠ p := fun e => by
    rw [e] at nB
    exact absurd (nB.symm.trans (u1 _ _ hp2)) (by intro z; cases z)
  refine q H5 dx' fs' B (k2.trans ((Kp.of s3).trans k5)) h5 ⟨g1, g2, g3, g4, g6, ?_, ?_, ?_, ?_⟩ g5 (k5 _ _ Bp (u3 _ _ upd_same))
  · exact (oth ("_share" : Str) (by decide +kernel)).trans rfl
  · exact (oth ("has_inverse" : Str) (by decide +kernel)).trans rfl
  · exact (oth ("zero" : Str) (by decide +kernel)).trans rfl
  · exact (oth ("_has_rests" : Str) (by decide +kernel)).trans rfl
theorem ok_duals_init {f cc cda fE : Addr} {fd : FuncData} (S : SupX.SupFn P K f fd "__init__" "Duals.__init__" s_Duals_init cc cda CD) (hms : mg "super" = none) (Ab : SupX.Above K CD CD fE) (RI : FnR P w K mg base (L2.CX P w) 9 fE (spExt CR CW CD)) (G_check_bases : HasRX P w K mg base 5 "check_bases" (spChk CR CW)) :
    FnOk P w K mg base (L2.CX P w) 10 f fd ["self", "base"] (spDuals CR CW CD CT) := by
  refine SupX.fnS_of (pre := (defBody s_Duals_init).take 1) (k := 9) (f2 := fE) (ar := (((defArgs s_Duals_init).posonlyargs ++ (defArgs s_Duals_init).args).head?).get rfl) S sc_Duals_init rfl rfl (Or.inl rfl) rfl rfl hms (fun L => ⟨⟨_, rfl⟩, rfl, rfl, rfl, rfl⟩) (fun vs H Q E h => ?_) (fun A outer s H vs Q E hr h => ?_)
  · obtain ⟨p, dx, x, bd, rfl, _⟩ := h
    rfl
  obtain ⟨p, dx, x, bd, rfl, hp, xp, hb, q⟩ := h
  refine ⟨_, _, spExt CR CW CD, E0, (pss_one (ps_expr (pe_ownRX G_check_bases (hr.mono (by decide)) (by rfl) (pa_cons (pv 1) pa_nil)))), RI.mono (by decide), passL, (pa_cons (pe_tup (pa_cons pe_str (pa_cons (pv 1) pa_nil))) (pa_cons pe_int (pa_cons (pv 1) pa_nil))), ?_⟩
  refine ⟨_, rfl, x, bd, rfl, hb, fun H1 s1 => ⟨p, CD, dx, _, rfl, s1 _ _ hp, Ab, ?_⟩⟩
  refine ⟨_, rfl, (by show 2 ≤ sizeLine; decide), fun t nt => ⟨_, rfl, ?_⟩⟩
  have u1 := same_upd (o := .tup [V.str "duals", V.ref x]) nt
  have s2 := s1.trans u1
  exact ⟨p, dx, x, _, 0, bd, rfl, s2 _ _ hp, xp, hb.same s2, fun H5 dx' fs' B k5 h5 F5 e5 hB => q H5 ((Kp.of s2).trans k5) ⟨dx', fs', B, x, h5, F5, e5, hB, (hb.same s2).kp k5 xp⟩⟩
end
end My
/-! Twists -/
namespace My
open PySem PySem.Spec PyProof.Rows L2
structure TxtP (mg : Str → Option Value) : Prop where
  m_MOST_PART : ∃ t, mg "MOST_PART" = some (.int 1000000 t)
def ST (CR CW : Addr) (H : Hp) (p dx : Addr) (fs : List (Str × V)) : Prop := ∃ (x : Addr) (b : BD), fs.lookup ("_base" : Str) = some (.ref x) ∧ x ≠ p ∧ BaseAt CR CW H x b
theorem shT (CR CW C : Addr) : ShP C (ST CR CW) := ⟨fun hp ⟨x, b, h1, h5, h6⟩ hg => ⟨x, b, (lko (by decide +kernel) hg).trans h1, h5, h6.kp Kp.upd h5⟩,
  fun ⟨x, b, h1, h5, h6⟩ s => ⟨x, b, h1, h5, h6.same s⟩⟩
theorem sc_Twists_init : SupX.SupScope N_Twists_init ["self", "part", "base"] (defScope s_Twists_init) := ⟨rfl, rfl, rfl, by decide +kernel, rfl, by decide +kernel, by decide +kernel, rfl, by decide +kernel, rfl⟩
def spHRr (CR CW : Addr) : Sp := fun vs H Q _ => ∃ (a : Addr) (m k : Nat), vs = [.ref a, .int (k : Nat)] ∧ BaseAt CR CW H a (.rests m) ∧ ∀ H', Same H H' → Q (.bl (BD.hr (.rests m) k)) H'
def spHRw (CR CW : Addr) : Sp := fun vs H Q _ => ∃ (a : Addr) (d k : Nat), vs = [.ref a, .int (k : Nat)] ∧ BaseAt CR CW H a (.whole d) ∧ ∀ H', Same H H' → Q (.bl (BD.hr (.whole d) k)) H'
theorem or_hr {CR CW : Addr} {i j : Nat} {σ : L2.St} {H : Hp} {Q : VK} {x : Addr} {b : BD} {k : Nat} (hi : σ[i]? = some (some (.ref x))) (hj : σ[j]? = some (some (.int (k : Nat)))) (hb : BaseAt CR CW H x b) (q : ∀ H', Same H H' → Q (.bl (b.hr k)) H') :
    tOr (tMeth CR "_has_rests" (spHRr CR CW) [] E0 (tVar i) (tCons (tVar j) tNil)) (tMeth CW "_has_rests" (spHRw CR CW) [] E0 (tVar i) (tCons (tVar j) tNil)) σ H Q := by
  obtain ⟨hok, dx, fs, h1, h2, h3⟩ := id hb
  cases b with
  | rests m => exact .inl ⟨_, hi, x, dx, fs, rfl, h1, h2.m4, _, hj, x, m, k, rfl, hb, q⟩
  | whole d => exact .inr ⟨_, hi, x, dx, fs, rfl, h1, h2.m4, _, hj, x, d, k, rfl, hb, q⟩
/-- isinstance(base, (Rests, Whole)) -/
structure BTw (K : PySem.W.Frag) (CR CW : Addr) : Prop where
  rr : PySem.W.kitOne K (.ref CR) (.ref CR) = some true
  wr : PySem.W.kitOne K (.ref CW) (.ref CR) = some false
  ww : PySem.W.kitOne K (.ref CW) (.ref CW) = some true
theorem base_kit {K : PySem.W.Frag} {CR CW CG : Addr} (TR : BTy K CR CG) (TW : BTy K CW CG) (T2 : BTw K CR CW) {H : Hp} {x : Addr} {b : BD} (h : BaseAt CR CW H x b) : ∃ t, TyX K H (.ref x) t ∧ PySem.W.kitAny K t [.ref CR, .ref CW] = some true := by
  obtain ⟨_, dx, fs, h1, _⟩ := h
  cases b with
  | rests m => exact ⟨_, TR.ty h1, kitAny_cons (b := true) T2.rr (fun z => by cases z) (fun _ => rfl)⟩
  | whole d => exact ⟨_, TW.ty h1, kitAny_cons (b := false) T2.wr (fun _ => kitAny_cons (b := true) T2.ww (fun z => by cases z) (fun _ => rfl)) (fun z => by cases z)⟩
def spTwists (CR CW CD CT : Addr) : Sp := fun vs H Q _ => ∃ (p dx x : Addr) (k : Nat) (bd : BD), vs = [.ref p, .int (k : Nat), .ref x] ∧ H p = some (.ins CT dx []) ∧ x ≠ p ∧ BaseAt CR CW H x bd ∧ 1 ≤ k ∧ k ≤ 1000 ∧ bd.hr k = true ∧ ∀ H', Kp p H H' → RingAt CR CW CD CT H' p (.twists k bd) → Q .non H'
section
variable {P : Program} {w : World} {K : PySem.W.Frag} {mg : Str → Option Value} {base : Heap} {CR CW CD CT CG : Addr}
theorem ok_rests_hr (F : FnM K CR "_has_rests" "Rests._has_rests" s_Rests__has_rests ["self", "modulus"]) (R : ClsF K CR) (n_mod : NoAttr K CR "_modulus") (G_divides : Has P w K mg base 1 "divides" ["one", "other"] spDivs) : HasM P w K mg base 2 CR "_has_rests" ["self", "modulus"] (spHRr CR CW) := by
  obtain ⟨f, fd, F, M, b⟩ := F.ex
  refine ⟨f, fd, F.ok sc_Rests__has_rests (fun vs H Q E h => ?_) (fun cdv A outer s H vs Q E hr h => ?_), M, b⟩
  · obtain ⟨a, m, k, rfl, _⟩ := h
    rfl
  obtain ⟨a, m, k, rfl, hb, q⟩ := h
  obtain ⟨hok, dx, fs, h1, h2, h3⟩ := hb
  have cl_ := R.cl
  refine ⟨_, (pss_one (ps_ret (pe_own G_divides (hr.mono (by decide)) (by rfl) (pa_cons (pv 1) (pa_cons (L2.pe_fld (pv 0) rfl) pa_nil))))), ?_⟩
  exact ⟨_, rfl, _, rfl, a, CR, dx, fs, _, rfl, h1, cl_, n_mod, h3, k, m, rfl, q _ (Same.refl _)⟩
theorem ok_whole_hr (F : FnM K CW "_has_rests" "Whole._has_rests" s_Whole__has_rests ["self", "modulus"]) (R : ClsF K CW) (n_pr : NoAttr K CW "_primes") (G_common : HasR P w K mg base 1 "common" spCommon2) : HasM P w K mg base 2 CW "_has_rests" ["self", "modulus"] (spHRw CR CW) := by
  obtain ⟨f, fd, F, M, b⟩ := F.ex
  refine ⟨f, fd, F.ok sc_Whole__has_rests (fun vs H Q E h => ?_) (fun cdv A outer s H vs Q E hr h => ?_), M, b⟩
  · obtain ⟨a, d, k, rfl, _⟩ := h
    rfl
  obtain ⟨a, d, k, rfl, hb, q⟩ := h
  obtain ⟨hok, dx, fs, h1, h2, h3⟩ := hb
  have cl_ := R.cl
  refine ⟨_, (pss_one (ps_ret (pe_cmpR op_eq (pe_ownR G_common (hr.mono (by decide)) (by rfl) (pa_cons (pv 1) (pa_cons (L2.pe_fld (pv 0) rfl) pa_nil))) pe_int (nomark _)))), ?_⟩
  refine ⟨_, rfl, _, rfl, a, CW, dx, fs, _, rfl, h1, cl_, n_pr, h3, (k : Int), (d : Int), rfl, fun H1 s1 => ⟨rfl, ?_⟩⟩
  have e : decide (V.int (gcdI (k : Int) (d : Int)) = V.int 1) = decide (Nat.gcd k d = 1) := by
    rw [gcdN]
    exact decide_eq_decide.mpr ⟨fun z => by
      have := V.int.inj z
      omega, fun z => by rw [z]; rfl⟩
  show Q (.bl (decide (V.int (gcdI (k : Int) (d : Int)) = V.int 1))) H1
  rw [e]
  exact q _ s1
theorem ok_twists_share (F : FnM K CT "_share" "Twists._share" s_Twists__share ["self", "p", "q"]) (R : ClsF K CT) (n_ba : NoAttr K CT "_base") (clR : Cls K CR) (clW : Cls K CW) (M_R_share : HasM P w K mg base 3 CR "_share" ["self", "p", "q"] (spSh CR SR)) (M_W_share : HasM P w K mg base 3 CW "_share" ["self", "p", "q"] (spSh CW SW))
    (M_R_zero : HasM P w K mg base 1 CR "zero" ["self"] (spFld CR "_zero")) (M_W_zero : HasM P w K mg base 1 CW "zero" ["self"] (spFld CW "_zero")) : HasM P w K mg base 6 CT "_share" ["self", "p", "q"] (spSh CT (ST CR CW)) := by
  obtain ⟨f, fd, F, M, b⟩ := F.ex
  refine ⟨f, fd, F.ok sc_Twists__share (fun vs H Q E h => ?_) (fun cdv A outer s H vs Q E hr h => ?_), M, b⟩
  · obtain ⟨p, dx, fs, a, rfl, _⟩ := h
    rfl
  obtain ⟨p, dx, fs, a, rfl, a1, h1, ⟨x, bd, e1, xp, hb⟩, q⟩ := h
  have cl_ := R.cl
  refine ⟨_, (pss_cons (ps_set (i := 3) sc_Twists__share.nd rfl (Or.inl rfl) (pe_or (pe_ownM0 clR M_R_zero (hr.mono (by decide)) (pe_fld (pv 0) rfl)) (pe_ownM0 clW M_W_zero (hr.mono (by decide)) (pe_fld (pv 0) rfl))))
      (pss_one (ps_ret (pe_tup (pa_cons (pe_or (pe_ownM clR M_R_share (hr.mono (by decide)) (pe_fld (pv 0) rfl) (pa_cons (pv 1) (pa_cons (pv 2) pa_nil))) (pe_ownM clW M_W_share (hr.mono (by decide)) (pe_fld (pv 0) rfl) (pa_cons (pv 1) (pa_cons (pv 2) pa_nil)))) (pa_cons (pv 3) (pa_cons (pv 3) (pa_cons pe_int pa_nil)))))))), ?_⟩
  obtain ⟨hok, dy, gs, b1, b2, b3⟩ := id hb
  obtain ⟨z, hz⟩ := b2.zero
  cases bd with
  | rests m =>
    refine .inl ⟨_, rfl, p, CT, dx, fs, _, rfl, h1, cl_, n_ba, e1, x, dy, gs, rfl, b1, b2.m3, x, dy, gs, z, rfl, b1, hz, ?_⟩
    refine .inl ⟨_, rfl, p, CT, dx, fs, _, rfl, h1, cl_, n_ba, e1, x, dy, gs, rfl, b1, b2.m1, _, rfl, _, rfl, x, dy, gs, a, rfl, a1, b1, ⟨m, hok.1, hok.2, b3⟩, fun v H1 s1 => ?_⟩
    exact ⟨_, rfl, _, rfl, (by show 4 ≤ sizeLine; decide), fun t nt => q _ _ (s1.trans (same_upd nt))⟩
  | whole d =>
    refine .inr ⟨_, rfl, p, CT, dx, fs, _, rfl, h1, cl_, n_ba, e1, x, dy, gs, rfl, b1, b2.m3, x, dy, gs, z, rfl, b1, hz, ?_⟩
    refine .inr ⟨_, rfl, p, CT, dx, fs, _, rfl, h1, cl_, n_ba, e1, x, dy, gs, rfl, b1, b2.m1, _, rfl, _, rfl, x, dy, gs, a, rfl, a1, b1, trivial, fun v H1 s1 => ?_⟩
    exact ⟨_, rfl, _, rfl, (by show 4 ≤ sizeLine; decide), fun t nt => q _ _ (s1.trans (same_upd nt))⟩
theorem ok_twists_init {f cc cda fR : Addr} {fd : FuncData} (S : SupX.SupFn P K f fd "__init__" "Twists.__init__" s_Twists_init cc cda CT) (hms : mg "super" = none) (Ab : SupX.Above K CT CT fR) (RI : FnR P w K mg base (L2.CX P w) 7 fR (spRingInit CR CW CT (ST CR CW))) (R : ClsF K CT) (n_pa : NoAttr K CT "_part") (n_ba : NoAttr K CT "_base") (B : Blt mg) (T : TxtP mg)
    (gC_Rests : mg "Rests" = some (.ref CR)) (gC_Whole : mg "Whole" = some (.ref CW)) (TR : BTy K CR CG) (TW : BTy K CW CG) (T2 : BTw K CR CW) (clR : Cls K CR) (clW : Cls K CW) (G_is_between : Has P w K mg base 2 "is_between" ["value", "least", "most"] spBetween)
    (M_R_hr : HasM P w K mg base 2 CR "_has_rests" ["self", "modulus"] (spHRr CR CW)) (M_W_hr : HasM P w K mg base 2 CW "_has_rests" ["self", "modulus"] (spHRw CR CW)) (PR_R_ones : HasPr P w K mg base CR "ones" (spFld CR "_ones")) (PR_W_ones : HasPr P w K mg base CW "ones" (spFld CW "_ones")) :
    FnOk P w K mg base (L2.CX P w) 8 f fd ["self", "part", "base"] (spTwists CR CW CD CT) := by
  have cl_ := R.cl
  refine SupX.fnS_of (pre := (defBody s_Twists_init).take 4) (k := 7) (f2 := fR) (ar := (((defArgs s_Twists_init).posonlyargs ++ (defArgs s_Twists_init).args).head?).get rfl) S sc_Twists_init rfl rfl (Or.inl rfl) rfl rfl hms (fun L => ⟨⟨_, rfl⟩, rfl, rfl, rfl, rfl⟩) (fun vs H Q E h => ?_) (fun A outer s H vs Q E hr h => ?_)
  · obtain ⟨p, dx, x, k, bd, rfl, _⟩ := h
    rfl
  obtain ⟨p, dx, x, k, bd, rfl, hp, xp, hb, k1, k1000, hk, q⟩ := h
  refine ⟨_, _, spRingInit CR CW CT (ST CR CW), E0, (pss_cons (ps_if (pt_not (pt_val (pe_callB call_isiT (by rfl) B.isinstance bb_isinstance (pa_cons (pv 2) (pa_cons (pe_tup (pa_cons (pe_gref gC_Rests (by rfl)) (pa_cons (pe_gref gC_Whole (by rfl)) pa_nil))) pa_nil)))))
        (pss_one ps_never)
        pss_nil)
      (pss_cons (ps_if (PW.pt (pw_or (pt_not (pt_val (pe_own G_is_between (hr.mono (by decide)) (by rfl) (pa_cons (pv 1) (pa_cons pe_int (pa_cons (pe_gint T.m_MOST_PART (by rfl)) pa_nil)))))) (pw_or1 (pt_not (pt_val (pe_or (pe_ownM clR M_R_hr (hr.mono (by decide)) (pv 2) (pa_cons (pv 1) pa_nil)) (pe_ownM clW M_W_hr (hr.mono (by decide)) (pv 2) (pa_cons (pv 1) pa_nil))))))))
        (pss_one ps_never)
        pss_nil)
      (pss_cons (ps_fld (pv 0) (pv 1) rfl)
      (pss_one (ps_fld (pv 0) (pv 2) rfl))))), RI.mono (by decide), passL, (pa_cons (pe_tup (pa_cons pe_str (pa_cons (pv 1) (pa_cons (pv 2) pa_nil)))) (pa_cons (pe_tup (pa_cons (pe_or (pe_pr clR PR_R_ones (hr.mono (by decide)) (pv 2) rfl) (pe_pr clW PR_W_ones (hr.mono (by decide)) (pv 2) rfl)) (pa_cons (pv 1) (pa_cons (pe_or (pe_pr clR PR_R_ones (hr.mono (by decide)) (pv 2) rfl) (pe_pr clW PR_W_ones (hr.mono (by decide)) (pv 2) rfl)) pa_nil)))) (pa_cons (pe_tup (pa_cons (pv 2) pa_nil)) pa_nil))), ?_⟩
  have kb : (decide ((1 : Int) ≤ (k : Int)) && decide ((k : Int) ≤ 1000000)) = true := by
    rw [decide_eq_true (by omega : (1 : Int) ≤ (k : Int)), decide_eq_true (by omega : (k : Int) ≤ 1000000)]
    rfl
  refine ⟨_, rfl, (by show 2 ≤ sizeLine; decide), fun U nU => ?_⟩
  have u0 := same_upd (o := .tup [V.ref CR, V.ref CW]) nU
  have hb0 := hb.same u0
  obtain ⟨tt, ty, kt⟩ := base_kit TR TW T2 hb0
  refine ⟨.ref x, U, [.ref CR, .ref CW], tt, [.ref CR, .ref CW], true, rfl, upd_same, .cons (.own _) (.cons (.own _) .nil), ty, kt, _, rfl, iteF ?_⟩
  refine ⟨_, rfl, _, "int", 1, 1000000, rfl, .int _, _, rfl, ite_no (by show ¬ (!(decide ((1 : Int) ≤ (k : Int)) && decide ((k : Int) ≤ 1000000))) = true; rw [kb]; decide) ?_⟩
  refine or_hr rfl rfl hb0 fun H1 s1 => ⟨_, rfl, ?_⟩
  rw [hk]
  refine iteF ?_
  have s01 := u0.trans s1
  refine ⟨_, rfl, _, rfl, p, CT, dx, [], rfl, s01 _ _ hp, cl_, n_pa, by decide, ?_⟩
  refine ⟨_, rfl, _, rfl, p, CT, dx, _, rfl, upd_same, cl_, n_ba, (by show 1 < 1000; decide), ?_⟩
  have k2 : Kp p H1 (upd (upd H1 p (.ins CT dx [("_part", .int (k : Nat))])) p (.ins CT dx [("_part", .int (k : Nat)), ("_base", .ref x)])) := Kp.upd.trans Kp.upd
  have hp2 : (upd (upd H1 p (.ins CT dx [("_part", .int (k : Nat))])) p (.ins CT dx [("_part", .int (k : Nat)), ("_base", .ref x)])) p = some (.ins CT dx [("_part", .int (k : Nat)), ("_base", .ref x)]) := upd_same
  change SupX.tSup _ _ _ _ _ _ _ _ (upd (upd H1 p (.ins CT dx [("_part", .int (k : Nat))])) p (.ins CT dx [("_part", .int (k : Nat)), ("_base", .ref x)]))
  generalize upd (upd H1 p (.ins CT dx [("_part", .int (k : Nat))])) p (.ins CT dx [("_part", .int (k : Nat)), ("_base", .ref x)]) = H2 at k2 hp2 ⊢
  have hb2 := (hb0.same s1).kp k2 xp
  refine ⟨p, CT, dx, _, rfl, hp2, Ab, ?_⟩
  refine ⟨_, rfl, _, rfl, (by show 3 ≤ sizeLine; decide), fun T1 nT => ?_⟩
  have u1 := same_upd (o := .tup [V.str "twists", V.int (k : Nat), V.ref x]) nT
  refine or_fld rfl (hb2.same u1) (fun fs F => F.ones) ⟨_, rfl, or_fld rfl (hb2.same u1) (fun fs F => F.ones) ⟨(by show 3 ≤ sizeLine; decide), fun N nN => ⟨_, rfl, (by show 1 ≤ sizeLine; decide), fun Bq nB => ?_⟩⟩⟩
  have u2 := same_upd (o := .tup [V.int (bd.o : Nat), V.int (k : Nat), V.int (bd.o : Nat)]) nN
  have u3 := same_upd (o := .tup [V.ref x]) nB
  have s3 := u1.trans (u2.trans u3)
  have Bp : Bq ≠ p := fun e => by
    rw [e] at nB
    exact absurd (nB.symm.trans ((u1.trans u2) _ _ hp2)) (by intro z; cases z)
  refine ⟨p, N, Bq, dx, _, bd.o, k, bd.o, [x], _, rfl, s3 _ _ hp2, ⟨x, bd, rfl, xp, hb2.same s3⟩, u3 _ _ upd_same, upd_same, (by show 1 ≤ 10; decide), fun y hy => ?_, rfl, (by show 2 ≤ 20; decide), fun H5 fs' k5 h5 oth f1 f2 f3 f4 f5 f6 l5 => ?_⟩
  · rw [List.mem_singleton.mp hy]
    exact ⟨xp, bd, hb2.same s3⟩
  · refine q H5 ((((Kp.of s01).trans k2).trans (Kp.of s3)).trans k5) ⟨dx, fs', Bq, x, h5, ⟨f1, f2, f3, (by rw [if_neg (by simp)] at f4; exact f4), f6, ?_, ?_, ?_, ?_⟩, f5, k5 _ _ Bp upd_same, (hb2.same s3).kp k5 xp⟩
    · exact (oth ("_share" : Str) (by decide +kernel)).trans rfl
    · exact (oth ("has_inverse" : Str) (by decide +kernel)).trans rfl
    · exact (oth ("zero" : Str) (by decide +kernel)).trans rfl
    · exact (oth ("_has_rests" : Str) (by decide +kernel)).trans rfl
end
end My
/-! x in o, by an own __contains__ -/
namespace OwO
open PySem PySem.Spec PyProof.Rows L2
section
variable {X : Cx} {K0 : PySem.W.Frag} {k : Nat} {C f : Addr} {fd : FuncData} {ps : List Str} {sp : Sp}
def rInO (C : Addr) (sp : Sp) : R2 := fun x y H Q => ∃ a dx fs, y = .ref a ∧ H a = some (.ins C dx fs) ∧ sp [.ref a, x] H (fun v H' => ∃ b : Bool, v = .bl b ∧ Q (.bl b) H') E0
theorem op_inO {m : Str} (hm : m = "__contains__") (S : Spc X.K C m f) (F : FnOk X.prog X.w X.K X.mg X.base CX0 k f fd ps sp) (hb : Binds X.K fd ps []) (hr : Room k X.A) : OpR X (compareOp .In) (rInO C sp) := by
  subst hm
  intro pins s σ H x y u v Q I rx ry h
  obtain ⟨a, dx, fs, rfl, ha, hsp⟩ := h
  obtain rfl : v = Value.ref a := ry
  obtain ⟨mA, J, _⟩ := ins_get I.hok ha
  obtain ⟨od, J, _⟩ := J.look
  obtain ⟨m, hF⟩ := I.fr
  have hl := F.len _ _ _ _ hsp
  refine PySem.W.in_K hF I.ok.mod.kin J S.at_ S.fn ?_
  refine wpAny_call (codeAny_mono (F.run X.A X.stack s H ⟨[.ref a, u], []⟩ [.ref a, u] [.ref a, x] _ E0 hr I.env0 (by
    have z := hb s [.ref a, u] I.kIn (by simpa using hl)
    simpa using z) (.cons rfl (.cons rx .nil)) hsp) fun r s' hq => ?_)
  cases r with
  | error e => exact (show False from hq).elim
  | ok fl =>
    cases fl with
    | ret w =>
      obtain ⟨z, H', I', rv, b, rfl, q⟩ := I.after hq
      cases rv
      exact wpAny_truthy_bool ⟨.bl b, H', I', rfl, q⟩
    | next => exact False.elim hq
    | brk => exact False.elim hq
    | cont => exact False.elim hq
end
end OwO
/-! rings in realms -/
namespace My
open PySem PySem.Spec PyProof.Rows L2
structure HasCX (P : Program) (w : World) (K : PySem.W.Frag) (mg : Str → Option Value) (base : Heap) (k : Nat) (x : Str) (C : Addr) (ps : List Str) (sp : Sp) : Prop where
  ex : ∃ (f : Addr) (fd : FuncData), Mk K C f ∧ FnOk P w K mg base (L2.CX P w) k f fd ps sp ∧ mg x = some (.ref C) ∧ Binds K fd ps []
section
variable {X : Cx} {k : Nat} {x : Str} {C : Addr} {ps : List Str} {sp : Sp} {p pos : Pos} {e : Expr} {es : List Expr} {t : TA} {E : XK}
theorem pe_mkX (h : HasCX X.prog X.w X.K X.mg X.base k x C ps sp) (hr : Room (k + 1) X.A) (hg : Gl X x) (ha : PA X (e :: es) t)
    (hdb : (x == ("__debug__" : Str)) = false := by decide) (he : starEach (e :: es) X.env = (false, eval e X.env) :: starEach es X.env := by rfl) (hpl : (backTo pos (starEach es X.env)).any (·.1) = false := by rfl) : PE X (.Call (.Name x p) (e :: es) [] pos) (tMake C sp [] E0 t) := by
  obtain ⟨f, fd, M, F, m, b⟩ := h.ex
  exact pe_make M F hr hg m b .nil passL ha hdb he hpl
end
abbrev RN := Nat × Nat × Nat × Nat
def memb (r : RD) (N : RN) : Bool := r.bd.inv N.1 && (decide (r.o ∣ N.2.1) && (decide (r.s ∣ N.2.2.1) && decide (r.q ∣ N.2.2.2)))
def RD.cls (CR CW CD CT : Addr) : RD → Addr
  | .base b => b.cls CR CW
  | .duals _ => CD
  | .twists _ _ => CT
theorem RingAt.flds {CR CW CD CT : Addr} {H : Hp} {a : Addr} {r : RD} (h : RingAt CR CW CD CT H a r) : ∃ dx fs dep, H a = some (.ins (r.cls CR CW CD CT) dx fs) ∧ Flds fs r.o r.s r.q dep := by
  cases r with
  | base b =>
    obtain ⟨_, dx, fs, h1, h2, _⟩ := h
    exact ⟨dx, fs, 1, h1, h2⟩
  | duals b =>
    obtain ⟨dx, fs, B, x, h1, h2, _⟩ := h
    exact ⟨dx, fs, 2, h1, h2⟩
  | twists k b =>
    obtain ⟨dx, fs, B, x, h1, h2, _⟩ := h
    exact ⟨dx, fs, 2, h1, h2⟩
def t4 (CR CW CD CT : Addr) (f : Str) (i : Nat) : TE := tOr (tProp CR (spFld CR f) [] E0 (tVar i)) (tOr (tProp CW (spFld CW f) [] E0 (tVar i)) (tOr (tProp CD (spFld CD f) [] E0 (tVar i)) (tProp CT (spFld CT f) [] E0 (tVar i))))
theorem or4_fld {CR CW CD CT : Addr} {f : Str} {i : Nat} {σ : L2.St} {H : Hp} {Q : VK} {x : Addr} {r : RD} {v : V} (hi : σ[i]? = some (some (.ref x))) (hb : RingAt CR CW CD CT H x r) (hf : ∀ fs dep, Flds fs r.o r.s r.q dep → fs.lookup f = some v) (q : Q v H) : t4 CR CW CD CT f i σ H Q := by
  obtain ⟨dx, fs, dep, h1, h2⟩ := hb.flds
  have l := hf fs dep h2
  cases r with
  | base b =>
    cases b with
    | rests m => exact .inl ⟨_, hi, x, dx, fs, rfl, h1, x, dx, fs, v, rfl, h1, l, q⟩
    | whole d => exact .inr (.inl ⟨_, hi, x, dx, fs, rfl, h1, x, dx, fs, v, rfl, h1, l, q⟩)
  | duals b => exact .inr (.inr (.inl ⟨_, hi, x, dx, fs, rfl, h1, x, dx, fs, v, rfl, h1, l, q⟩))
  | twists k b => exact .inr (.inr (.inr ⟨_, hi, x, dx, fs, rfl, h1, x, dx, fs, v, rfl, h1, l, q⟩))
theorem BD.ok_o {b : BD} (h : b.ok) : b.o ≤ 1000 := by
  cases b with
  | rests m => exact Nat.le_trans h.2 (by decide)
  | whole d => exact Nat.zero_le _
/-- x.has_inverse(q), q read by tq -/
def t4i (CR CW CD CT : Addr) (i : Nat) (tq : TE) : TE := tOr (tMeth CR "has_inverse" (spInv CR CW CR) [] E0 (tVar i) (tCons tq tNil)) (tOr (tMeth CW "has_inverse" (spInvW CR CW) [] E0 (tVar i) (tCons tq tNil)) (tOr (tMeth CD "has_inverse" (spInv CR CW CD) [] E0 (tVar i) (tCons tq tNil)) (tMeth CT "has_inverse" (spInv CR CW CT) [] E0 (tVar i) (tCons tq tNil))))
theorem or4_inv {CR CW CD CT : Addr} {i : Nat} {tq : TE} {σ : L2.St} {H : Hp} {Q : VK} {x : Addr} {r : RD} {d : Nat} (hi : σ[i]? = some (some (.ref x))) (hb : RingAt CR CW CD CT H x r) (d1 : 1 ≤ d) (d2 : d ≤ 1000000) (hq : ∀ Q : VK, Q (.int (d : Nat)) H → tq σ H Q) (q : ∀ H', Same H H' → Q (.bl (r.bd.inv d)) H') : t4i CR CW CD CT i tq σ H Q := by
  cases r with
  | base b =>
    obtain ⟨hok, dx, fs, h1, h2, h3⟩ := id (show BaseAt CR CW H x b from hb)
    cases b with
    | rests m => exact .inl ⟨_, hi, x, dx, fs, rfl, h1, h2.m2, hq _ ⟨x, dx, fs, m, d, rfl, h1, h2.ones, d1, d2, .inl ⟨by have := hok.1; omega, Nat.le_trans hok.2 (by decide), q⟩⟩⟩
    | whole k => exact .inr (.inl ⟨_, hi, x, dx, fs, rfl, h1, h2.m2, hq _ ⟨x, k, d, rfl, hb, d1, d2, q⟩⟩)
  | duals b =>
    obtain ⟨dx, fs, B, y, h1, h2, h3, h4, h5⟩ := hb
    refine .inr (.inr (.inl ⟨_, hi, x, dx, fs, rfl, h1, h2.m2, hq _ ⟨x, dx, fs, b.o, d, rfl, h1, h2.ones, d1, d2, ?_⟩⟩))
    cases b with
    | rests m => exact .inl ⟨by have := h5.1.1; show m ≠ 0; omega, Nat.le_trans h5.1.2 (by decide), q⟩
    | whole k => exact .inr ⟨rfl, B, [y, y], k, h3, h4, by simp, by show 2 ≤ 10; decide, fun z hz => by
        have : z = y := by simpa using hz
        rw [this]
        exact h5, q⟩
  | twists j b =>
    obtain ⟨dx, fs, B, y, h1, h2, h3, h4, h5⟩ := hb
    refine .inr (.inr (.inr ⟨_, hi, x, dx, fs, rfl, h1, h2.m2, hq _ ⟨x, dx, fs, b.o, d, rfl, h1, h2.ones, d1, d2, ?_⟩⟩))
    cases b with
    | rests m => exact .inl ⟨by have := h5.1.1; show m ≠ 0; omega, Nat.le_trans h5.1.2 (by decide), q⟩
    | whole k => exact .inr ⟨rfl, B, [y], k, h3, h4, by simp, by show 1 ≤ 10; decide, fun z hz => by rw [List.mem_singleton.mp hz]; exact h5, q⟩
def spIn (CM CR CW CD CT : Addr) : Sp := fun vs H Q _ => ∃ (a x : Addr) (r : RD) (d o s t : Nat), vs = [.ref a, .ref x] ∧ RealmAt CM H a d o s t ∧ RingAt CR CW CD CT H x r ∧ 1 ≤ d ∧ d ≤ 1000000 ∧ ∀ H', Same H H' → Q (.bl (memb r (d, o, s, t))) H'
section
variable {P : Program} {w : World} {K : PySem.W.Frag} {mg : Str → Option Value} {base : Heap} {CM CR CW CD CT CG : Addr} {mc : Value}
theorem ok_contains {f : Addr} {fd : FuncData} (F : Fun K "__contains__" "Realm.__contains__" s_Realm_contains f fd) (RM : RCls K CM mc) (B : Blt mg) (gC_Ring : mg "Ring" = some (.ref CG)) (TR : BTy K CR CG) (TW : BTy K CW CG) (TD : BTy K CD CG) (TT : BTy K CT CG)
    (G_divides : Has P w K mg base 1 "divides" ["one", "other"] spDivs) (PR_inverse : HasPr P w K mg base CM "inverse" (spGetR CM fun d _ _ _ => d)) (PR_ones : HasPr P w K mg base CM "ones" (spGetR CM fun _ o _ _ => o)) (PR_swaps : HasPr P w K mg base CM "swaps" (spGetR CM fun _ _ s _ => s)) (PR_squares : HasPr P w K mg base CM "squares" (spGetR CM fun _ _ _ t => t))
    (M_R_inv : HasM P w K mg base 4 CR "has_inverse" ["self", "q"] (spInv CR CW CR)) (M_W_inv : HasM P w K mg base 2 CW "has_inverse" ["self", "q"] (spInvW CR CW)) (M_D_inv : HasM P w K mg base 4 CD "has_inverse" ["self", "q"] (spInv CR CW CD)) (M_T_inv : HasM P w K mg base 4 CT "has_inverse" ["self", "q"] (spInv CR CW CT))
    (PR_R_ones : HasPr P w K mg base CR "ones" (spFld CR "_ones")) (PR_W_ones : HasPr P w K mg base CW "ones" (spFld CW "_ones")) (PR_D_ones : HasPr P w K mg base CD "ones" (spFld CD "_ones")) (PR_T_ones : HasPr P w K mg base CT "ones" (spFld CT "_ones"))
    (PR_R_swaps : HasPr P w K mg base CR "swaps" (spFld CR "_swaps")) (PR_W_swaps : HasPr P w K mg base CW "swaps" (spFld CW "_swaps")) (PR_D_swaps : HasPr P w K mg base CD "swaps" (spFld CD "_swaps")) (PR_T_swaps : HasPr P w K mg base CT "swaps" (spFld CT "_swaps"))
    (PR_R_squares : HasPr P w K mg base CR "squares" (spFld CR "_squares")) (PR_W_squares : HasPr P w K mg base CW "squares" (spFld CW "_squares")) (PR_D_squares : HasPr P w K mg base CD "squares" (spFld CD "_squares")) (PR_T_squares : HasPr P w K mg base CT "squares" (spFld CT "_squares")) :
    FnOk P w K mg base CX0 5 f fd ["self", "x"] (spIn CM CR CW CD CT) := by
  have cl_ := RM.cl
  have clR := TR.cl
  have clW := TW.cl
  have clD := TD.cl
  have clT := TT.cl
  refine F.ok sc_Realm_contains (fun vs H Q E h => ?_) (fun cdv A outer s H vs Q E hr h => ?_)
  · obtain ⟨a, x, r, d, o, s, t, rfl, _⟩ := h
    rfl
  obtain ⟨a, x, r, d, o, s', t, rfl, ha, hx, d1, d2, q⟩ := h
  refine ⟨_, (pss_cons (ps_if (PW.pt (pw_or (pt_not (pt_val (pe_callB call_isi (by rfl) B.isinstance bb_isinstance (pa_cons (pv 1) (pa_cons (pe_gref gC_Ring (by rfl)) pa_nil))))) (pw_or1 (pt_not (pt_val (pe_or (pe_ownM clR M_R_inv (hr.mono (by decide)) (pv 1) (pa_cons (pe_pr cl_ PR_inverse (hr.mono (by decide)) (pv 0) rfl) pa_nil)) (pe_or (pe_ownM clW M_W_inv (hr.mono (by decide)) (pv 1) (pa_cons (pe_pr cl_ PR_inverse (hr.mono (by decide)) (pv 0) rfl) pa_nil)) (pe_or (pe_ownM clD M_D_inv (hr.mono (by decide)) (pv 1) (pa_cons (pe_pr cl_ PR_inverse (hr.mono (by decide)) (pv 0) rfl) pa_nil)) (pe_ownM clT M_T_inv (hr.mono (by decide)) (pv 1) (pa_cons (pe_pr cl_ PR_inverse (hr.mono (by decide)) (pv 0) rfl) pa_nil))))))))))
        (pss_one (ps_ret pe_bl))
        pss_nil)
      (pss_one (ps_ret (pe_and (pe_own G_divides (hr.mono (by decide)) (by rfl) (pa_cons (pe_or (pe_pr clR PR_R_ones (hr.mono (by decide)) (pv 1) rfl) (pe_or (pe_pr clW PR_W_ones (hr.mono (by decide)) (pv 1) rfl) (pe_or (pe_pr clD PR_D_ones (hr.mono (by decide)) (pv 1) rfl) (pe_pr clT PR_T_ones (hr.mono (by decide)) (pv 1) rfl)))) (pa_cons (pe_pr cl_ PR_ones (hr.mono (by decide)) (pv 0) rfl) pa_nil))) (pe_and (pe_own G_divides (hr.mono (by decide)) (by rfl) (pa_cons (pe_or (pe_pr clR PR_R_swaps (hr.mono (by decide)) (pv 1) rfl) (pe_or (pe_pr clW PR_W_swaps (hr.mono (by decide)) (pv 1) rfl) (pe_or (pe_pr clD PR_D_swaps (hr.mono (by decide)) (pv 1) rfl) (pe_pr clT PR_T_swaps (hr.mono (by decide)) (pv 1) rfl)))) (pa_cons (pe_pr cl_ PR_swaps (hr.mono (by decide)) (pv 0) rfl) pa_nil))) (pe_one (pe_own G_divides (hr.mono (by decide)) (by rfl) (pa_cons (pe_or (pe_pr clR PR_R_squares (hr.mono (by decide)) (pv 1) rfl) (pe_or (pe_pr clW PR_W_squares (hr.mono (by decide)) (pv 1) rfl) (pe_or (pe_pr clD PR_D_squares (hr.mono (by decide)) (pv 1) rfl) (pe_pr clT PR_T_squares (hr.mono (by decide)) (pv 1) rfl)))) (pa_cons (pe_pr cl_ PR_squares (hr.mono (by decide)) (pv 0) rfl) pa_nil))))))))), ?_⟩
  have tyx : ∃ tt, TyX K H (.ref x) tt ∧ PySem.W.kitOne K tt (.ref CG) = some true := by
    obtain ⟨dx, fs, dep, h1, h2⟩ := hx.flds
    cases r with
    | base b =>
      cases b with
      | rests m => exact ⟨_, TR.ty h1, TR.kg⟩
      | whole d => exact ⟨_, TW.ty h1, TW.kg⟩
    | duals b => exact ⟨_, TD.ty h1, TD.kg⟩
    | twists k b => exact ⟨_, TT.ty h1, TT.kg⟩
  have hx1 := fun H1 (s1 : Same H H1) => hx.same s1
  have ha1 := fun H1 (s1 : Same H H1) => ha.same s1
  obtain ⟨tt, ty, kt⟩ := tyx
  obtain ⟨da, T, g1, g2⟩ := id ha
  refine ⟨_, rfl, .ref x, .ref CG, tt, .ref CG, true, rfl, .own CG, ty, kt, _, rfl, iteF (or4_inv (r := r) (d := d) rfl hx d1 d2 (fun Q h => ⟨_, rfl, a, da, _, rfl, g1, a, d, o, s', t, rfl, ha, h⟩) fun H1 s1 => ⟨_, rfl, ?_⟩)⟩
  have q1 := q H1 s1
  have y1 := hx1 H1 s1
  have z1 := ha1 H1 s1
  have g1 := s1 _ _ g1
  cases e : r.bd.inv d with
  | false =>
    refine iteT ?_
    have em : memb r (d, o, s', t) = false := by
      show (r.bd.inv d && _) = false
      rw [e]
      rfl
    rw [em] at q1
    exact q1
  | true =>
    refine iteF ?_
    have em : memb r (d, o, s', t) = (decide (r.o ∣ o) && (decide (r.s ∣ s') && decide (r.q ∣ t))) := by
      show (r.bd.inv d && _) = _
      rw [e]
      rfl
    rw [em] at q1
    refine or4_fld (r := r) rfl y1 (fun fs dep h => h.ones) ⟨_, rfl, a, da, _, rfl, g1, a, d, o, s', t, rfl, z1, r.o, o, rfl, ?_⟩
    refine ⟨_, rfl, ?_⟩
    have l2 : ∀ Q' : VK, Q' (.bl (decide (r.s ∣ s'))) H1 → tCall spDivs [] E0 (tCons (t4 CR CW CD CT "_swaps" 1) (tCons (tProp CM (spGetR CM fun _ _ s _ => s) [] E0 (tVar 0)) tNil)) (L2.start N_Realm_contains [V.ref a, V.ref x]) H1 Q' := fun Q' h => or4_fld (r := r) rfl y1 (fun fs dep h => h.swaps) ⟨_, rfl, a, da, _, rfl, g1, a, d, o, s', t, rfl, z1, r.s, s', rfl, h⟩
    have l3 : ∀ Q' : VK, Q' (.bl (decide (r.q ∣ t))) H1 → tCall spDivs [] E0 (tCons (t4 CR CW CD CT "_squares" 1) (tCons (tProp CM (spGetR CM fun _ _ _ t => t) [] E0 (tVar 0)) tNil)) (L2.start N_Realm_contains [V.ref a, V.ref x]) H1 Q' := fun Q' h => or4_fld (r := r) rfl y1 (fun fs dep h => h.squares) ⟨_, rfl, a, da, _, rfl, g1, a, d, o, s', t, rfl, z1, r.q, t, rfl, h⟩
    generalize decide (r.o ∣ o) = b1 at q1 ⊢
    cases b1 with
    | false => exact iteF q1
    | true =>
      refine iteT (l2 _ ⟨_, rfl, ?_⟩)
      generalize decide (r.s ∣ s') = b2 at q1 ⊢
      cases b2 with
      | false => exact iteF q1
      | true =>
        refine iteT (l3 _ ?_)
        exact q1
end
end My
/-! whole normal forms and rings: 104 normal forms, 208 rings tell them apart -/
namespace My
open PySem PySem.Spec PyProof.Rows L2
def stN (n d : Nat) : Nat := stripN n d n
theorem stN_is (n d : Nat) : Strip n d (stN n d) := by
  by_cases h : n = 0
  · subst h
    exact .inl ⟨rfl, rfl⟩
  · exact .inr ⟨by omega, stripN_is n n (LLoop.start (b := d) (by omega)) (Nat.le_refl _)⟩
/-- the normal form, as a list of four -/
def nf (d o s t : Nat) : RN :=
  (if Nat.gcd o (2 * t) = 0 then d else 1, stN (Nat.gcd o (2 * t)) d, stN (Nat.gcd s (Nat.gcd t (Nat.gcd o (2 * t)))) d, stN (Nat.gcd t (Nat.gcd o (2 * t))) d)
theorem nf_of {d o s t d' o' s' t' : Nat} (h : Nrm d o s t d' o' s' t') : (d', o', s', t') = nf d o s t := by
  have z : Nrm d o s t (nf d o s t).1 (nf d o s t).2.1 (nf d o s t).2.2.1 (nf d o s t).2.2.2 := ⟨rfl, stN_is _ _, stN_is _ _, stN_is _ _⟩
  obtain ⟨h1, h2, h3, h4⟩ := h.one z
  rw [h1, h2, h3, h4]
/-- the rings of the law -/
def ringsOf (m : Nat) : List RD := [.base (.rests m), .duals (.rests m)] ++ ((List.range 12).filter fun j => decide (m % (j + 1) = 0)).map fun j => .twists (j + 1) (.rests m)
def freeR : List RD := [.base (.whole 1), .base (.whole 2), .base (.whole 3), .base (.whole 6), .duals (.whole 1), .duals (.whole 2), .duals (.whole 3), .duals (.whole 6), .twists 7 (.whole 6), .twists 1 (.whole 1)]
def lawR : List RD := ((List.range 39).flatMap fun j => ringsOf (j + 2)) ++ freeR
def sigA (N : RN) (a : Nat) (r : RD) : Nat := 2 * a + (memb r N).toNat
def sig (N : RN) : Nat := lawR.foldl (sigA N) 0
def tab : List (Nat × RN) := [
  (411376139330301510538742295639337626245683966408394965837152255, (1, 0, 0, 0)),
  (383904056901501007157837651770571797669873859713552554282157053, (1, 0, 1, 0)),
  (409715695588495839394027037703927967190871138597394602683778045, (1, 0, 2, 0)),
  (385511093028467813876840243675173144080394291571173313205994493, (1, 0, 3, 0)),
  (409765912498159926980240639075089749388660142920220637245727741, (1, 0, 4, 0)),
  (383907195452415468551311056866889188979783647792091143727715325, (1, 0, 5, 0)),
  (411322780755319965239454659990961173339747487206269546798236669, (1, 0, 6, 0)),
  (383904059966492088911916113686120993665691094316945460699038719, (1, 0, 7, 0)),
  (409765912546050412632310554934529568969698290041768750620601341, (1, 0, 8, 0)),
  (385511093029964391553467098897237683628724980068661128740176893, (1, 0, 9, 0)),
  (409718834139433684813697737257321211175174044767151688922159101, (1, 0, 10, 0)),
  (383904056901502468659474982673500142559508401831924921328698365, (1, 0, 11, 0)),
  (411372997664984058534659032185962482246560447897836677226292221, (1, 0, 12, 0)),
  (0, (1, 1, 1, 1)),
  (205688069665150755269371147819668813122841983204197482918576128, (1, 2, 1, 1)),
  (359954121914013821721399508684420422964973470607345595107508224, (1, 2, 1, 2)),
  (385665130622157666130070902161879024605328718507870280472330240, (1, 2, 2, 2)),
  (22497132619625863857587469292776276435310841912959099694219264, (1, 3, 1, 3)),
  (24104070663884854133129431385117439037833044906741892529520640, (1, 3, 3, 3)),
  (360757590936143316859170489730591004266234572104236991525158912, (1, 4, 1, 2)),
  (361360192702740438212498725515218940242180398226905538838396928, (1, 4, 1, 4)),
  (386468599644287161267841883208049605906589820004761676889980928, (1, 4, 2, 2)),
  (387171635038650469513391491623448864545193283814541648755425280, (1, 4, 2, 4)),
  (387221851852533562959502177938834525876522102658097361031528448, (1, 4, 4, 4)),
  (43939712147706765346850525962453664912716488111248241590272, (1, 5, 1, 5)),
  (47078263015400105728768420674057498120767665833480258846720, (1, 5, 5, 5)),
  (228186771560210465797149576059800891474756850706017698621423616, (1, 6, 1, 3)),
  (382454000765648917251821156135069352754341357300811647816826880, (1, 6, 1, 6)),
  (408165205633221992494266419480947429634272108399943972682727424, (1, 6, 2, 6)),
  (229793709604469456072691538152142054077279053699800491456724992, (1, 6, 3, 3)),
  (384061036889622522944250053161620252976651311893898260402667520, (1, 6, 3, 6)),
  (409772290797052905895138783974603198666475938792682495143837696, (1, 6, 6, 6)),
  (42909875144244888034033716760208657141324695421140860928, (1, 7, 1, 7)),
  (45974866225976665750750410814509275508562173665508065280, (1, 7, 7, 7)),
  (361360194235235979078387583873565967392489581845644661021999104, (1, 8, 1, 4)),
  (361360195384607634727804227642326237755221469559699002659700736, (1, 8, 1, 8)),
  (387171636571146010379280349981795891695502467433280770939027456, (1, 8, 2, 4)),
  (387171637912079608636933101045349540452023003099677502849679360, (1, 8, 2, 8)),
  (387221853385029103825391036297181553026831286276836483215130624, (1, 8, 4, 4)),
  (387221854821743673387161841008131890980246145919404410262257664, (1, 8, 4, 8)),
  (387221854869634159039220867831830235578693307907490007830495232, (1, 8, 8, 8)),
  (22497132661530038803139117763512327958952108652533997566427136, (1, 9, 1, 9)),
  (24104070708782184431934769032334637098877259270572140249743360, (1, 9, 3, 9)),
  (24104070710278762108561613620575210367578733082699815173750784, (1, 9, 9, 9)),
  (205732009378046750873031420639751553422105436598372568622170112, (1, 10, 1, 5)),
  (359998061627471033953794848225093378239999976681068558907604992, (1, 10, 1, 10)),
  (385709070335708414467255419489317015709649066694851223955177472, (1, 10, 2, 10)),
  (205735147928914444213413338534463157255313487776094800639426560, (1, 10, 5, 5)),
  (360001200178385495346571355013187499987854948915419780766236672, (1, 10, 5, 10)),
  (385712208886646259886229220724102396414827499457516940734496768, (1, 10, 10, 10)),
  (20461022922632640854851587658027962275183055601664, (1, 11, 1, 11)),
  (21922524559963543773055272490744245294838988144640, (1, 11, 11, 11)),
  (383257469787779143140410802632699035898018816939212872200749056, (1, 12, 1, 6)),
  (383860071554376812556853037505921298255776911668013790488690688, (1, 12, 1, 12)),
  (408968674655352218382856065978577112777949568038345197066649600, (1, 12, 2, 6)),
  (409671710049716166035372006664003085528667345221946268402581504, (1, 12, 2, 12)),
  (384864505911752748832839699659249936120328771532299484786589696, (1, 12, 3, 6)),
  (385467107678350463921208101123188392343237888644944767322423296, (1, 12, 3, 12)),
  (409721926863599282317445776274746843792571675257424162802630656, (1, 12, 4, 12)),
  (410575759819183131783728430472232881810153398431083719527759872, (1, 12, 6, 6)),
  (411278795213547136526152079396054096892309953594490246173556736, (1, 12, 6, 12)),
  (411329012027430258517216619830637379389358161427948686104592384, (1, 12, 12, 12)),
  (205688112575025899871071105029875543596070616891266688155123712, (1, 14, 1, 7)),
  (205688115640016981602848821746569597896688984128744932522328064, (1, 14, 7, 7)),
  (361360195384607634728152676786053278741807965157709133308231680, (1, 16, 1, 8)),
  (387171637912079608637281550189076581438609498697687633498210304, (1, 16, 2, 8)),
  (387221854821743673387510290151858931966832641517414540910788608, (1, 16, 4, 8)),
  (387221854869634159039569316975557276565279803505500138479026176, (1, 16, 8, 8)),
  (228186771602114640742701905095270784875325044194807460030054400, (1, 18, 1, 9)),
  (229793709649366786371497556364093094015250194812845602713370624, (1, 18, 3, 9)),
  (229793709650863364048124400952333667283951668624973277637378048, (1, 18, 9, 9)),
  (360801530649600529091565829935877957433719014629863485465427968, (1, 20, 1, 10)),
  (386512539357837909605026401200101594903368104643646150513000448, (1, 20, 2, 10)),
  (360804669200514990484342336723972079181573986864214707324059648, (1, 20, 5, 10)),
  (386515677908775755024000202434886975608546537406311867292319744, (1, 20, 10, 10)),
  (205688069665171216292293780460685923987329224529864243984465920, (1, 22, 1, 11)),
  (205688069665172677793931111363604127672161940812883899917008896, (1, 22, 11, 11)),
  (383860073086872353422741895864268959231386209401453661023895552, (1, 24, 1, 12)),
  (409671711582211706901260865022350746504276642955386138937786368, (1, 24, 2, 12)),
  (385467109210846004787096959481536053318847186378384637857628160, (1, 24, 3, 12)),
  (409721928396094823183334634633094504768180972990864033337835520, (1, 24, 4, 12)),
  (411278796746042677392040937754401757867919251327930116708761600, (1, 24, 6, 12)),
  (411329013559925799383105478188985040364967459161388556639797248, (1, 24, 12, 12)),
  (24151194948182315732496404938307970339341167512366621879173462, (2, 0, 0, 0)),
  (22541115283573355851186248703585424375911955339763876659462484, (2, 0, 1, 0)),
  (24148053330825501481375696547964934570104404713497643542380884, (2, 0, 3, 0)),
  (22544253834441049192265064885751110337035502624179454091985236, (2, 0, 5, 0)),
  (22541118348564437582963965420603997230188749304025551925150038, (2, 0, 7, 0)),
  (24148053332322079158002541136205507839108109980528975760064852, (2, 0, 9, 0)),
  (22541115283574817352823579606503628060744671622924270080360788, (2, 0, 11, 0)),
  (387268979109010906983990474095295402412711480832721727458114766, (3, 0, 0, 0)),
  (361404178007960457848417348263047240893996058932444040775565516, (3, 0, 1, 0)),
  (387215620535525967906980446075959737982337372848512105095348428, (3, 0, 2, 0)),
  (387265837445190032657230964151763403440510237413331554852397260, (3, 0, 4, 0)),
  (361407316558874919241193855071910550230732846591590332069286092, (3, 0, 5, 0)),
  (361404181072951539602495810178271918336154866809053791171870926, (3, 0, 7, 0)),
  (387265837493080518309300880011203218069788227393358568630773964, (3, 0, 8, 0)),
  (387218759086463813325954247341898899993467276293033883968197836, (3, 0, 10, 0)),
  (361404178007961919350054679165975585783630601050675670333751500, (3, 0, 11, 0)),
  (47124237903553602330944396596143630619303716384631611719750, (6, 0, 0, 0)),
  (43982622043317028533978882272281657217664107491140298604612, (6, 0, 1, 0)),
  (47121172911010368915896776983885645168220195886456434065476, (6, 0, 5, 0)),
  (43985687034398760311695598966335957836031344969659543715910, (6, 0, 7, 0)),
  (43982622044778530171309785190485342050380390510796231147588, (6, 0, 11, 0))]
theorem sig_same {N M : RN} : ∀ (rs : List RD) (a : Nat), (rs.any fun r => memb r N != memb r M) = false → rs.foldl (sigA N) a = rs.foldl (sigA M) a
  | [], _, _ => rfl
  | r :: rs, a, h => by
    rw [List.any_cons, Bool.or_eq_false_iff] at h
    have e : memb r N = memb r M := by
      have := h.1
      revert this
      cases memb r N <;> cases memb r M <;> decide
    rw [List.foldl_cons, List.foldl_cons, show sigA N a r = sigA M a r by unfold sigA; rw [e]]
    exact sig_same rs _ h.2
theorem tab_sig : (tab.all fun p => Nat.beq (sig p.2) p.1) = true := by decide +kernel
theorem tab_one : (tab.all fun p => tab.all fun q => !Nat.beq p.1 q.1 || (Nat.beq p.2.1 q.2.1 && (Nat.beq p.2.2.1 q.2.2.1 && (Nat.beq p.2.2.2.1 q.2.2.2.1 && Nat.beq p.2.2.2.2 q.2.2.2.2)))) = true := by decide +kernel
def inTab (N : RN) : Bool := tab.any fun p => Nat.beq p.2.2.2.2 N.2.2.2 && (Nat.beq p.2.2.2.1 N.2.2.1 && (Nat.beq p.2.2.1 N.2.1 && Nat.beq p.2.1 N.1))
theorem tab_in : ([1, 2, 3, 6].all fun d => (List.range 13).all fun o => (List.range 13).all fun s => (List.range 13).all fun t => inTab (nf d o s t)) = true := by decide +kernel
theorem rad_all : radL 1 = 1 ∧ radL 2 = 2 ∧ radL 3 = 3 ∧ radL 6 = 6 := by decide +kernel
theorem inTab_of {N : RN} (h : inTab N = true) : ∃ z, (z, N) ∈ tab := by
  unfold inTab at h
  obtain ⟨p, hp, e⟩ := List.any_eq_true.mp h
  obtain ⟨n1, n2, n3, n4⟩ := N
  obtain ⟨z, p1, p2, p3, p4⟩ := p
  simp only [Bool.and_eq_true, Nat.beq_eq] at e
  obtain ⟨e1, e2, e3, e4⟩ := e
  subst e1 e2 e3 e4
  exact ⟨z, hp⟩
theorem drawn_in {i o s t : Nat} (hi : i = 1 ∨ i = 2 ∨ i = 3 ∨ i = 6) (ho : o < 13) (hs : s < 13) (ht : t < 13) : ∃ z, (z, nf (radL i) o s t) ∈ tab := by
  refine inTab_of ?_
  have z := tab_in
  rw [List.all_eq_true] at z
  have e : radL i = i := by
    obtain ⟨e1, e2, e3, e4⟩ := rad_all
    rcases hi with rfl | rfl | rfl | rfl <;> assumption
  rw [e]
  have z1 := z i (by rcases hi with rfl | rfl | rfl | rfl <;> simp)
  rw [List.all_eq_true] at z1
  have z2 := z1 o (List.mem_range.mpr ho)
  rw [List.all_eq_true] at z2
  have z3 := z2 s (List.mem_range.mpr hs)
  rw [List.all_eq_true] at z3
  exact z3 t (List.mem_range.mpr ht)
/-- rings part two normal forms exactly if they differ -/
theorem part_iff {N M : RN} (hN : ∃ z, (z, N) ∈ tab) (hM : ∃ z, (z, M) ∈ tab) : (lawR.any fun r => memb r N != memb r M) = !decide (N = M) := by
  by_cases e : N = M
  · subst e
    rw [decide_eq_true rfl]
    rw [List.any_eq_false.mpr]
    · rfl
    · intro r _
      cases memb r N <;> decide
  · rw [decide_eq_false e]
    cases h : (lawR.any fun r => memb r N != memb r M) with
    | true => rfl
    | false =>
      exfalso
      have s := sig_same lawR 0 h
      obtain ⟨x, hx⟩ := hN
      obtain ⟨y, hy⟩ := hM
      have t := tab_sig
      rw [List.all_eq_true] at t
      have tx := Nat.eq_of_beq_eq_true (t _ hx)
      have ty := Nat.eq_of_beq_eq_true (t _ hy)
      have xy : x = y := tx.symm.trans (Eq.trans s ty)
      have u := tab_one
      rw [List.all_eq_true] at u
      have u1 := u _ hx
      rw [List.all_eq_true] at u1
      have u2 := u1 _ hy
      subst xy
      obtain ⟨n1, n2, n3, n4⟩ := N
      obtain ⟨m1, m2, m3, m4⟩ := M
      simp only [Nat.beq_refl, Bool.not_true, Bool.false_or, Bool.and_eq_true, Nat.beq_eq] at u2
      obtain ⟨e1, e2, e3, e4⟩ := u2
      subst e1 e2 e3 e4
      exact e rfl
end My
/-! rings made -/
namespace My
open PySem PySem.Spec PyProof.Rows L2
theorem made_same {H H' : Hp} {x dx C : Addr} {o1 o2 : HO} (nx : H x = none) (nd : H dx = none) (k : Kp x (upd (upd H dx o1) x o2) H') : Same H H' := fun c o hc => by
  have c1 : c ≠ x := ne_of_none hc nx
  have c2 : c ≠ dx := ne_of_none hc nd
  refine k _ _ c1 ?_
  rw [upd_ne c1, upd_ne c2]
  exact hc
theorem made_up {H : Hp} {x dx : Addr} {o1 o2 : HO} (nx : H x = none) (nd : H dx = none) : Same H (upd (upd H dx o1) x o2) := fun c o hc => by
  rw [upd_ne (ne_of_none hc nx), upd_ne (ne_of_none hc nd)]
  exact hc
section
variable {CR CW CD CT : Addr} {H : Hp} {R : VK} {x dx : Addr}
theorem mk_rests {z : Int} {m : Nat} (hz : z = (m : Nat)) (m2 : 2 ≤ m) (m1 : m ≤ 100) (nx : H x = none) (nd : H dx = none) (q : ∀ H', Same H H' → RingAt CR CW CD CT H' x (.base (.rests m)) → R .non H') :
    spRests CR CW (.ref x :: ([.int z] ++ [])) (upd (upd H dx (.own x)) x (.ins CR dx [])) R E0 := by
  subst hz
  exact ⟨x, dx, m, rfl, upd_same, m2, m1, fun H' k B => q H' (made_same (C := CR) nx nd k) B⟩
theorem mk_whole {z : Int} {d : Nat} (hz : z = (d : Nat)) (d1 : 1 ≤ d) (d2 : d ≤ 1000000) (nx : H x = none) (nd : H dx = none) (q : ∀ H', Same H H' → RingAt CR CW CD CT H' x (.base (.whole (radL d))) → R .non H') :
    spWhole CR CW (.ref x :: ([.int z] ++ [])) (upd (upd H dx (.own x)) x (.ins CW dx [])) R E0 := by
  subst hz
  exact ⟨x, dx, d, rfl, upd_same, d1, d2, fun H' k B => q H' (made_same (C := CW) nx nd k) B⟩
theorem mk_duals {y : Addr} {b : BD} (hb : BaseAt CR CW H y b) (nx : H x = none) (nd : H dx = none) (q : ∀ H', Same H H' → RingAt CR CW CD CT H' x (.duals b) → R .non H') :
    spDuals CR CW CD CT (.ref x :: ([.ref y] ++ [])) (upd (upd H dx (.own x)) x (.ins CD dx [])) R E0 := by
  have hy : y ≠ x := by
    obtain ⟨_, dy, fs, h1, _⟩ := id hb
    exact ne_of_none h1 nx
  exact ⟨x, dx, y, b, rfl, upd_same, hy, hb.same (made_up nx nd), fun H' k B => q H' (made_same (C := CD) nx nd k) B⟩
theorem mk_twists {z : Int} {k : Nat} {y : Addr} {b : BD} (hz : z = (k : Nat)) (hb : BaseAt CR CW H y b) (k1 : 1 ≤ k) (k2 : k ≤ 1000) (hk : b.hr k = true) (nx : H x = none) (nd : H dx = none) (q : ∀ H', Same H H' → RingAt CR CW CD CT H' x (.twists k b) → R .non H') :
    spTwists CR CW CD CT (.ref x :: ([.int z, .ref y] ++ [])) (upd (upd H dx (.own x)) x (.ins CT dx [])) R E0 := by
  subst hz
  have hy : y ≠ x := by
    obtain ⟨_, dy, fs, h1, _⟩ := id hb
    exact ne_of_none h1 nx
  exact ⟨x, dx, y, k, b, rfl, upd_same, hy, hb.same (made_up nx nd), k1, k2, hk, fun H' kp B => q H' (made_same (C := CT) nx nd kp) B⟩
end
/-- rings listed -/
def Rgs (CR CW CD CT : Addr) (H : Hp) (xs : List Addr) (rs : List RD) : Prop := xs.length = rs.length ∧ ∀ (i : Nat) (x : Addr) (r : RD), xs[i]? = some x → rs[i]? = some r → RingAt CR CW CD CT H x r
theorem Rgs.same {CR CW CD CT : Addr} {H H' : Hp} {xs : List Addr} {rs : List RD} (h : Rgs CR CW CD CT H xs rs) (s : Same H H') : Rgs CR CW CD CT H' xs rs := ⟨h.1, fun i x r a b => (h.2 i x r a b).same s⟩
theorem Rgs.nil {CR CW CD CT : Addr} {H : Hp} : Rgs CR CW CD CT H [] [] := ⟨rfl, fun i x r a _ => by simp at a⟩
theorem Rgs.put {CR CW CD CT : Addr} {H : Hp} {xs : List Addr} {rs : List RD} {x : Addr} {r : RD} (h : Rgs CR CW CD CT H xs rs) (hx : RingAt CR CW CD CT H x r) : Rgs CR CW CD CT H (xs ++ [x]) (rs ++ [r]) := by
  refine ⟨by rw [List.length_append, List.length_append, h.1]; rfl, fun i y s a b => ?_⟩
  rw [List.getElem?_append] at a b
  by_cases c : i < xs.length
  · rw [if_pos c] at a
    rw [if_pos (by rw [← h.1]; exact c)] at b
    exact h.2 i y s a b
  · rw [if_neg c] at a
    rw [if_neg (by rw [← h.1]; exact c), ← h.1] at b
    cases e : i - xs.length with
    | zero =>
      rw [e] at a b
      cases a
      cases b
      exact hx
    | succ n =>
      rw [e] at a
      simp at a
theorem Rgs.app {CR CW CD CT : Addr} {H : Hp} {xs ys : List Addr} {rs ss : List RD} (h : Rgs CR CW CD CT H xs rs) (g : Rgs CR CW CD CT H ys ss) : Rgs CR CW CD CT H (xs ++ ys) (rs ++ ss) := by
  refine ⟨by rw [List.length_append, List.length_append, h.1, g.1], fun i y s a b => ?_⟩
  rw [List.getElem?_append] at a b
  by_cases c : i < xs.length
  · rw [if_pos c] at a
    rw [if_pos (by rw [← h.1]; exact c)] at b
    exact h.2 i y s a b
  · rw [if_neg c] at a
    rw [if_neg (by rw [← h.1]; exact c), ← h.1] at b
    exact g.2 _ y s a b
theorem Rgs.two {CR CW CD CT : Addr} {H : Hp} {x y : Addr} {r s : RD} (hx : RingAt CR CW CD CT H x r) (hy : RingAt CR CW CD CT H y s) : Rgs CR CW CD CT H [x, y] [r, s] := (Rgs.nil.put hx).put hy
/-- rings in places that a list at l does not touch -/
theorem RingAt.put {CR CW CD CT : Addr} {H : Hp} {l a : Addr} {xs ys : List V} {r : RD} (h : RingAt CR CW CD CT H a r) (hl : H l = some (.lst xs)) : RingAt CR CW CD CT (upd H l (.lst ys)) a r := by
  have kp : Kp l H (upd H l (.lst ys)) := Kp.upd
  have bs : ∀ {x : Addr} {b : BD}, BaseAt CR CW H x b → BaseAt CR CW (upd H l (.lst ys)) x b := fun {x b} hb => by
    obtain ⟨_, dy, fs, h1, _⟩ := id hb
    exact hb.kp kp (ne_of h1 hl fun z => by cases z)
  cases r with
  | base b => exact bs h
  | duals b =>
    obtain ⟨dx, fs, B, x, h1, h2, h3, h4, h5⟩ := h
    exact ⟨dx, fs, B, x, kp _ _ (ne_of h1 hl fun z => by cases z) h1, h2, h3, kp _ _ (ne_of h4 hl fun z => by cases z) h4, bs h5⟩
  | twists k b =>
    obtain ⟨dx, fs, B, x, h1, h2, h3, h4, h5⟩ := h
    exact ⟨dx, fs, B, x, kp _ _ (ne_of h1 hl fun z => by cases z) h1, h2, h3, kp _ _ (ne_of h4 hl fun z => by cases z) h4, bs h5⟩
theorem Rgs.ext {CR CW CD CT : Addr} {H : Hp} {l : Addr} {zs ys : List V} {xs : List Addr} {rs : List RD} (h : Rgs CR CW CD CT H xs rs) (hl : H l = some (.lst zs)) : Rgs CR CW CD CT (upd H l (.lst ys)) xs rs := ⟨h.1, fun i x r a b => (h.2 i x r a b).put hl⟩
/-- the i-th ring of a list, and what is parted after it -/
theorem any_take {α : Type} {f : α → Bool} {xs : List α} {i : Nat} {x : α} (h : xs[i]? = some x) : (xs.take (i + 1)).any f = ((xs.take i).any f || f x) := by
  rw [List.take_add_one, h, List.any_append]
  simp
def D2 (N M : RN) (r : RD) : Bool := memb r N != memb r M
end My
/-! the law -/
namespace My
open PySem PySem.Spec PyProof.Rows L2
def spLaw (K : PySem.W.Frag) : Sp := fun vs H Q _ => ∃ (a : Addr) (ns : List Int), vs = [.ref a] ∧ SqL K H a (ns.map V.int) ∧ ns.length ≤ 63 ∧ ∀ H', Q (.bl true) H'
/-- four numbers drawn -/
def tFour (K : PySem.W.Frag) : TE := tTup (tCons (tCall (spPick K) [] E0 (tCons (tVar 1) (tCons (tLst (tCons (tC (V.int 1)) (tCons (tC (V.int 2)) (tCons (tC (V.int 3)) (tCons (tC (V.int 6)) tNil))))) tNil)))
  (tCons (tCall (spPick K) [] E0 (tCons (tVar 1) (tCons (tLst (tCons (tC (V.int 0)) (tCons (tOp (rI0 fun i j => V.int (i + j)) (tC (V.int 1)) (tCall spDraw [] E0 (tCons (tVar 1) (tCons (tC (V.int 12)) tNil)))) tNil))) tNil)))
    (tCons (tCall spDraw [] E0 (tCons (tVar 1) (tCons (tC (V.int 13)) tNil))) (tCons (tCall spDraw [] E0 (tCons (tVar 1) (tCons (tC (V.int 13)) tNil))) tNil))))
theorem draw_four {K : PySem.W.Frag} {σ : L2.St} {H : Hp} {Q : VK} {b cc : Addr} (h1 : σ[1]? = some (some (.ref b))) (B0 : Bg H b cc)
    (q : ∀ (T : Addr) (i o s t : Nat) (H' : Hp), (i = 1 ∨ i = 2 ∨ i = 3 ∨ i = 6) → o < 13 → s < 13 → t < 13 → Kp b H H' → Bg H' b cc → T ≠ b → H' T = some (tupR i o s t) → Q (.ref T) H') : tFour K σ H Q := by
  refine ⟨_, h1, (by show 4 ≤ sizeLine; decide), fun l1 n1 => ⟨b, cc, .ref l1, rfl, B0.same (same_upd n1), .inl ⟨l1, _, rfl, B0.ne_new n1, upd_same, by simp, (by show 4 ≤ 1000; decide), fun v1 H1 m1 k1 B1 => ?_⟩⟩⟩
  obtain ⟨d, rfl, hd⟩ : ∃ n : Nat, v1 = .int (n : Int) ∧ (n = 1 ∨ n = 2 ∨ n = 3 ∨ n = 6) := by
    simp only [List.mem_cons, List.not_mem_nil, or_false] at m1
    rcases m1 with rfl | rfl | rfl | rfl
    · exact ⟨1, rfl, by decide⟩
    · exact ⟨2, rfl, by decide⟩
    · exact ⟨3, rfl, by decide⟩
    · exact ⟨6, rfl, by decide⟩
  have K1 : Kp b H H1 := (Kp.of (same_upd n1)).trans k1
  refine ⟨_, h1, _, h1, b, cc, 12, rfl, B1, by decide, by decide, fun v2 H2 z0 z1 k2 B2 => ⟨_, _, rfl, rfl, (by show 2 ≤ sizeLine; decide), fun l2 n2 => ?_⟩⟩
  refine ⟨b, cc, .ref l2, rfl, B2.same (same_upd n2), .inl ⟨l2, _, rfl, B2.ne_new n2, upd_same, by simp, (by show 2 ≤ 1000; decide), fun v3 H3 m3 k3 B3 => ?_⟩⟩
  obtain ⟨o, rfl, ho⟩ : ∃ n : Nat, v3 = .int (n : Int) ∧ n < 13 := by
    simp only [List.mem_cons, List.not_mem_nil, or_false] at m3
    rcases m3 with rfl | rfl
    · exact ⟨0, rfl, by decide⟩
    · exact ⟨(1 + v2).toNat, congrArg V.int (by omega), by omega⟩
  have K3 : Kp b H H3 := K1.trans (k2.trans ((Kp.of (same_upd n2)).trans k3))
  refine ⟨_, h1, b, cc, 13, rfl, B3, by decide, by decide, fun v4 H4 y0 y1 k4 B4 => ⟨_, h1, b, cc, 13, rfl, B4, by decide, by decide, fun v5 H5 x0 x1 k5 B5 => ⟨(by show 4 ≤ sizeLine; decide), fun T nT => ?_⟩⟩⟩
  obtain ⟨s, rfl⟩ : ∃ n : Nat, v4 = (n : Int) := ⟨v4.toNat, by omega⟩
  obtain ⟨t, rfl⟩ : ∃ n : Nat, v5 = (n : Int) := ⟨v5.toNat, by omega⟩
  exact q T d o s t _ hd ho (by omega) (by omega) (K3.trans (k4.trans (k5.trans (Kp.of (same_upd nT))))) (B5.same (same_upd nT)) (B5.ne_new nT) upd_same
/-- a ring parts two realms -/
def tRing (C CR CW CD CT : Addr) : TS := tIfS (tTest (tOp rNe (tOp (OwO.rInO C (spIn C CR CW CD CT)) (tVar 11) (tVar 5)) (tOp (OwO.rInO C (spIn C CR CW CD CT)) (tVar 11) (tVar 6)))) (tAsg (tC (V.bl true)) (gName 7)) tNext
theorem ring_if {C CR CW CD CT : Addr} {σ : L2.St} {H : Hp} {D : Ends} {x x1 x2 d o s t d' o' s' t' : Nat} {r : RD} (h11 : σ[11]? = some (some (.ref x))) (h5 : σ[5]? = some (some (.ref x1))) (h6 : σ[6]? = some (some (.ref x2)))
    (R1 : RealmAt C H x1 d o s t) (R2 : RealmAt C H x2 d' o' s' t') (db : 1 ≤ d ∧ d ≤ 1000000) (db' : 1 ≤ d' ∧ d' ≤ 1000000) (hx : RingAt CR CW CD CT H x r)
    (q1 : D2 (d, o, s, t) (d', o', s', t') r = true → ∀ H', Same H H' → D.nx (σ.set 7 (some (.bl true))) H') (q0 : D2 (d, o, s, t) (d', o', s', t') r = false → ∀ H', Same H H' → D.nx σ H') : tRing C CR CW CD CT D σ H := by
  obtain ⟨e1, T1, g1, g2⟩ := id R1
  refine ⟨_, h11, _, h5, x1, e1, _, rfl, g1, x1, x, r, d, o, s, t, rfl, R1, hx, db.1, db.2, fun H1 s1 => ⟨_, rfl, ?_⟩⟩
  obtain ⟨e2, T2, k1, k2⟩ := id (R2.same s1)
  refine ⟨_, h11, _, h6, x2, e2, _, rfl, k1, x2, x, r, d', o', s', t', rfl, R2.same s1, hx.same s1, db'.1, db'.2, fun H2 s2 => ⟨_, rfl, ?_⟩⟩
  refine ⟨rfl, _, rfl, ?_⟩
  have e : (!decide (V.bl (memb r (d, o, s, t)) = V.bl (memb r (d', o', s', t')))) = D2 (d, o, s, t) (d', o', s', t') r := by
    unfold D2
    cases memb r (d, o, s, t) <;> cases memb r (d', o', s', t') <;> decide
  rw [e]
  cases z : D2 (d, o, s, t) (d', o', s', t') r with
  | true => exact iteT (q1 z _ (s1.trans s2))
  | false => exact iteF (q0 z _ (s1.trans s2))
section
variable {P : Program} {w : World} {K : PySem.W.Frag} {mg : Str → Option Value} {base : Heap} {C CR CW CD CT : Addr} {mc : Value}
theorem ok_law {f fIn fEq : Addr} {fd fdIn fdEq : FuncData} (F : Fun K "law" "law" s_law f fd) (B : Blt mg) (R : RCls K C mc)
    (MK_Rests : HasCX P w K mg base 9 "Rests" CR ["self", "modulus"] (spRests CR CW)) (MK_Whole : HasCX P w K mg base 9 "Whole" CW ["self", "inverse"] (spWhole CR CW)) (MK_Duals : HasCX P w K mg base 10 "Duals" CD ["self", "base"] (spDuals CR CW CD CT)) (MK_Twists : HasCX P w K mg base 8 "Twists" CT ["self", "part", "base"] (spTwists CR CW CD CT))
    (INS : OwO.Spc K C "__contains__" fIn) (INF : FnOk P w K mg base CX0 5 fIn fdIn ["self", "x"] (spIn C CR CW CD CT)) (INb : Binds K fdIn ["self", "x"] [])
    (EQS : OwO.Spc K C "__eq__" fEq) (EQF : FnOk P w K mg base CX0 1 fEq fdEq ["self", "other"] (spEqR C)) (EQb : Binds K fdEq ["self", "other"] [])
    (G_l_bag : Has P w K mg base 1 "_law_bag" ["_law_script"] (spBag K)) (G_l_draw : Has P w K mg base 1 "_law_draw" ["_law_bag_here", "_law_many"] spDraw) (G_l_pick : Has P w K mg base 2 "_law_pick" ["_law_bag_here", "_law_some"] (spPick K))
    (G_l_realm : Has P w K mg base 6 "_law_realm" ["_law_numbers"] (spLRealm C)) :
    FnOk P w K mg base CX0 13 f fd ["_law_script"] (spLaw K) := by
  refine F.ok sc_law (fun vs H Q E h => ?_) (fun cdv A outer s H vs Q E hr h => ?_)
  · obtain ⟨a, t, rfl, _⟩ := h
    rfl
  obtain ⟨a, ns, rfl, hS, hl, q⟩ := h
  have cl_ := R.cl
  refine ⟨_, (pss_cons (ps_set (i := 1) sc_law.nd rfl (Or.inl rfl) (pe_own G_l_bag (hr.mono (by decide)) (by rfl) (pa_cons (pv 0) pa_nil)))
      (C8.pss_cut (ps_for PassesOwn.never rfl (pi_range1 (by rfl) B.range (pa_cons pe_int pa_nil)) (pg_name (i := 2) sc_law.nd rfl (Or.inl rfl))
        (C8.pss_cut (ps_set (i := 3) sc_law.nd rfl (Or.inl rfl) (pe_tup (pa_cons (pe_own G_l_pick (hr.mono (by decide)) (by rfl) (pa_cons (pv 1) (pa_cons (pe_lst (pa_cons pe_int (pa_cons pe_int (pa_cons pe_int (pa_cons pe_int pa_nil))))) pa_nil))) (pa_cons (pe_own G_l_pick (hr.mono (by decide)) (by rfl) (pa_cons (pv 1) (pa_cons (pe_lst (pa_cons pe_int (pa_cons (pe_op op_add pe_int (pe_own G_l_draw (hr.mono (by decide)) (by rfl) (pa_cons (pv 1) (pa_cons pe_int pa_nil)))) pa_nil))) pa_nil))) (pa_cons (pe_own G_l_draw (hr.mono (by decide)) (by rfl) (pa_cons (pv 1) (pa_cons pe_int pa_nil))) (pa_cons (pe_own G_l_draw (hr.mono (by decide)) (by rfl) (pa_cons (pv 1) (pa_cons pe_int pa_nil))) pa_nil))))))
      (C8.pss_cut (ps_set (i := 4) sc_law.nd rfl (Or.inl rfl) (pe_tup (pa_cons (pe_own G_l_pick (hr.mono (by decide)) (by rfl) (pa_cons (pv 1) (pa_cons (pe_lst (pa_cons pe_int (pa_cons pe_int (pa_cons pe_int (pa_cons pe_int pa_nil))))) pa_nil))) (pa_cons (pe_own G_l_pick (hr.mono (by decide)) (by rfl) (pa_cons (pv 1) (pa_cons (pe_lst (pa_cons pe_int (pa_cons (pe_op op_add pe_int (pe_own G_l_draw (hr.mono (by decide)) (by rfl) (pa_cons (pv 1) (pa_cons pe_int pa_nil)))) pa_nil))) pa_nil))) (pa_cons (pe_own G_l_draw (hr.mono (by decide)) (by rfl) (pa_cons (pv 1) (pa_cons pe_int pa_nil))) (pa_cons (pe_own G_l_draw (hr.mono (by decide)) (by rfl) (pa_cons (pv 1) (pa_cons pe_int pa_nil))) pa_nil))))))
      (pss_cons (ps_par (i := 5) (j := 6) rfl sc_law.nd rfl rfl (by decide) rfl rfl (pa_cons (pe_own G_l_realm (hr.mono (by decide)) (by rfl) (pa_cons (pv 3) pa_nil)) (pa_cons (pe_own G_l_realm (hr.mono (by decide)) (by rfl) (pa_cons (pv 4) pa_nil)) pa_nil)) rfl)
      (pss_cons (ps_set (i := 7) sc_law.nd rfl (Or.inl rfl) pe_bl)
      (C8.pss_cut (ps_for PassesOwn.never rfl (pi_range2 (by rfl) B.range (pa_cons pe_int (pa_cons pe_int pa_nil))) (pg_name (i := 8) sc_law.nd rfl (Or.inl rfl))
        (pss_cons (ps_set (i := 9) sc_law.nd rfl (Or.inl rfl) (pe_lst (pa_cons (pe_mkX MK_Rests (hr.mono (by decide)) (by rfl) (pa_cons (pv 8) pa_nil)) (pa_cons (pe_mkX MK_Duals (hr.mono (by decide)) (by rfl) (pa_cons (pe_mkX MK_Rests (hr.mono (by decide)) (by rfl) (pa_cons (pv 8) pa_nil)) pa_nil)) pa_nil))))
      (C8.pss_cut (ps_for PassesOwn.never rfl (pi_range2 (by rfl) B.range (pa_cons pe_int (pa_cons pe_int pa_nil))) (pg_name (i := 10) sc_law.nd rfl (Or.inl rfl))
        (pss_one (ps_if (pt_cmpR op_eq (pe_op op_mod (pe_callTy call_int1 (by rfl) B.int bb_int (pa_cons (pv 8) pa_nil)) (pv 10)) pe_int (nomark _))
        (pss_one (ps_expr (pe_bm PySem.F.plainAttrs_list PySem.F.slot_list_append PySem.F.type_list_append mt_append (pv 9) (pa_cons (pe_mkX MK_Twists (hr.mono (by decide)) (by rfl) (pa_cons (pv 10) (pa_cons (pe_mkX MK_Rests (hr.mono (by decide)) (by rfl) (pa_cons (pv 8) pa_nil)) pa_nil))) pa_nil))))
        pss_nil)))
      (pss_one (ps_for PassesOwn.never rfl (pi_list (pv 9)) (pg_name (i := 11) sc_law.nd rfl (Or.inl rfl))
        (pss_one (ps_if (pt_cmpR op_ne (pe_cmpR (OwO.op_inO rfl INS INF INb (hr.mono (by decide))) (pv 11) (pv 5) rfl) (pe_cmpR (OwO.op_inO rfl INS INF INb (hr.mono (by decide))) (pv 11) (pv 6) rfl) (nomark _))
        (pss_one (ps_set (i := 7) sc_law.nd rfl (Or.inl rfl) pe_bl))
        pss_nil)))))))
      (pss_cons (ps_set (i := 12) sc_law.nd rfl (Or.inl rfl) (pe_lst (pa_cons (pe_mkX MK_Whole (hr.mono (by decide)) (by rfl) (pa_cons pe_int pa_nil)) (pa_cons (pe_mkX MK_Whole (hr.mono (by decide)) (by rfl) (pa_cons pe_int pa_nil)) (pa_cons (pe_mkX MK_Whole (hr.mono (by decide)) (by rfl) (pa_cons pe_int pa_nil)) (pa_cons (pe_mkX MK_Whole (hr.mono (by decide)) (by rfl) (pa_cons pe_int pa_nil)) pa_nil))))))
      (C8.pss_cut (ps_for PassesOwn.never rfl (pi_list (pe_op op_cat (pe_op op_cat (pv 12) (pe_lc (own := [("_law_base", 13)]) (g := gName 13) (tt := tYes) (by rfl) sc_law.nd (pi_list (pv 12)) (blkOk_by (own := [("_law_base", 13)]) (N := N_law) (sc := defScope s_law) (by decide +kernel)) (fun _ _ _ _ _ => (pg_name (i := 13) sc_law.nd rfl (Or.inl rfl))) (fun _ _ _ _ _ => pts_nil) (fun _ _ _ _ _ => (pe_mkX MK_Duals (hr.mono (by decide)) (by rfl) (pa_cons (pv 13) pa_nil))))) (pe_lst (pa_cons (pe_mkX MK_Twists (hr.mono (by decide)) (by rfl) (pa_cons pe_int (pa_cons (pe_mkX MK_Whole (hr.mono (by decide)) (by rfl) (pa_cons pe_int pa_nil)) pa_nil))) (pa_cons (pe_mkX MK_Twists (hr.mono (by decide)) (by rfl) (pa_cons pe_int (pa_cons (pe_mkX MK_Whole (hr.mono (by decide)) (by rfl) (pa_cons pe_int pa_nil)) pa_nil))) pa_nil))))) (pg_name (i := 11) sc_law.nd rfl (Or.inl rfl))
        (pss_one (ps_if (pt_cmpR op_ne (pe_cmpR (OwO.op_inO rfl INS INF INb (hr.mono (by decide))) (pv 11) (pv 5) rfl) (pe_cmpR (OwO.op_inO rfl INS INF INb (hr.mono (by decide))) (pv 11) (pv 6) rfl) (nomark _))
        (pss_one (ps_set (i := 7) sc_law.nd rfl (Or.inl rfl) pe_bl))
        pss_nil)))
      (pss_one (ps_if (pt_cmpR op_eq (pe_cmpR (OwO.op_eqO (K0 := K) rfl EQS EQF EQb (hr.mono (by decide)) rfl) (pv 5) (pv 6) (nomark _)) (pv 7) (nomark _))
        (pss_one (ps_ret pe_bl))
        pss_nil))))))))))
      (pss_one (ps_ret pe_bl)))), ?_⟩
  refine ⟨_, rfl, a, ns, rfl, hS, hl, fun b cc H0 s0 nb B0 => ?_⟩
  refine ⟨fun _ _ => True, ⟨3, rfl, by decide, by decide, for_range (n := 3) (fun i σ H' => ∃ y2 y3 y4 y5 y6 y7 y8 y9 y10 y11 y12 y13, σ = [some (.ref a), some (.ref b), y2, y3, y4, y5, y6, y7, y8, y9, y10, y11, y12, y13] ∧ Bg H' b cc)
      ⟨_, _, _, _, _, _, _, _, _, _, _, _, rfl, B0⟩ ?_ (fun σ H' _ => True.intro)⟩, fun σ' H' _ => q H'⟩
  rintro i σ H0 hi ⟨y2, y3, y4, y5, y6, y7, y8, y9, y10, y11, y12, y13, rfl, B0⟩
  refine ⟨fun σ' H' => ∃ (T i' o s t : Nat), σ' = [some (.ref a), some (.ref b), some (.int ((0 : Int) + (i : Int))), some (.ref T), y4, y5, y6, y7, y8, y9, y10, y11, y12, y13] ∧ Bg H' b cc ∧ T ≠ b ∧ H' T = some (tupR i' o s t) ∧ (i' = 1 ∨ i' = 2 ∨ i' = 3 ∨ i' = 6) ∧ o < 13 ∧ s < 13 ∧ t < 13, ?_, ?_⟩
  · exact draw_four rfl B0 fun T i' o s t H' h1 h2 h3 h4 k B1 nT hT => ⟨T, i', o, s, t, rfl, B1, nT, hT, h1, h2, h3, h4⟩
  rintro σ' H1 ⟨T, i1, o1, s1, t1, rfl, B1, nT, hT, hi1, ho1, hs1, ht1⟩
  refine ⟨fun σ' H' => ∃ (T2 i' o s t : Nat), σ' = [some (.ref a), some (.ref b), some (.int ((0 : Int) + (i : Int))), some (.ref T), some (.ref T2), y5, y6, y7, y8, y9, y10, y11, y12, y13] ∧ Bg H' b cc ∧ H' T = some (tupR i1 o1 s1 t1) ∧ H' T2 = some (tupR i' o s t) ∧ (i' = 1 ∨ i' = 2 ∨ i' = 3 ∨ i' = 6) ∧ o < 13 ∧ s < 13 ∧ t < 13, ?_, ?_⟩
  · exact draw_four rfl B1 fun T2 i' o s t H' h1 h2 h3 h4 k B2 nT2 hT2 => ⟨T2, i', o, s, t, rfl, B2, k _ _ nT hT, hT2, h1, h2, h3, h4⟩
  rintro σ' H2 ⟨T2, i2, o2, s2, t2, rfl, B2, hT1, hT2, hi2, ho2, hs2, ht2⟩
  have r1 : 1 ≤ i1 ∧ i1 ≤ 1000000 := by omega
  have r2 : 1 ≤ i2 ∧ i2 ≤ 1000000 := by omega
  refine ⟨_, rfl, T, i1, o1, s1, t1, rfl, hT1, r1.1, r1.2, by omega, by omega, by omega, fun H3 x1 d3 p3 q3 w3 N1 sm3 nx1 R1 => ?_⟩
  refine ⟨_, rfl, T2, i2, o2, s2, t2, rfl, sm3 _ _ hT2, r2.1, r2.2, by omega, by omega, by omega, fun H4 x2 d4 p4 q4 w4 N2 sm4 nx2 R2 => ⟨_, _, rfl, ?_⟩⟩
  have z1 : ∃ z, (z, (d3, p3, q3, w3)) ∈ tab := by
    rw [nf_of N1]
    exact drawn_in hi1 ho1 hs1 ht1
  have z2 : ∃ z, (z, (d4, p4, q4, w4)) ∈ tab := by
    rw [nf_of N2]
    exact drawn_in hi2 ho2 hs2 ht2
  have db1 : 1 ≤ d3 ∧ d3 ≤ 1000000 := by
    rw [N1.ed]
    split
    · exact radL_range r1.1 r1.2
    · decide
  have db2 : 1 ≤ d4 ∧ d4 ≤ 1000000 := by
    rw [N2.ed]
    split
    · exact radL_range r2.1 r2.2
    · decide
  have B4 := (B2.same sm3).same sm4
  have R1 := R1.same sm4
  have pI : (lawR.any (D2 (d3, p3, q3, w3) (d4, p4, q4, w4))) = !decide ((d3, p3, q3, w3) = (d4, p4, q4, w4)) := part_iff z1 z2
  obtain ⟨F3, hF⟩ : ∃ f, f = D2 (d3, p3, q3, w3) (d4, p4, q4, w4) := ⟨_, rfl⟩
  rw [← hF] at pI
  clear N1 N2 sm3 sm4 hT1 hT2 B2 B1 B0 z1 z2 nx1 nx2 r1 r2 hi1 hi2 ho1 ho2 hs1 hs2 ht1 ht2
  refine ⟨fun σ' H' => ∃ y8 y9 y10 y11, σ' = [some (.ref a), some (.ref b), some (.int ((0 : Int) + (i : Int))), some (.ref T), some (.ref T2), some (.ref x1), some (.ref x2), some (.bl (((List.range 39).flatMap fun j => ringsOf (j + 2)).any F3)), y8, y9, y10, y11, y12, y13] ∧ Same H4 H', ?_, ?_⟩
  · refine ⟨2, 41, rfl, by decide, for_range (n := 39) (fun i5 σ H' => ∃ y8 y9 y10 y11, σ = [some (.ref a), some (.ref b), some (.int ((0 : Int) + (i : Int))), some (.ref T), some (.ref T2), some (.ref x1), some (.ref x2), some (.bl (((List.range i5).flatMap fun j => ringsOf (j + 2)).any F3)), y8, y9, y10, y11, y12, y13] ∧ Same H4 H') ⟨_, _, _, _, rfl, Same.refl _⟩ ?_ (fun σ H' h => h)⟩
    rintro i5 σ H5 hi5 ⟨y8, y9, y10, y11, rfl, sm5⟩
    have hz : (2 : Int) + (i5 : Int) = ((i5 + 2 : Nat) : Int) := by omega
    refine ⟨_, rfl, fun xa da na na' _ => mk_rests (CD := CD) (CT := CT) hz (by omega) (by omega) na na' fun Ha sa Ra => ⟨rfl, ?_⟩⟩
    refine ⟨_, rfl, fun xb db nb nb' _ => mk_rests (CD := CD) (CT := CT) hz (by omega) (by omega) nb nb' fun Hb sb Rb => ⟨rfl, ?_⟩⟩
    refine fun xc dc nc nc' _ => mk_duals Rb nc nc' fun Hc sc Rc => ⟨rfl, ?_⟩
    refine ⟨by show 2 ≤ sizeLine; decide, fun l9 nl => ?_⟩
    have Ra2 := (Ra.same sb).same sc
    have ul := same_upd (o := .lst [.ref xa, .ref xc]) nl
    have Rg2 := (Rgs.two Ra2 Rc).same ul
    have s5c := sa.trans (sb.trans (sc.trans ul))
    have e9 := upd_same (H := Hc) (a := l9) (o := .lst [.ref xa, .ref xc])
    have n9 : H5 l9 = none := (sa.trans (sb.trans sc)).free nl
    generalize hHd : upd Hc l9 (.lst [.ref xa, .ref xc]) = Hd at *
    refine ⟨fun σ' H' => ∃ (xs : List Addr) (y10 : Option V), σ' = [some (.ref a), some (.ref b), some (.int ((0 : Int) + (i : Int))), some (.ref T), some (.ref T2), some (.ref x1), some (.ref x2), some (.bl (((List.range i5).flatMap fun j => ringsOf (j + 2)).any F3)), some (.int ((2 : Int) + (i5 : Int))), some (.ref l9), y10, y11, y12, y13] ∧ Same H5 H' ∧ H' l9 = some (.lst (xs.map V.ref)) ∧ Rgs CR CW CD CT H' xs (ringsOf (i5 + 2)), ?_, ?_⟩
    · refine ⟨1, 13, rfl, by decide, for_range (n := 12) (fun i6 σ H' => ∃ (xs : List Addr) (y10 : Option V), σ = [some (.ref a), some (.ref b), some (.int ((0 : Int) + (i : Int))), some (.ref T), some (.ref T2), some (.ref x1), some (.ref x2), some (.bl (((List.range i5).flatMap fun j => ringsOf (j + 2)).any F3)), some (.int ((2 : Int) + (i5 : Int))), some (.ref l9), y10, y11, y12, y13] ∧ Same H5 H' ∧ H' l9 = some (.lst (xs.map V.ref)) ∧ xs.length ≤ i6 + 2 ∧ Rgs CR CW CD CT H' xs ([.base (.rests (i5 + 2)), .duals (.rests (i5 + 2))] ++ ((List.range i6).filter fun j => decide ((i5 + 2) % (j + 1) = 0)).map fun j => .twists (j + 1) (.rests (i5 + 2)))) ⟨[xa, xc], _, rfl, s5c, e9, Nat.le_refl _, Rg2⟩ ?_ (fun σ H' h => ?_)⟩
      · rintro i6 σ H6 hi6 ⟨xs, y10, rfl, sm6, el, lx, Rg⟩
        have hz6 : (1 : Int) + (i6 : Int) = ((i6 + 1 : Nat) : Int) := by omega
        refine ⟨_, rfl, .inl ⟨_, rfl, _, rfl, _, _, rfl, rfl, (show (0 : Int) < 1 + (i6 : Int) by omega), rfl, _, rfl, ?_⟩⟩
        have e6 : decide (V.int ((2 + (i5 : Int)) % (1 + (i6 : Int))) = V.int 0) = decide ((i5 + 2) % (i6 + 1) = 0) := by
          rw [hz, hz6, ← Int.natCast_emod, dec0]
        rw [e6]
        by_cases c6 : (i5 + 2) % (i6 + 1) = 0
        · rw [decide_eq_true c6]
          refine iteT ?_
          refine ⟨_, rfl, ?_, _, rfl, _, rfl, fun xa da na na' _ => mk_rests (CD := CD) (CT := CT) hz (by omega) (by omega) na na' fun Ha sa Ra => ⟨rfl, fun xb db nb nb' _ => mk_twists hz6 Ra (by omega) (by omega) (decide_eq_true (Nat.dvd_of_mod_eq_zero c6)) nb nb' fun Hb sb Rb => ⟨rfl, l9, _, _, rfl, rfl, sb _ _ (sa _ _ el), small1000 (by rw [List.length_map]; omega), ?_⟩⟩⟩
          · exact .inl ⟨rfl, _, SqL.of el⟩
          · have elb := sb _ _ (sa _ _ el)
            refine ⟨xs ++ [xb], _, rfl, fun c o hc => ?_, ?_, by rw [List.length_append]; show xs.length + 1 ≤ _; omega, ?_⟩
            · rw [upd_ne (ne_of_none hc n9)]
              exact sb _ _ (sa _ _ (sm6 _ _ hc))
            · rw [upd_same, List.map_append]
              rfl
            · have z := ((Rg.same (sa.trans sb)).ext (ys := xs.map V.ref ++ [V.ref xb]) elb).put (Rb.put elb)
              rw [List.range_succ, List.filter_append, List.map_append, ← List.append_assoc]
              rw [List.filter_cons, if_pos (decide_eq_true c6)]
              exact z
        · rw [decide_eq_false c6]
          refine iteF ⟨xs, _, rfl, sm6, el, by omega, ?_⟩
          rw [List.range_succ, List.filter_append, List.filter_cons, if_neg (by rw [decide_eq_false c6]; decide), List.filter_nil, List.append_nil]
          exact Rg
      · obtain ⟨xs, y10, e, s6, el, lx, Rg⟩ := h
        exact ⟨xs, y10, e, s6, el, Rg⟩
    rintro σ' H6 ⟨xs, y10, rfl, sm6, el, Rg⟩
    refine ⟨_, rfl, l9, rfl, ⟨_, SqL.of el⟩, for_list (xs := xs.map V.ref) (fun j σ H' => ∃ y11, σ = [some (.ref a), some (.ref b), some (.int ((0 : Int) + (i : Int))), some (.ref T), some (.ref T2), some (.ref x1), some (.ref x2), some (.bl ((((List.range i5).flatMap fun j => ringsOf (j + 2)).any F3) || ((ringsOf (i5 + 2)).take j).any F3)), some (.int ((2 : Int) + (i5 : Int))), some (.ref l9), y10, y11, y12, y13] ∧ Same H6 H') ⟨_, by rw [List.take_zero, List.any_nil, Bool.or_false], Same.refl _⟩ (fun i2 σ H' _ ⟨_, _, e⟩ => SqL.of (e _ _ el)) ?_ ?_⟩
    · rintro j v σ Ha hx ⟨y11, rfl, sa⟩
      obtain ⟨x, hy, rfl⟩ := at_map hx
      have hj : j < (ringsOf (i5 + 2)).length := by
        rw [← Rg.1]
        exact (List.getElem?_eq_some_iff.mp hy).1
      have hr : (ringsOf (i5 + 2))[j]? = some (ringsOf (i5 + 2))[j] := List.getElem?_eq_getElem hj
      have s4 := sm5.trans (sm6.trans sa)
      refine ring_if (r := (ringsOf (i5 + 2))[j]) rfl rfl rfl (R1.same s4) (R2.same s4) db1 db2 ((Rg.2 j x _ hy hr).same sa) (fun h Hb sb => ⟨some (.ref x), ?_, sa.trans sb⟩) (fun h Hb sb => ⟨some (.ref x), ?_, sa.trans sb⟩)
      · rw [← hF] at h
        rw [any_take hr, h, Bool.or_true, Bool.or_true]
        rfl
      · rw [← hF] at h
        rw [any_take hr, h, Bool.or_false]
        rfl
    · rintro σ' Hb ⟨y11, rfl, sb⟩
      refine ⟨some (.int ((2 : Int) + (i5 : Int))), some (.ref l9), y10, y11, ?_, sm5.trans (sm6.trans sb)⟩
      rw [List.length_map, Rg.1, List.take_length, List.range_succ, List.flatMap_append, List.any_append, List.flatMap_singleton]
  rintro σ' H6 ⟨y8, y9, y10, y11, rfl, sm6⟩
  have R1 := R1.same sm6
  have R2 := R2.same sm6
  have B6 := B4.same sm6
  refine fun xa da na na' _ => mk_whole (CD := CD) (CT := CT) (d := 1) rfl (by decide) (by decide) na na' fun Ha sa Ra => ⟨rfl, fun xb db nb nb' _ => mk_whole (CD := CD) (CT := CT) (d := 2) rfl (by decide) (by decide) nb nb' fun Hb sb Rb => ⟨rfl, fun xc dc nc nc' _ => mk_whole (CD := CD) (CT := CT) (d := 3) rfl (by decide) (by decide) nc nc' fun Hc sc Rc => ⟨rfl, fun xd dd nd nd' _ => mk_whole (CD := CD) (CT := CT) (d := 6) rfl (by decide) (by decide) nd nd' fun Hd sd Rd => ⟨rfl, by show 4 ≤ sizeLine; decide, fun lf nlf => ?_⟩⟩⟩⟩
  rw [rad_all.1] at Ra
  rw [rad_all.2.1] at Rb
  rw [rad_all.2.2.1] at Rc
  rw [rad_all.2.2.2] at Rd
  have elf := upd_same (H := Hd) (a := lf) (o := .lst ([xa, xb, xc, xd].map V.ref))
  have ulf := same_upd (o := .lst ([xa, xb, xc, xd].map V.ref)) nlf
  have Rf := (((Rgs.nil.put (((Ra.same sb).same sc).same sd)).put ((Rb.same sc).same sd)).put (Rc.same sd)).put Rd
  have Rf := Rf.same ulf
  have s6e := sa.trans (sb.trans (sc.trans (sd.trans ulf)))
  change Rgs CR CW CD CT _ [xa, xb, xc, xd] ([BD.whole 1, .whole 2, .whole 3, .whole 6].map RD.base) at Rf
  show gName 12 (V.ref lf) _ (upd Hd lf (.lst ([xa, xb, xc, xd].map V.ref))) _
  obtain ⟨lw, hlw⟩ : ∃ l : List BD, l = [BD.whole 1, .whole 2, .whole 3, .whole 6] := ⟨_, rfl⟩
  rw [← hlw] at Rf
  generalize upd Hd lf (.lst ([xa, xb, xc, xd].map V.ref)) = He at *
  obtain ⟨xf4, hxf4⟩ : ∃ l : List Addr, l = [xa, xb, xc, xd] := ⟨_, rfl⟩
  have l4 : xf4.length = 4 := by rw [hxf4]; rfl
  rw [← hxf4] at Rf elf
  clear hxf4
  refine ⟨fun σ' H' => ∃ y8 y9 y10 y11 y12 y13, σ' = [some (.ref a), some (.ref b), some (.int ((0 : Int) + (i : Int))), some (.ref T), some (.ref T2), some (.ref x1), some (.ref x2), some (.bl (lawR.any F3)), y8, y9, y10, y11, y12, y13] ∧ Same H6 H', ?_, ?_⟩
  · refine ⟨_, rfl, _, rfl, lf, rfl, ⟨_, SqL.of elf⟩, fun D nD => ?_⟩
    refine lc_it (walk_list (K := K) (xs := xf4.map V.ref)) (fun j H' => ∃ ys : List Addr, Same He H' ∧ H' D = some (.lst (ys.map V.ref)) ∧ ys.length = j ∧ Rgs CR CW CD CT H' ys ((lw.take j).map RD.duals)) ⟨[], same_upd nD, upd_same, rfl, Rgs.nil⟩ (fun j H' _ ⟨_, e, _⟩ => SqL.of (e _ _ elf)) ?_ ?_
    · rintro j v Ha Hb hj ⟨ys, sa1, eD, ly, Rg⟩ ⟨rfl, hv⟩
      obtain ⟨x, hx, rfl⟩ := at_map hv
      have hjl : j < lw.length := by
        have := (List.getElem?_eq_some_iff.mp hx).1
        have z := Rf.1
        rw [List.length_map] at z
        omega
      have hw : lw[j]? = some lw[j] := List.getElem?_eq_getElem hjl
      have Rx : RingAt CR CW CD CT Hb x (.base lw[j]) := (Rf.2 j x (.base lw[j]) hx (by rw [List.getElem?_map, hw]; rfl)).same sa1
      refine ⟨rfl, tYes_ok ⟨_, rfl, fun x' dx' nx nx' _ => mk_duals Rx nx nx' fun Hc sc Rc => ⟨rfl, _, sc _ _ eD, small1000 ?_, ys ++ [x'], fun c o hc => ?_, ?_, ?_, ?_⟩⟩⟩
      · rw [List.length_map] at hj ⊢
        omega
      · rw [upd_ne (ne_of_none hc nD)]
        exact sc _ _ (sa1 _ _ hc)
      · rw [upd_same, List.map_append]
        rfl
      · rw [List.length_append, ly]
        rfl
      · have z := ((Rg.same sc).ext (ys := ys.map V.ref ++ [V.ref x']) (sc _ _ eD)).put (Rc.put (sc _ _ eD))
        rw [List.take_add_one, hw, List.map_append]
        exact z
    · rintro Hg ⟨ys, sg, eD, ly, Rg⟩
      rw [List.length_map, l4] at ly
      rw [List.length_map, l4] at Rg
      refine ⟨lf, D, _, _, rfl, rfl, sg _ _ elf, eD, by rw [List.length_map, List.length_map, l4, ly]; decide, fun p np => ?_⟩
      have up := same_upd (o := .lst (xf4.map V.ref ++ ys.map V.ref)) np
      have ep := upd_same (H := Hg) (a := p) (o := .lst (xf4.map V.ref ++ ys.map V.ref))
      have Rg := ((Rf.same sg).app Rg).same up
      have sg := sg.trans up
      generalize upd Hg p (.lst (xf4.map V.ref ++ ys.map V.ref)) = Hh at *
      have w6 : BD.hr (.whole (radL 6)) 7 = true := by rw [rad_all.2.2.2]; decide
      have w1 : BD.hr (.whole (radL 1)) 1 = true := by rw [rad_all.1]; decide
      refine fun xe de ne ne' _ => mk_whole (CD := CD) (CT := CT) (d := 6) rfl (by decide) (by decide) ne ne' fun He2 se Re => ⟨rfl, fun xf df nf nf' _ => mk_twists (k := 7) rfl Re (by decide) (by decide) w6 nf nf' fun Hf sf Rtf => ⟨rfl, fun xg dg ng ng' _ => mk_whole (CD := CD) (CT := CT) (d := 1) rfl (by decide) (by decide) ng ng' fun Hg2 sg2 Rg2 => ⟨rfl, fun xh dh nh nh' _ => mk_twists (k := 1) rfl Rg2 (by decide) (by decide) w1 nh nh' fun Hi si Rti => ⟨rfl, by show 2 ≤ sizeLine; decide, fun lg nlg => ?_⟩⟩⟩⟩
      have ulg := same_upd (o := .lst [.ref xf, .ref xh]) nlg
      have sgi := se.trans (sf.trans (sg2.trans (si.trans ulg)))
      refine ⟨p, lg, _, _, rfl, rfl, sgi _ _ ep, upd_same, by rw [List.length_append, List.length_map, List.length_map, l4, ly]; show 4 + 4 + 2 ≤ sizeLine; decide, fun p2 np2 => ?_⟩
      rw [rad_all.2.2.2] at Rtf
      rw [rad_all.1] at Rti
      have Rz := (Rg.same sgi).app ((Rgs.two (((Rtf.same sg2).same si)) Rti).same ulg)
      have up2 := same_upd (o := .lst (((xf4 ++ ys) ++ [xf, xh]).map V.ref)) np2
      have Rz := Rz.same up2
      have ep2 := upd_same (H := upd Hi lg (.lst [.ref xf, .ref xh])) (a := p2) (o := .lst (((xf4 ++ ys) ++ [xf, xh]).map V.ref))
      have ez : xf4.map V.ref ++ ys.map V.ref ++ [V.ref xf, V.ref xh] = ((xf4 ++ ys) ++ [xf, xh]).map V.ref := by
        rw [List.map_append, List.map_append]
        rfl
      have efr : lw.map RD.base ++ (lw.take 4).map RD.duals ++ [.twists 7 (.whole 6), .twists 1 (.whole 1)] = freeR := by
        rw [hlw]
        rfl
      rw [efr] at Rz
      rw [ez]
      have s6z := s6e.trans (sg.trans (sgi.trans up2))
      generalize upd (upd Hi lg (.lst [.ref xf, .ref xh])) p2 (.lst (((xf4 ++ ys) ++ [xf, xh]).map V.ref)) = Hz at *
      generalize (xf4 ++ ys) ++ [xf, xh] = zs at *
      refine ⟨p2, rfl, ⟨_, SqL.of ep2⟩, for_list (xs := zs.map V.ref) (fun j σ H' => ∃ y11, σ = [some (.ref a), some (.ref b), some (.int ((0 : Int) + (i : Int))), some (.ref T), some (.ref T2), some (.ref x1), some (.ref x2), some (.bl ((((List.range 39).flatMap fun j => ringsOf (j + 2)).any F3) || (freeR.take j).any F3)), y8, y9, y10, y11, some (.ref lf), y13] ∧ Same Hz H') ⟨_, by rw [List.take_zero, List.any_nil, Bool.or_false]; rfl, Same.refl _⟩ (fun i2 σ H' _ ⟨_, _, e⟩ => SqL.of (e _ _ ep2)) ?_ ?_⟩
      · rintro j v σ Ha hx ⟨y11, rfl, sa⟩
        obtain ⟨x, hy, rfl⟩ := at_map hx
        have hj : j < freeR.length := by
          rw [← Rz.1]
          exact (List.getElem?_eq_some_iff.mp hy).1
        have hr : freeR[j]? = some freeR[j] := List.getElem?_eq_getElem hj
        have s4 := s6z.trans sa
        refine ring_if (r := freeR[j]) rfl rfl rfl (R1.same s4) (R2.same s4) db1 db2 ((Rz.2 j x _ hy hr).same sa) (fun h Hb sb => ⟨some (.ref x), ?_, sa.trans sb⟩) (fun h Hb sb => ⟨some (.ref x), ?_, sa.trans sb⟩)
        · rw [← hF] at h
          rw [any_take hr, h, Bool.or_true, Bool.or_true]
          rfl
        · rw [← hF] at h
          rw [any_take hr, h, Bool.or_false]
          rfl
      · rintro σ' Hb ⟨y11, rfl, sb⟩
        refine ⟨y8, y9, y10, y11, some (.ref lf), y13, ?_, s6z.trans sb⟩
        rw [List.length_map, Rz.1, List.take_length]
        unfold lawR
        rw [List.any_append]
  rintro σ' H7 ⟨y8, y9, y10, y11, y12, y13, rfl, sm7⟩
  have R1 := R1.same sm7
  have R2 := R2.same sm7
  obtain ⟨e1, t1, g1, _⟩ := id R1
  obtain ⟨e2, t2, g2, _⟩ := id R2
  refine ⟨_, rfl, _, rfl, x1, e1, _, .ref C, rfl, g1, R.ty g2, RCls.nf1, x1, d3, p3, q3, w3, .ref x2, rfl, R1, .inl ⟨x2, d4, p4, q4, w4, rfl, R2, _, rfl, ?_⟩⟩
  refine ⟨_, rfl, rfl, _, rfl, ?_⟩
  have e : decide (V.bl (decide ([d3, p3, q3, w3] = [d4, p4, q4, w4])) = V.bl (lawR.any F3)) = false := by
    have e2 : decide ([d3, p3, q3, w3] = [d4, p4, q4, w4]) = decide ((d3, p3, q3, w3) = (d4, p4, q4, w4)) := decide_eq_decide.mpr ⟨fun z => by
      simp only [List.cons.injEq, and_true] at z
      obtain ⟨rfl, rfl, rfl, rfl⟩ := z
      rfl, fun z => by
      simp only [Prod.mk.injEq] at z
      obtain ⟨rfl, rfl, rfl, rfl⟩ := z
      rfl⟩
    rw [pI, e2]
    cases decide ((d3, p3, q3, w3) = (d4, p4, q4, w4)) <;> decide
  rw [e]
  exact iteF ⟨_, _, _, _, _, _, _, _, _, _, _, _, rfl, B6.same sm7⟩
end
end My
/-! the end: all facts -/
namespace My
open PySem PySem.Spec PyProof.Rows L2
theorem binds_rests {K : PySem.W.Frag} {cc cda : Addr} {kV doc pm ct : Value} {an : Option Addr} : L2.Binds K (PySem.W.ksFn "__init__" "Rests.__init__" (defArgs s_Rests_init) (defBody s_Rests_init) (defScope s_Rests_init) .none kV doc pm an (.ref cda) ct cc) ["self", "modulus"] [] :=
  .all fun us hl => match us, hl with
    | [_, _], _ => rfl
theorem binds_duals {K : PySem.W.Frag} {cc cda : Addr} {kV doc pm ct : Value} {an : Option Addr} : L2.Binds K (PySem.W.ksFn "__init__" "Duals.__init__" (defArgs s_Duals_init) (defBody s_Duals_init) (defScope s_Duals_init) .none kV doc pm an (.ref cda) ct cc) ["self", "base"] [] :=
  .all fun us hl => match us, hl with
    | [_, _], _ => rfl
theorem binds_ext {K : PySem.W.Frag} {cc cda : Addr} {kV doc pm ct : Value} {an : Option Addr} : L2.Binds K (PySem.W.ksFn "__init__" "Extended.__init__" (defArgs s_Extended_init) (defBody s_Extended_init) (defScope s_Extended_init) .none kV doc pm an (.ref cda) ct cc) ["self", "parts", "square", "base"] [] :=
  .all fun us hl => match us, hl with
    | [_, _, _, _], _ => rfl
theorem binds_slot {K : PySem.W.Frag} {cc cda : Addr} {kV doc pm ct : Value} {an : Option Addr} : L2.Binds K (PySem.W.ksFn "__init__" "Slotwise.__init__" (defArgs s_Slotwise_init) (defBody s_Slotwise_init) (defScope s_Slotwise_init) .none kV doc pm an (.ref cda) ct cc) ["self", "parts", "numbers", "slots", "marks"] [] :=
  .all fun us hl => match us, hl with
    | [_, _, _, _, _], _ => rfl
theorem binds_twists {K : PySem.W.Frag} {cc cda : Addr} {kV doc pm ct : Value} {an : Option Addr} : L2.Binds K (PySem.W.ksFn "__init__" "Twists.__init__" (defArgs s_Twists_init) (defBody s_Twists_init) (defScope s_Twists_init) .none kV doc pm an (.ref cda) ct cc) ["self", "part", "base"] [] :=
  .all fun us hl => match us, hl with
    | [_, _, _], _ => rfl
theorem binds_whole {K : PySem.W.Frag} {cc cda T : Addr} {kV doc pm ct cT : Value} {an oT : Option Addr} {v : Value} {n : Nat} {sT : Array (Option Value)} (lT : K.lookup T = some ⟨cT, oT, .seq #[v] n, sT⟩) :
    L2.Binds K (PySem.W.ksFn "__init__" "Whole.__init__" (defArgs s_Whole_init) (defBody s_Whole_init) (defScope s_Whole_init) (.ref T) kV doc pm an (.ref cda) ct cc) ["self", "inverse"] [] := fun s us X hl => by
  rw [List.append_nil] at hl ⊢
  obtain ⟨k, e1, e2⟩ : ∃ k, bindArgs (PySem.W.ksFn "__init__" "Whole.__init__" (defArgs s_Whole_init) (defBody s_Whole_init) (defScope s_Whole_init) (.ref T) kV doc pm an (.ref cda) ct cc) ⟨us, []⟩ = seqItems? (.ref T) >>= k ∧ k (some #[v]) = pure ((["self", "inverse"] : List Str).zip us) :=
    match us, hl with
    | [_, _], _ => ⟨_, rfl, rfl⟩
  refine BindsTo.of_looks fun M => ?_
  rw [e1]
  exact looks_items X lT rfl (.of_pure e2)
end My
namespace My
open PySem PySem.Spec PyProof.Rows L2
theorem all_mk {l : PySem.W.OpenLaw} {w : World} {K : PySem.W.Frag} {h : Heap} {mg : Str → Option Value} {fa : Addr} (X : K.In h) (G : h.Ns mainGlobals mg) (hfa : mg "law" = some (.ref fa))
    {f1 : Addr} {od1 an1 : Option Addr} {sl1 : Array (Option Value)} {oc1 kV1 dc1 pm1 cd1 ct1 : Value} {f2 : Addr} {od2 an2 : Option Addr} {sl2 : Array (Option Value)} {oc2 kV2 dc2 pm2 cd2 ct2 : Value} {f3 : Addr} {od3 an3 : Option Addr} {sl3 : Array (Option Value)} {oc3 kV3 dc3 pm3 cd3 ct3 : Value} {f4 : Addr} {od4 an4 : Option Addr} {sl4 : Array (Option Value)} {oc4 kV4 dc4 pm4 cd4 ct4 : Value} {f5 : Addr} {od5 an5 : Option Addr} {sl5 : Array (Option Value)} {oc5 kV5 dc5 pm5 cd5 ct5 : Value} {f6 : Addr} {od6 an6 : Option Addr} {sl6 : Array (Option Value)} {oc6 kV6 dc6 pm6 cd6 ct6 : Value} {f7 : Addr} {od7 an7 : Option Addr} {sl7 : Array (Option Value)} {oc7 kV7 dc7 pm7 cd7 ct7 : Value} {f8 : Addr} {od8 an8 : Option Addr} {sl8 : Array (Option Value)} {oc8 kV8 dc8 pm8 cd8 ct8 : Value} {f9 : Addr} {od9 an9 : Option Addr} {sl9 : Array (Option Value)} {oc9 kV9 dc9 pm9 cd9 ct9 : Value} {f10 : Addr} {od10 an10 : Option Addr} {sl10 : Array (Option Value)} {oc10 kV10 dc10 pm10 cd10 ct10 : Value} {T10 : Addr} {oT10 : Option Addr} {nT10 : Nat} {sT10 : Array (Option Value)} {ud10_0 : Tok} {f11 : Addr} {od11 an11 : Option Addr} {sl11 : Array (Option Value)} {oc11 kV11 dc11 pm11 cd11 ct11 : Value} {f12 : Addr} {od12 an12 : Option Addr} {sl12 : Array (Option Value)} {oc12 kV12 dc12 pm12 cd12 ct12 : Value} {f13 : Addr} {od13 an13 : Option Addr} {sl13 : Array (Option Value)} {oc13 kV13 dc13 pm13 cd13 ct13 : Value} {f14 : Addr} {od14 an14 : Option Addr} {sl14 : Array (Option Value)} {oc14 kV14 dc14 pm14 cd14 ct14 : Value} {f15 : Addr} {od15 an15 : Option Addr} {sl15 : Array (Option Value)} {oc15 kV15 dc15 pm15 cd15 ct15 : Value} {f16 : Addr} {od16 an16 : Option Addr} {sl16 : Array (Option Value)} {oc16 kV16 dc16 pm16 cd16 ct16 : Value} {f17 : Addr} {od17 an17 : Option Addr} {sl17 : Array (Option Value)} {oc17 kV17 dc17 pm17 cd17 ct17 : Value} {f18 : Addr} {od18 an18 : Option Addr} {sl18 : Array (Option Value)} {oc18 kV18 dc18 pm18 cd18 ct18 : Value} {f19 : Addr} {od19 an19 : Option Addr} {sl19 : Array (Option Value)} {oc19 kV19 dc19 pm19 cd19 ct19 : Value} {f20 : Addr} {od20 an20 : Option Addr} {sl20 : Array (Option Value)} {oc20 kV20 dc20 pm20 cd20 ct20 : Value} {f21 : Addr} {od21 an21 : Option Addr} {sl21 : Array (Option Value)} {oc21 kV21 dc21 pm21 cd21 ct21 : Value} {f22 : Addr} {od22 an22 : Option Addr} {sl22 : Array (Option Value)} {oc22 kV22 dc22 pm22 cd22 ct22 : Value} {f23 : Addr} {od23 an23 : Option Addr} {sl23 : Array (Option Value)} {oc23 kV23 dc23 pm23 cd23 ct23 : Value} {f24 : Addr} {od24 an24 : Option Addr} {sl24 : Array (Option Value)} {oc24 kV24 dc24 pm24 cd24 ct24 : Value} {f25 : Addr} {od25 an25 : Option Addr} {sl25 : Array (Option Value)} {oc25 kV25 dc25 pm25 cd25 ct25 : Value} {f26 : Addr} {od26 an26 : Option Addr} {sl26 : Array (Option Value)} {oc26 kV26 dc26 pm26 cd26 ct26 : Value} {f27 : Addr} {od27 an27 : Option Addr} {sl27 : Array (Option Value)} {oc27 kV27 dc27 pm27 cd27 ct27 : Value} {f28 : Addr} {od28 an28 : Option Addr} {sl28 : Array (Option Value)} {oc28 kV28 dc28 pm28 cd28 ct28 : Value} {f29 : Addr} {od29 an29 : Option Addr} {sl29 : Array (Option Value)} {oc29 kV29 dc29 pm29 cd29 ct29 : Value} {u_MOST_RADICAL : Tok} {u_MOST_MODULUS : Tok} {u_MOST_PART : Tok} {C_InvalidNumber f_InvalidNumber x_InvalidNumber d_InvalidNumber N_InvalidNumber : Addr} {nm_InvalidNumber qn_InvalidNumber ql_InvalidNumber ms_InvalidNumber fl_InvalidNumber : Str} {bs_InvalidNumber bm_InvalidNumber sub_InvalidNumber : List Value} {sn_InvalidNumber : List Str} {ab_InvalidNumber : Bool} {col_InvalidNumber : Option Bool} {dd_InvalidNumber od_InvalidNumber an_InvalidNumber cdd_InvalidNumber cld_InvalidNumber : Option Addr} {v0_InvalidNumber v1_InvalidNumber v2_InvalidNumber v3_InvalidNumber v5_InvalidNumber : Option Value} {oc_InvalidNumber dc_InvalidNumber pm_InvalidNumber ct_InvalidNumber ccl_InvalidNumber cl_InvalidNumber : Value} {os_InvalidNumber ccs_InvalidNumber csl_InvalidNumber : Array (Option Value)} {vs_InvalidNumber : Array Value} {tf_InvalidNumber : Tok} {n1_InvalidNumber n2_InvalidNumber : Nat} {p1_InvalidNumber p2_InvalidNumber a1_InvalidNumber a2_InvalidNumber a3_InvalidNumber a4_InvalidNumber a5_InvalidNumber a6_InvalidNumber b1_InvalidNumber b2_InvalidNumber b3_InvalidNumber b4_InvalidNumber c1_InvalidNumber c2_InvalidNumber c3_InvalidNumber c4_InvalidNumber : Pos} {C_InvalidRing f_InvalidRing x_InvalidRing d_InvalidRing N_InvalidRing : Addr} {nm_InvalidRing qn_InvalidRing ql_InvalidRing ms_InvalidRing fl_InvalidRing : Str} {bs_InvalidRing bm_InvalidRing sub_InvalidRing : List Value} {sn_InvalidRing : List Str} {ab_InvalidRing : Bool} {col_InvalidRing : Option Bool} {dd_InvalidRing od_InvalidRing an_InvalidRing cdd_InvalidRing cld_InvalidRing : Option Addr} {v0_InvalidRing v1_InvalidRing v2_InvalidRing v3_InvalidRing v5_InvalidRing : Option Value} {oc_InvalidRing dc_InvalidRing pm_InvalidRing ct_InvalidRing ccl_InvalidRing cl_InvalidRing : Value} {os_InvalidRing ccs_InvalidRing csl_InvalidRing : Array (Option Value)} {vs_InvalidRing : Array Value} {tf_InvalidRing : Tok} {n1_InvalidRing n2_InvalidRing : Nat} {p1_InvalidRing p2_InvalidRing a1_InvalidRing a2_InvalidRing a3_InvalidRing a4_InvalidRing a5_InvalidRing a6_InvalidRing b1_InvalidRing b2_InvalidRing b3_InvalidRing b4_InvalidRing c1_InvalidRing c2_InvalidRing c3_InvalidRing c4_InvalidRing : Pos} {C_TooMany f_TooMany x_TooMany d_TooMany N_TooMany : Addr} {nm_TooMany qn_TooMany ql_TooMany ms_TooMany fl_TooMany : Str} {bs_TooMany bm_TooMany sub_TooMany : List Value} {sn_TooMany : List Str} {ab_TooMany : Bool} {col_TooMany : Option Bool} {dd_TooMany od_TooMany an_TooMany cdd_TooMany cld_TooMany : Option Addr} {v0_TooMany v1_TooMany v2_TooMany v3_TooMany v5_TooMany : Option Value} {oc_TooMany dc_TooMany pm_TooMany ct_TooMany ccl_TooMany cl_TooMany : Value} {os_TooMany ccs_TooMany csl_TooMany : Array (Option Value)} {vs_TooMany : Array Value} {tf_TooMany : Tok} {n1_TooMany n2_TooMany : Nat} {p1_TooMany p2_TooMany a1_TooMany a2_TooMany a3_TooMany a4_TooMany a5_TooMany a6_TooMany b1_TooMany b2_TooMany b3_TooMany b4_TooMany c1_TooMany c2_TooMany c3_TooMany c4_TooMany : Pos} {C_Realm : Addr} {f_Realm_init : Addr} {od_Realm_init an_Realm_init : Option Addr} {sl_Realm_init : Array (Option Value)} {oc_Realm_init dc_Realm_init pm_Realm_init cd_Realm_init ct_Realm_init : Value} {kVRealm_init : Addr} {tk_Realm_init_inverse : Tok} {tk_Realm_init_ones : Tok} {tk_Realm_init_swaps : Tok} {tk_Realm_init_squares : Tok} {f_Realm_inverse : Addr} {od_Realm_inverse an_Realm_inverse : Option Addr} {sl_Realm_inverse : Array (Option Value)} {oc_Realm_inverse dc_Realm_inverse pm_Realm_inverse cd_Realm_inverse ct_Realm_inverse : Value} {kV_Realm_inverse : Value} {p_Realm_inverse : Addr} {rs_Realm_inverse : List Value} {f_Realm_ones : Addr} {od_Realm_ones an_Realm_ones : Option Addr} {sl_Realm_ones : Array (Option Value)} {oc_Realm_ones dc_Realm_ones pm_Realm_ones cd_Realm_ones ct_Realm_ones : Value} {kV_Realm_ones : Value} {p_Realm_ones : Addr} {rs_Realm_ones : List Value} {f_Realm_swaps : Addr} {od_Realm_swaps an_Realm_swaps : Option Addr} {sl_Realm_swaps : Array (Option Value)} {oc_Realm_swaps dc_Realm_swaps pm_Realm_swaps cd_Realm_swaps ct_Realm_swaps : Value} {kV_Realm_swaps : Value} {p_Realm_swaps : Addr} {rs_Realm_swaps : List Value} {f_Realm_squares : Addr} {od_Realm_squares an_Realm_squares : Option Addr} {sl_Realm_squares : Array (Option Value)} {oc_Realm_squares dc_Realm_squares pm_Realm_squares cd_Realm_squares ct_Realm_squares : Value} {kV_Realm_squares : Value} {p_Realm_squares : Addr} {rs_Realm_squares : List Value} {f_Realm_eq : Addr} {od_Realm_eq an_Realm_eq : Option Addr} {sl_Realm_eq : Array (Option Value)} {oc_Realm_eq dc_Realm_eq pm_Realm_eq cd_Realm_eq ct_Realm_eq : Value} {kV_Realm_eq : Value} {f_Realm_contains : Addr} {od_Realm_contains an_Realm_contains : Option Addr} {sl_Realm_contains : Array (Option Value)} {oc_Realm_contains dc_Realm_contains pm_Realm_contains cd_Realm_contains ct_Realm_contains : Value} {kV_Realm_contains : Value} {C_Ring : Addr} {f_Ring_ones : Addr} {od_Ring_ones an_Ring_ones : Option Addr} {sl_Ring_ones : Array (Option Value)} {oc_Ring_ones dc_Ring_ones pm_Ring_ones cd_Ring_ones ct_Ring_ones : Value} {kV_Ring_ones : Value} {p_Ring_ones : Addr} {rs_Ring_ones : List Value} {f_Ring_swaps : Addr} {od_Ring_swaps an_Ring_swaps : Option Addr} {sl_Ring_swaps : Array (Option Value)} {oc_Ring_swaps dc_Ring_swaps pm_Ring_swaps cd_Ring_swaps ct_Ring_swaps : Value} {kV_Ring_swaps : Value} {p_Ring_swaps : Addr} {rs_Ring_swaps : List Value} {f_Ring_squares : Addr} {od_Ring_squares an_Ring_squares : Option Addr} {sl_Ring_squares : Array (Option Value)} {oc_Ring_squares dc_Ring_squares pm_Ring_squares cd_Ring_squares ct_Ring_squares : Value} {kV_Ring_squares : Value} {p_Ring_squares : Addr} {rs_Ring_squares : List Value} {f_Ring_depth : Addr} {od_Ring_depth an_Ring_depth : Option Addr} {sl_Ring_depth : Array (Option Value)} {oc_Ring_depth dc_Ring_depth pm_Ring_depth cd_Ring_depth ct_Ring_depth : Value} {kV_Ring_depth : Value} {p_Ring_depth : Addr} {rs_Ring_depth : List Value} {f_Ring_init : Addr} {od_Ring_init an_Ring_init : Option Addr} {sl_Ring_init : Array (Option Value)} {oc_Ring_init dc_Ring_init pm_Ring_init cd_Ring_init ct_Ring_init : Value} {kV_Ring_init : Value} {f_Ring_zero : Addr} {od_Ring_zero an_Ring_zero : Option Addr} {sl_Ring_zero : Array (Option Value)} {oc_Ring_zero dc_Ring_zero pm_Ring_zero cd_Ring_zero ct_Ring_zero : Value} {kV_Ring_zero : Value} {f_Ring_has_inverse : Addr} {od_Ring_has_inverse an_Ring_has_inverse : Option Addr} {sl_Ring_has_inverse : Array (Option Value)} {oc_Ring_has_inverse dc_Ring_has_inverse pm_Ring_has_inverse cd_Ring_has_inverse ct_Ring_has_inverse : Value} {kV_Ring_has_inverse : Value} {C_Shares : Addr} {f_Shares__share : Addr} {od_Shares__share an_Shares__share : Option Addr} {sl_Shares__share : Array (Option Value)} {oc_Shares__share dc_Shares__share pm_Shares__share cd_Shares__share ct_Shares__share : Value} {kV_Shares__share : Value} {C_Rests : Addr} {f_Rests__share : Addr} {od_Rests__share an_Rests__share : Option Addr} {sl_Rests__share : Array (Option Value)} {oc_Rests__share dc_Rests__share pm_Rests__share cd_Rests__share ct_Rests__share : Value} {kV_Rests__share : Value} {f_Rests__has_rests : Addr} {od_Rests__has_rests an_Rests__has_rests : Option Addr} {sl_Rests__has_rests : Array (Option Value)} {oc_Rests__has_rests dc_Rests__has_rests pm_Rests__has_rests cd_Rests__has_rests ct_Rests__has_rests : Value} {kV_Rests__has_rests : Value} {fT_Rests ccT_Rests cdT_Rests : Addr} {ocT_Rests kVT_Rests docT_Rests pmT_Rests ctT_Rests clT_Rests cclT_Rests : Value} {odT_Rests anT_Rests cldT_Rests cddT_Rests : Option Addr} {oslT_Rests cslT_Rests ccsT_Rests : Array (Option Value)} {vsT_Rests : Array Value} {flT_Rests : Str} {tfT_Rests : Tok} {C_Whole : Addr} {f_Whole_has_inverse : Addr} {od_Whole_has_inverse an_Whole_has_inverse : Option Addr} {sl_Whole_has_inverse : Array (Option Value)} {oc_Whole_has_inverse dc_Whole_has_inverse pm_Whole_has_inverse cd_Whole_has_inverse ct_Whole_has_inverse : Value} {kV_Whole_has_inverse : Value} {f_Whole__has_rests : Addr} {od_Whole__has_rests an_Whole__has_rests : Option Addr} {sl_Whole__has_rests : Array (Option Value)} {oc_Whole__has_rests dc_Whole__has_rests pm_Whole__has_rests cd_Whole__has_rests ct_Whole__has_rests : Value} {kV_Whole__has_rests : Value} {fT_Whole ccT_Whole cdT_Whole : Addr} {ocT_Whole kVT_Whole docT_Whole pmT_Whole ctT_Whole clT_Whole cclT_Whole : Value} {odT_Whole anT_Whole cldT_Whole cddT_Whole : Option Addr} {oslT_Whole cslT_Whole ccsT_Whole : Array (Option Value)} {vsT_Whole : Array Value} {flT_Whole : Str} {tfT_Whole : Tok} {TT_Whole : Addr} {oTT_Whole : Option Addr} {nTT_Whole : Nat} {sTT_Whole : Array (Option Value)} {uTT_Whole : Tok} {C_Slotwise : Addr} {f_Slotwise__share : Addr} {od_Slotwise__share an_Slotwise__share : Option Addr} {sl_Slotwise__share : Array (Option Value)} {oc_Slotwise__share dc_Slotwise__share pm_Slotwise__share cd_Slotwise__share ct_Slotwise__share : Value} {kV_Slotwise__share : Value} {fT_Slotwise ccT_Slotwise cdT_Slotwise : Addr} {ocT_Slotwise kVT_Slotwise docT_Slotwise pmT_Slotwise ctT_Slotwise clT_Slotwise cclT_Slotwise : Value} {odT_Slotwise anT_Slotwise cldT_Slotwise cddT_Slotwise : Option Addr} {oslT_Slotwise cslT_Slotwise ccsT_Slotwise : Array (Option Value)} {vsT_Slotwise : Array Value} {flT_Slotwise : Str} {tfT_Slotwise : Tok} {C_Extended : Addr} {fT_Extended ccT_Extended cdT_Extended : Addr} {ocT_Extended kVT_Extended docT_Extended pmT_Extended ctT_Extended clT_Extended cclT_Extended : Value} {odT_Extended anT_Extended cldT_Extended cddT_Extended : Option Addr} {oslT_Extended cslT_Extended ccsT_Extended : Array (Option Value)} {vsT_Extended : Array Value} {flT_Extended : Str} {tfT_Extended : Tok} {C_Duals : Addr} {fT_Duals ccT_Duals cdT_Duals : Addr} {ocT_Duals kVT_Duals docT_Duals pmT_Duals ctT_Duals clT_Duals cclT_Duals : Value} {odT_Duals anT_Duals cldT_Duals cddT_Duals : Option Addr} {oslT_Duals cslT_Duals ccsT_Duals : Array (Option Value)} {vsT_Duals : Array Value} {flT_Duals : Str} {tfT_Duals : Tok} {C_Twists : Addr} {f_Twists__share : Addr} {od_Twists__share an_Twists__share : Option Addr} {sl_Twists__share : Array (Option Value)} {oc_Twists__share dc_Twists__share pm_Twists__share cd_Twists__share ct_Twists__share : Value} {kV_Twists__share : Value} {fT_Twists ccT_Twists cdT_Twists : Addr} {ocT_Twists kVT_Twists docT_Twists pmT_Twists ctT_Twists clT_Twists cclT_Twists : Value} {odT_Twists anT_Twists cldT_Twists cddT_Twists : Option Addr} {oslT_Twists cslT_Twists ccsT_Twists : Array (Option Value)} {vsT_Twists : Array Value} {flT_Twists : Str} {tfT_Twists : Tok} {g_RingError : Value}
    {uMD : Tok}
    (z_super : PySem.W.nsIn K mainGlobals "super" = some none) (opq : PySem.W.nsIn K PySem.cStatics "thirdparty.any" = some none) (topSuper : (l.prog.main.scope.names.lookup ("super" : Str)).isSome = false)
    (a1 : PySem.W.nsIn K mainGlobals "_wall" = some (some (.ref f1))) (l1 : K.lookup f1 = some ⟨oc1, od1, .func (PySem.W.fnOf "_wall" "_wall" (defArgs s__wall) (defBody s__wall) (defScope s__wall) .none kV1 dc1 pm1 an1 cd1 ct1), sl1⟩) (c1 : PySem.W.codeIn K cd1 "_wall" = true) (k1 : PySem.W.keepIn K (.ref f1) = true)
    (a2 : PySem.W.nsIn K mainGlobals "is_int" = some (some (.ref f2))) (l2 : K.lookup f2 = some ⟨oc2, od2, .func (PySem.W.fnOf "is_int" "is_int" (defArgs s_is_int) (defBody s_is_int) (defScope s_is_int) .none kV2 dc2 pm2 an2 cd2 ct2), sl2⟩) (c2 : PySem.W.codeIn K cd2 "is_int" = true) (k2 : PySem.W.keepIn K (.ref f2) = true)
    (a3 : PySem.W.nsIn K mainGlobals "is_between" = some (some (.ref f3))) (l3 : K.lookup f3 = some ⟨oc3, od3, .func (PySem.W.fnOf "is_between" "is_between" (defArgs s_is_between) (defBody s_is_between) (defScope s_is_between) .none kV3 dc3 pm3 an3 cd3 ct3), sl3⟩) (c3 : PySem.W.codeIn K cd3 "is_between" = true) (k3 : PySem.W.keepIn K (.ref f3) = true)
    (a4 : PySem.W.nsIn K mainGlobals "is_share" = some (some (.ref f4))) (l4 : K.lookup f4 = some ⟨oc4, od4, .func (PySem.W.fnOf "is_share" "is_share" (defArgs s_is_share) (defBody s_is_share) (defScope s_is_share) .none kV4 dc4 pm4 an4 cd4 ct4), sl4⟩) (c4 : PySem.W.codeIn K cd4 "is_share" = true) (k4 : PySem.W.keepIn K (.ref f4) = true)
    (a5 : PySem.W.nsIn K mainGlobals "common" = some (some (.ref f5))) (l5 : K.lookup f5 = some ⟨oc5, od5, .func (PySem.W.fnOf "common" "common" (defArgs s_common) (defBody s_common) (defScope s_common) .none kV5 dc5 pm5 an5 cd5 ct5), sl5⟩) (c5 : PySem.W.codeIn K cd5 "common" = true) (k5 : PySem.W.keepIn K (.ref f5) = true)
    (a6 : PySem.W.nsIn K mainGlobals "multiple" = some (some (.ref f6))) (l6 : K.lookup f6 = some ⟨oc6, od6, .func (PySem.W.fnOf "multiple" "multiple" (defArgs s_multiple) (defBody s_multiple) (defScope s_multiple) .none kV6 dc6 pm6 an6 cd6 ct6), sl6⟩) (c6 : PySem.W.codeIn K cd6 "multiple" = true) (k6 : PySem.W.keepIn K (.ref f6) = true)
    (a7 : PySem.W.nsIn K mainGlobals "divides" = some (some (.ref f7))) (l7 : K.lookup f7 = some ⟨oc7, od7, .func (PySem.W.fnOf "divides" "divides" (defArgs s_divides) (defBody s_divides) (defScope s_divides) .none kV7 dc7 pm7 an7 cd7 ct7), sl7⟩) (c7 : PySem.W.codeIn K cd7 "divides" = true) (k7 : PySem.W.keepIn K (.ref f7) = true)
    (a8 : PySem.W.nsIn K mainGlobals "stripped" = some (some (.ref f8))) (l8 : K.lookup f8 = some ⟨oc8, od8, .func (PySem.W.fnOf "stripped" "stripped" (defArgs s_stripped) (defBody s_stripped) (defScope s_stripped) .none kV8 dc8 pm8 an8 cd8 ct8), sl8⟩) (c8 : PySem.W.codeIn K cd8 "stripped" = true) (k8 : PySem.W.keepIn K (.ref f8) = true)
    (a9 : PySem.W.nsIn K mainGlobals "radical" = some (some (.ref f9))) (l9 : K.lookup f9 = some ⟨oc9, od9, .func (PySem.W.fnOf "radical" "radical" (defArgs s_radical) (defBody s_radical) (defScope s_radical) .none kV9 dc9 pm9 an9 cd9 ct9), sl9⟩) (c9 : PySem.W.codeIn K cd9 "radical" = true) (k9 : PySem.W.keepIn K (.ref f9) = true)
    (a10 : PySem.W.nsIn K mainGlobals "share" = some (some (.ref f10))) (l10 : K.lookup f10 = some ⟨oc10, od10, .func (PySem.W.fnOf "share" "share" (defArgs s_share) (defBody s_share) (defScope s_share) (.ref T10) kV10 dc10 pm10 an10 cd10 ct10), sl10⟩) (c10 : PySem.W.codeIn K cd10 "share" = true) (k10 : PySem.W.keepIn K (.ref f10) = true)
    (t10 : K.lookup T10 = some ⟨.type "tuple", oT10, .seq #[.int 1 ud10_0] nT10, sT10⟩)
    (a11 : PySem.W.nsIn K mainGlobals "sum_of_shares" = some (some (.ref f11))) (l11 : K.lookup f11 = some ⟨oc11, od11, .func (PySem.W.fnOf "sum_of_shares" "sum_of_shares" (defArgs s_sum_of_shares) (defBody s_sum_of_shares) (defScope s_sum_of_shares) .none kV11 dc11 pm11 an11 cd11 ct11), sl11⟩) (c11 : PySem.W.codeIn K cd11 "sum_of_shares" = true) (k11 : PySem.W.keepIn K (.ref f11) = true)
    (a12 : PySem.W.nsIn K mainGlobals "product_of_shares" = some (some (.ref f12))) (l12 : K.lookup f12 = some ⟨oc12, od12, .func (PySem.W.fnOf "product_of_shares" "product_of_shares" (defArgs s_product_of_shares) (defBody s_product_of_shares) (defScope s_product_of_shares) .none kV12 dc12 pm12 an12 cd12 ct12), sl12⟩) (c12 : PySem.W.codeIn K cd12 "product_of_shares" = true) (k12 : PySem.W.keepIn K (.ref f12) = true)
    (a13 : PySem.W.nsIn K mainGlobals "inverse_modulo" = some (some (.ref f13))) (l13 : K.lookup f13 = some ⟨oc13, od13, .func (PySem.W.fnOf "inverse_modulo" "inverse_modulo" (defArgs s_inverse_modulo) (defBody s_inverse_modulo) (defScope s_inverse_modulo) .none kV13 dc13 pm13 an13 cd13 ct13), sl13⟩) (c13 : PySem.W.codeIn K cd13 "inverse_modulo" = true) (k13 : PySem.W.keepIn K (.ref f13) = true)
    (a14 : PySem.W.nsIn K mainGlobals "written" = some (some (.ref f14))) (l14 : K.lookup f14 = some ⟨oc14, od14, .func (PySem.W.fnOf "written" "written" (defArgs s_written) (defBody s_written) (defScope s_written) .none kV14 dc14 pm14 an14 cd14 ct14), sl14⟩) (c14 : PySem.W.codeIn K cd14 "written" = true) (k14 : PySem.W.keepIn K (.ref f14) = true)
    (a15 : PySem.W.nsIn K mainGlobals "written_below" = some (some (.ref f15))) (l15 : K.lookup f15 = some ⟨oc15, od15, .func (PySem.W.fnOf "written_below" "written_below" (defArgs s_written_below) (defBody s_written_below) (defScope s_written_below) .none kV15 dc15 pm15 an15 cd15 ct15), sl15⟩) (c15 : PySem.W.codeIn K cd15 "written_below" = true) (k15 : PySem.W.keepIn K (.ref f15) = true)
    (a16 : PySem.W.nsIn K mainGlobals "depth_over" = some (some (.ref f16))) (l16 : K.lookup f16 = some ⟨oc16, od16, .func (PySem.W.fnOf "depth_over" "depth_over" (defArgs s_depth_over) (defBody s_depth_over) (defScope s_depth_over) .none kV16 dc16 pm16 an16 cd16 ct16), sl16⟩) (c16 : PySem.W.codeIn K cd16 "depth_over" = true) (k16 : PySem.W.keepIn K (.ref f16) = true)
    (a17 : PySem.W.nsIn K mainGlobals "check_bases" = some (some (.ref f17))) (l17 : K.lookup f17 = some ⟨oc17, od17, .func (PySem.W.fnOf "check_bases" "check_bases" (defArgs s_check_bases) (defBody s_check_bases) (defScope s_check_bases) .none kV17 dc17 pm17 an17 cd17 ct17), sl17⟩) (c17 : PySem.W.codeIn K cd17 "check_bases" = true) (k17 : PySem.W.keepIn K (.ref f17) = true)
    (a18 : PySem.W.nsIn K mainGlobals "check_number" = some (some (.ref f18))) (l18 : K.lookup f18 = some ⟨oc18, od18, .func (PySem.W.fnOf "check_number" "check_number" (defArgs s_check_number) (defBody s_check_number) (defScope s_check_number) .none kV18 dc18 pm18 an18 cd18 ct18), sl18⟩) (c18 : PySem.W.codeIn K cd18 "check_number" = true) (k18 : PySem.W.keepIn K (.ref f18) = true)
    (a19 : PySem.W.nsIn K mainGlobals "choices" = some (some (.ref f19))) (l19 : K.lookup f19 = some ⟨oc19, od19, .func (PySem.W.fnOf "choices" "choices" (defArgs s_choices) (defBody s_choices) (defScope s_choices) .none kV19 dc19 pm19 an19 cd19 ct19), sl19⟩) (c19 : PySem.W.codeIn K cd19 "choices" = true) (k19 : PySem.W.keepIn K (.ref f19) = true)
    (a20 : PySem.W.nsIn K mainGlobals "size_together" = some (some (.ref f20))) (l20 : K.lookup f20 = some ⟨oc20, od20, .func (PySem.W.fnOf "size_together" "size_together" (defArgs s_size_together) (defBody s_size_together) (defScope s_size_together) .none kV20 dc20 pm20 an20 cd20 ct20), sl20⟩) (c20 : PySem.W.codeIn K cd20 "size_together" = true) (k20 : PySem.W.keepIn K (.ref f20) = true)
    (a21 : PySem.W.nsIn K mainGlobals "normal_numbers" = some (some (.ref f21))) (l21 : K.lookup f21 = some ⟨oc21, od21, .func (PySem.W.fnOf "normal_numbers" "normal_numbers" (defArgs s_normal_numbers) (defBody s_normal_numbers) (defScope s_normal_numbers) .none kV21 dc21 pm21 an21 cd21 ct21), sl21⟩) (c21 : PySem.W.codeIn K cd21 "normal_numbers" = true) (k21 : PySem.W.keepIn K (.ref f21) = true)
    (a22 : PySem.W.nsIn K mainGlobals "realm_with" = some (some (.ref f22))) (l22 : K.lookup f22 = some ⟨oc22, od22, .func (PySem.W.fnOf "realm_with" "realm_with" (defArgs s_realm_with) (defBody s_realm_with) (defScope s_realm_with) .none kV22 dc22 pm22 an22 cd22 ct22), sl22⟩) (c22 : PySem.W.codeIn K cd22 "realm_with" = true) (k22 : PySem.W.keepIn K (.ref f22) = true)
    (a23 : PySem.W.nsIn K mainGlobals "listed" = some (some (.ref f23))) (l23 : K.lookup f23 = some ⟨oc23, od23, .func (PySem.W.fnOf "listed" "listed" (defArgs s_listed) (defBody s_listed) (defScope s_listed) .none kV23 dc23 pm23 an23 cd23 ct23), sl23⟩) (c23 : PySem.W.codeIn K cd23 "listed" = true) (k23 : PySem.W.keepIn K (.ref f23) = true)
    (a24 : PySem.W.nsIn K mainGlobals "joined_inverse" = some (some (.ref f24))) (l24 : K.lookup f24 = some ⟨oc24, od24, .func (PySem.W.fnOf "joined_inverse" "joined_inverse" (defArgs s_joined_inverse) (defBody s_joined_inverse) (defScope s_joined_inverse) .none kV24 dc24 pm24 an24 cd24 ct24), sl24⟩) (c24 : PySem.W.codeIn K cd24 "joined_inverse" = true) (k24 : PySem.W.keepIn K (.ref f24) = true)
    (a25 : PySem.W.nsIn K mainGlobals "_law_bag" = some (some (.ref f25))) (l25 : K.lookup f25 = some ⟨oc25, od25, .func (PySem.W.fnOf "_law_bag" "_law_bag" (defArgs s_l_bag) (defBody s_l_bag) (defScope s_l_bag) .none kV25 dc25 pm25 an25 cd25 ct25), sl25⟩) (c25 : PySem.W.codeIn K cd25 "_law_bag" = true) (k25 : PySem.W.keepIn K (.ref f25) = true)
    (a26 : PySem.W.nsIn K mainGlobals "_law_draw" = some (some (.ref f26))) (l26 : K.lookup f26 = some ⟨oc26, od26, .func (PySem.W.fnOf "_law_draw" "_law_draw" (defArgs s_l_draw) (defBody s_l_draw) (defScope s_l_draw) .none kV26 dc26 pm26 an26 cd26 ct26), sl26⟩) (c26 : PySem.W.codeIn K cd26 "_law_draw" = true) (k26 : PySem.W.keepIn K (.ref f26) = true)
    (a27 : PySem.W.nsIn K mainGlobals "_law_pick" = some (some (.ref f27))) (l27 : K.lookup f27 = some ⟨oc27, od27, .func (PySem.W.fnOf "_law_pick" "_law_pick" (defArgs s_l_pick) (defBody s_l_pick) (defScope s_l_pick) .none kV27 dc27 pm27 an27 cd27 ct27), sl27⟩) (c27 : PySem.W.codeIn K cd27 "_law_pick" = true) (k27 : PySem.W.keepIn K (.ref f27) = true)
    (a28 : PySem.W.nsIn K mainGlobals "_law_realm" = some (some (.ref f28))) (l28 : K.lookup f28 = some ⟨oc28, od28, .func (PySem.W.fnOf "_law_realm" "_law_realm" (defArgs s_l_realm) (defBody s_l_realm) (defScope s_l_realm) .none kV28 dc28 pm28 an28 cd28 ct28), sl28⟩) (c28 : PySem.W.codeIn K cd28 "_law_realm" = true) (k28 : PySem.W.keepIn K (.ref f28) = true)
    (a29 : PySem.W.nsIn K mainGlobals "law" = some (some (.ref f29))) (l29 : K.lookup f29 = some ⟨oc29, od29, .func (PySem.W.fnOf "law" "law" (defArgs s_law) (defBody s_law) (defScope s_law) .none kV29 dc29 pm29 an29 cd29 ct29), sl29⟩) (c29 : PySem.W.codeIn K cd29 "law" = true) (k29 : PySem.W.keepIn K (.ref f29) = true)
    (z_ValueError : PySem.W.nsIn K mainGlobals "ValueError" = some none)
    (z_abs : PySem.W.nsIn K mainGlobals "abs" = some none)
    (z_all : PySem.W.nsIn K mainGlobals "all" = some none)
    (z_bool : PySem.W.nsIn K mainGlobals "bool" = some none)
    (z_divmod : PySem.W.nsIn K mainGlobals "divmod" = some none)
    (z_enumerate : PySem.W.nsIn K mainGlobals "enumerate" = some none)
    (z_int : PySem.W.nsIn K mainGlobals "int" = some none)
    (z_isinstance : PySem.W.nsIn K mainGlobals "isinstance" = some none)
    (z_len : PySem.W.nsIn K mainGlobals "len" = some none)
    (z_list : PySem.W.nsIn K mainGlobals "list" = some none)
    (z_max : PySem.W.nsIn K mainGlobals "max" = some none)
    (z_range : PySem.W.nsIn K mainGlobals "range" = some none)
    (z_str : PySem.W.nsIn K mainGlobals "str" = some none)
    (z_tuple : PySem.W.nsIn K mainGlobals "tuple" = some none)
    (z_zip : PySem.W.nsIn K mainGlobals "zip" = some none)
    (m_gcd : PySem.W.nsIn K mainGlobals "gcd" = some (some (.builtin "math.gcd")))
    (m_lcm : PySem.W.nsIn K mainGlobals "lcm" = some (some (.builtin "math.lcm")))
    (m_MOST_RADICAL : PySem.W.nsIn K mainGlobals "MOST_RADICAL" = some (some (.int 1000000 u_MOST_RADICAL)))
    (m_MOST_MODULUS : PySem.W.nsIn K mainGlobals "MOST_MODULUS" = some (some (.int 1000000000 u_MOST_MODULUS)))
    (m_MOST_PART : PySem.W.nsIn K mainGlobals "MOST_PART" = some (some (.int 1000000 u_MOST_PART)))
    (ea_InvalidNumber : PySem.W.nsIn K mainGlobals "InvalidNumber" = some (some (.ref C_InvalidNumber)))
    (eb_InvalidNumber : K.lookup C_InvalidNumber = some (excClassObj nm_InvalidNumber qn_InvalidNumber C_InvalidNumber N_InvalidNumber bs_InvalidNumber bm_InvalidNumber true sn_InvalidNumber sub_InvalidNumber ab_InvalidNumber col_InvalidNumber dd_InvalidNumber v0_InvalidNumber v1_InvalidNumber v2_InvalidNumber v3_InvalidNumber v5_InvalidNumber "ValueError.__new__"))
    (ec_InvalidNumber : PySem.HandSPX.refsVE bm_InvalidNumber = true)
    (ed_InvalidNumber : PySem.W.alongIn K "__init__" bm_InvalidNumber = some (some (.builtin "ValueError.__init__")))
    (ee_InvalidNumber : PySem.W.findIn K (.ref C_InvalidNumber) "__setattr__" = some (some (.builtin "object.__setattr__")))
    (ef_InvalidNumber : PySem.W.findIn K (.ref C_InvalidNumber) "__getattribute__" = some (some (.builtin "BaseException.__getattribute__")))
    (eg_InvalidNumber : PySem.W.findIn K (.ref C_InvalidNumber) "__getattr__" = some none)
    (eh_InvalidNumber : PySem.W.findIn K (.ref C_InvalidNumber) "given" = some none)
    (ei_InvalidNumber : PySem.W.findIn K (.ref C_InvalidNumber) "code" = some none)
    (ej_InvalidNumber : PySem.W.findIn K (.ref C_InvalidNumber) "__init__" = some (some (.ref f_InvalidNumber)))
    (ek_InvalidNumber : PySem.W.typeIn K (.ref f_InvalidNumber) = some (.type "function"))
    (el_InvalidNumber : PySem.W.keepIn K (.ref C_InvalidNumber) = true)
    (em_InvalidNumber : PySem.W.subIn K (.ref C_InvalidNumber) (.type "BaseException") = some true)
    (en_InvalidNumber : PySem.W.subIn K (.ref C_InvalidNumber) (.type "ValueError") = some true)
    (eo_InvalidNumber : PySem.W.mroIn K C_InvalidNumber (.ref C_InvalidNumber) = some true)
    (ep_InvalidNumber : PySem.W.typeIn K (.ref C_InvalidNumber) = some (.type "type"))
    (eq_InvalidNumber : PySem.W.hasDictIn K C_InvalidNumber = true)
    (er_InvalidNumber : K.lookup f_InvalidNumber = some ⟨oc_InvalidNumber, od_InvalidNumber, .func (PySem.W.ksFn "__init__" ql_InvalidNumber (PySem.ErrX.eArgs "given" p1_InvalidNumber p2_InvalidNumber) (PySem.ErrX.eBody "given" ms_InvalidNumber "InvalidNumber" n1_InvalidNumber n2_InvalidNumber a1_InvalidNumber a2_InvalidNumber a3_InvalidNumber a4_InvalidNumber a5_InvalidNumber a6_InvalidNumber b1_InvalidNumber b2_InvalidNumber b3_InvalidNumber b4_InvalidNumber c1_InvalidNumber c2_InvalidNumber c3_InvalidNumber c4_InvalidNumber) (PySem.ErrX.eScope "given") .none .none dc_InvalidNumber pm_InvalidNumber an_InvalidNumber (.ref d_InvalidNumber) ct_InvalidNumber x_InvalidNumber), os_InvalidNumber⟩)
    (es_InvalidNumber : PySem.W.codeIn K (.ref d_InvalidNumber) ql_InvalidNumber = true)
    (et_InvalidNumber : K.lookup x_InvalidNumber = some ⟨cl_InvalidNumber, cld_InvalidNumber, .cell (some (.ref C_InvalidNumber)), csl_InvalidNumber⟩)
    (eu_InvalidNumber : K.lookup d_InvalidNumber = some ⟨ccl_InvalidNumber, cdd_InvalidNumber, .fields vs_InvalidNumber, ccs_InvalidNumber⟩)
    (ev_InvalidNumber : vs_InvalidNumber[2]? = some (.str fl_InvalidNumber tf_InvalidNumber))
    (ex_InvalidNumber : PySem.ErrX.InitEval ms_InvalidNumber n1_InvalidNumber a1_InvalidNumber a2_InvalidNumber a3_InvalidNumber a4_InvalidNumber a5_InvalidNumber)
    (ew_InvalidNumber : ((l.prog.main.file : Str) == fl_InvalidNumber) = true)
    (ea_InvalidRing : PySem.W.nsIn K mainGlobals "InvalidRing" = some (some (.ref C_InvalidRing)))
    (eb_InvalidRing : K.lookup C_InvalidRing = some (excClassObj nm_InvalidRing qn_InvalidRing C_InvalidRing N_InvalidRing bs_InvalidRing bm_InvalidRing true sn_InvalidRing sub_InvalidRing ab_InvalidRing col_InvalidRing dd_InvalidRing v0_InvalidRing v1_InvalidRing v2_InvalidRing v3_InvalidRing v5_InvalidRing "ValueError.__new__"))
    (ec_InvalidRing : PySem.HandSPX.refsVE bm_InvalidRing = true)
    (ed_InvalidRing : PySem.W.alongIn K "__init__" bm_InvalidRing = some (some (.builtin "ValueError.__init__")))
    (ee_InvalidRing : PySem.W.findIn K (.ref C_InvalidRing) "__setattr__" = some (some (.builtin "object.__setattr__")))
    (ef_InvalidRing : PySem.W.findIn K (.ref C_InvalidRing) "__getattribute__" = some (some (.builtin "BaseException.__getattribute__")))
    (eg_InvalidRing : PySem.W.findIn K (.ref C_InvalidRing) "__getattr__" = some none)
    (eh_InvalidRing : PySem.W.findIn K (.ref C_InvalidRing) "given" = some none)
    (ei_InvalidRing : PySem.W.findIn K (.ref C_InvalidRing) "code" = some none)
    (ej_InvalidRing : PySem.W.findIn K (.ref C_InvalidRing) "__init__" = some (some (.ref f_InvalidRing)))
    (ek_InvalidRing : PySem.W.typeIn K (.ref f_InvalidRing) = some (.type "function"))
    (el_InvalidRing : PySem.W.keepIn K (.ref C_InvalidRing) = true)
    (em_InvalidRing : PySem.W.subIn K (.ref C_InvalidRing) (.type "BaseException") = some true)
    (en_InvalidRing : PySem.W.subIn K (.ref C_InvalidRing) (.type "ValueError") = some true)
    (eo_InvalidRing : PySem.W.mroIn K C_InvalidRing (.ref C_InvalidRing) = some true)
    (ep_InvalidRing : PySem.W.typeIn K (.ref C_InvalidRing) = some (.type "type"))
    (eq_InvalidRing : PySem.W.hasDictIn K C_InvalidRing = true)
    (er_InvalidRing : K.lookup f_InvalidRing = some ⟨oc_InvalidRing, od_InvalidRing, .func (PySem.W.ksFn "__init__" ql_InvalidRing (PySem.ErrX.eArgs "given" p1_InvalidRing p2_InvalidRing) (PySem.ErrX.eBody "given" ms_InvalidRing "InvalidRing" n1_InvalidRing n2_InvalidRing a1_InvalidRing a2_InvalidRing a3_InvalidRing a4_InvalidRing a5_InvalidRing a6_InvalidRing b1_InvalidRing b2_InvalidRing b3_InvalidRing b4_InvalidRing c1_InvalidRing c2_InvalidRing c3_InvalidRing c4_InvalidRing) (PySem.ErrX.eScope "given") .none .none dc_InvalidRing pm_InvalidRing an_InvalidRing (.ref d_InvalidRing) ct_InvalidRing x_InvalidRing), os_InvalidRing⟩)
    (es_InvalidRing : PySem.W.codeIn K (.ref d_InvalidRing) ql_InvalidRing = true)
    (et_InvalidRing : K.lookup x_InvalidRing = some ⟨cl_InvalidRing, cld_InvalidRing, .cell (some (.ref C_InvalidRing)), csl_InvalidRing⟩)
    (eu_InvalidRing : K.lookup d_InvalidRing = some ⟨ccl_InvalidRing, cdd_InvalidRing, .fields vs_InvalidRing, ccs_InvalidRing⟩)
    (ev_InvalidRing : vs_InvalidRing[2]? = some (.str fl_InvalidRing tf_InvalidRing))
    (ex_InvalidRing : PySem.ErrX.InitEval ms_InvalidRing n1_InvalidRing a1_InvalidRing a2_InvalidRing a3_InvalidRing a4_InvalidRing a5_InvalidRing)
    (ew_InvalidRing : ((l.prog.main.file : Str) == fl_InvalidRing) = true)
    (ea_TooMany : PySem.W.nsIn K mainGlobals "TooMany" = some (some (.ref C_TooMany)))
    (eb_TooMany : K.lookup C_TooMany = some (excClassObj nm_TooMany qn_TooMany C_TooMany N_TooMany bs_TooMany bm_TooMany true sn_TooMany sub_TooMany ab_TooMany col_TooMany dd_TooMany v0_TooMany v1_TooMany v2_TooMany v3_TooMany v5_TooMany "ValueError.__new__"))
    (ec_TooMany : PySem.HandSPX.refsVE bm_TooMany = true)
    (ed_TooMany : PySem.W.alongIn K "__init__" bm_TooMany = some (some (.builtin "ValueError.__init__")))
    (ee_TooMany : PySem.W.findIn K (.ref C_TooMany) "__setattr__" = some (some (.builtin "object.__setattr__")))
    (ef_TooMany : PySem.W.findIn K (.ref C_TooMany) "__getattribute__" = some (some (.builtin "BaseException.__getattribute__")))
    (eg_TooMany : PySem.W.findIn K (.ref C_TooMany) "__getattr__" = some none)
    (eh_TooMany : PySem.W.findIn K (.ref C_TooMany) "most" = some none)
    (ei_TooMany : PySem.W.findIn K (.ref C_TooMany) "code" = some none)
    (ej_TooMany : PySem.W.findIn K (.ref C_TooMany) "__init__" = some (some (.ref f_TooMany)))
    (ek_TooMany : PySem.W.typeIn K (.ref f_TooMany) = some (.type "function"))
    (el_TooMany : PySem.W.keepIn K (.ref C_TooMany) = true)
    (em_TooMany : PySem.W.subIn K (.ref C_TooMany) (.type "BaseException") = some true)
    (en_TooMany : PySem.W.subIn K (.ref C_TooMany) (.type "ValueError") = some true)
    (eo_TooMany : PySem.W.mroIn K C_TooMany (.ref C_TooMany) = some true)
    (ep_TooMany : PySem.W.typeIn K (.ref C_TooMany) = some (.type "type"))
    (eq_TooMany : PySem.W.hasDictIn K C_TooMany = true)
    (er_TooMany : K.lookup f_TooMany = some ⟨oc_TooMany, od_TooMany, .func (PySem.W.ksFn "__init__" ql_TooMany (PySem.ErrX.eArgs "most" p1_TooMany p2_TooMany) (PySem.ErrX.eBody "most" ms_TooMany "TooMany" n1_TooMany n2_TooMany a1_TooMany a2_TooMany a3_TooMany a4_TooMany a5_TooMany a6_TooMany b1_TooMany b2_TooMany b3_TooMany b4_TooMany c1_TooMany c2_TooMany c3_TooMany c4_TooMany) (PySem.ErrX.eScope "most") .none .none dc_TooMany pm_TooMany an_TooMany (.ref d_TooMany) ct_TooMany x_TooMany), os_TooMany⟩)
    (es_TooMany : PySem.W.codeIn K (.ref d_TooMany) ql_TooMany = true)
    (et_TooMany : K.lookup x_TooMany = some ⟨cl_TooMany, cld_TooMany, .cell (some (.ref C_TooMany)), csl_TooMany⟩)
    (eu_TooMany : K.lookup d_TooMany = some ⟨ccl_TooMany, cdd_TooMany, .fields vs_TooMany, ccs_TooMany⟩)
    (ev_TooMany : vs_TooMany[2]? = some (.str fl_TooMany tf_TooMany))
    (ex_TooMany : PySem.ErrX.InitEval ms_TooMany n1_TooMany a1_TooMany a2_TooMany a3_TooMany a4_TooMany a5_TooMany)
    (ew_TooMany : ((l.prog.main.file : Str) == fl_TooMany) = true)
    (cg_Realm : PySem.W.nsIn K mainGlobals "Realm" = some (some (.ref C_Realm)))
    (c1_Realm : PySem.W.plainGet K C_Realm Str.empty = true)
    (c2_Realm : PySem.W.hasDictIn K C_Realm = true)
    (c3_Realm : PySem.W.plainOver K C_Realm = true)
    (c4_Realm : PySem.W.findIn K (.ref C_Realm) "__setattr__" = some (some (.builtin "object.__setattr__")))
    (c5_Realm : PySem.W.readsIn K C_Realm (.type "type") = true)
    (c6_Realm : PySem.W.specialIn K (.ref C_Realm) "__getattribute__" = some (some (.builtin "type.__getattribute__")))
    (ia_Realm : PySem.W.findIn K (.ref C_Realm) "__class__" = some (some (.builtin "object.__class__")))
    (ib_Realm : PySem.W.specialIn K (.builtin "object.__class__") "__get__" = some (some (.builtin "getset_descriptor.__get__")))
    (ic_Realm : PySem.W.takesIn K (.builtin "object.__class__") = some true)
    (id_Realm : PySem.W.mroIn K C_Realm (.type "object") = some true)
    (no_Realm__normal : PySem.W.findIn K (.ref C_Realm) "_normal" = some none)
    (ff0_Realm : PySem.W.kitOne K (.ref C_Realm) (.ref C_Realm) = some true)
    (ff1_Realm : PySem.W.kitOne K (.type "int") (.ref C_Realm) = some false)
    (ff2_Realm : PySem.W.notFirst K C_Realm (.type "int") = true)
    (ma_Realm_init : PySem.W.findIn K (.ref C_Realm) "__init__" = some (some (.ref f_Realm_init)))
    (mb_Realm_init : PySem.W.isFn K (.ref f_Realm_init) = true)
    (l_Realm_init : K.lookup f_Realm_init = some ⟨oc_Realm_init, od_Realm_init, .func (PySem.W.fnOf "__init__" "Realm.__init__" (defArgs s_Realm_init) (defBody s_Realm_init) (defScope s_Realm_init) .none (.ref kVRealm_init) dc_Realm_init pm_Realm_init an_Realm_init cd_Realm_init ct_Realm_init), sl_Realm_init⟩)
    (c_Realm_init : PySem.W.codeIn K cd_Realm_init "Realm.__init__" = true)
    (k_Realm_init : PySem.W.keepIn K (.ref f_Realm_init) = true)
    (kw_Realm_init_inverse : PySem.W.nsIn K kVRealm_init "inverse" = some (some (.int 1 tk_Realm_init_inverse)))
    (kw_Realm_init_ones : PySem.W.nsIn K kVRealm_init "ones" = some (some (.int 0 tk_Realm_init_ones)))
    (kw_Realm_init_swaps : PySem.W.nsIn K kVRealm_init "swaps" = some (some (.int 0 tk_Realm_init_swaps)))
    (kw_Realm_init_squares : PySem.W.nsIn K kVRealm_init "squares" = some (some (.int 0 tk_Realm_init_squares)))
    (mk_Realm : PySem.W.makesIn K C_Realm = true)
    (kc_Realm : PySem.W.keepIn K (.ref C_Realm) = true)
    (pa_Realm_inverse : PySem.W.findIn K (.ref C_Realm) "inverse" = some (some (.ref p_Realm_inverse)))
    (pb_Realm_inverse : PySem.W.specialIn K (.ref p_Realm_inverse) "__get__" = some (some (.builtin "property.__get__")))
    (pc_Realm_inverse : PySem.W.takesIn K (.ref p_Realm_inverse) = some true)
    (pd_Realm_inverse : PySem.W.recIn K p_Realm_inverse "property" = some (.ref f_Realm_inverse :: rs_Realm_inverse))
    (l_Realm_inverse : K.lookup f_Realm_inverse = some ⟨oc_Realm_inverse, od_Realm_inverse, .func (PySem.W.fnOf "inverse" "Realm.inverse" (defArgs s_Realm_inverse) (defBody s_Realm_inverse) (defScope s_Realm_inverse) .none kV_Realm_inverse dc_Realm_inverse pm_Realm_inverse an_Realm_inverse cd_Realm_inverse ct_Realm_inverse), sl_Realm_inverse⟩)
    (c_Realm_inverse : PySem.W.codeIn K cd_Realm_inverse "Realm.inverse" = true)
    (k_Realm_inverse : PySem.W.keepIn K (.ref f_Realm_inverse) = true)
    (pa_Realm_ones : PySem.W.findIn K (.ref C_Realm) "ones" = some (some (.ref p_Realm_ones)))
    (pb_Realm_ones : PySem.W.specialIn K (.ref p_Realm_ones) "__get__" = some (some (.builtin "property.__get__")))
    (pc_Realm_ones : PySem.W.takesIn K (.ref p_Realm_ones) = some true)
    (pd_Realm_ones : PySem.W.recIn K p_Realm_ones "property" = some (.ref f_Realm_ones :: rs_Realm_ones))
    (l_Realm_ones : K.lookup f_Realm_ones = some ⟨oc_Realm_ones, od_Realm_ones, .func (PySem.W.fnOf "ones" "Realm.ones" (defArgs s_Realm_ones) (defBody s_Realm_ones) (defScope s_Realm_ones) .none kV_Realm_ones dc_Realm_ones pm_Realm_ones an_Realm_ones cd_Realm_ones ct_Realm_ones), sl_Realm_ones⟩)
    (c_Realm_ones : PySem.W.codeIn K cd_Realm_ones "Realm.ones" = true)
    (k_Realm_ones : PySem.W.keepIn K (.ref f_Realm_ones) = true)
    (pa_Realm_swaps : PySem.W.findIn K (.ref C_Realm) "swaps" = some (some (.ref p_Realm_swaps)))
    (pb_Realm_swaps : PySem.W.specialIn K (.ref p_Realm_swaps) "__get__" = some (some (.builtin "property.__get__")))
    (pc_Realm_swaps : PySem.W.takesIn K (.ref p_Realm_swaps) = some true)
    (pd_Realm_swaps : PySem.W.recIn K p_Realm_swaps "property" = some (.ref f_Realm_swaps :: rs_Realm_swaps))
    (l_Realm_swaps : K.lookup f_Realm_swaps = some ⟨oc_Realm_swaps, od_Realm_swaps, .func (PySem.W.fnOf "swaps" "Realm.swaps" (defArgs s_Realm_swaps) (defBody s_Realm_swaps) (defScope s_Realm_swaps) .none kV_Realm_swaps dc_Realm_swaps pm_Realm_swaps an_Realm_swaps cd_Realm_swaps ct_Realm_swaps), sl_Realm_swaps⟩)
    (c_Realm_swaps : PySem.W.codeIn K cd_Realm_swaps "Realm.swaps" = true)
    (k_Realm_swaps : PySem.W.keepIn K (.ref f_Realm_swaps) = true)
    (pa_Realm_squares : PySem.W.findIn K (.ref C_Realm) "squares" = some (some (.ref p_Realm_squares)))
    (pb_Realm_squares : PySem.W.specialIn K (.ref p_Realm_squares) "__get__" = some (some (.builtin "property.__get__")))
    (pc_Realm_squares : PySem.W.takesIn K (.ref p_Realm_squares) = some true)
    (pd_Realm_squares : PySem.W.recIn K p_Realm_squares "property" = some (.ref f_Realm_squares :: rs_Realm_squares))
    (l_Realm_squares : K.lookup f_Realm_squares = some ⟨oc_Realm_squares, od_Realm_squares, .func (PySem.W.fnOf "squares" "Realm.squares" (defArgs s_Realm_squares) (defBody s_Realm_squares) (defScope s_Realm_squares) .none kV_Realm_squares dc_Realm_squares pm_Realm_squares an_Realm_squares cd_Realm_squares ct_Realm_squares), sl_Realm_squares⟩)
    (c_Realm_squares : PySem.W.codeIn K cd_Realm_squares "Realm.squares" = true)
    (k_Realm_squares : PySem.W.keepIn K (.ref f_Realm_squares) = true)
    (ma_Realm_eq : PySem.W.findIn K (.ref C_Realm) "__eq__" = some (some (.ref f_Realm_eq)))
    (mb_Realm_eq : PySem.W.isFn K (.ref f_Realm_eq) = true)
    (l_Realm_eq : K.lookup f_Realm_eq = some ⟨oc_Realm_eq, od_Realm_eq, .func (PySem.W.fnOf "__eq__" "Realm.__eq__" (defArgs s_Realm_eq) (defBody s_Realm_eq) (defScope s_Realm_eq) .none kV_Realm_eq dc_Realm_eq pm_Realm_eq an_Realm_eq cd_Realm_eq ct_Realm_eq), sl_Realm_eq⟩)
    (c_Realm_eq : PySem.W.codeIn K cd_Realm_eq "Realm.__eq__" = true)
    (k_Realm_eq : PySem.W.keepIn K (.ref f_Realm_eq) = true)
    (ma_Realm_contains : PySem.W.findIn K (.ref C_Realm) "__contains__" = some (some (.ref f_Realm_contains)))
    (mb_Realm_contains : PySem.W.isFn K (.ref f_Realm_contains) = true)
    (l_Realm_contains : K.lookup f_Realm_contains = some ⟨oc_Realm_contains, od_Realm_contains, .func (PySem.W.fnOf "__contains__" "Realm.__contains__" (defArgs s_Realm_contains) (defBody s_Realm_contains) (defScope s_Realm_contains) .none kV_Realm_contains dc_Realm_contains pm_Realm_contains an_Realm_contains cd_Realm_contains ct_Realm_contains), sl_Realm_contains⟩)
    (c_Realm_contains : PySem.W.codeIn K cd_Realm_contains "Realm.__contains__" = true)
    (k_Realm_contains : PySem.W.keepIn K (.ref f_Realm_contains) = true)
    (cg_Ring : PySem.W.nsIn K mainGlobals "Ring" = some (some (.ref C_Ring)))
    (c1_Ring : PySem.W.plainGet K C_Ring Str.empty = true)
    (c2_Ring : PySem.W.hasDictIn K C_Ring = true)
    (c3_Ring : PySem.W.plainOver K C_Ring = true)
    (c4_Ring : PySem.W.findIn K (.ref C_Ring) "__setattr__" = some (some (.builtin "object.__setattr__")))
    (c5_Ring : PySem.W.readsIn K C_Ring (.type "type") = true)
    (c6_Ring : PySem.W.specialIn K (.ref C_Ring) "__getattribute__" = some (some (.builtin "type.__getattribute__")))
    (ia_Ring : PySem.W.findIn K (.ref C_Ring) "__class__" = some (some (.builtin "object.__class__")))
    (ib_Ring : PySem.W.specialIn K (.builtin "object.__class__") "__get__" = some (some (.builtin "getset_descriptor.__get__")))
    (ic_Ring : PySem.W.takesIn K (.builtin "object.__class__") = some true)
    (id_Ring : PySem.W.mroIn K C_Ring (.type "object") = some true)
    (pa_Ring_ones : PySem.W.findIn K (.ref C_Ring) "ones" = some (some (.ref p_Ring_ones)))
    (pb_Ring_ones : PySem.W.specialIn K (.ref p_Ring_ones) "__get__" = some (some (.builtin "property.__get__")))
    (pc_Ring_ones : PySem.W.takesIn K (.ref p_Ring_ones) = some true)
    (pd_Ring_ones : PySem.W.recIn K p_Ring_ones "property" = some (.ref f_Ring_ones :: rs_Ring_ones))
    (l_Ring_ones : K.lookup f_Ring_ones = some ⟨oc_Ring_ones, od_Ring_ones, .func (PySem.W.fnOf "ones" "Ring.ones" (defArgs s_Ring_ones) (defBody s_Ring_ones) (defScope s_Ring_ones) .none kV_Ring_ones dc_Ring_ones pm_Ring_ones an_Ring_ones cd_Ring_ones ct_Ring_ones), sl_Ring_ones⟩)
    (c_Ring_ones : PySem.W.codeIn K cd_Ring_ones "Ring.ones" = true)
    (k_Ring_ones : PySem.W.keepIn K (.ref f_Ring_ones) = true)
    (pa_Ring_swaps : PySem.W.findIn K (.ref C_Ring) "swaps" = some (some (.ref p_Ring_swaps)))
    (pb_Ring_swaps : PySem.W.specialIn K (.ref p_Ring_swaps) "__get__" = some (some (.builtin "property.__get__")))
    (pc_Ring_swaps : PySem.W.takesIn K (.ref p_Ring_swaps) = some true)
    (pd_Ring_swaps : PySem.W.recIn K p_Ring_swaps "property" = some (.ref f_Ring_swaps :: rs_Ring_swaps))
    (l_Ring_swaps : K.lookup f_Ring_swaps = some ⟨oc_Ring_swaps, od_Ring_swaps, .func (PySem.W.fnOf "swaps" "Ring.swaps" (defArgs s_Ring_swaps) (defBody s_Ring_swaps) (defScope s_Ring_swaps) .none kV_Ring_swaps dc_Ring_swaps pm_Ring_swaps an_Ring_swaps cd_Ring_swaps ct_Ring_swaps), sl_Ring_swaps⟩)
    (c_Ring_swaps : PySem.W.codeIn K cd_Ring_swaps "Ring.swaps" = true)
    (k_Ring_swaps : PySem.W.keepIn K (.ref f_Ring_swaps) = true)
    (pa_Ring_squares : PySem.W.findIn K (.ref C_Ring) "squares" = some (some (.ref p_Ring_squares)))
    (pb_Ring_squares : PySem.W.specialIn K (.ref p_Ring_squares) "__get__" = some (some (.builtin "property.__get__")))
    (pc_Ring_squares : PySem.W.takesIn K (.ref p_Ring_squares) = some true)
    (pd_Ring_squares : PySem.W.recIn K p_Ring_squares "property" = some (.ref f_Ring_squares :: rs_Ring_squares))
    (l_Ring_squares : K.lookup f_Ring_squares = some ⟨oc_Ring_squares, od_Ring_squares, .func (PySem.W.fnOf "squares" "Ring.squares" (defArgs s_Ring_squares) (defBody s_Ring_squares) (defScope s_Ring_squares) .none kV_Ring_squares dc_Ring_squares pm_Ring_squares an_Ring_squares cd_Ring_squares ct_Ring_squares), sl_Ring_squares⟩)
    (c_Ring_squares : PySem.W.codeIn K cd_Ring_squares "Ring.squares" = true)
    (k_Ring_squares : PySem.W.keepIn K (.ref f_Ring_squares) = true)
    (pa_Ring_depth : PySem.W.findIn K (.ref C_Ring) "depth" = some (some (.ref p_Ring_depth)))
    (pb_Ring_depth : PySem.W.specialIn K (.ref p_Ring_depth) "__get__" = some (some (.builtin "property.__get__")))
    (pc_Ring_depth : PySem.W.takesIn K (.ref p_Ring_depth) = some true)
    (pd_Ring_depth : PySem.W.recIn K p_Ring_depth "property" = some (.ref f_Ring_depth :: rs_Ring_depth))
    (l_Ring_depth : K.lookup f_Ring_depth = some ⟨oc_Ring_depth, od_Ring_depth, .func (PySem.W.fnOf "depth" "Ring.depth" (defArgs s_Ring_depth) (defBody s_Ring_depth) (defScope s_Ring_depth) .none kV_Ring_depth dc_Ring_depth pm_Ring_depth an_Ring_depth cd_Ring_depth ct_Ring_depth), sl_Ring_depth⟩)
    (c_Ring_depth : PySem.W.codeIn K cd_Ring_depth "Ring.depth" = true)
    (k_Ring_depth : PySem.W.keepIn K (.ref f_Ring_depth) = true)
    (ma_Ring_init : PySem.W.findIn K (.ref C_Ring) "__init__" = some (some (.ref f_Ring_init)))
    (mb_Ring_init : PySem.W.isFn K (.ref f_Ring_init) = true)
    (l_Ring_init : K.lookup f_Ring_init = some ⟨oc_Ring_init, od_Ring_init, .func (PySem.W.fnOf "__init__" "Ring.__init__" (defArgs s_Ring_init) (defBody s_Ring_init) (defScope s_Ring_init) .none kV_Ring_init dc_Ring_init pm_Ring_init an_Ring_init cd_Ring_init ct_Ring_init), sl_Ring_init⟩)
    (c_Ring_init : PySem.W.codeIn K cd_Ring_init "Ring.__init__" = true)
    (k_Ring_init : PySem.W.keepIn K (.ref f_Ring_init) = true)
    (ma_Ring_zero : PySem.W.findIn K (.ref C_Ring) "zero" = some (some (.ref f_Ring_zero)))
    (mb_Ring_zero : PySem.W.isFn K (.ref f_Ring_zero) = true)
    (l_Ring_zero : K.lookup f_Ring_zero = some ⟨oc_Ring_zero, od_Ring_zero, .func (PySem.W.fnOf "zero" "Ring.zero" (defArgs s_Ring_zero) (defBody s_Ring_zero) (defScope s_Ring_zero) .none kV_Ring_zero dc_Ring_zero pm_Ring_zero an_Ring_zero cd_Ring_zero ct_Ring_zero), sl_Ring_zero⟩)
    (c_Ring_zero : PySem.W.codeIn K cd_Ring_zero "Ring.zero" = true)
    (k_Ring_zero : PySem.W.keepIn K (.ref f_Ring_zero) = true)
    (ma_Ring_has_inverse : PySem.W.findIn K (.ref C_Ring) "has_inverse" = some (some (.ref f_Ring_has_inverse)))
    (mb_Ring_has_inverse : PySem.W.isFn K (.ref f_Ring_has_inverse) = true)
    (l_Ring_has_inverse : K.lookup f_Ring_has_inverse = some ⟨oc_Ring_has_inverse, od_Ring_has_inverse, .func (PySem.W.fnOf "has_inverse" "Ring.has_inverse" (defArgs s_Ring_has_inverse) (defBody s_Ring_has_inverse) (defScope s_Ring_has_inverse) .none kV_Ring_has_inverse dc_Ring_has_inverse pm_Ring_has_inverse an_Ring_has_inverse cd_Ring_has_inverse ct_Ring_has_inverse), sl_Ring_has_inverse⟩)
    (c_Ring_has_inverse : PySem.W.codeIn K cd_Ring_has_inverse "Ring.has_inverse" = true)
    (k_Ring_has_inverse : PySem.W.keepIn K (.ref f_Ring_has_inverse) = true)
    (cg_Shares : PySem.W.nsIn K mainGlobals "Shares" = some (some (.ref C_Shares)))
    (c1_Shares : PySem.W.plainGet K C_Shares Str.empty = true)
    (c2_Shares : PySem.W.hasDictIn K C_Shares = true)
    (c3_Shares : PySem.W.plainOver K C_Shares = true)
    (c4_Shares : PySem.W.findIn K (.ref C_Shares) "__setattr__" = some (some (.builtin "object.__setattr__")))
    (c5_Shares : PySem.W.readsIn K C_Shares (.type "type") = true)
    (c6_Shares : PySem.W.specialIn K (.ref C_Shares) "__getattribute__" = some (some (.builtin "type.__getattribute__")))
    (ia_Shares : PySem.W.findIn K (.ref C_Shares) "__class__" = some (some (.builtin "object.__class__")))
    (ib_Shares : PySem.W.specialIn K (.builtin "object.__class__") "__get__" = some (some (.builtin "getset_descriptor.__get__")))
    (ic_Shares : PySem.W.takesIn K (.builtin "object.__class__") = some true)
    (id_Shares : PySem.W.mroIn K C_Shares (.type "object") = some true)
    (ma_Shares__share : PySem.W.findIn K (.ref C_Shares) "_share" = some (some (.ref f_Shares__share)))
    (mb_Shares__share : PySem.W.isFn K (.ref f_Shares__share) = true)
    (l_Shares__share : K.lookup f_Shares__share = some ⟨oc_Shares__share, od_Shares__share, .func (PySem.W.fnOf "_share" "Shares._share" (defArgs s_Shares__share) (defBody s_Shares__share) (defScope s_Shares__share) .none kV_Shares__share dc_Shares__share pm_Shares__share an_Shares__share cd_Shares__share ct_Shares__share), sl_Shares__share⟩)
    (c_Shares__share : PySem.W.codeIn K cd_Shares__share "Shares._share" = true)
    (k_Shares__share : PySem.W.keepIn K (.ref f_Shares__share) = true)
    (cg_Rests : PySem.W.nsIn K mainGlobals "Rests" = some (some (.ref C_Rests)))
    (c1_Rests : PySem.W.plainGet K C_Rests Str.empty = true)
    (c2_Rests : PySem.W.hasDictIn K C_Rests = true)
    (c3_Rests : PySem.W.plainOver K C_Rests = true)
    (c4_Rests : PySem.W.findIn K (.ref C_Rests) "__setattr__" = some (some (.builtin "object.__setattr__")))
    (c5_Rests : PySem.W.readsIn K C_Rests (.type "type") = true)
    (c6_Rests : PySem.W.specialIn K (.ref C_Rests) "__getattribute__" = some (some (.builtin "type.__getattribute__")))
    (ia_Rests : PySem.W.findIn K (.ref C_Rests) "__class__" = some (some (.builtin "object.__class__")))
    (ib_Rests : PySem.W.specialIn K (.builtin "object.__class__") "__get__" = some (some (.builtin "getset_descriptor.__get__")))
    (ic_Rests : PySem.W.takesIn K (.builtin "object.__class__") = some true)
    (id_Rests : PySem.W.mroIn K C_Rests (.type "object") = some true)
    (no_Rests__parts : PySem.W.findIn K (.ref C_Rests) "_parts" = some none)
    (no_Rests__ones : PySem.W.findIn K (.ref C_Rests) "_ones" = some none)
    (no_Rests__swaps : PySem.W.findIn K (.ref C_Rests) "_swaps" = some none)
    (no_Rests__squares : PySem.W.findIn K (.ref C_Rests) "_squares" = some none)
    (no_Rests__bases : PySem.W.findIn K (.ref C_Rests) "_bases" = some none)
    (no_Rests__depth : PySem.W.findIn K (.ref C_Rests) "_depth" = some none)
    (no_Rests__zero : PySem.W.findIn K (.ref C_Rests) "_zero" = some none)
    (no_Rests__one : PySem.W.findIn K (.ref C_Rests) "_one" = some none)
    (no_Rests__modulus : PySem.W.findIn K (.ref C_Rests) "_modulus" = some none)
    (ff0_Rests : PySem.W.findIn K (.ref C_Rests) "ones" = some (some (.ref p_Ring_ones)))
    (ff1_Rests : PySem.W.findIn K (.ref C_Rests) "swaps" = some (some (.ref p_Ring_swaps)))
    (ff2_Rests : PySem.W.findIn K (.ref C_Rests) "squares" = some (some (.ref p_Ring_squares)))
    (ff3_Rests : PySem.W.findIn K (.ref C_Rests) "depth" = some (some (.ref p_Ring_depth)))
    (ff4_Rests : PySem.W.findIn K (.ref C_Rests) "zero" = some (some (.ref f_Ring_zero)))
    (ff5_Rests : PySem.W.findIn K (.ref C_Rests) "has_inverse" = some (some (.ref f_Ring_has_inverse)))
    (ff6_Rests : PySem.W.kitOne K (.ref C_Rests) (.ref C_Ring) = some true)
    (ff7_Rests : PySem.W.kitOne K (.ref C_Rests) (.ref C_Rests) = some true)
    (ma_Rests__share : PySem.W.findIn K (.ref C_Rests) "_share" = some (some (.ref f_Rests__share)))
    (mb_Rests__share : PySem.W.isFn K (.ref f_Rests__share) = true)
    (l_Rests__share : K.lookup f_Rests__share = some ⟨oc_Rests__share, od_Rests__share, .func (PySem.W.fnOf "_share" "Rests._share" (defArgs s_Rests__share) (defBody s_Rests__share) (defScope s_Rests__share) .none kV_Rests__share dc_Rests__share pm_Rests__share an_Rests__share cd_Rests__share ct_Rests__share), sl_Rests__share⟩)
    (c_Rests__share : PySem.W.codeIn K cd_Rests__share "Rests._share" = true)
    (k_Rests__share : PySem.W.keepIn K (.ref f_Rests__share) = true)
    (ma_Rests__has_rests : PySem.W.findIn K (.ref C_Rests) "_has_rests" = some (some (.ref f_Rests__has_rests)))
    (mb_Rests__has_rests : PySem.W.isFn K (.ref f_Rests__has_rests) = true)
    (l_Rests__has_rests : K.lookup f_Rests__has_rests = some ⟨oc_Rests__has_rests, od_Rests__has_rests, .func (PySem.W.fnOf "_has_rests" "Rests._has_rests" (defArgs s_Rests__has_rests) (defBody s_Rests__has_rests) (defScope s_Rests__has_rests) .none kV_Rests__has_rests dc_Rests__has_rests pm_Rests__has_rests an_Rests__has_rests cd_Rests__has_rests ct_Rests__has_rests), sl_Rests__has_rests⟩)
    (c_Rests__has_rests : PySem.W.codeIn K cd_Rests__has_rests "Rests._has_rests" = true)
    (k_Rests__has_rests : PySem.W.keepIn K (.ref f_Rests__has_rests) = true)
    (ta_Rests : PySem.W.findIn K (.ref C_Rests) "__init__" = some (some (.ref fT_Rests)))
    (tb_Rests : PySem.W.isFn K (.ref fT_Rests) = true)
    (tm_Rests : PySem.W.makesIn K C_Rests = true)
    (tk_Rests : PySem.W.keepIn K (.ref C_Rests) = true)
    (tl_Rests : K.lookup fT_Rests = some ⟨ocT_Rests, odT_Rests, .func (PySem.W.ksFn "__init__" "Rests.__init__" (defArgs s_Rests_init) (defBody s_Rests_init) (defScope s_Rests_init) .none kVT_Rests docT_Rests pmT_Rests anT_Rests (.ref cdT_Rests) ctT_Rests ccT_Rests), oslT_Rests⟩)
    (tc_Rests : PySem.W.codeIn K (.ref cdT_Rests) "Rests.__init__" = true)
    (tx_Rests : K.lookup ccT_Rests = some ⟨clT_Rests, cldT_Rests, .cell (some (.ref C_Rests)), cslT_Rests⟩)
    (tu_Rests : K.lookup cdT_Rests = some ⟨cclT_Rests, cddT_Rests, .fields vsT_Rests, ccsT_Rests⟩)
    (tv_Rests : vsT_Rests[2]? = some (.str flT_Rests tfT_Rests))
    (tw_Rests : ((l.prog.main.file : Str) == flT_Rests) = true)
    (cg_Whole : PySem.W.nsIn K mainGlobals "Whole" = some (some (.ref C_Whole)))
    (c1_Whole : PySem.W.plainGet K C_Whole Str.empty = true)
    (c2_Whole : PySem.W.hasDictIn K C_Whole = true)
    (c3_Whole : PySem.W.plainOver K C_Whole = true)
    (c4_Whole : PySem.W.findIn K (.ref C_Whole) "__setattr__" = some (some (.builtin "object.__setattr__")))
    (c5_Whole : PySem.W.readsIn K C_Whole (.type "type") = true)
    (c6_Whole : PySem.W.specialIn K (.ref C_Whole) "__getattribute__" = some (some (.builtin "type.__getattribute__")))
    (ia_Whole : PySem.W.findIn K (.ref C_Whole) "__class__" = some (some (.builtin "object.__class__")))
    (ib_Whole : PySem.W.specialIn K (.builtin "object.__class__") "__get__" = some (some (.builtin "getset_descriptor.__get__")))
    (ic_Whole : PySem.W.takesIn K (.builtin "object.__class__") = some true)
    (id_Whole : PySem.W.mroIn K C_Whole (.type "object") = some true)
    (no_Whole__parts : PySem.W.findIn K (.ref C_Whole) "_parts" = some none)
    (no_Whole__ones : PySem.W.findIn K (.ref C_Whole) "_ones" = some none)
    (no_Whole__swaps : PySem.W.findIn K (.ref C_Whole) "_swaps" = some none)
    (no_Whole__squares : PySem.W.findIn K (.ref C_Whole) "_squares" = some none)
    (no_Whole__bases : PySem.W.findIn K (.ref C_Whole) "_bases" = some none)
    (no_Whole__depth : PySem.W.findIn K (.ref C_Whole) "_depth" = some none)
    (no_Whole__zero : PySem.W.findIn K (.ref C_Whole) "_zero" = some none)
    (no_Whole__one : PySem.W.findIn K (.ref C_Whole) "_one" = some none)
    (no_Whole__primes : PySem.W.findIn K (.ref C_Whole) "_primes" = some none)
    (ff0_Whole : PySem.W.findIn K (.ref C_Whole) "ones" = some (some (.ref p_Ring_ones)))
    (ff1_Whole : PySem.W.findIn K (.ref C_Whole) "swaps" = some (some (.ref p_Ring_swaps)))
    (ff2_Whole : PySem.W.findIn K (.ref C_Whole) "squares" = some (some (.ref p_Ring_squares)))
    (ff3_Whole : PySem.W.findIn K (.ref C_Whole) "depth" = some (some (.ref p_Ring_depth)))
    (ff4_Whole : PySem.W.findIn K (.ref C_Whole) "zero" = some (some (.ref f_Ring_zero)))
    (ff5_Whole : PySem.W.findIn K (.ref C_Whole) "_share" = some (some (.ref f_Shares__share)))
    (ff6_Whole : PySem.W.kitOne K (.ref C_Whole) (.ref C_Ring) = some true)
    (ff7_Whole : PySem.W.kitOne K (.ref C_Whole) (.ref C_Rests) = some false)
    (ff8_Whole : PySem.W.kitOne K (.ref C_Whole) (.ref C_Whole) = some true)
    (ma_Whole_has_inverse : PySem.W.findIn K (.ref C_Whole) "has_inverse" = some (some (.ref f_Whole_has_inverse)))
    (mb_Whole_has_inverse : PySem.W.isFn K (.ref f_Whole_has_inverse) = true)
    (l_Whole_has_inverse : K.lookup f_Whole_has_inverse = some ⟨oc_Whole_has_inverse, od_Whole_has_inverse, .func (PySem.W.fnOf "has_inverse" "Whole.has_inverse" (defArgs s_Whole_has_inverse) (defBody s_Whole_has_inverse) (defScope s_Whole_has_inverse) .none kV_Whole_has_inverse dc_Whole_has_inverse pm_Whole_has_inverse an_Whole_has_inverse cd_Whole_has_inverse ct_Whole_has_inverse), sl_Whole_has_inverse⟩)
    (c_Whole_has_inverse : PySem.W.codeIn K cd_Whole_has_inverse "Whole.has_inverse" = true)
    (k_Whole_has_inverse : PySem.W.keepIn K (.ref f_Whole_has_inverse) = true)
    (ma_Whole__has_rests : PySem.W.findIn K (.ref C_Whole) "_has_rests" = some (some (.ref f_Whole__has_rests)))
    (mb_Whole__has_rests : PySem.W.isFn K (.ref f_Whole__has_rests) = true)
    (l_Whole__has_rests : K.lookup f_Whole__has_rests = some ⟨oc_Whole__has_rests, od_Whole__has_rests, .func (PySem.W.fnOf "_has_rests" "Whole._has_rests" (defArgs s_Whole__has_rests) (defBody s_Whole__has_rests) (defScope s_Whole__has_rests) .none kV_Whole__has_rests dc_Whole__has_rests pm_Whole__has_rests an_Whole__has_rests cd_Whole__has_rests ct_Whole__has_rests), sl_Whole__has_rests⟩)
    (c_Whole__has_rests : PySem.W.codeIn K cd_Whole__has_rests "Whole._has_rests" = true)
    (k_Whole__has_rests : PySem.W.keepIn K (.ref f_Whole__has_rests) = true)
    (ta_Whole : PySem.W.findIn K (.ref C_Whole) "__init__" = some (some (.ref fT_Whole)))
    (tb_Whole : PySem.W.isFn K (.ref fT_Whole) = true)
    (tm_Whole : PySem.W.makesIn K C_Whole = true)
    (tk_Whole : PySem.W.keepIn K (.ref C_Whole) = true)
    (tl_Whole : K.lookup fT_Whole = some ⟨ocT_Whole, odT_Whole, .func (PySem.W.ksFn "__init__" "Whole.__init__" (defArgs s_Whole_init) (defBody s_Whole_init) (defScope s_Whole_init) (.ref TT_Whole) kVT_Whole docT_Whole pmT_Whole anT_Whole (.ref cdT_Whole) ctT_Whole ccT_Whole), oslT_Whole⟩)
    (tc_Whole : PySem.W.codeIn K (.ref cdT_Whole) "Whole.__init__" = true)
    (tx_Whole : K.lookup ccT_Whole = some ⟨clT_Whole, cldT_Whole, .cell (some (.ref C_Whole)), cslT_Whole⟩)
    (tu_Whole : K.lookup cdT_Whole = some ⟨cclT_Whole, cddT_Whole, .fields vsT_Whole, ccsT_Whole⟩)
    (tv_Whole : vsT_Whole[2]? = some (.str flT_Whole tfT_Whole))
    (tw_Whole : ((l.prog.main.file : Str) == flT_Whole) = true)
    (tt_Whole : K.lookup TT_Whole = some ⟨.type "tuple", oTT_Whole, .seq #[.int 1 uTT_Whole] nTT_Whole, sTT_Whole⟩)
    (cg_Slotwise : PySem.W.nsIn K mainGlobals "Slotwise" = some (some (.ref C_Slotwise)))
    (c1_Slotwise : PySem.W.plainGet K C_Slotwise Str.empty = true)
    (c2_Slotwise : PySem.W.hasDictIn K C_Slotwise = true)
    (c3_Slotwise : PySem.W.plainOver K C_Slotwise = true)
    (c4_Slotwise : PySem.W.findIn K (.ref C_Slotwise) "__setattr__" = some (some (.builtin "object.__setattr__")))
    (c5_Slotwise : PySem.W.readsIn K C_Slotwise (.type "type") = true)
    (c6_Slotwise : PySem.W.specialIn K (.ref C_Slotwise) "__getattribute__" = some (some (.builtin "type.__getattribute__")))
    (ia_Slotwise : PySem.W.findIn K (.ref C_Slotwise) "__class__" = some (some (.builtin "object.__class__")))
    (ib_Slotwise : PySem.W.specialIn K (.builtin "object.__class__") "__get__" = some (some (.builtin "getset_descriptor.__get__")))
    (ic_Slotwise : PySem.W.takesIn K (.builtin "object.__class__") = some true)
    (id_Slotwise : PySem.W.mroIn K C_Slotwise (.type "object") = some true)
    (ma_Slotwise__share : PySem.W.findIn K (.ref C_Slotwise) "_share" = some (some (.ref f_Slotwise__share)))
    (mb_Slotwise__share : PySem.W.isFn K (.ref f_Slotwise__share) = true)
    (l_Slotwise__share : K.lookup f_Slotwise__share = some ⟨oc_Slotwise__share, od_Slotwise__share, .func (PySem.W.fnOf "_share" "Slotwise._share" (defArgs s_Slotwise__share) (defBody s_Slotwise__share) (defScope s_Slotwise__share) .none kV_Slotwise__share dc_Slotwise__share pm_Slotwise__share an_Slotwise__share cd_Slotwise__share ct_Slotwise__share), sl_Slotwise__share⟩)
    (c_Slotwise__share : PySem.W.codeIn K cd_Slotwise__share "Slotwise._share" = true)
    (k_Slotwise__share : PySem.W.keepIn K (.ref f_Slotwise__share) = true)
    (ta_Slotwise : PySem.W.findIn K (.ref C_Slotwise) "__init__" = some (some (.ref fT_Slotwise)))
    (tb_Slotwise : PySem.W.isFn K (.ref fT_Slotwise) = true)
    (tl_Slotwise : K.lookup fT_Slotwise = some ⟨ocT_Slotwise, odT_Slotwise, .func (PySem.W.ksFn "__init__" "Slotwise.__init__" (defArgs s_Slotwise_init) (defBody s_Slotwise_init) (defScope s_Slotwise_init) .none kVT_Slotwise docT_Slotwise pmT_Slotwise anT_Slotwise (.ref cdT_Slotwise) ctT_Slotwise ccT_Slotwise), oslT_Slotwise⟩)
    (tc_Slotwise : PySem.W.codeIn K (.ref cdT_Slotwise) "Slotwise.__init__" = true)
    (tx_Slotwise : K.lookup ccT_Slotwise = some ⟨clT_Slotwise, cldT_Slotwise, .cell (some (.ref C_Slotwise)), cslT_Slotwise⟩)
    (tu_Slotwise : K.lookup cdT_Slotwise = some ⟨cclT_Slotwise, cddT_Slotwise, .fields vsT_Slotwise, ccsT_Slotwise⟩)
    (tv_Slotwise : vsT_Slotwise[2]? = some (.str flT_Slotwise tfT_Slotwise))
    (tw_Slotwise : ((l.prog.main.file : Str) == flT_Slotwise) = true)
    (cg_Extended : PySem.W.nsIn K mainGlobals "Extended" = some (some (.ref C_Extended)))
    (c1_Extended : PySem.W.plainGet K C_Extended Str.empty = true)
    (c2_Extended : PySem.W.hasDictIn K C_Extended = true)
    (c3_Extended : PySem.W.plainOver K C_Extended = true)
    (c4_Extended : PySem.W.findIn K (.ref C_Extended) "__setattr__" = some (some (.builtin "object.__setattr__")))
    (c5_Extended : PySem.W.readsIn K C_Extended (.type "type") = true)
    (c6_Extended : PySem.W.specialIn K (.ref C_Extended) "__getattribute__" = some (some (.builtin "type.__getattribute__")))
    (ia_Extended : PySem.W.findIn K (.ref C_Extended) "__class__" = some (some (.builtin "object.__class__")))
    (ib_Extended : PySem.W.specialIn K (.builtin "object.__class__") "__get__" = some (some (.builtin "getset_descriptor.__get__")))
    (ic_Extended : PySem.W.takesIn K (.builtin "object.__class__") = some true)
    (id_Extended : PySem.W.mroIn K C_Extended (.type "object") = some true)
    (ta_Extended : PySem.W.findIn K (.ref C_Extended) "__init__" = some (some (.ref fT_Extended)))
    (tb_Extended : PySem.W.isFn K (.ref fT_Extended) = true)
    (tl_Extended : K.lookup fT_Extended = some ⟨ocT_Extended, odT_Extended, .func (PySem.W.ksFn "__init__" "Extended.__init__" (defArgs s_Extended_init) (defBody s_Extended_init) (defScope s_Extended_init) .none kVT_Extended docT_Extended pmT_Extended anT_Extended (.ref cdT_Extended) ctT_Extended ccT_Extended), oslT_Extended⟩)
    (tc_Extended : PySem.W.codeIn K (.ref cdT_Extended) "Extended.__init__" = true)
    (tx_Extended : K.lookup ccT_Extended = some ⟨clT_Extended, cldT_Extended, .cell (some (.ref C_Extended)), cslT_Extended⟩)
    (tu_Extended : K.lookup cdT_Extended = some ⟨cclT_Extended, cddT_Extended, .fields vsT_Extended, ccsT_Extended⟩)
    (tv_Extended : vsT_Extended[2]? = some (.str flT_Extended tfT_Extended))
    (tw_Extended : ((l.prog.main.file : Str) == flT_Extended) = true)
    (cg_Duals : PySem.W.nsIn K mainGlobals "Duals" = some (some (.ref C_Duals)))
    (c1_Duals : PySem.W.plainGet K C_Duals Str.empty = true)
    (c2_Duals : PySem.W.hasDictIn K C_Duals = true)
    (c3_Duals : PySem.W.plainOver K C_Duals = true)
    (c4_Duals : PySem.W.findIn K (.ref C_Duals) "__setattr__" = some (some (.builtin "object.__setattr__")))
    (c5_Duals : PySem.W.readsIn K C_Duals (.type "type") = true)
    (c6_Duals : PySem.W.specialIn K (.ref C_Duals) "__getattribute__" = some (some (.builtin "type.__getattribute__")))
    (ia_Duals : PySem.W.findIn K (.ref C_Duals) "__class__" = some (some (.builtin "object.__class__")))
    (ib_Duals : PySem.W.specialIn K (.builtin "object.__class__") "__get__" = some (some (.builtin "getset_descriptor.__get__")))
    (ic_Duals : PySem.W.takesIn K (.builtin "object.__class__") = some true)
    (id_Duals : PySem.W.mroIn K C_Duals (.type "object") = some true)
    (no_Duals__parts : PySem.W.findIn K (.ref C_Duals) "_parts" = some none)
    (no_Duals__ones : PySem.W.findIn K (.ref C_Duals) "_ones" = some none)
    (no_Duals__swaps : PySem.W.findIn K (.ref C_Duals) "_swaps" = some none)
    (no_Duals__squares : PySem.W.findIn K (.ref C_Duals) "_squares" = some none)
    (no_Duals__bases : PySem.W.findIn K (.ref C_Duals) "_bases" = some none)
    (no_Duals__depth : PySem.W.findIn K (.ref C_Duals) "_depth" = some none)
    (no_Duals__zero : PySem.W.findIn K (.ref C_Duals) "_zero" = some none)
    (no_Duals__one : PySem.W.findIn K (.ref C_Duals) "_one" = some none)
    (no_Duals__slots : PySem.W.findIn K (.ref C_Duals) "_slots" = some none)
    (no_Duals__marks : PySem.W.findIn K (.ref C_Duals) "_marks" = some none)
    (no_Duals__square : PySem.W.findIn K (.ref C_Duals) "_square" = some none)
    (no_Duals__base : PySem.W.findIn K (.ref C_Duals) "_base" = some none)
    (ff0_Duals : PySem.W.findIn K (.ref C_Duals) "ones" = some (some (.ref p_Ring_ones)))
    (ff1_Duals : PySem.W.findIn K (.ref C_Duals) "swaps" = some (some (.ref p_Ring_swaps)))
    (ff2_Duals : PySem.W.findIn K (.ref C_Duals) "squares" = some (some (.ref p_Ring_squares)))
    (ff3_Duals : PySem.W.findIn K (.ref C_Duals) "has_inverse" = some (some (.ref f_Ring_has_inverse)))
    (ff4_Duals : PySem.W.findIn K (.ref C_Duals) "_share" = some (some (.ref f_Slotwise__share)))
    (ff5_Duals : PySem.W.kitOne K (.ref C_Duals) (.ref C_Ring) = some true)
    (ta_Duals : PySem.W.findIn K (.ref C_Duals) "__init__" = some (some (.ref fT_Duals)))
    (tb_Duals : PySem.W.isFn K (.ref fT_Duals) = true)
    (tm_Duals : PySem.W.makesIn K C_Duals = true)
    (tk_Duals : PySem.W.keepIn K (.ref C_Duals) = true)
    (tl_Duals : K.lookup fT_Duals = some ⟨ocT_Duals, odT_Duals, .func (PySem.W.ksFn "__init__" "Duals.__init__" (defArgs s_Duals_init) (defBody s_Duals_init) (defScope s_Duals_init) .none kVT_Duals docT_Duals pmT_Duals anT_Duals (.ref cdT_Duals) ctT_Duals ccT_Duals), oslT_Duals⟩)
    (tc_Duals : PySem.W.codeIn K (.ref cdT_Duals) "Duals.__init__" = true)
    (tx_Duals : K.lookup ccT_Duals = some ⟨clT_Duals, cldT_Duals, .cell (some (.ref C_Duals)), cslT_Duals⟩)
    (tu_Duals : K.lookup cdT_Duals = some ⟨cclT_Duals, cddT_Duals, .fields vsT_Duals, ccsT_Duals⟩)
    (tv_Duals : vsT_Duals[2]? = some (.str flT_Duals tfT_Duals))
    (tw_Duals : ((l.prog.main.file : Str) == flT_Duals) = true)
    (cg_Twists : PySem.W.nsIn K mainGlobals "Twists" = some (some (.ref C_Twists)))
    (c1_Twists : PySem.W.plainGet K C_Twists Str.empty = true)
    (c2_Twists : PySem.W.hasDictIn K C_Twists = true)
    (c3_Twists : PySem.W.plainOver K C_Twists = true)
    (c4_Twists : PySem.W.findIn K (.ref C_Twists) "__setattr__" = some (some (.builtin "object.__setattr__")))
    (c5_Twists : PySem.W.readsIn K C_Twists (.type "type") = true)
    (c6_Twists : PySem.W.specialIn K (.ref C_Twists) "__getattribute__" = some (some (.builtin "type.__getattribute__")))
    (ia_Twists : PySem.W.findIn K (.ref C_Twists) "__class__" = some (some (.builtin "object.__class__")))
    (ib_Twists : PySem.W.specialIn K (.builtin "object.__class__") "__get__" = some (some (.builtin "getset_descriptor.__get__")))
    (ic_Twists : PySem.W.takesIn K (.builtin "object.__class__") = some true)
    (id_Twists : PySem.W.mroIn K C_Twists (.type "object") = some true)
    (no_Twists__parts : PySem.W.findIn K (.ref C_Twists) "_parts" = some none)
    (no_Twists__ones : PySem.W.findIn K (.ref C_Twists) "_ones" = some none)
    (no_Twists__swaps : PySem.W.findIn K (.ref C_Twists) "_swaps" = some none)
    (no_Twists__squares : PySem.W.findIn K (.ref C_Twists) "_squares" = some none)
    (no_Twists__bases : PySem.W.findIn K (.ref C_Twists) "_bases" = some none)
    (no_Twists__depth : PySem.W.findIn K (.ref C_Twists) "_depth" = some none)
    (no_Twists__zero : PySem.W.findIn K (.ref C_Twists) "_zero" = some none)
    (no_Twists__one : PySem.W.findIn K (.ref C_Twists) "_one" = some none)
    (no_Twists__part : PySem.W.findIn K (.ref C_Twists) "_part" = some none)
    (no_Twists__base : PySem.W.findIn K (.ref C_Twists) "_base" = some none)
    (ff0_Twists : PySem.W.findIn K (.ref C_Twists) "ones" = some (some (.ref p_Ring_ones)))
    (ff1_Twists : PySem.W.findIn K (.ref C_Twists) "swaps" = some (some (.ref p_Ring_swaps)))
    (ff2_Twists : PySem.W.findIn K (.ref C_Twists) "squares" = some (some (.ref p_Ring_squares)))
    (ff3_Twists : PySem.W.findIn K (.ref C_Twists) "has_inverse" = some (some (.ref f_Ring_has_inverse)))
    (ff4_Twists : PySem.W.kitOne K (.ref C_Twists) (.ref C_Ring) = some true)
    (ma_Twists__share : PySem.W.findIn K (.ref C_Twists) "_share" = some (some (.ref f_Twists__share)))
    (mb_Twists__share : PySem.W.isFn K (.ref f_Twists__share) = true)
    (l_Twists__share : K.lookup f_Twists__share = some ⟨oc_Twists__share, od_Twists__share, .func (PySem.W.fnOf "_share" "Twists._share" (defArgs s_Twists__share) (defBody s_Twists__share) (defScope s_Twists__share) .none kV_Twists__share dc_Twists__share pm_Twists__share an_Twists__share cd_Twists__share ct_Twists__share), sl_Twists__share⟩)
    (c_Twists__share : PySem.W.codeIn K cd_Twists__share "Twists._share" = true)
    (k_Twists__share : PySem.W.keepIn K (.ref f_Twists__share) = true)
    (ta_Twists : PySem.W.findIn K (.ref C_Twists) "__init__" = some (some (.ref fT_Twists)))
    (tb_Twists : PySem.W.isFn K (.ref fT_Twists) = true)
    (tm_Twists : PySem.W.makesIn K C_Twists = true)
    (tk_Twists : PySem.W.keepIn K (.ref C_Twists) = true)
    (tl_Twists : K.lookup fT_Twists = some ⟨ocT_Twists, odT_Twists, .func (PySem.W.ksFn "__init__" "Twists.__init__" (defArgs s_Twists_init) (defBody s_Twists_init) (defScope s_Twists_init) .none kVT_Twists docT_Twists pmT_Twists anT_Twists (.ref cdT_Twists) ctT_Twists ccT_Twists), oslT_Twists⟩)
    (tc_Twists : PySem.W.codeIn K (.ref cdT_Twists) "Twists.__init__" = true)
    (tx_Twists : K.lookup ccT_Twists = some ⟨clT_Twists, cldT_Twists, .cell (some (.ref C_Twists)), cslT_Twists⟩)
    (tu_Twists : K.lookup cdT_Twists = some ⟨cclT_Twists, cddT_Twists, .fields vsT_Twists, ccsT_Twists⟩)
    (tv_Twists : vsT_Twists[2]? = some (.str flT_Twists tfT_Twists))
    (tw_Twists : ((l.prog.main.file : Str) == flT_Twists) = true)
    (s1_0 : (PySem.W.clsIn K C_Rests).isSome = true)
    (s2_0 : PySem.W.mroIn K C_Rests (.ref C_Rests) = some true)
    (s3_0 : PySem.W.ks_superIn K C_Rests C_Rests "__init__" = some (some (.ref f_Ring_init)))
    (s4_0 : PySem.W.typeIn K (.ref f_Ring_init) = some (.type "function"))
    (s5_0 : PySem.W.fnIn K f_Ring_init = true)
    (s1_1 : (PySem.W.clsIn K C_Whole).isSome = true)
    (s2_1 : PySem.W.mroIn K C_Whole (.ref C_Whole) = some true)
    (s3_1 : PySem.W.ks_superIn K C_Whole C_Whole "__init__" = some (some (.ref f_Ring_init)))
    (s4_1 : PySem.W.typeIn K (.ref f_Ring_init) = some (.type "function"))
    (s5_1 : PySem.W.fnIn K f_Ring_init = true)
    (s1_2 : (PySem.W.clsIn K C_Slotwise).isSome = true)
    (s2_2 : PySem.W.mroIn K C_Duals (.ref C_Slotwise) = some true)
    (s3_2 : PySem.W.ks_superIn K C_Duals C_Slotwise "__init__" = some (some (.ref f_Ring_init)))
    (s4_2 : PySem.W.typeIn K (.ref f_Ring_init) = some (.type "function"))
    (s5_2 : PySem.W.fnIn K f_Ring_init = true)
    (s1_3 : (PySem.W.clsIn K C_Extended).isSome = true)
    (s2_3 : PySem.W.mroIn K C_Duals (.ref C_Extended) = some true)
    (s3_3 : PySem.W.ks_superIn K C_Duals C_Extended "__init__" = some (some (.ref fT_Slotwise)))
    (s4_3 : PySem.W.typeIn K (.ref fT_Slotwise) = some (.type "function"))
    (s5_3 : PySem.W.fnIn K fT_Slotwise = true)
    (s1_4 : (PySem.W.clsIn K C_Duals).isSome = true)
    (s2_4 : PySem.W.mroIn K C_Duals (.ref C_Duals) = some true)
    (s3_4 : PySem.W.ks_superIn K C_Duals C_Duals "__init__" = some (some (.ref fT_Extended)))
    (s4_4 : PySem.W.typeIn K (.ref fT_Extended) = some (.type "function"))
    (s5_4 : PySem.W.fnIn K fT_Extended = true)
    (s1_5 : (PySem.W.clsIn K C_Twists).isSome = true)
    (s2_5 : PySem.W.mroIn K C_Twists (.ref C_Twists) = some true)
    (s3_5 : PySem.W.ks_superIn K C_Twists C_Twists "__init__" = some (some (.ref f_Ring_init)))
    (s4_5 : PySem.W.typeIn K (.ref f_Ring_init) = some (.type "function"))
    (s5_5 : PySem.W.fnIn K f_Ring_init = true)
    (m_RingError : PySem.W.nsIn K mainGlobals "RingError" = some (some g_RingError))
    (md : PySem.W.findCls K (.ref C_Ring) (.type "type") "MOST_DEPTH" = some (.val (.int 4 uMD))) :
    ∃ fd : FuncData, (∀ (s : Shared) (v : Value), BindsTo s fd ⟨[v], []⟩ [("_law_script", v)]) ∧ ∀ base : Heap, K.In base → base.Ns mainGlobals mg → FnOk l.prog w K mg base CX0 13 fa fd ["_law_script"] (spLaw K) := by
  have F__wall := fun_mk (st := s__wall) l1 c1 k1
  have b__wall := F__wall.binds (ps := ["k"]) fun _ _ _ _ _ _ us hl => match us, hl with | [_], _ => rfl
  have A__wall : Fn K mg "_wall" s__wall ["k"] := ⟨_, _, F__wall, PySem.W.mg_of X G a1, b__wall⟩
  have F_is_int := fun_mk (st := s_is_int) l2 c2 k2
  have b_is_int := F_is_int.binds (ps := ["value"]) fun _ _ _ _ _ _ us hl => match us, hl with | [_], _ => rfl
  have A_is_int : Fn K mg "is_int" s_is_int ["value"] := ⟨_, _, F_is_int, PySem.W.mg_of X G a2, b_is_int⟩
  have F_is_between := fun_mk (st := s_is_between) l3 c3 k3
  have b_is_between := F_is_between.binds (ps := ["value", "least", "most"]) fun _ _ _ _ _ _ us hl => match us, hl with | [_, _, _], _ => rfl
  have A_is_between : Fn K mg "is_between" s_is_between ["value", "least", "most"] := ⟨_, _, F_is_between, PySem.W.mg_of X G a3, b_is_between⟩
  have F_is_share := fun_mk (st := s_is_share) l4 c4 k4
  have b_is_share := F_is_share.binds (ps := ["value"]) fun _ _ _ _ _ _ us hl => match us, hl with | [_], _ => rfl
  have A_is_share : Fn K mg "is_share" s_is_share ["value"] := ⟨_, _, F_is_share, PySem.W.mg_of X G a4, b_is_share⟩
  have F_common := fun_mk (st := s_common) l5 c5 k5
  have mgf_common : mg "common" = some (.ref f5) := PySem.W.mg_of X G a5
  have F_multiple := fun_mk (st := s_multiple) l6 c6 k6
  have mgf_multiple : mg "multiple" = some (.ref f6) := PySem.W.mg_of X G a6
  have F_divides := fun_mk (st := s_divides) l7 c7 k7
  have b_divides := F_divides.binds (ps := ["one", "other"]) fun _ _ _ _ _ _ us hl => match us, hl with | [_, _], _ => rfl
  have A_divides : Fn K mg "divides" s_divides ["one", "other"] := ⟨_, _, F_divides, PySem.W.mg_of X G a7, b_divides⟩
  have F_stripped := fun_mk (st := s_stripped) l8 c8 k8
  have b_stripped := F_stripped.binds (ps := ["number", "base"]) fun _ _ _ _ _ _ us hl => match us, hl with | [_, _], _ => rfl
  have A_stripped : Fn K mg "stripped" s_stripped ["number", "base"] := ⟨_, _, F_stripped, PySem.W.mg_of X G a8, b_stripped⟩
  have F_radical := fun_mk (st := s_radical) l9 c9 k9
  have b_radical := F_radical.binds (ps := ["number"]) fun _ _ _ _ _ _ us hl => match us, hl with | [_], _ => rfl
  have A_radical : Fn K mg "radical" s_radical ["number"] := ⟨_, _, F_radical, PySem.W.mg_of X G a9, b_radical⟩
  have D_share : FunD K "share" "share" (defArgs s_share) (defBody s_share) (defScope s_share) [.int 1] [] f10 _ := ⟨⟨_, _, _, _, _, _, _, _, _, _, rfl, l10, c10, .inr ⟨by simp, T10, _, _, _, rfl, t10, rfl, (.cons ⟨_, rfl⟩ .nil)⟩, .inl rfl⟩, k10⟩
  have F_sum_of_shares := fun_mk (st := s_sum_of_shares) l11 c11 k11
  have b_sum_of_shares := F_sum_of_shares.binds (ps := ["x", "y"]) fun _ _ _ _ _ _ us hl => match us, hl with | [_, _], _ => rfl
  have A_sum_of_shares : Fn K mg "sum_of_shares" s_sum_of_shares ["x", "y"] := ⟨_, _, F_sum_of_shares, PySem.W.mg_of X G a11, b_sum_of_shares⟩
  have F_product_of_shares := fun_mk (st := s_product_of_shares) l12 c12 k12
  have b_product_of_shares := F_product_of_shares.binds (ps := ["x", "y"]) fun _ _ _ _ _ _ us hl => match us, hl with | [_, _], _ => rfl
  have A_product_of_shares : Fn K mg "product_of_shares" s_product_of_shares ["x", "y"] := ⟨_, _, F_product_of_shares, PySem.W.mg_of X G a12, b_product_of_shares⟩
  have F_inverse_modulo := fun_mk (st := s_inverse_modulo) l13 c13 k13
  have b_inverse_modulo := F_inverse_modulo.binds (ps := ["number", "modulus"]) fun _ _ _ _ _ _ us hl => match us, hl with | [_, _], _ => rfl
  have A_inverse_modulo : Fn K mg "inverse_modulo" s_inverse_modulo ["number", "modulus"] := ⟨_, _, F_inverse_modulo, PySem.W.mg_of X G a13, b_inverse_modulo⟩
  have F_written := fun_mk (st := s_written) l14 c14 k14
  have b_written := F_written.binds (ps := ["number"]) fun _ _ _ _ _ _ us hl => match us, hl with | [_], _ => rfl
  have A_written : Fn K mg "written" s_written ["number"] := ⟨_, _, F_written, PySem.W.mg_of X G a14, b_written⟩
  have F_written_below := fun_mk (st := s_written_below) l15 c15 k15
  have b_written_below := F_written_below.binds (ps := ["number", "powers"]) fun _ _ _ _ _ _ us hl => match us, hl with | [_, _], _ => rfl
  have A_written_below : Fn K mg "written_below" s_written_below ["number", "powers"] := ⟨_, _, F_written_below, PySem.W.mg_of X G a15, b_written_below⟩
  have F_depth_over := fun_mk (st := s_depth_over) l16 c16 k16
  have b_depth_over := F_depth_over.binds (ps := ["bases"]) fun _ _ _ _ _ _ us hl => match us, hl with | [_], _ => rfl
  have A_depth_over : Fn K mg "depth_over" s_depth_over ["bases"] := ⟨_, _, F_depth_over, PySem.W.mg_of X G a16, b_depth_over⟩
  have F_check_bases := fun_mk (st := s_check_bases) l17 c17 k17
  have mgf_check_bases : mg "check_bases" = some (.ref f17) := PySem.W.mg_of X G a17
  have F_check_number := fun_mk (st := s_check_number) l18 c18 k18
  have b_check_number := F_check_number.binds (ps := ["value", "least", "most"]) fun _ _ _ _ _ _ us hl => match us, hl with | [_, _, _], _ => rfl
  have A_check_number : Fn K mg "check_number" s_check_number ["value", "least", "most"] := ⟨_, _, F_check_number, PySem.W.mg_of X G a18, b_check_number⟩
  have F_choices := fun_mk (st := s_choices) l19 c19 k19
  have b_choices := F_choices.binds (ps := ["lists"]) fun _ _ _ _ _ _ us hl => match us, hl with | [_], _ => rfl
  have A_choices : Fn K mg "choices" s_choices ["lists"] := ⟨_, _, F_choices, PySem.W.mg_of X G a19, b_choices⟩
  have F_size_together := fun_mk (st := s_size_together) l20 c20 k20
  have b_size_together := F_size_together.binds (ps := ["sizes"]) fun _ _ _ _ _ _ us hl => match us, hl with | [_], _ => rfl
  have A_size_together : Fn K mg "size_together" s_size_together ["sizes"] := ⟨_, _, F_size_together, PySem.W.mg_of X G a20, b_size_together⟩
  have F_normal_numbers := fun_mk (st := s_normal_numbers) l21 c21 k21
  have b_normal_numbers := F_normal_numbers.binds (ps := ["inverse", "ones", "swaps", "squares"]) fun _ _ _ _ _ _ us hl => match us, hl with | [_, _, _, _], _ => rfl
  have A_normal_numbers : Fn K mg "normal_numbers" s_normal_numbers ["inverse", "ones", "swaps", "squares"] := ⟨_, _, F_normal_numbers, PySem.W.mg_of X G a21, b_normal_numbers⟩
  have F_realm_with := fun_mk (st := s_realm_with) l22 c22 k22
  have b_realm_with := F_realm_with.binds (ps := ["inverse", "ones", "swaps", "squares"]) fun _ _ _ _ _ _ us hl => match us, hl with | [_, _, _, _], _ => rfl
  have A_realm_with : Fn K mg "realm_with" s_realm_with ["inverse", "ones", "swaps", "squares"] := ⟨_, _, F_realm_with, PySem.W.mg_of X G a22, b_realm_with⟩
  have F_listed := fun_mk (st := s_listed) l23 c23 k23
  have b_listed := F_listed.binds (ps := ["numbers"]) fun _ _ _ _ _ _ us hl => match us, hl with | [_], _ => rfl
  have A_listed : Fn K mg "listed" s_listed ["numbers"] := ⟨_, _, F_listed, PySem.W.mg_of X G a23, b_listed⟩
  have F_joined_inverse := fun_mk (st := s_joined_inverse) l24 c24 k24
  have b_joined_inverse := F_joined_inverse.binds (ps := ["one", "other"]) fun _ _ _ _ _ _ us hl => match us, hl with | [_, _], _ => rfl
  have A_joined_inverse : Fn K mg "joined_inverse" s_joined_inverse ["one", "other"] := ⟨_, _, F_joined_inverse, PySem.W.mg_of X G a24, b_joined_inverse⟩
  have F_l_bag := fun_mk (st := s_l_bag) l25 c25 k25
  have b_l_bag := F_l_bag.binds (ps := ["_law_script"]) fun _ _ _ _ _ _ us hl => match us, hl with | [_], _ => rfl
  have A_l_bag : Fn K mg "_law_bag" s_l_bag ["_law_script"] := ⟨_, _, F_l_bag, PySem.W.mg_of X G a25, b_l_bag⟩
  have F_l_draw := fun_mk (st := s_l_draw) l26 c26 k26
  have b_l_draw := F_l_draw.binds (ps := ["_law_bag_here", "_law_many"]) fun _ _ _ _ _ _ us hl => match us, hl with | [_, _], _ => rfl
  have A_l_draw : Fn K mg "_law_draw" s_l_draw ["_law_bag_here", "_law_many"] := ⟨_, _, F_l_draw, PySem.W.mg_of X G a26, b_l_draw⟩
  have F_l_pick := fun_mk (st := s_l_pick) l27 c27 k27
  have b_l_pick := F_l_pick.binds (ps := ["_law_bag_here", "_law_some"]) fun _ _ _ _ _ _ us hl => match us, hl with | [_, _], _ => rfl
  have A_l_pick : Fn K mg "_law_pick" s_l_pick ["_law_bag_here", "_law_some"] := ⟨_, _, F_l_pick, PySem.W.mg_of X G a27, b_l_pick⟩
  have F_l_realm := fun_mk (st := s_l_realm) l28 c28 k28
  have b_l_realm := F_l_realm.binds (ps := ["_law_numbers"]) fun _ _ _ _ _ _ us hl => match us, hl with | [_], _ => rfl
  have A_l_realm : Fn K mg "_law_realm" s_l_realm ["_law_numbers"] := ⟨_, _, F_l_realm, PySem.W.mg_of X G a28, b_l_realm⟩
  have F_law := fun_mk (st := s_law) l29 c29 k29
  have b_law := F_law.binds (ps := ["_law_script"]) fun _ _ _ _ _ _ us hl => match us, hl with | [_], _ => rfl
  have A_law : Fn K mg "law" s_law ["_law_script"] := ⟨_, _, F_law, PySem.W.mg_of X G a29, b_law⟩
  have B : Blt mg := ⟨PySem.W.mg_none_of X G z_ValueError, PySem.W.mg_none_of X G z_abs, PySem.W.mg_none_of X G z_all, PySem.W.mg_none_of X G z_bool, PySem.W.mg_none_of X G z_divmod, PySem.W.mg_none_of X G z_enumerate, PySem.W.mg_none_of X G z_int, PySem.W.mg_none_of X G z_isinstance, PySem.W.mg_none_of X G z_len, PySem.W.mg_none_of X G z_list, PySem.W.mg_none_of X G z_max, PySem.W.mg_none_of X G z_range, PySem.W.mg_none_of X G z_str, PySem.W.mg_none_of X G z_tuple, PySem.W.mg_none_of X G z_zip⟩
  have E_InvalidNumber : PySem.ErrX.ErrTxt l.prog K mg "InvalidNumber" "given" "InvalidNumber" C_InvalidNumber f_InvalidNumber x_InvalidNumber d_InvalidNumber := ⟨PySem.W.mg_of X G ea_InvalidNumber, PySem.W.mg_none_of X G z_super, ⟨_, _, _, _, _, _, _, _, _, _, _, _, _, _, _, eb_InvalidNumber, ec_InvalidNumber, ed_InvalidNumber⟩, ee_InvalidNumber, ef_InvalidNumber, eg_InvalidNumber, eh_InvalidNumber, ei_InvalidNumber, ej_InvalidNumber, ek_InvalidNumber, el_InvalidNumber, em_InvalidNumber, en_InvalidNumber, eo_InvalidNumber, ep_InvalidNumber, eq_InvalidNumber, opq, ⟨_, _, _, et_InvalidNumber⟩, ⟨_, _, _, _, _, _, eu_InvalidNumber, ev_InvalidNumber, ew_InvalidNumber⟩, topSuper, ⟨_, _, _, _, _, _, _, _, _, _, _, _, _, _, _, _, _, _, _, _, _, _, _, _, _, _, _, er_InvalidNumber, es_InvalidNumber, fun s a b => .of_eq rfl, ex_InvalidNumber⟩, by decide, by decide, by decide, by decide, by decide⟩
  have xf_InvalidNumber : XfC K C_InvalidNumber := ⟨ef_InvalidNumber, eg_InvalidNumber, em_InvalidNumber, eq_InvalidNumber⟩
  have E_InvalidRing : PySem.ErrX.ErrTxt l.prog K mg "InvalidRing" "given" "InvalidRing" C_InvalidRing f_InvalidRing x_InvalidRing d_InvalidRing := ⟨PySem.W.mg_of X G ea_InvalidRing, PySem.W.mg_none_of X G z_super, ⟨_, _, _, _, _, _, _, _, _, _, _, _, _, _, _, eb_InvalidRing, ec_InvalidRing, ed_InvalidRing⟩, ee_InvalidRing, ef_InvalidRing, eg_InvalidRing, eh_InvalidRing, ei_InvalidRing, ej_InvalidRing, ek_InvalidRing, el_InvalidRing, em_InvalidRing, en_InvalidRing, eo_InvalidRing, ep_InvalidRing, eq_InvalidRing, opq, ⟨_, _, _, et_InvalidRing⟩, ⟨_, _, _, _, _, _, eu_InvalidRing, ev_InvalidRing, ew_InvalidRing⟩, topSuper, ⟨_, _, _, _, _, _, _, _, _, _, _, _, _, _, _, _, _, _, _, _, _, _, _, _, _, _, _, er_InvalidRing, es_InvalidRing, fun s a b => .of_eq rfl, ex_InvalidRing⟩, by decide, by decide, by decide, by decide, by decide⟩
  have xf_InvalidRing : XfC K C_InvalidRing := ⟨ef_InvalidRing, eg_InvalidRing, em_InvalidRing, eq_InvalidRing⟩
  have E_TooMany : PySem.ErrX.ErrTxt l.prog K mg "TooMany" "most" "TooMany" C_TooMany f_TooMany x_TooMany d_TooMany := ⟨PySem.W.mg_of X G ea_TooMany, PySem.W.mg_none_of X G z_super, ⟨_, _, _, _, _, _, _, _, _, _, _, _, _, _, _, eb_TooMany, ec_TooMany, ed_TooMany⟩, ee_TooMany, ef_TooMany, eg_TooMany, eh_TooMany, ei_TooMany, ej_TooMany, ek_TooMany, el_TooMany, em_TooMany, en_TooMany, eo_TooMany, ep_TooMany, eq_TooMany, opq, ⟨_, _, _, et_TooMany⟩, ⟨_, _, _, _, _, _, eu_TooMany, ev_TooMany, ew_TooMany⟩, topSuper, ⟨_, _, _, _, _, _, _, _, _, _, _, _, _, _, _, _, _, _, _, _, _, _, _, _, _, _, _, er_TooMany, es_TooMany, fun s a b => .of_eq rfl, ex_TooMany⟩, by decide, by decide, by decide, by decide, by decide⟩
  have xf_TooMany : XfC K C_TooMany := ⟨ef_TooMany, eg_TooMany, em_TooMany, eq_TooMany⟩
  have gC_Realm : mg "Realm" = some (.ref C_Realm) := PySem.W.mg_of X G cg_Realm
  have cl_Realm : Cls K C_Realm := ⟨c1_Realm, c2_Realm, c3_Realm, c4_Realm⟩
  have rd_Realm : ClX.CRead K C_Realm (.type "type") := ⟨c5_Realm, c6_Realm⟩
  have D_Realm_init : FunD K "__init__" "Realm.__init__" (defArgs s_Realm_init) (defBody s_Realm_init) (defScope s_Realm_init) [] [("inverse", .int 1), ("ones", .int 0), ("swaps", .int 0), ("squares", .int 0)] f_Realm_init _ := ⟨⟨_, _, _, _, _, _, _, _, _, _, rfl, l_Realm_init, c_Realm_init, .inl ⟨rfl, rfl⟩, .inr ⟨_, rfl, fun q hq => match q, hq with | _, .head _ => ⟨_, kw_Realm_init_inverse, ⟨_, rfl⟩⟩ | _, .tail _ (.head _) => ⟨_, kw_Realm_init_ones, ⟨_, rfl⟩⟩ | _, .tail _ (.tail _ (.head _)) => ⟨_, kw_Realm_init_swaps, ⟨_, rfl⟩⟩ | _, .tail _ (.tail _ (.tail _ (.head _))) => ⟨_, kw_Realm_init_squares, ⟨_, rfl⟩⟩⟩⟩, k_Realm_init⟩
  have mk1_Realm : Mk K C_Realm f_Realm_init := ⟨mk_Realm, ma_Realm_init, mb_Realm_init, kc_Realm⟩
  have F_Realm_inverse := fun_mk (st := s_Realm_inverse) l_Realm_inverse c_Realm_inverse k_Realm_inverse
  have b_Realm_inverse := F_Realm_inverse.binds (ps := ["self"]) fun _ _ _ _ _ _ us hl => match us, hl with | [_], _ => rfl
  have po_Realm_inverse : PropOf K C_Realm "inverse" p_Realm_inverse f_Realm_inverse := ⟨pa_Realm_inverse, pb_Realm_inverse, pc_Realm_inverse, ⟨_, pd_Realm_inverse⟩⟩
  have F_Realm_ones := fun_mk (st := s_Realm_ones) l_Realm_ones c_Realm_ones k_Realm_ones
  have b_Realm_ones := F_Realm_ones.binds (ps := ["self"]) fun _ _ _ _ _ _ us hl => match us, hl with | [_], _ => rfl
  have po_Realm_ones : PropOf K C_Realm "ones" p_Realm_ones f_Realm_ones := ⟨pa_Realm_ones, pb_Realm_ones, pc_Realm_ones, ⟨_, pd_Realm_ones⟩⟩
  have F_Realm_swaps := fun_mk (st := s_Realm_swaps) l_Realm_swaps c_Realm_swaps k_Realm_swaps
  have b_Realm_swaps := F_Realm_swaps.binds (ps := ["self"]) fun _ _ _ _ _ _ us hl => match us, hl with | [_], _ => rfl
  have po_Realm_swaps : PropOf K C_Realm "swaps" p_Realm_swaps f_Realm_swaps := ⟨pa_Realm_swaps, pb_Realm_swaps, pc_Realm_swaps, ⟨_, pd_Realm_swaps⟩⟩
  have F_Realm_squares := fun_mk (st := s_Realm_squares) l_Realm_squares c_Realm_squares k_Realm_squares
  have b_Realm_squares := F_Realm_squares.binds (ps := ["self"]) fun _ _ _ _ _ _ us hl => match us, hl with | [_], _ => rfl
  have po_Realm_squares : PropOf K C_Realm "squares" p_Realm_squares f_Realm_squares := ⟨pa_Realm_squares, pb_Realm_squares, pc_Realm_squares, ⟨_, pd_Realm_squares⟩⟩
  have F_Realm_eq := fun_mk (st := s_Realm_eq) l_Realm_eq c_Realm_eq k_Realm_eq
  have b_Realm_eq := F_Realm_eq.binds (ps := ["self", "other"]) fun _ _ _ _ _ _ us hl => match us, hl with | [_, _], _ => rfl
  have sp_Realm_eq : OwO.Spc K C_Realm "__eq__" f_Realm_eq := ⟨ma_Realm_eq, mb_Realm_eq⟩
  have F_Realm_contains := fun_mk (st := s_Realm_contains) l_Realm_contains c_Realm_contains k_Realm_contains
  have b_Realm_contains := F_Realm_contains.binds (ps := ["self", "x"]) fun _ _ _ _ _ _ us hl => match us, hl with | [_, _], _ => rfl
  have sp_Realm_contains : OwO.Spc K C_Realm "__contains__" f_Realm_contains := ⟨ma_Realm_contains, mb_Realm_contains⟩
  have gC_Ring : mg "Ring" = some (.ref C_Ring) := PySem.W.mg_of X G cg_Ring
  have cl_Ring : Cls K C_Ring := ⟨c1_Ring, c2_Ring, c3_Ring, c4_Ring⟩
  have rd_Ring : ClX.CRead K C_Ring (.type "type") := ⟨c5_Ring, c6_Ring⟩
  have F_Ring_ones := fun_mk (st := s_Ring_ones) l_Ring_ones c_Ring_ones k_Ring_ones
  have b_Ring_ones := F_Ring_ones.binds (ps := ["self"]) fun _ _ _ _ _ _ us hl => match us, hl with | [_], _ => rfl
  have po_Ring_ones : PropOf K C_Ring "ones" p_Ring_ones f_Ring_ones := ⟨pa_Ring_ones, pb_Ring_ones, pc_Ring_ones, ⟨_, pd_Ring_ones⟩⟩
  have F_Ring_swaps := fun_mk (st := s_Ring_swaps) l_Ring_swaps c_Ring_swaps k_Ring_swaps
  have b_Ring_swaps := F_Ring_swaps.binds (ps := ["self"]) fun _ _ _ _ _ _ us hl => match us, hl with | [_], _ => rfl
  have po_Ring_swaps : PropOf K C_Ring "swaps" p_Ring_swaps f_Ring_swaps := ⟨pa_Ring_swaps, pb_Ring_swaps, pc_Ring_swaps, ⟨_, pd_Ring_swaps⟩⟩
  have F_Ring_squares := fun_mk (st := s_Ring_squares) l_Ring_squares c_Ring_squares k_Ring_squares
  have b_Ring_squares := F_Ring_squares.binds (ps := ["self"]) fun _ _ _ _ _ _ us hl => match us, hl with | [_], _ => rfl
  have po_Ring_squares : PropOf K C_Ring "squares" p_Ring_squares f_Ring_squares := ⟨pa_Ring_squares, pb_Ring_squares, pc_Ring_squares, ⟨_, pd_Ring_squares⟩⟩
  have F_Ring_depth := fun_mk (st := s_Ring_depth) l_Ring_depth c_Ring_depth k_Ring_depth
  have b_Ring_depth := F_Ring_depth.binds (ps := ["self"]) fun _ _ _ _ _ _ us hl => match us, hl with | [_], _ => rfl
  have po_Ring_depth : PropOf K C_Ring "depth" p_Ring_depth f_Ring_depth := ⟨pa_Ring_depth, pb_Ring_depth, pc_Ring_depth, ⟨_, pd_Ring_depth⟩⟩
  have F_Ring_init := fun_mk (st := s_Ring_init) l_Ring_init c_Ring_init k_Ring_init
  have b_Ring_init := F_Ring_init.binds (ps := ["self", "parts", "numbers", "bases"]) fun _ _ _ _ _ _ us hl => match us, hl with | [_, _, _, _], _ => rfl
  have me_Ring_init : Meth K C_Ring "__init__" f_Ring_init := ⟨ma_Ring_init, mb_Ring_init, k_Ring_init⟩
  have F_Ring_zero := fun_mk (st := s_Ring_zero) l_Ring_zero c_Ring_zero k_Ring_zero
  have b_Ring_zero := F_Ring_zero.binds (ps := ["self"]) fun _ _ _ _ _ _ us hl => match us, hl with | [_], _ => rfl
  have me_Ring_zero : Meth K C_Ring "zero" f_Ring_zero := ⟨ma_Ring_zero, mb_Ring_zero, k_Ring_zero⟩
  have F_Ring_has_inverse := fun_mk (st := s_Ring_has_inverse) l_Ring_has_inverse c_Ring_has_inverse k_Ring_has_inverse
  have b_Ring_has_inverse := F_Ring_has_inverse.binds (ps := ["self", "q"]) fun _ _ _ _ _ _ us hl => match us, hl with | [_, _], _ => rfl
  have me_Ring_has_inverse : Meth K C_Ring "has_inverse" f_Ring_has_inverse := ⟨ma_Ring_has_inverse, mb_Ring_has_inverse, k_Ring_has_inverse⟩
  have gC_Shares : mg "Shares" = some (.ref C_Shares) := PySem.W.mg_of X G cg_Shares
  have cl_Shares : Cls K C_Shares := ⟨c1_Shares, c2_Shares, c3_Shares, c4_Shares⟩
  have rd_Shares : ClX.CRead K C_Shares (.type "type") := ⟨c5_Shares, c6_Shares⟩
  have F_Shares__share := fun_mk (st := s_Shares__share) l_Shares__share c_Shares__share k_Shares__share
  have b_Shares__share := F_Shares__share.binds (ps := ["self", "p", "q"]) fun _ _ _ _ _ _ us hl => match us, hl with | [_, _, _], _ => rfl
  have me_Shares__share : Meth K C_Shares "_share" f_Shares__share := ⟨ma_Shares__share, mb_Shares__share, k_Shares__share⟩
  have gC_Rests : mg "Rests" = some (.ref C_Rests) := PySem.W.mg_of X G cg_Rests
  have cl_Rests : Cls K C_Rests := ⟨c1_Rests, c2_Rests, c3_Rests, c4_Rests⟩
  have rd_Rests : ClX.CRead K C_Rests (.type "type") := ⟨c5_Rests, c6_Rests⟩
  have F_Rests__share := fun_mk (st := s_Rests__share) l_Rests__share c_Rests__share k_Rests__share
  have b_Rests__share := F_Rests__share.binds (ps := ["self", "p", "q"]) fun _ _ _ _ _ _ us hl => match us, hl with | [_, _, _], _ => rfl
  have me_Rests__share : Meth K C_Rests "_share" f_Rests__share := ⟨ma_Rests__share, mb_Rests__share, k_Rests__share⟩
  have F_Rests__has_rests := fun_mk (st := s_Rests__has_rests) l_Rests__has_rests c_Rests__has_rests k_Rests__has_rests
  have b_Rests__has_rests := F_Rests__has_rests.binds (ps := ["self", "modulus"]) fun _ _ _ _ _ _ us hl => match us, hl with | [_, _], _ => rfl
  have me_Rests__has_rests : Meth K C_Rests "_has_rests" f_Rests__has_rests := ⟨ma_Rests__has_rests, mb_Rests__has_rests, k_Rests__has_rests⟩
  have mkT_Rests : Mk K C_Rests fT_Rests := ⟨tm_Rests, ta_Rests, tb_Rests, tk_Rests⟩
  have SF_Rests : PySem.SupX.SupFn l.prog K fT_Rests _ "__init__" "Rests.__init__" s_Rests_init ccT_Rests cdT_Rests C_Rests := ⟨⟨_, _, _, _, _, _, _, _, _, _, _, _, _, _, _, _, _, _, rfl, tl_Rests, tc_Rests, tx_Rests, tu_Rests, tv_Rests, tw_Rests⟩, topSuper⟩
  have gC_Whole : mg "Whole" = some (.ref C_Whole) := PySem.W.mg_of X G cg_Whole
  have cl_Whole : Cls K C_Whole := ⟨c1_Whole, c2_Whole, c3_Whole, c4_Whole⟩
  have rd_Whole : ClX.CRead K C_Whole (.type "type") := ⟨c5_Whole, c6_Whole⟩
  have F_Whole_has_inverse := fun_mk (st := s_Whole_has_inverse) l_Whole_has_inverse c_Whole_has_inverse k_Whole_has_inverse
  have b_Whole_has_inverse := F_Whole_has_inverse.binds (ps := ["self", "q"]) fun _ _ _ _ _ _ us hl => match us, hl with | [_, _], _ => rfl
  have me_Whole_has_inverse : Meth K C_Whole "has_inverse" f_Whole_has_inverse := ⟨ma_Whole_has_inverse, mb_Whole_has_inverse, k_Whole_has_inverse⟩
  have F_Whole__has_rests := fun_mk (st := s_Whole__has_rests) l_Whole__has_rests c_Whole__has_rests k_Whole__has_rests
  have b_Whole__has_rests := F_Whole__has_rests.binds (ps := ["self", "modulus"]) fun _ _ _ _ _ _ us hl => match us, hl with | [_, _], _ => rfl
  have me_Whole__has_rests : Meth K C_Whole "_has_rests" f_Whole__has_rests := ⟨ma_Whole__has_rests, mb_Whole__has_rests, k_Whole__has_rests⟩
  have mkT_Whole : Mk K C_Whole fT_Whole := ⟨tm_Whole, ta_Whole, tb_Whole, tk_Whole⟩
  have SF_Whole : PySem.SupX.SupFn l.prog K fT_Whole _ "__init__" "Whole.__init__" s_Whole_init ccT_Whole cdT_Whole C_Whole := ⟨⟨_, _, _, _, _, _, _, _, _, _, _, _, _, _, _, _, _, _, rfl, tl_Whole, tc_Whole, tx_Whole, tu_Whole, tv_Whole, tw_Whole⟩, topSuper⟩
  have gC_Slotwise : mg "Slotwise" = some (.ref C_Slotwise) := PySem.W.mg_of X G cg_Slotwise
  have cl_Slotwise : Cls K C_Slotwise := ⟨c1_Slotwise, c2_Slotwise, c3_Slotwise, c4_Slotwise⟩
  have rd_Slotwise : ClX.CRead K C_Slotwise (.type "type") := ⟨c5_Slotwise, c6_Slotwise⟩
  have F_Slotwise__share := fun_mk (st := s_Slotwise__share) l_Slotwise__share c_Slotwise__share k_Slotwise__share
  have b_Slotwise__share := F_Slotwise__share.binds (ps := ["self", "p", "q"]) fun _ _ _ _ _ _ us hl => match us, hl with | [_, _, _], _ => rfl
  have me_Slotwise__share : Meth K C_Slotwise "_share" f_Slotwise__share := ⟨ma_Slotwise__share, mb_Slotwise__share, k_Slotwise__share⟩
  have SF_Slotwise : PySem.SupX.SupFn l.prog K fT_Slotwise _ "__init__" "Slotwise.__init__" s_Slotwise_init ccT_Slotwise cdT_Slotwise C_Slotwise := ⟨⟨_, _, _, _, _, _, _, _, _, _, _, _, _, _, _, _, _, _, rfl, tl_Slotwise, tc_Slotwise, tx_Slotwise, tu_Slotwise, tv_Slotwise, tw_Slotwise⟩, topSuper⟩
  have gC_Extended : mg "Extended" = some (.ref C_Extended) := PySem.W.mg_of X G cg_Extended
  have cl_Extended : Cls K C_Extended := ⟨c1_Extended, c2_Extended, c3_Extended, c4_Extended⟩
  have rd_Extended : ClX.CRead K C_Extended (.type "type") := ⟨c5_Extended, c6_Extended⟩
  have SF_Extended : PySem.SupX.SupFn l.prog K fT_Extended _ "__init__" "Extended.__init__" s_Extended_init ccT_Extended cdT_Extended C_Extended := ⟨⟨_, _, _, _, _, _, _, _, _, _, _, _, _, _, _, _, _, _, rfl, tl_Extended, tc_Extended, tx_Extended, tu_Extended, tv_Extended, tw_Extended⟩, topSuper⟩
  have gC_Duals : mg "Duals" = some (.ref C_Duals) := PySem.W.mg_of X G cg_Duals
  have cl_Duals : Cls K C_Duals := ⟨c1_Duals, c2_Duals, c3_Duals, c4_Duals⟩
  have rd_Duals : ClX.CRead K C_Duals (.type "type") := ⟨c5_Duals, c6_Duals⟩
  have mkT_Duals : Mk K C_Duals fT_Duals := ⟨tm_Duals, ta_Duals, tb_Duals, tk_Duals⟩
  have SF_Duals : PySem.SupX.SupFn l.prog K fT_Duals _ "__init__" "Duals.__init__" s_Duals_init ccT_Duals cdT_Duals C_Duals := ⟨⟨_, _, _, _, _, _, _, _, _, _, _, _, _, _, _, _, _, _, rfl, tl_Duals, tc_Duals, tx_Duals, tu_Duals, tv_Duals, tw_Duals⟩, topSuper⟩
  have gC_Twists : mg "Twists" = some (.ref C_Twists) := PySem.W.mg_of X G cg_Twists
  have cl_Twists : Cls K C_Twists := ⟨c1_Twists, c2_Twists, c3_Twists, c4_Twists⟩
  have rd_Twists : ClX.CRead K C_Twists (.type "type") := ⟨c5_Twists, c6_Twists⟩
  have F_Twists__share := fun_mk (st := s_Twists__share) l_Twists__share c_Twists__share k_Twists__share
  have b_Twists__share := F_Twists__share.binds (ps := ["self", "p", "q"]) fun _ _ _ _ _ _ us hl => match us, hl with | [_, _, _], _ => rfl
  have me_Twists__share : Meth K C_Twists "_share" f_Twists__share := ⟨ma_Twists__share, mb_Twists__share, k_Twists__share⟩
  have mkT_Twists : Mk K C_Twists fT_Twists := ⟨tm_Twists, ta_Twists, tb_Twists, tk_Twists⟩
  have SF_Twists : PySem.SupX.SupFn l.prog K fT_Twists _ "__init__" "Twists.__init__" s_Twists_init ccT_Twists cdT_Twists C_Twists := ⟨⟨_, _, _, _, _, _, _, _, _, _, _, _, _, _, _, _, _, _, rfl, tl_Twists, tc_Twists, tx_Twists, tu_Twists, tv_Twists, tw_Twists⟩, topSuper⟩
  have AB_Rests_Rests : PySem.SupX.Above K C_Rests C_Rests f_Ring_init := ⟨s1_0, s2_0, s3_0, s4_0, s5_0, opq⟩
  have AB_Whole_Whole : PySem.SupX.Above K C_Whole C_Whole f_Ring_init := ⟨s1_1, s2_1, s3_1, s4_1, s5_1, opq⟩
  have AB_Duals_Slotwise : PySem.SupX.Above K C_Duals C_Slotwise f_Ring_init := ⟨s1_2, s2_2, s3_2, s4_2, s5_2, opq⟩
  have AB_Duals_Extended : PySem.SupX.Above K C_Duals C_Extended fT_Slotwise := ⟨s1_3, s2_3, s3_3, s4_3, s5_3, opq⟩
  have AB_Duals_Duals : PySem.SupX.Above K C_Duals C_Duals fT_Extended := ⟨s1_4, s2_4, s3_4, s4_4, s5_4, opq⟩
  have AB_Twists_Twists : PySem.SupX.Above K C_Twists C_Twists f_Ring_init := ⟨s1_5, s2_5, s3_5, s4_5, s5_5, opq⟩
  have T : Txt mg := ⟨⟨_, PySem.W.mg_of X G m_MOST_RADICAL⟩, PySem.W.mg_of X G m_gcd⟩
  have TM : TxtM mg := ⟨⟨_, PySem.W.mg_of X G m_MOST_MODULUS⟩⟩
  have TP : TxtP mg := ⟨⟨_, PySem.W.mg_of X G m_MOST_PART⟩⟩
  have hms : mg "super" = none := PySem.W.mg_none_of X G z_super
  have e := hfa.symm.trans (PySem.W.mg_of X G a29)
  cases e
  have R : RCls K C_Realm (.type "type") := ⟨cl_Realm, no_Realm__normal, rd_Realm, ia_Realm, ib_Realm, ic_Realm, id_Realm, ff0_Realm, ff1_Realm, ff2_Realm⟩
  have CR : ClsF K C_Rests := ⟨cl_Rests, no_Rests__parts, no_Rests__ones, no_Rests__swaps, no_Rests__squares, no_Rests__bases, no_Rests__depth, no_Rests__zero, no_Rests__one⟩
  have CW : ClsF K C_Whole := ⟨cl_Whole, no_Whole__parts, no_Whole__ones, no_Whole__swaps, no_Whole__squares, no_Whole__bases, no_Whole__depth, no_Whole__zero, no_Whole__one⟩
  have CD : ClsF K C_Duals := ⟨cl_Duals, no_Duals__parts, no_Duals__ones, no_Duals__swaps, no_Duals__squares, no_Duals__bases, no_Duals__depth, no_Duals__zero, no_Duals__one⟩
  have CT : ClsF K C_Twists := ⟨cl_Twists, no_Twists__parts, no_Twists__ones, no_Twists__swaps, no_Twists__squares, no_Twists__bases, no_Twists__depth, no_Twists__zero, no_Twists__one⟩
  have TR : BTy K C_Rests C_Ring := ⟨cl_Rests, ia_Rests, ib_Rests, ic_Rests, id_Rests, ff6_Rests⟩
  have TW : BTy K C_Whole C_Ring := ⟨cl_Whole, ia_Whole, ib_Whole, ic_Whole, id_Whole, ff6_Whole⟩
  have TD : BTy K C_Duals C_Ring := ⟨cl_Duals, ia_Duals, ib_Duals, ic_Duals, id_Duals, ff5_Duals⟩
  have TT : BTy K C_Twists C_Ring := ⟨cl_Twists, ia_Twists, ib_Twists, ic_Twists, id_Twists, ff4_Twists⟩
  have T2 : BTw K C_Rests C_Whole := ⟨ff7_Rests, ff7_Whole, ff8_Whole⟩
  have CV : ClX.CVal K C_Ring (.type "type") "MOST_DEPTH" (.int 4) (.int 4 uMD) := ⟨md, ⟨_, rfl⟩⟩
  refine ⟨PySem.W.fnOf "law" "law" (defArgs s_law) (defBody s_law) (defScope s_law) .none kV29 dc29 pm29 an29 cd29 ct29, fun s v => .of_eq rfl, fun base _ _ => ?_⟩
  have G1 := ok_draw (P := l.prog) (w := w) (base := base) A_l_draw B
  have G2 := ok_pick A_l_pick B G1
  have G3 := ok_is_int (P := l.prog) (w := w) (base := base) A_is_int B
  have G3b := ok_is_between A_is_between G3
  have G4 := ok_stripped (P := l.prog) (w := w) (base := base) A_stripped T
  have G5 := ok_radical A_radical T E_InvalidNumber G3b G4
  have G8 := ok_common (P := l.prog) (w := w) (base := base) ⟨_, _, F_common, mgf_common⟩ T
  have G9 := ok_normal A_normal_numbers B G8 G4
  have GD := ok_divides (P := l.prog) (w := w) (base := base) A_divides
  have MK := ok_init D_Realm_init mk1_Realm gC_Realm R E_InvalidNumber G5 G3 G9
  have P1 := ok_inverse (P := l.prog) (w := w) (mg := mg) (base := base) R F_Realm_inverse po_Realm_inverse b_Realm_inverse
  have P2 := ok_ones (P := l.prog) (w := w) (mg := mg) (base := base) R F_Realm_ones po_Realm_ones b_Realm_ones
  have P3 := ok_swaps (P := l.prog) (w := w) (mg := mg) (base := base) R F_Realm_swaps po_Realm_swaps b_Realm_swaps
  have P4 := ok_squares (P := l.prog) (w := w) (mg := mg) (base := base) R F_Realm_squares po_Realm_squares b_Realm_squares
  have E1 := ok_eqR (P := l.prog) (w := w) (base := base) R gC_Realm B F_Realm_eq
  -- what is seen of the rings
  have o1 := ok_rones (P := l.prog) (w := w) (mg := mg) (base := base) cl_Rests no_Rests__ones F_Ring_ones ⟨ff0_Rests, pb_Ring_ones, pc_Ring_ones, ⟨_, pd_Ring_ones⟩⟩ b_Ring_ones
  have o2 := ok_rones (P := l.prog) (w := w) (mg := mg) (base := base) cl_Whole no_Whole__ones F_Ring_ones ⟨ff0_Whole, pb_Ring_ones, pc_Ring_ones, ⟨_, pd_Ring_ones⟩⟩ b_Ring_ones
  have o3 := ok_rones (P := l.prog) (w := w) (mg := mg) (base := base) cl_Duals no_Duals__ones F_Ring_ones ⟨ff0_Duals, pb_Ring_ones, pc_Ring_ones, ⟨_, pd_Ring_ones⟩⟩ b_Ring_ones
  have o4 := ok_rones (P := l.prog) (w := w) (mg := mg) (base := base) cl_Twists no_Twists__ones F_Ring_ones ⟨ff0_Twists, pb_Ring_ones, pc_Ring_ones, ⟨_, pd_Ring_ones⟩⟩ b_Ring_ones
  have s1 := ok_rswaps (P := l.prog) (w := w) (mg := mg) (base := base) cl_Rests no_Rests__swaps F_Ring_swaps ⟨ff1_Rests, pb_Ring_swaps, pc_Ring_swaps, ⟨_, pd_Ring_swaps⟩⟩ b_Ring_swaps
  have s2 := ok_rswaps (P := l.prog) (w := w) (mg := mg) (base := base) cl_Whole no_Whole__swaps F_Ring_swaps ⟨ff1_Whole, pb_Ring_swaps, pc_Ring_swaps, ⟨_, pd_Ring_swaps⟩⟩ b_Ring_swaps
  have s3 := ok_rswaps (P := l.prog) (w := w) (mg := mg) (base := base) cl_Duals no_Duals__swaps F_Ring_swaps ⟨ff1_Duals, pb_Ring_swaps, pc_Ring_swaps, ⟨_, pd_Ring_swaps⟩⟩ b_Ring_swaps
  have s4 := ok_rswaps (P := l.prog) (w := w) (mg := mg) (base := base) cl_Twists no_Twists__swaps F_Ring_swaps ⟨ff1_Twists, pb_Ring_swaps, pc_Ring_swaps, ⟨_, pd_Ring_swaps⟩⟩ b_Ring_swaps
  have q1 := ok_rsquares (P := l.prog) (w := w) (mg := mg) (base := base) cl_Rests no_Rests__squares F_Ring_squares ⟨ff2_Rests, pb_Ring_squares, pc_Ring_squares, ⟨_, pd_Ring_squares⟩⟩ b_Ring_squares
  have q2 := ok_rsquares (P := l.prog) (w := w) (mg := mg) (base := base) cl_Whole no_Whole__squares F_Ring_squares ⟨ff2_Whole, pb_Ring_squares, pc_Ring_squares, ⟨_, pd_Ring_squares⟩⟩ b_Ring_squares
  have q3 := ok_rsquares (P := l.prog) (w := w) (mg := mg) (base := base) cl_Duals no_Duals__squares F_Ring_squares ⟨ff2_Duals, pb_Ring_squares, pc_Ring_squares, ⟨_, pd_Ring_squares⟩⟩ b_Ring_squares
  have q4 := ok_rsquares (P := l.prog) (w := w) (mg := mg) (base := base) cl_Twists no_Twists__squares F_Ring_squares ⟨ff2_Twists, pb_Ring_squares, pc_Ring_squares, ⟨_, pd_Ring_squares⟩⟩ b_Ring_squares
  have dp1 := ok_rdepth (P := l.prog) (w := w) (mg := mg) (base := base) cl_Rests no_Rests__depth F_Ring_depth ⟨ff3_Rests, pb_Ring_depth, pc_Ring_depth, ⟨_, pd_Ring_depth⟩⟩ b_Ring_depth
  have dp2 := ok_rdepth (P := l.prog) (w := w) (mg := mg) (base := base) cl_Whole no_Whole__depth F_Ring_depth ⟨ff3_Whole, pb_Ring_depth, pc_Ring_depth, ⟨_, pd_Ring_depth⟩⟩ b_Ring_depth
  have z1 := ok_rzero (P := l.prog) (w := w) (mg := mg) (base := base) ⟨_, _, F_Ring_zero, ⟨ff4_Rests, mb_Ring_zero, k_Ring_zero⟩, b_Ring_zero⟩ cl_Rests no_Rests__zero
  have z2 := ok_rzero (P := l.prog) (w := w) (mg := mg) (base := base) ⟨_, _, F_Ring_zero, ⟨ff4_Whole, mb_Ring_zero, k_Ring_zero⟩, b_Ring_zero⟩ cl_Whole no_Whole__zero
  have DO := ok_depth_over (P := l.prog) (w := w) (base := base) A_depth_over B cl_Rests cl_Whole dp1 dp2
  have I1 := ok_inv1 (P := l.prog) (w := w) (base := base) A_inverse_modulo
  -- shares
  have S1 := ok_rests_share (P := l.prog) (w := w) (base := base) ⟨_, _, F_Rests__share, me_Rests__share, b_Rests__share⟩ CR no_Rests__modulus I1
  have S0 := ok_share01 (P := l.prog) (w := w) (base := base) D_share (PySem.W.mg_of X G a10) T E_InvalidNumber G3
  have S2 := ok_whole_share (P := l.prog) (w := w) (mg := mg) (base := base) ⟨_, _, F_Shares__share, ⟨ff5_Whole, mb_Shares__share, k_Shares__share⟩, b_Shares__share⟩ S0
  have S3 := ok_slot_share (P := l.prog) (w := w) (base := base) (CR := C_Rests) (CW := C_Whole) ⟨_, _, F_Slotwise__share, ⟨ff4_Duals, mb_Slotwise__share, k_Slotwise__share⟩, b_Slotwise__share⟩ CD no_Duals__slots no_Duals__marks B cl_Rests cl_Whole S1 S2
  have S4 := ok_twists_share (P := l.prog) (w := w) (mg := mg) (base := base) ⟨_, _, F_Twists__share, me_Twists__share, b_Twists__share⟩ CT no_Twists__base cl_Rests cl_Whole S1 S2 z1 z2
  -- inverses, rests
  have V2 := ok_whole_inv (P := l.prog) (w := w) (base := base) (CR := C_Rests) ⟨_, _, F_Whole_has_inverse, me_Whole_has_inverse, b_Whole_has_inverse⟩ CW no_Whole__primes B G4
  have V1 := ok_ring_inv (P := l.prog) (w := w) (base := base) ⟨_, _, F_Ring_has_inverse, ⟨ff5_Rests, mb_Ring_has_inverse, k_Ring_has_inverse⟩, b_Ring_has_inverse⟩ CR B cl_Whole G8 V2
  have V3 := ok_ring_inv (P := l.prog) (w := w) (base := base) ⟨_, _, F_Ring_has_inverse, ⟨ff3_Duals, mb_Ring_has_inverse, k_Ring_has_inverse⟩, b_Ring_has_inverse⟩ CD B cl_Whole G8 V2
  have V4 := ok_ring_inv (P := l.prog) (w := w) (base := base) ⟨_, _, F_Ring_has_inverse, ⟨ff3_Twists, mb_Ring_has_inverse, k_Ring_has_inverse⟩, b_Ring_has_inverse⟩ CT B cl_Whole G8 V2
  have H1 := ok_rests_hr (P := l.prog) (w := w) (base := base) (CW := C_Whole) ⟨_, _, F_Rests__has_rests, me_Rests__has_rests, b_Rests__has_rests⟩ CR no_Rests__modulus GD
  have H2 := ok_whole_hr (P := l.prog) (w := w) (base := base) (CR := C_Rests) ⟨_, _, F_Whole__has_rests, me_Whole__has_rests, b_Whole__has_rests⟩ CW no_Whole__primes G8
  -- the rings are made
  have RI1 := ok_ring_init F_Ring_init CR (shR C_Rests) DO (S1.mono (by decide))
  have RI2 := ok_ring_init F_Ring_init CW (shW C_Whole) DO (S2.mono (by decide))
  have RI3 := ok_ring_init F_Ring_init CD (shD C_Rests C_Whole C_Duals) DO S3
  have RI4 := ok_ring_init F_Ring_init CT (shT C_Rests C_Whole C_Twists) DO S4
  have N1 := ok_rests_init SF_Rests hms AB_Rests_Rests ((RI1.raw b_Ring_init .nil).imp fun vs H Q E h => by rw [List.append_nil]; exact h) TM CR no_Rests__modulus (ok_check_number A_check_number E_InvalidNumber G3b) G8
  have N2 := ok_whole_init SF_Whole hms AB_Whole_Whole ((RI2.raw b_Ring_init .nil).imp fun vs H Q E h => by rw [List.append_nil]; exact h) CW no_Whole__primes G5
  have N3 := ok_slot_init SF_Slotwise hms AB_Duals_Slotwise ((RI3.raw b_Ring_init .nil).imp fun vs H Q E h => by rw [List.append_nil]; exact h) CD no_Duals__slots no_Duals__marks
  have N4 := ok_ext_init SF_Extended hms AB_Duals_Extended ((N3.raw binds_slot .nil).imp fun vs H Q E h => by rw [List.append_nil]; exact h) CD no_Duals__square no_Duals__base cl_Rests cl_Whole o1 o2 s1 s2
  have CB := ok_check_bases (P := l.prog) (w := w) (base := base) ⟨_, _, F_check_bases, mgf_check_bases⟩ B TR TW gC_Ring rd_Ring CV E_InvalidRing E_TooMany DO
  have N5 := ok_duals_init (CT := C_Twists) SF_Duals hms AB_Duals_Duals ((N4.raw binds_ext .nil).imp fun vs H Q E h => by rw [List.append_nil]; exact h) CB
  have N6 := ok_twists_init (CD := C_Duals) SF_Twists hms AB_Twists_Twists ((RI4.raw b_Ring_init .nil).imp fun vs H Q E h => by rw [List.append_nil]; exact h) CT no_Twists__part no_Twists__base B TP gC_Rests gC_Whole TR TW T2 cl_Rests cl_Whole G3b H1 H2 o1 o2
  have CN := ok_contains F_Realm_contains R B gC_Ring TR TW TD TT GD P1 P2 P3 P4 V1 V2 V3 V4 o1 o2 o3 o4 s1 s2 s3 s4 q1 q2 q3 q4
  exact ok_law F_law B R ⟨_, _, mkT_Rests, N1, gC_Rests, binds_rests⟩ ⟨_, _, mkT_Whole, N2, gC_Whole, binds_whole tt_Whole⟩ ⟨_, _, mkT_Duals, N5, gC_Duals, binds_duals⟩ ⟨_, _, mkT_Twists, N6, gC_Twists, binds_twists⟩
    sp_Realm_contains CN b_Realm_contains sp_Realm_eq E1 b_Realm_eq (ok_bag A_l_bag B) G1 G2 (ok_l_realm A_l_realm MK)
end My
/-! the end by one kernel run of the boot, the imports and the top, seen through the law's def alone; the facts by the part of the heap that is written out -/
namespace My
open PySem PySem.W PySem.Calls PyProof.Rows HeadRun
abbrev rowT : PySem.W.OpenRow := PySem.W.OpenLaw.row PySem.Challenge.rw_numbertypes_k40_whole_normal_forms_part
abbrev viewT : PySem.Program := PySem.W.view rowT.prog [55]
def looseT : List PySem.Str := (["gcd", "lcm", "_wall", "RingError", "InvalidNumber", "InvalidThing", "InvalidRing", "NoInverse", "TooMany", "MOST_RADICAL", "is_int", "is_between", "is_share", "common", "multiple"] : List PySem.Str) ++ (["divides", "stripped", "radical", "share", "sum_of_shares", "product_of_shares", "inverse_modulo", "written", "written_below", "MOST_MODULUS", "Ring", "depth_over", "check_bases", "check_number", "Shares"] : List PySem.Str) ++ (["Whole", "Rests", "choices", "size_together", "Slotwise", "Extended", "Duals", "MOST_PART", "Twists", "normal_numbers", "realm_with", "Realm", "listed", "joined_inverse", "_law_bag"] : List PySem.Str) ++ (["_law_draw", "_law_pick", "_law_realm"] : List PySem.Str)
abbrev defT := HandSHeadRun.topDef rowT.prog 55
theorem head_imp {r : OpenRow} {q : Program} {K : Params → PySem.W.Frag} {as : List Addr} {ek : ∀ P, as = (K P).map (·.1)} {N : Nat} {loose : List PySem.Str} {d : DefRec} {kwd : List (PySem.Str × PySem.Expr)}
    (run : ∀ w : World, (wholeF (fun p => stepQ (denQ tabQ) p w) fenceQ N r.prog).map (fun x => (looksF r.prog x.1.heap x.2.abs, seenQ q loose (importedModules r.prog.main.body) (fun s => xlAt q [] s && recOk r.toRowW.records s) x.2.abs, as.map (getT x.2))) = some (true, openGood q loose, (K w.params).map fun x => some x.2))
    (hdef : defOf q r.name = some (d, kwd)) (hp : r.prog.theDef r.name = some (d.params, d.body, d.scope)) (hk : kwWritten? d.params.kwonlyargs d.params.kw_defaults = some kwd)
    (hwr : (!r.writes || r.records.isEmpty) = true) (k1 : r.wellSaid = true) (ok : (chainsOk q && opensWell r.prog && (frees r.toRowW && r.within.isEmpty)) = true) (hb : r.prog.bare) (hw : r.toRowW.promised)
    (call : WalkO q loose (XL q []) (Hook.says (kHook K as ek)) r.toRowW d kwd fun f vs => PySem.call f vs) : r.Holds :=
  holds_open (r := r) (q := q) (loose := loose) (XP := XL q []) (YP := Hook.says (kHook K as ek)) (d := d) (kwd := kwd) (left_impK (ek := ek) run) (Hook.of (kHook K as ek)) (Hook.keeps (kHook K as ek)) (fun s z => xl_of s (Bool.and_eq_true_iff.mp z).1) XL.keeps hdef hp hk (fun s z => recFacts_of (Bool.and_eq_true_iff.mp z).2) hwr k1 ok hb hw call
end My
open PySem PySem.W PySem.Calls PyProof.Rows
local macro_rules | `(tactic| o_head ($f $k $a $e)) => `(tactic| refine My.head_imp (r := My.rowT) (q := My.viewT) (K := $k) (as := $a) (ek := fun _ => by kernel_rfl) (N := 12000) (loose := My.looseT) (d := My.defT) (kwd := [])
  (fun w => by kernel_rfl) (by kernel_rfl) (by kernel_rfl) (by kernel_rfl) (by rfl) (by first | assumption | decide +kernel) (by decide +kernel) ⟨rfl, rfl, rfl, rfl, rfl, by decide +kernel⟩ ?hw ?hc)
set_option maxRecDepth 100000 in
set_option maxHeartbeats 0 in
theorem PySem.Challenge.cw_numbertypes_k40_whole_normal_forms_part_holds : PySem.Challenge.rw_numbertypes_k40_whole_normal_forms_part.Holds := by
  w_on; o_law; k_head; (case hw => w_witness2)
  k_fill
  refine L2.walk_of (l := PySem.Challenge.rw_numbertypes_k40_whole_normal_forms_part) (n := 63) (k := 13) (x := "_law_script") (CX := fun _ => L2.CX0) (sp := fun w => My.spLaw _) rfl (by decide) (by kernel_rfl) ⟨rfl, by decide, by decide⟩ (fun w h Y => PySem.W.kIn_of Y) ?F (fun _ _ a ns hl _ hS => ⟨a, ns, rfl, hS, hl, fun _ => rfl⟩) (fun _ _ _ _ _ h => h)
  case F =>
    intro w mg fa h KX G hmg0
    have hmg : mg ("law" : PySem.Str) = some (.ref fa) := by
      have e : My.defT.name = ("law" : PySem.Str) := by kernel_rfl
      rw [← e]
      exact hmg0
    refine' My.all_mk KX G hmg ?z_super ?opq ?topSuper ?a1 ?l1 ?c1 ?k1 ?a2 ?l2 ?c2 ?k2 ?a3 ?l3 ?c3 ?k3 ?a4 ?l4 ?c4 ?k4 ?a5 ?l5 ?c5 ?k5 ?a6 ?l6 ?c6 ?k6 ?a7 ?l7 ?c7 ?k7 ?a8 ?l8 ?c8 ?k8 ?a9 ?l9 ?c9 ?k9 ?a10 ?l10 ?c10 ?k10 ?t10 ?a11 ?l11 ?c11 ?k11 ?a12 ?l12 ?c12 ?k12 ?a13 ?l13 ?c13 ?k13 ?a14 ?l14 ?c14 ?k14 ?a15 ?l15 ?c15 ?k15 ?a16 ?l16 ?c16 ?k16 ?a17 ?l17 ?c17 ?k17 ?a18 ?l18 ?c18 ?k18 ?a19 ?l19 ?c19 ?k19 ?a20 ?l20 ?c20 ?k20 ?a21 ?l21 ?c21 ?k21 ?a22 ?l22 ?c22 ?k22 ?a23 ?l23 ?c23 ?k23 ?a24 ?l24 ?c24 ?k24 ?a25 ?l25 ?c25 ?k25 ?a26 ?l26 ?c26 ?k26 ?a27 ?l27 ?c27 ?k27 ?a28 ?l28 ?c28 ?k28 ?a29 ?l29 ?c29 ?k29 ?z_ValueError ?z_abs ?z_all ?z_bool ?z_divmod ?z_enumerate ?z_int ?z_isinstance ?z_len ?z_list ?z_max ?z_range ?z_str ?z_tuple ?z_zip ?m_gcd ?m_lcm ?m_MOST_RADICAL ?m_MOST_MODULUS ?m_MOST_PART ?ea_InvalidNumber ?eb_InvalidNumber ?ec_InvalidNumber ?ed_InvalidNumber ?ee_InvalidNumber ?ef_InvalidNumber ?eg_InvalidNumber ?eh_InvalidNumber ?ei_InvalidNumber ?ej_InvalidNumber ?ek_InvalidNumber ?el_InvalidNumber ?em_InvalidNumber ?en_InvalidNumber ?eo_InvalidNumber ?ep_InvalidNumber ?eq_InvalidNumber ?er_InvalidNumber ?es_InvalidNumber ?et_InvalidNumber ?eu_InvalidNumber ?ev_InvalidNumber ?ex_InvalidNumber ?ew_InvalidNumber ?ea_InvalidRing ?eb_InvalidRing ?ec_InvalidRing ?ed_InvalidRing ?ee_InvalidRing ?ef_InvalidRing ?eg_InvalidRing ?eh_InvalidRing ?ei_InvalidRing ?ej_InvalidRing ?ek_InvalidRing ?el_InvalidRing ?em_InvalidRing ?en_InvalidRing ?eo_InvalidRing ?ep_InvalidRing ?eq_InvalidRing ?er_InvalidRing ?es_InvalidRing ?et_InvalidRing ?eu_InvalidRing ?ev_InvalidRing ?ex_InvalidRing ?ew_InvalidRing ?ea_TooMany ?eb_TooMany ?ec_TooMany ?ed_TooMany ?ee_TooMany ?ef_TooMany ?eg_TooMany ?eh_TooMany ?ei_TooMany ?ej_TooMany ?ek_TooMany ?el_TooMany ?em_TooMany ?en_TooMany ?eo_TooMany ?ep_TooMany ?eq_TooMany ?er_TooMany ?es_TooMany ?et_TooMany ?eu_TooMany ?ev_TooMany ?ex_TooMany ?ew_TooMany ?cg_Realm ?c1_Realm ?c2_Realm ?c3_Realm ?c4_Realm ?c5_Realm ?c6_Realm ?ia_Realm ?ib_Realm ?ic_Realm ?id_Realm ?no_Realm__normal ?ff0_Realm ?ff1_Realm ?ff2_Realm ?ma_Realm_init ?mb_Realm_init ?l_Realm_init ?c_Realm_init ?k_Realm_init ?kw_Realm_init_inverse ?kw_Realm_init_ones ?kw_Realm_init_swaps ?kw_Realm_init_squares ?mk_Realm ?kc_Realm ?pa_Realm_inverse ?pb_Realm_inverse ?pc_Realm_inverse ?pd_Realm_inverse ?l_Realm_inverse ?c_Realm_inverse ?k_Realm_inverse ?pa_Realm_ones ?pb_Realm_ones ?pc_Realm_ones ?pd_Realm_ones ?l_Realm_ones ?c_Realm_ones ?k_Realm_ones ?pa_Realm_swaps ?pb_Realm_swaps ?pc_Realm_swaps ?pd_Realm_swaps ?l_Realm_swaps ?c_Realm_swaps ?k_Realm_swaps ?pa_Realm_squares ?pb_Realm_squares ?pc_Realm_squares ?pd_Realm_squares ?l_Realm_squares ?c_Realm_squares ?k_Realm_squares ?ma_Realm_eq ?mb_Realm_eq ?l_Realm_eq ?c_Realm_eq ?k_Realm_eq ?ma_Realm_contains ?mb_Realm_contains ?l_Realm_contains ?c_Realm_contains ?k_Realm_contains ?cg_Ring ?c1_Ring ?c2_Ring ?c3_Ring ?c4_Ring ?c5_Ring ?c6_Ring ?ia_Ring ?ib_Ring ?ic_Ring ?id_Ring ?pa_Ring_ones ?pb_Ring_ones ?pc_Ring_ones ?pd_Ring_ones ?l_Ring_ones ?c_Ring_ones ?k_Ring_ones ?pa_Ring_swaps ?pb_Ring_swaps ?pc_Ring_swaps ?pd_Ring_swaps ?l_Ring_swaps ?c_Ring_swaps ?k_Ring_swaps ?pa_Ring_squares ?pb_Ring_squares ?pc_Ring_squares ?pd_Ring_squares ?l_Ring_squares ?c_Ring_squares ?k_Ring_squares ?pa_Ring_depth ?pb_Ring_depth ?pc_Ring_depth ?pd_Ring_depth ?l_Ring_depth ?c_Ring_depth ?k_Ring_depth ?ma_Ring_init ?mb_Ring_init ?l_Ring_init ?c_Ring_init ?k_Ring_init ?ma_Ring_zero ?mb_Ring_zero ?l_Ring_zero ?c_Ring_zero ?k_Ring_zero ?ma_Ring_has_inverse ?mb_Ring_has_inverse ?l_Ring_has_inverse ?c_Ring_has_inverse ?k_Ring_has_inverse ?cg_Shares ?c1_Shares ?c2_Shares ?c3_Shares ?c4_Shares ?c5_Shares ?c6_Shares ?ia_Shares ?ib_Shares ?ic_Shares ?id_Shares ?ma_Shares__share ?mb_Shares__share ?l_Shares__share ?c_Shares__share ?k_Shares__share ?cg_Rests ?c1_Rests ?c2_Rests ?c3_Rests ?c4_Rests ?c5_Rests ?c6_Rests ?ia_Rests ?ib_Rests ?ic_Rests ?id_Rests ?no_Rests__parts ?no_Rests__ones ?no_Rests__swaps ?no_Rests__squares ?no_Rests__bases ?no_Rests__depth ?no_Rests__zero ?no_Rests__one ?no_Rests__modulus ?ff0_Rests ?ff1_Rests ?ff2_Rests ?ff3_Rests ?ff4_Rests ?ff5_Rests ?ff6_Rests ?ff7_Rests ?ma_Rests__share ?mb_Rests__share ?l_Rests__share ?c_Rests__share ?k_Rests__share ?ma_Rests__has_rests ?mb_Rests__has_rests ?l_Rests__has_rests ?c_Rests__has_rests ?k_Rests__has_rests ?ta_Rests ?tb_Rests ?tm_Rests ?tk_Rests ?tl_Rests ?tc_Rests ?tx_Rests ?tu_Rests ?tv_Rests ?tw_Rests ?cg_Whole ?c1_Whole ?c2_Whole ?c3_Whole ?c4_Whole ?c5_Whole ?c6_Whole ?ia_Whole ?ib_Whole ?ic_Whole ?id_Whole ?no_Whole__parts ?no_Whole__ones ?no_Whole__swaps ?no_Whole__squares ?no_Whole__bases ?no_Whole__depth ?no_Whole__zero ?no_Whole__one ?no_Whole__primes ?ff0_Whole ?ff1_Whole ?ff2_Whole ?ff3_Whole ?ff4_Whole ?ff5_Whole ?ff6_Whole ?ff7_Whole ?ff8_Whole ?ma_Whole_has_inverse ?mb_Whole_has_inverse ?l_Whole_has_inverse ?c_Whole_has_inverse ?k_Whole_has_inverse ?ma_Whole__has_rests ?mb_Whole__has_rests ?l_Whole__has_rests ?c_Whole__has_rests ?k_Whole__has_rests ?ta_Whole ?tb_Whole ?tm_Whole ?tk_Whole ?tl_Whole ?tc_Whole ?tx_Whole ?tu_Whole ?tv_Whole ?tw_Whole ?tt_Whole ?cg_Slotwise ?c1_Slotwise ?c2_Slotwise ?c3_Slotwise ?c4_Slotwise ?c5_Slotwise ?c6_Slotwise ?ia_Slotwise ?ib_Slotwise ?ic_Slotwise ?id_Slotwise ?ma_Slotwise__share ?mb_Slotwise__share ?l_Slotwise__share ?c_Slotwise__share ?k_Slotwise__share ?ta_Slotwise ?tb_Slotwise ?tl_Slotwise ?tc_Slotwise ?tx_Slotwise ?tu_Slotwise ?tv_Slotwise ?tw_Slotwise ?cg_Extended ?c1_Extended ?c2_Extended ?c3_Extended ?c4_Extended ?c5_Extended ?c6_Extended ?ia_Extended ?ib_Extended ?ic_Extended ?id_Extended ?ta_Extended ?tb_Extended ?tl_Extended ?tc_Extended ?tx_Extended ?tu_Extended ?tv_Extended ?tw_Extended ?cg_Duals ?c1_Duals ?c2_Duals ?c3_Duals ?c4_Duals ?c5_Duals ?c6_Duals ?ia_Duals ?ib_Duals ?ic_Duals ?id_Duals ?no_Duals__parts ?no_Duals__ones ?no_Duals__swaps ?no_Duals__squares ?no_Duals__bases ?no_Duals__depth ?no_Duals__zero ?no_Duals__one ?no_Duals__slots ?no_Duals__marks ?no_Duals__square ?no_Duals__base ?ff0_Duals ?ff1_Duals ?ff2_Duals ?ff3_Duals ?ff4_Duals ?ff5_Duals ?ta_Duals ?tb_Duals ?tm_Duals ?tk_Duals ?tl_Duals ?tc_Duals ?tx_Duals ?tu_Duals ?tv_Duals ?tw_Duals ?cg_Twists ?c1_Twists ?c2_Twists ?c3_Twists ?c4_Twists ?c5_Twists ?c6_Twists ?ia_Twists ?ib_Twists ?ic_Twists ?id_Twists ?no_Twists__parts ?no_Twists__ones ?no_Twists__swaps ?no_Twists__squares ?no_Twists__bases ?no_Twists__depth ?no_Twists__zero ?no_Twists__one ?no_Twists__part ?no_Twists__base ?ff0_Twists ?ff1_Twists ?ff2_Twists ?ff3_Twists ?ff4_Twists ?ma_Twists__share ?mb_Twists__share ?l_Twists__share ?c_Twists__share ?k_Twists__share ?ta_Twists ?tb_Twists ?tm_Twists ?tk_Twists ?tl_Twists ?tc_Twists ?tx_Twists ?tu_Twists ?tv_Twists ?tw_Twists ?s1_0 ?s2_0 ?s3_0 ?s4_0 ?s5_0 ?s1_1 ?s2_1 ?s3_1 ?s4_1 ?s5_1 ?s1_2 ?s2_2 ?s3_2 ?s4_2 ?s5_2 ?s1_3 ?s2_3 ?s3_3 ?s4_3 ?s5_3 ?s1_4 ?s2_4 ?s3_4 ?s4_4 ?s5_4 ?s1_5 ?s2_5 ?s3_5 ?s4_5 ?s5_5 ?m_RingError ?md
    (case z_super => k_is)
    (case opq => k_is)
    (case a1 => k_is)
    (case l1 => k_is)
    (case c1 => k_is)
    (case k1 => k_is)
    (case a2 => k_is)
    (case l2 => k_is)
    (case c2 => k_is)
    (case k2 => k_is)
    (case a3 => k_is)
    (case l3 => k_is)
    (case c3 => k_is)
    (case k3 => k_is)
    (case a4 => k_is)
    (case l4 => k_is)
    (case c4 => k_is)
    (case k4 => k_is)
    (case a5 => k_is)
    (case l5 => k_is)
    (case c5 => k_is)
    (case k5 => k_is)
    (case a6 => k_is)
    (case l6 => k_is)
    (case c6 => k_is)
    (case k6 => k_is)
    (case a7 => k_is)
    (case l7 => k_is)
    (case c7 => k_is)
    (case k7 => k_is)
    (case a8 => k_is)
    (case l8 => k_is)
    (case c8 => k_is)
    (case k8 => k_is)
    (case a9 => k_is)
    (case l9 => k_is)
    (case c9 => k_is)
    (case k9 => k_is)
    (case a10 => k_is)
    (case l10 => k_is)
    (case c10 => k_is)
    (case k10 => k_is)
    (case t10 => k_is)
    (case a11 => k_is)
    (case l11 => k_is)
    (case c11 => k_is)
    (case k11 => k_is)
    (case a12 => k_is)
    (case l12 => k_is)
    (case c12 => k_is)
    (case k12 => k_is)
    (case a13 => k_is)
    (case l13 => k_is)
    (case c13 => k_is)
    (case k13 => k_is)
    (case a14 => k_is)
    (case l14 => k_is)
    (case c14 => k_is)
    (case k14 => k_is)
    (case a15 => k_is)
    (case l15 => k_is)
    (case c15 => k_is)
    (case k15 => k_is)
    (case a16 => k_is)
    (case l16 => k_is)
    (case c16 => k_is)
    (case k16 => k_is)
    (case a17 => k_is)
    (case l17 => k_is)
    (case c17 => k_is)
    (case k17 => k_is)
    (case a18 => k_is)
    (case l18 => k_is)
    (case c18 => k_is)
    (case k18 => k_is)
    (case a19 => k_is)
    (case l19 => k_is)
    (case c19 => k_is)
    (case k19 => k_is)
    (case a20 => k_is)
    (case l20 => k_is)
    (case c20 => k_is)
    (case k20 => k_is)
    (case a21 => k_is)
    (case l21 => k_is)
    (case c21 => k_is)
    (case k21 => k_is)
    (case a22 => k_is)
    (case l22 => k_is)
    (case c22 => k_is)
    (case k22 => k_is)
    (case a23 => k_is)
    (case l23 => k_is)
    (case c23 => k_is)
    (case k23 => k_is)
    (case a24 => k_is)
    (case l24 => k_is)
    (case c24 => k_is)
    (case k24 => k_is)
    (case a25 => k_is)
    (case l25 => k_is)
    (case c25 => k_is)
    (case k25 => k_is)
    (case a26 => k_is)
    (case l26 => k_is)
    (case c26 => k_is)
    (case k26 => k_is)
    (case a27 => k_is)
    (case l27 => k_is)
    (case c27 => k_is)
    (case k27 => k_is)
    (case a28 => k_is)
    (case l28 => k_is)
    (case c28 => k_is)
    (case k28 => k_is)
    (case a29 => k_is)
    (case l29 => k_is)
    (case c29 => k_is)
    (case k29 => k_is)
    (case z_ValueError => k_is)
    (case z_abs => k_is)
    (case z_all => k_is)
    (case z_bool => k_is)
    (case z_divmod => k_is)
    (case z_enumerate => k_is)
    (case z_int => k_is)
    (case z_isinstance => k_is)
    (case z_len => k_is)
    (case z_list => k_is)
    (case z_max => k_is)
    (case z_range => k_is)
    (case z_str => k_is)
    (case z_tuple => k_is)
    (case z_zip => k_is)
    (case m_gcd => k_is)
    (case m_lcm => k_is)
    (case m_MOST_RADICAL => k_is)
    (case m_MOST_MODULUS => k_is)
    (case m_MOST_PART => k_is)
    (case m_RingError => k_is)
    (case topSuper => kernel_rfl)
    (case ea_InvalidNumber => k_is)
    (case eb_InvalidNumber => k_is)
    (case ec_InvalidNumber => first | rfl | kernel_rfl)
    (case ed_InvalidNumber => kernel_rfl)
    (case ee_InvalidNumber => k_is)
    (case ef_InvalidNumber => k_is)
    (case eg_InvalidNumber => k_is)
    (case eh_InvalidNumber => k_is)
    (case ei_InvalidNumber => k_is)
    (case ej_InvalidNumber => k_is)
    (case ek_InvalidNumber => k_is)
    (case el_InvalidNumber => k_is)
    (case em_InvalidNumber => k_is)
    (case en_InvalidNumber => k_is)
    (case eo_InvalidNumber => k_is)
    (case ep_InvalidNumber => k_is)
    (case eq_InvalidNumber => k_is)
    (case er_InvalidNumber => k_is)
    (case es_InvalidNumber => k_is)
    (case et_InvalidNumber => k_is)
    (case eu_InvalidNumber => k_is)
    (case ev_InvalidNumber => rfl)
    (case ex_InvalidNumber => exact ⟨_, fun env => rfl⟩)
    (case ew_InvalidNumber => kernel_rfl)
    (case ea_InvalidRing => k_is)
    (case eb_InvalidRing => k_is)
    (case ec_InvalidRing => first | rfl | kernel_rfl)
    (case ed_InvalidRing => kernel_rfl)
    (case ee_InvalidRing => k_is)
    (case ef_InvalidRing => k_is)
    (case eg_InvalidRing => k_is)
    (case eh_InvalidRing => k_is)
    (case ei_InvalidRing => k_is)
    (case ej_InvalidRing => k_is)
    (case ek_InvalidRing => k_is)
    (case el_InvalidRing => k_is)
    (case em_InvalidRing => k_is)
    (case en_InvalidRing => k_is)
    (case eo_InvalidRing => k_is)
    (case ep_InvalidRing => k_is)
    (case eq_InvalidRing => k_is)
    (case er_InvalidRing => k_is)
    (case es_InvalidRing => k_is)
    (case et_InvalidRing => k_is)
    (case eu_InvalidRing => k_is)
    (case ev_InvalidRing => rfl)
    (case ex_InvalidRing => exact ⟨_, fun env => rfl⟩)
    (case ew_InvalidRing => kernel_rfl)
    (case ea_TooMany => k_is)
    (case eb_TooMany => k_is)
    (case ec_TooMany => first | rfl | kernel_rfl)
    (case ed_TooMany => kernel_rfl)
    (case ee_TooMany => k_is)
    (case ef_TooMany => k_is)
    (case eg_TooMany => k_is)
    (case eh_TooMany => k_is)
    (case ei_TooMany => k_is)
    (case ej_TooMany => k_is)
    (case ek_TooMany => k_is)
    (case el_TooMany => k_is)
    (case em_TooMany => k_is)
    (case en_TooMany => k_is)
    (case eo_TooMany => k_is)
    (case ep_TooMany => k_is)
    (case eq_TooMany => k_is)
    (case er_TooMany => k_is)
    (case es_TooMany => k_is)
    (case et_TooMany => k_is)
    (case eu_TooMany => k_is)
    (case ev_TooMany => rfl)
    (case ex_TooMany => exact ⟨_, fun env => rfl⟩)
    (case ew_TooMany => kernel_rfl)
    (case cg_Realm => k_is)
    (case c1_Realm => k_is)
    (case c2_Realm => k_is)
    (case c3_Realm => k_is)
    (case c4_Realm => k_is)
    (case c5_Realm => k_is)
    (case c6_Realm => k_is)
    (case ia_Realm => k_is)
    (case ib_Realm => k_is)
    (case ic_Realm => k_is)
    (case id_Realm => k_is)
    (case no_Realm__normal => k_is)
    (case ff0_Realm => first | kernel_rfl | rfl)
    (case ff1_Realm => first | kernel_rfl | rfl)
    (case ff2_Realm => first | k_is | kernel_rfl | rfl)
    (case ma_Realm_init => k_is)
    (case mb_Realm_init => k_is)
    (case l_Realm_init => k_is)
    (case c_Realm_init => k_is)
    (case k_Realm_init => k_is)
    (case kw_Realm_init_inverse => k_is)
    (case kw_Realm_init_ones => k_is)
    (case kw_Realm_init_swaps => k_is)
    (case kw_Realm_init_squares => k_is)
    (case mk_Realm => k_is)
    (case kc_Realm => k_is)
    (case pa_Realm_inverse => k_is)
    (case pb_Realm_inverse => k_is)
    (case pc_Realm_inverse => k_is)
    (case pd_Realm_inverse => k_is)
    (case l_Realm_inverse => k_is)
    (case c_Realm_inverse => k_is)
    (case k_Realm_inverse => k_is)
    (case pa_Realm_ones => k_is)
    (case pb_Realm_ones => k_is)
    (case pc_Realm_ones => k_is)
    (case pd_Realm_ones => k_is)
    (case l_Realm_ones => k_is)
    (case c_Realm_ones => k_is)
    (case k_Realm_ones => k_is)
    (case pa_Realm_swaps => k_is)
    (case pb_Realm_swaps => k_is)
    (case pc_Realm_swaps => k_is)
    (case pd_Realm_swaps => k_is)
    (case l_Realm_swaps => k_is)
    (case c_Realm_swaps => k_is)
    (case k_Realm_swaps => k_is)
    (case pa_Realm_squares => k_is)
    (case pb_Realm_squares => k_is)
    (case pc_Realm_squares => k_is)
    (case pd_Realm_squares => k_is)
    (case l_Realm_squares => k_is)
    (case c_Realm_squares => k_is)
    (case k_Realm_squares => k_is)
    (case ma_Realm_eq => k_is)
    (case mb_Realm_eq => k_is)
    (case l_Realm_eq => k_is)
    (case c_Realm_eq => k_is)
    (case k_Realm_eq => k_is)
    (case ma_Realm_contains => k_is)
    (case mb_Realm_contains => k_is)
    (case l_Realm_contains => k_is)
    (case c_Realm_contains => k_is)
    (case k_Realm_contains => k_is)
    (case cg_Ring => k_is)
    (case c1_Ring => k_is)
    (case c2_Ring => k_is)
    (case c3_Ring => k_is)
    (case c4_Ring => k_is)
    (case c5_Ring => k_is)
    (case c6_Ring => k_is)
    (case ia_Ring => k_is)
    (case ib_Ring => k_is)
    (case ic_Ring => k_is)
    (case id_Ring => k_is)
    (case pa_Ring_ones => k_is)
    (case pb_Ring_ones => k_is)
    (case pc_Ring_ones => k_is)
    (case pd_Ring_ones => k_is)
    (case l_Ring_ones => k_is)
    (case c_Ring_ones => k_is)
    (case k_Ring_ones => k_is)
    (case pa_Ring_swaps => k_is)
    (case pb_Ring_swaps => k_is)
    (case pc_Ring_swaps => k_is)
    (case pd_Ring_swaps => k_is)
    (case l_Ring_swaps => k_is)
    (case c_Ring_swaps => k_is)
    (case k_Ring_swaps => k_is)
    (case pa_Ring_squares => k_is)
    (case pb_Ring_squares => k_is)
    (case pc_Ring_squares => k_is)
    (case pd_Ring_squares => k_is)
    (case l_Ring_squares => k_is)
    (case c_Ring_squares => k_is)
    (case k_Ring_squares => k_is)
    (case pa_Ring_depth => k_is)
    (case pb_Ring_depth => k_is)
    (case pc_Ring_depth => k_is)
    (case pd_Ring_depth => k_is)
    (case l_Ring_depth => k_is)
    (case c_Ring_depth => k_is)
    (case k_Ring_depth => k_is)
    (case ma_Ring_init => k_is)
    (case mb_Ring_init => k_is)
    (case l_Ring_init => k_is)
    (case c_Ring_init => k_is)
    (case k_Ring_init => k_is)
    (case ma_Ring_zero => k_is)
    (case mb_Ring_zero => k_is)
    (case l_Ring_zero => k_is)
    (case c_Ring_zero => k_is)
    (case k_Ring_zero => k_is)
    (case ma_Ring_has_inverse => k_is)
    (case mb_Ring_has_inverse => k_is)
    (case l_Ring_has_inverse => k_is)
    (case c_Ring_has_inverse => k_is)
    (case k_Ring_has_inverse => k_is)
    (case cg_Shares => k_is)
    (case c1_Shares => k_is)
    (case c2_Shares => k_is)
    (case c3_Shares => k_is)
    (case c4_Shares => k_is)
    (case c5_Shares => k_is)
    (case c6_Shares => k_is)
    (case ia_Shares => k_is)
    (case ib_Shares => k_is)
    (case ic_Shares => k_is)
    (case id_Shares => k_is)
    (case ma_Shares__share => k_is)
    (case mb_Shares__share => k_is)
    (case l_Shares__share => k_is)
    (case c_Shares__share => k_is)
    (case k_Shares__share => k_is)
    (case cg_Rests => k_is)
    (case c1_Rests => k_is)
    (case c2_Rests => k_is)
    (case c3_Rests => k_is)
    (case c4_Rests => k_is)
    (case c5_Rests => k_is)
    (case c6_Rests => k_is)
    (case ia_Rests => k_is)
    (case ib_Rests => k_is)
    (case ic_Rests => k_is)
    (case id_Rests => k_is)
    (case no_Rests__parts => k_is)
    (case no_Rests__ones => k_is)
    (case no_Rests__swaps => k_is)
    (case no_Rests__squares => k_is)
    (case no_Rests__bases => k_is)
    (case no_Rests__depth => k_is)
    (case no_Rests__zero => k_is)
    (case no_Rests__one => k_is)
    (case no_Rests__modulus => k_is)
    (case ff0_Rests => k_is)
    (case ff1_Rests => k_is)
    (case ff2_Rests => k_is)
    (case ff3_Rests => k_is)
    (case ff4_Rests => k_is)
    (case ff5_Rests => k_is)
    (case ff6_Rests => first | kernel_rfl | rfl)
    (case ff7_Rests => first | kernel_rfl | rfl)
    (case ma_Rests__share => k_is)
    (case mb_Rests__share => k_is)
    (case l_Rests__share => k_is)
    (case c_Rests__share => k_is)
    (case k_Rests__share => k_is)
    (case ma_Rests__has_rests => k_is)
    (case mb_Rests__has_rests => k_is)
    (case l_Rests__has_rests => k_is)
    (case c_Rests__has_rests => k_is)
    (case k_Rests__has_rests => k_is)
    (case ta_Rests => k_is)
    (case tb_Rests => k_is)
    (case tm_Rests => k_is)
    (case tk_Rests => k_is)
    (case tl_Rests => k_is)
    (case tc_Rests => k_is)
    (case tx_Rests => k_is)
    (case tu_Rests => k_is)
    (case tv_Rests => rfl)
    (case tw_Rests => kernel_rfl)
    (case cg_Whole => k_is)
    (case c1_Whole => k_is)
    (case c2_Whole => k_is)
    (case c3_Whole => k_is)
    (case c4_Whole => k_is)
    (case c5_Whole => k_is)
    (case c6_Whole => k_is)
    (case ia_Whole => k_is)
    (case ib_Whole => k_is)
    (case ic_Whole => k_is)
    (case id_Whole => k_is)
    (case no_Whole__parts => k_is)
    (case no_Whole__ones => k_is)
    (case no_Whole__swaps => k_is)
    (case no_Whole__squares => k_is)
    (case no_Whole__bases => k_is)
    (case no_Whole__depth => k_is)
    (case no_Whole__zero => k_is)
    (case no_Whole__one => k_is)
    (case no_Whole__primes => k_is)
    (case ff0_Whole => k_is)
    (case ff1_Whole => k_is)
    (case ff2_Whole => k_is)
    (case ff3_Whole => k_is)
    (case ff4_Whole => k_is)
    (case ff5_Whole => k_is)
    (case ff6_Whole => first | kernel_rfl | rfl)
    (case ff7_Whole => first | kernel_rfl | rfl)
    (case ff8_Whole => first | kernel_rfl | rfl)
    (case ma_Whole_has_inverse => k_is)
    (case mb_Whole_has_inverse => k_is)
    (case l_Whole_has_inverse => k_is)
    (case c_Whole_has_inverse => k_is)
    (case k_Whole_has_inverse => k_is)
    (case ma_Whole__has_rests => k_is)
    (case mb_Whole__has_rests => k_is)
    (case l_Whole__has_rests => k_is)
    (case c_Whole__has_rests => k_is)
    (case k_Whole__has_rests => k_is)
    (case ta_Whole => k_is)
    (case tb_Whole => k_is)
    (case tm_Whole => k_is)
    (case tk_Whole => k_is)
    (case tl_Whole => k_is)
    (case tc_Whole => k_is)
    (case tx_Whole => k_is)
    (case tu_Whole => k_is)
    (case tv_Whole => rfl)
    (case tw_Whole => kernel_rfl)
    (case tt_Whole => k_is)
    (case cg_Slotwise => k_is)
    (case c1_Slotwise => k_is)
    (case c2_Slotwise => k_is)
    (case c3_Slotwise => k_is)
    (case c4_Slotwise => k_is)
    (case c5_Slotwise => k_is)
    (case c6_Slotwise => k_is)
    (case ia_Slotwise => k_is)
    (case ib_Slotwise => k_is)
    (case ic_Slotwise => k_is)
    (case id_Slotwise => k_is)
    (case ma_Slotwise__share => k_is)
    (case mb_Slotwise__share => k_is)
    (case l_Slotwise__share => k_is)
    (case c_Slotwise__share => k_is)
    (case k_Slotwise__share => k_is)
    (case ta_Slotwise => k_is)
    (case tb_Slotwise => k_is)
    (case tl_Slotwise => k_is)
    (case tc_Slotwise => k_is)
    (case tx_Slotwise => k_is)
    (case tu_Slotwise => k_is)
    (case tv_Slotwise => rfl)
    (case tw_Slotwise => kernel_rfl)
    (case cg_Extended => k_is)
    (case c1_Extended => k_is)
    (case c2_Extended => k_is)
    (case c3_Extended => k_is)
    (case c4_Extended => k_is)
    (case c5_Extended => k_is)
    (case c6_Extended => k_is)
    (case ia_Extended => k_is)
    (case ib_Extended => k_is)
    (case ic_Extended => k_is)
    (case id_Extended => k_is)
    (case ta_Extended => k_is)
    (case tb_Extended => k_is)
    (case tl_Extended => k_is)
    (case tc_Extended => k_is)
    (case tx_Extended => k_is)
    (case tu_Extended => k_is)
    (case tv_Extended => rfl)
    (case tw_Extended => kernel_rfl)
    (case cg_Duals => k_is)
    (case c1_Duals => k_is)
    (case c2_Duals => k_is)
    (case c3_Duals => k_is)
    (case c4_Duals => k_is)
    (case c5_Duals => k_is)
    (case c6_Duals => k_is)
    (case ia_Duals => k_is)
    (case ib_Duals => k_is)
    (case ic_Duals => k_is)
    (case id_Duals => k_is)
    (case no_Duals__parts => k_is)
    (case no_Duals__ones => k_is)
    (case no_Duals__swaps => k_is)
    (case no_Duals__squares => k_is)
    (case no_Duals__bases => k_is)
    (case no_Duals__depth => k_is)
    (case no_Duals__zero => k_is)
    (case no_Duals__one => k_is)
    (case no_Duals__slots => k_is)
    (case no_Duals__marks => k_is)
    (case no_Duals__square => k_is)
    (case no_Duals__base => k_is)
    (case ff0_Duals => k_is)
    (case ff1_Duals => k_is)
    (case ff2_Duals => k_is)
    (case ff3_Duals => k_is)
    (case ff4_Duals => k_is)
    (case ff5_Duals => first | kernel_rfl | rfl)
    (case ta_Duals => k_is)
    (case tb_Duals => k_is)
    (case tm_Duals => k_is)
    (case tk_Duals => k_is)
    (case tl_Duals => k_is)
    (case tc_Duals => k_is)
    (case tx_Duals => k_is)
    (case tu_Duals => k_is)
    (case tv_Duals => rfl)
    (case tw_Duals => kernel_rfl)
    (case cg_Twists => k_is)
    (case c1_Twists => k_is)
    (case c2_Twists => k_is)
    (case c3_Twists => k_is)
    (case c4_Twists => k_is)
    (case c5_Twists => k_is)
    (case c6_Twists => k_is)
    (case ia_Twists => k_is)
    (case ib_Twists => k_is)
    (case ic_Twists => k_is)
    (case id_Twists => k_is)
    (case no_Twists__parts => k_is)
    (case no_Twists__ones => k_is)
    (case no_Twists__swaps => k_is)
    (case no_Twists__squares => k_is)
    (case no_Twists__bases => k_is)
    (case no_Twists__depth => k_is)
    (case no_Twists__zero => k_is)
    (case no_Twists__one => k_is)
    (case no_Twists__part => k_is)
    (case no_Twists__base => k_is)
    (case ff0_Twists => k_is)
    (case ff1_Twists => k_is)
    (case ff2_Twists => k_is)
    (case ff3_Twists => k_is)
    (case ff4_Twists => first | kernel_rfl | rfl)
    (case ma_Twists__share => k_is)
    (case mb_Twists__share => k_is)
    (case l_Twists__share => k_is)
    (case c_Twists__share => k_is)
    (case k_Twists__share => k_is)
    (case ta_Twists => k_is)
    (case tb_Twists => k_is)
    (case tm_Twists => k_is)
    (case tk_Twists => k_is)
    (case tl_Twists => k_is)
    (case tc_Twists => k_is)
    (case tx_Twists => k_is)
    (case tu_Twists => k_is)
    (case tv_Twists => rfl)
    (case tw_Twists => kernel_rfl)
    (case s1_0 => first | kernel_rfl | k_is)
    (case s2_0 => first | kernel_rfl | k_is)
    (case s3_0 => first | k_is | kernel_rfl)
    (case s4_0 => first | k_is | kernel_rfl)
    (case s5_0 => first | k_is | kernel_rfl)
    (case s1_1 => first | kernel_rfl | k_is)
    (case s2_1 => first | kernel_rfl | k_is)
    (case s3_1 => first | k_is | kernel_rfl)
    (case s4_1 => first | k_is | kernel_rfl)
    (case s5_1 => first | k_is | kernel_rfl)
    (case s1_2 => first | kernel_rfl | k_is)
    (case s2_2 => first | kernel_rfl | k_is)
    (case s3_2 => first | k_is | kernel_rfl)
    (case s4_2 => first | k_is | kernel_rfl)
    (case s5_2 => first | k_is | kernel_rfl)
    (case s1_3 => first | kernel_rfl | k_is)
    (case s2_3 => first | kernel_rfl | k_is)
    (case s3_3 => first | k_is | kernel_rfl)
    (case s4_3 => first | k_is | kernel_rfl)
    (case s5_3 => first | k_is | kernel_rfl)
    (case s1_4 => first | kernel_rfl | k_is)
    (case s2_4 => first | kernel_rfl | k_is)
    (case s3_4 => first | k_is | kernel_rfl)
    (case s4_4 => first | k_is | kernel_rfl)
    (case s5_4 => first | k_is | kernel_rfl)
    (case s1_5 => first | kernel_rfl | k_is)
    (case s2_5 => first | kernel_rfl | k_is)
    (case s3_5 => first | k_is | kernel_rfl)
    (case s4_5 => first | k_is | kernel_rfl)
    (case s5_5 => first | k_is | kernel_rfl)
    (case md => k_is)
