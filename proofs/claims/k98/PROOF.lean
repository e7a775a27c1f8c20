
import PyProof.Rows.All
import Wide.All
import OpenK.AllK
import Wide.FinOn
import HandS.ForMost
import HandS.IsInst
import HandS.Walk
import HandS.Wide
import HandS.Codes
import HandS.Gcd
import HandS.Zip
import HandS.ForExc
import HandS.ExcInit
import HandS.ExcSuper
import HandS.ExcField
import HandS.Lambda
import HandS.HotCalls
import HandS.TryMany
import HandS.EndTab
import HandS.ClsMeth
import HandS.Star
import HandS.Property
import HandS.MakeKw
import HandS.MakeKwOnly
import HandS.Conv
import HandS.Sort
import KE.KMathG
import KE.KMathGC
import HandS.EndOwn
import HandS.Deep
import KE.KExcSuper
import KE.KSuper
import KE.KTryMore
import HandS.SortKw
import KE.DataMinMax
import PySem.Challenge.RW_numbertypes_k98_tables_that_are_no_rings
set_option Elab.async false
set_option linter.all false
set_option maxRecDepth 100000
set_option maxHeartbeats 4000000
namespace My
open PySem PySem.Spec PyProof.Rows L2
/-! ### the text by places -/
def topS (i : Nat) : Stmt := PySem.Challenge.pw_numbertypes_k98_tables_that_are_no_rings.main.body.getD i (.Pass ⟨0, 0, 0, 0⟩)
abbrev s__wall : Stmt := topS 1
abbrev N__wall : List Str := ["k"]
theorem sc__wall : FnScope N__wall ["k"] (defScope s__wall) := ⟨rfl, rfl, rfl, by decide +kernel, rfl, by decide +kernel, by decide +kernel⟩
abbrev s_is_int : Stmt := topS 10
abbrev N_is_int : List Str := ["value"]
theorem sc_is_int : FnScope N_is_int ["value"] (defScope s_is_int) := ⟨rfl, rfl, rfl, by decide +kernel, rfl, by decide +kernel, by decide +kernel⟩
abbrev s_is_between : Stmt := topS 11
abbrev N_is_between : List Str := ["value", "least", "most"]
theorem sc_is_between : FnScope N_is_between ["value", "least", "most"] (defScope s_is_between) := ⟨rfl, rfl, rfl, by decide +kernel, rfl, by decide +kernel, by decide +kernel⟩
abbrev s_multiple : Stmt := topS 12
abbrev N_multiple : List Str := ["numbers", "result", "number"]
theorem sc_multiple : FnScope N_multiple ["numbers"] (defScope s_multiple) := ⟨rfl, rfl, rfl, by decide +kernel, rfl, by decide +kernel, by decide +kernel⟩
abbrev s_inverse_modulo : Stmt := topS 13
abbrev N_inverse_modulo : List Str := ["number", "modulus", "before", "now", "far", "near", "times"]
theorem sc_inverse_modulo : FnScope N_inverse_modulo ["number", "modulus"] (defScope s_inverse_modulo) := ⟨rfl, rfl, rfl, by decide +kernel, rfl, by decide +kernel, by decide +kernel⟩
abbrev s_depth_over : Stmt := topS 16
abbrev N_depth_over : List Str := ["bases", "base"]
theorem sc_depth_over : FnScope N_depth_over ["bases"] (defScope s_depth_over) := ⟨rfl, rfl, rfl, by decide +kernel, rfl, by decide +kernel, by decide +kernel⟩
abbrev s_is_table : Stmt := topS 20
abbrev N_is_table : List Str := ["value", "size", "row"]
theorem sc_is_table : FnScope N_is_table ["value", "size"] (defScope s_is_table) := ⟨rfl, rfl, rfl, by decide +kernel, rfl, by decide +kernel, by decide +kernel⟩
abbrev s_is_row : Stmt := topS 21
abbrev N_is_row : List Str := ["value", "size", "entry"]
theorem sc_is_row : FnScope N_is_row ["value", "size"] (defScope s_is_row) := ⟨rfl, rfl, rfl, by decide +kernel, rfl, by decide +kernel, by decide +kernel⟩
abbrev s_has_form : Stmt := topS 22
abbrev N_has_form : List Str := ["plus", "times"]
theorem sc_has_form : FnScope N_has_form ["plus", "times"] (defScope s_has_form) := ⟨rfl, rfl, rfl, by decide +kernel, rfl, by decide +kernel, by decide +kernel⟩
abbrev s_is_commutative : Stmt := topS 23
abbrev N_is_commutative : List Str := ["rows", "places", "x", "y"]
theorem sc_is_commutative : FnScope N_is_commutative ["rows"] (defScope s_is_commutative) := ⟨rfl, rfl, rfl, by decide +kernel, rfl, by decide +kernel, by decide +kernel⟩
abbrev s_is_associative : Stmt := topS 24
abbrev N_is_associative : List Str := ["rows", "places", "x", "y", "z"]
theorem sc_is_associative : FnScope N_is_associative ["rows"] (defScope s_is_associative) := ⟨rfl, rfl, rfl, by decide +kernel, rfl, by decide +kernel, by decide +kernel⟩
abbrev s_neutral : Stmt := topS 25
abbrev N_neutral : List Str := ["rows", "places", "e", "x"]
theorem sc_neutral : FnScope N_neutral ["rows"] (defScope s_neutral) := ⟨rfl, rfl, rfl, by decide +kernel, rfl, by decide +kernel, by decide +kernel⟩
abbrev s_spreads : Stmt := topS 26
abbrev N_spreads : List Str := ["plus", "times", "places", "left", "x", "y", "z", "right"]
theorem sc_spreads : FnScope N_spreads ["plus", "times"] (defScope s_spreads) := ⟨rfl, rfl, rfl, by decide +kernel, rfl, by decide +kernel, by decide +kernel⟩
abbrev s_is_sum : Stmt := topS 27
abbrev N_is_sum : List Str := ["plus", "zero", "row"]
theorem sc_is_sum : FnScope N_is_sum ["plus"] (defScope s_is_sum) := ⟨rfl, rfl, rfl, by decide +kernel, rfl, by decide +kernel, by decide +kernel⟩
abbrev s_check_rules : Stmt := topS 28
abbrev N_check_rules : List Str := ["plus", "times", "one"]
theorem sc_check_rules : FnScope N_check_rules ["plus", "times"] (defScope s_check_rules) := ⟨rfl, rfl, rfl, by decide +kernel, rfl, by decide +kernel, by decide +kernel⟩
abbrev s_l_bag : Stmt := topS 31
abbrev N_l_bag : List Str := ["_law_script", "_law_cells"]
theorem sc_l_bag : FnScope N_l_bag ["_law_script"] (defScope s_l_bag) := ⟨rfl, rfl, rfl, by decide +kernel, rfl, by decide +kernel, by decide +kernel⟩
abbrev s_l_draw : Stmt := topS 32
abbrev N_l_draw : List Str := ["_law_bag_here", "_law_many", "_law_cell", "_law_got_here"]
theorem sc_l_draw : FnScope N_l_draw ["_law_bag_here", "_law_many"] (defScope s_l_draw) := ⟨rfl, rfl, rfl, by decide +kernel, rfl, by decide +kernel, by decide +kernel⟩
abbrev s_l_mixed : Stmt := topS 33
abbrev N_l_mixed : List Str := ["_law_bag_here", "_law_some", "_law_found", "_law_item"]
theorem sc_l_mixed : FnScope N_l_mixed ["_law_bag_here", "_law_some"] (defScope s_l_mixed) := ⟨rfl, rfl, rfl, by decide +kernel, rfl, by decide +kernel, by decide +kernel⟩
abbrev s_l_same : Stmt := topS 34
abbrev N_l_same : List Str := ["_law_found", "_law_due", "_law_a", "_law_b"]
theorem sc_l_same : FnScope N_l_same ["_law_found", "_law_due"] (defScope s_l_same) := ⟨rfl, rfl, rfl, by decide +kernel, rfl, by decide +kernel, by decide +kernel⟩
abbrev s_l_field : Stmt := topS 35
abbrev N_l_field : List Str := ["_law_e"]
theorem sc_l_field : FnScope N_l_field ["_law_e"] (defScope s_l_field) := ⟨rfl, rfl, rfl, by decide +kernel, rfl, by decide +kernel, by decide +kernel⟩
abbrev s_l_got : Stmt := topS 36
abbrev N_l_got : List Str := ["_law_ask", "_law_e"]
theorem sc_l_got : FnScope N_l_got ["_law_ask"] (defScope s_l_got) := ⟨rfl, rfl, rfl, by decide +kernel, rfl, by decide +kernel, by decide +kernel⟩
abbrev s_law : Stmt := topS 37
abbrev N_law : List Str := ["_law_script", "_law_bag_here", "_law_klein", "_law_maps", "_law_back", "_law_y", "_law_x", "_law_turns", "_law_rows", "_law_k", "_law_sums", "_law_products", "_law_rule", "_law_size", "_law_order", "_law_tables", "_law_table", "_law_again", "_law_got_here"]
theorem sc_law : FnScope N_law ["_law_script"] (defScope s_law) := ⟨rfl, rfl, rfl, by decide +kernel, rfl, by decide +kernel, by decide +kernel⟩
abbrev s_InvalidThing_init : Stmt := inClass (topS 5) 0
abbrev s_InvalidTable_init : Stmt := inClass (topS 6) 0
abbrev s_TooMany_init : Stmt := inClass (topS 7) 0
abbrev s_NothingLeft_init : Stmt := inClass (topS 8) 0
abbrev s_Ring_init : Stmt := inClass (topS 15) 2
abbrev s_Ring_ones : Stmt := inClass (topS 15) 3
abbrev s_Ring_swaps : Stmt := inClass (topS 15) 4
abbrev s_Ring_squares : Stmt := inClass (topS 15) 5
abbrev s_Ring_depth : Stmt := inClass (topS 15) 6
abbrev s_Ring_text : Stmt := inClass (topS 15) 7
abbrev s_Ring_has_inverse : Stmt := inClass (topS 15) 8
abbrev s_Ring_size : Stmt := inClass (topS 15) 9
abbrev s_Ring_is_thing : Stmt := inClass (topS 15) 10
abbrev s_Ring_zero : Stmt := inClass (topS 15) 11
abbrev s_Ring_one : Stmt := inClass (topS 15) 12
abbrev s_Ring_plus : Stmt := inClass (topS 15) 13
abbrev s_Ring_minus : Stmt := inClass (topS 15) 14
abbrev s_Ring_product : Stmt := inClass (topS 15) 15
abbrev s_Ring_negative : Stmt := inClass (topS 15) 16
abbrev s_Ring_times : Stmt := inClass (topS 15) 17
abbrev s_Ring_share : Stmt := inClass (topS 15) 18
abbrev s_Ring_square_breaker : Stmt := inClass (topS 15) 19
abbrev s_Ring_swap_breaker : Stmt := inClass (topS 15) 20
abbrev s_Ring_things : Stmt := inClass (topS 15) 21
abbrev s_Ring_eq : Stmt := inClass (topS 15) 22
abbrev s_Ring_repr : Stmt := inClass (topS 15) 23
abbrev s_Ring__check : Stmt := inClass (topS 15) 24
abbrev s_Ring__minus : Stmt := inClass (topS 15) 25
abbrev s_Ring__scaled : Stmt := inClass (topS 15) 26
abbrev s_Ring__swap_samples : Stmt := inClass (topS 15) 27
abbrev s_Table_init : Stmt := inClass (topS 29) 0
abbrev s_Table_rows : Stmt := inClass (topS 29) 1
abbrev s_Table_text : Stmt := inClass (topS 29) 2
abbrev s_Table_size : Stmt := inClass (topS 29) 3
abbrev s_Table_is_thing : Stmt := inClass (topS 29) 4
abbrev s_Table__order : Stmt := inClass (topS 29) 5
abbrev s_Table__numbers : Stmt := inClass (topS 29) 6
abbrev s_Table__difference_order : Stmt := inClass (topS 29) 7
abbrev s_Table__plus : Stmt := inClass (topS 29) 8
abbrev s_Table__product : Stmt := inClass (topS 29) 9
abbrev s_Table__times : Stmt := inClass (topS 29) 10
abbrev s_Table__share : Stmt := inClass (topS 29) 11
abbrev s_Table__listing : Stmt := inClass (topS 29) 12
abbrev s_Table__square_samples : Stmt := inClass (topS 29) 13
abbrev s_Table__swap_samples : Stmt := inClass (topS 29) 14
abbrev N_Ring_init : List Str := ["self", "parts", "numbers", "bases"]
theorem sc_Ring_init : FnScope N_Ring_init ["self", "parts", "numbers", "bases"] (defScope s_Ring_init) := ⟨rfl, rfl, rfl, by decide +kernel, rfl, by decide +kernel, by decide +kernel⟩
abbrev N_Ring_ones : List Str := ["self"]
theorem sc_Ring_ones : FnScope N_Ring_ones ["self"] (defScope s_Ring_ones) := ⟨rfl, rfl, rfl, by decide +kernel, rfl, by decide +kernel, by decide +kernel⟩
abbrev N_Ring_swaps : List Str := ["self"]
theorem sc_Ring_swaps : FnScope N_Ring_swaps ["self"] (defScope s_Ring_swaps) := ⟨rfl, rfl, rfl, by decide +kernel, rfl, by decide +kernel, by decide +kernel⟩
abbrev N_Ring_squares : List Str := ["self"]
theorem sc_Ring_squares : FnScope N_Ring_squares ["self"] (defScope s_Ring_squares) := ⟨rfl, rfl, rfl, by decide +kernel, rfl, by decide +kernel, by decide +kernel⟩
abbrev N_Ring_depth : List Str := ["self"]
theorem sc_Ring_depth : FnScope N_Ring_depth ["self"] (defScope s_Ring_depth) := ⟨rfl, rfl, rfl, by decide +kernel, rfl, by decide +kernel, by decide +kernel⟩
abbrev N_Ring_text : List Str := ["self", "word", "given", "part"]
theorem sc_Ring_text : FnScope N_Ring_text ["self"] (defScope s_Ring_text) := ⟨rfl, rfl, rfl, by decide +kernel, rfl, by decide +kernel, by decide +kernel⟩
abbrev N_Ring_has_inverse : List Str := ["self", "q"]
theorem sc_Ring_has_inverse : FnScope N_Ring_has_inverse ["self", "q"] (defScope s_Ring_has_inverse) := ⟨rfl, rfl, rfl, by decide +kernel, rfl, by decide +kernel, by decide +kernel⟩
abbrev N_Ring_size : List Str := ["self"]
theorem sc_Ring_size : FnScope N_Ring_size ["self"] (defScope s_Ring_size) := ⟨rfl, rfl, rfl, by decide +kernel, rfl, by decide +kernel, by decide +kernel⟩
abbrev N_Ring_is_thing : List Str := ["self", "value"]
theorem sc_Ring_is_thing : FnScope N_Ring_is_thing ["self", "value"] (defScope s_Ring_is_thing) := ⟨rfl, rfl, rfl, by decide +kernel, rfl, by decide +kernel, by decide +kernel⟩
abbrev N_Ring_zero : List Str := ["self"]
theorem sc_Ring_zero : FnScope N_Ring_zero ["self"] (defScope s_Ring_zero) := ⟨rfl, rfl, rfl, by decide +kernel, rfl, by decide +kernel, by decide +kernel⟩
abbrev N_Ring_one : List Str := ["self"]
theorem sc_Ring_one : FnScope N_Ring_one ["self"] (defScope s_Ring_one) := ⟨rfl, rfl, rfl, by decide +kernel, rfl, by decide +kernel, by decide +kernel⟩
abbrev N_Ring_plus : List Str := ["self", "x", "y"]
theorem sc_Ring_plus : FnScope N_Ring_plus ["self", "x", "y"] (defScope s_Ring_plus) := ⟨rfl, rfl, rfl, by decide +kernel, rfl, by decide +kernel, by decide +kernel⟩
abbrev N_Ring_minus : List Str := ["self", "x", "y"]
theorem sc_Ring_minus : FnScope N_Ring_minus ["self", "x", "y"] (defScope s_Ring_minus) := ⟨rfl, rfl, rfl, by decide +kernel, rfl, by decide +kernel, by decide +kernel⟩
abbrev N_Ring_product : List Str := ["self", "x", "y"]
theorem sc_Ring_product : FnScope N_Ring_product ["self", "x", "y"] (defScope s_Ring_product) := ⟨rfl, rfl, rfl, by decide +kernel, rfl, by decide +kernel, by decide +kernel⟩
abbrev N_Ring_negative : List Str := ["self", "x"]
theorem sc_Ring_negative : FnScope N_Ring_negative ["self", "x"] (defScope s_Ring_negative) := ⟨rfl, rfl, rfl, by decide +kernel, rfl, by decide +kernel, by decide +kernel⟩
abbrev N_Ring_times : List Str := ["self", "k", "x"]
theorem sc_Ring_times : FnScope N_Ring_times ["self", "k", "x"] (defScope s_Ring_times) := ⟨rfl, rfl, rfl, by decide +kernel, rfl, by decide +kernel, by decide +kernel⟩
abbrev N_Ring_share : List Str := ["self", "p", "q"]
theorem sc_Ring_share : FnScope N_Ring_share ["self", "p", "q"] (defScope s_Ring_share) := ⟨rfl, rfl, rfl, by decide +kernel, rfl, by decide +kernel, by decide +kernel⟩
abbrev N_Ring_square_breaker : List Str := ["self", "k"]
theorem sc_Ring_square_breaker : FnScope N_Ring_square_breaker ["self", "k"] (defScope s_Ring_square_breaker) := ⟨rfl, rfl, rfl, by decide +kernel, rfl, by decide +kernel, by decide +kernel⟩
abbrev N_Ring_swap_breaker : List Str := ["self", "k"]
theorem sc_Ring_swap_breaker : FnScope N_Ring_swap_breaker ["self", "k"] (defScope s_Ring_swap_breaker) := ⟨rfl, rfl, rfl, by decide +kernel, rfl, by decide +kernel, by decide +kernel⟩
abbrev N_Ring_things : List Str := ["self", "size"]
abbrev N_Ring_eq : List Str := ["self", "other"]
theorem sc_Ring_eq : FnScope N_Ring_eq ["self", "other"] (defScope s_Ring_eq) := ⟨rfl, rfl, rfl, by decide +kernel, rfl, by decide +kernel, by decide +kernel⟩
abbrev N_Ring_repr : List Str := ["self"]
theorem sc_Ring_repr : FnScope N_Ring_repr ["self"] (defScope s_Ring_repr) := ⟨rfl, rfl, rfl, by decide +kernel, rfl, by decide +kernel, by decide +kernel⟩
abbrev N_Ring__check : List Str := ["self", "given", "value"]
theorem sc_Ring__check : FnScope N_Ring__check ["self", "given"] (defScope s_Ring__check) := ⟨rfl, rfl, rfl, by decide +kernel, rfl, by decide +kernel, by decide +kernel⟩
abbrev N_Ring__minus : List Str := ["self", "x", "y"]
theorem sc_Ring__minus : FnScope N_Ring__minus ["self", "x", "y"] (defScope s_Ring__minus) := ⟨rfl, rfl, rfl, by decide +kernel, rfl, by decide +kernel, by decide +kernel⟩
abbrev N_Ring__scaled : List Str := ["self", "p", "q", "x"]
theorem sc_Ring__scaled : FnScope N_Ring__scaled ["self", "p", "q", "x"] (defScope s_Ring__scaled) := ⟨rfl, rfl, rfl, by decide +kernel, rfl, by decide +kernel, by decide +kernel⟩
abbrev N_Ring__swap_samples : List Str := ["self"]
theorem sc_Ring__swap_samples : FnScope N_Ring__swap_samples ["self"] (defScope s_Ring__swap_samples) := ⟨rfl, rfl, rfl, by decide +kernel, rfl, by decide +kernel, by decide +kernel⟩
abbrev N_Table_init : List Str := ["self", "plus", "times", "row", "x"]
abbrev N_Table_rows : List Str := ["self", "row"]
theorem sc_Table_rows : FnScope N_Table_rows ["self"] (defScope s_Table_rows) := ⟨rfl, rfl, rfl, by decide +kernel, rfl, by decide +kernel, by decide +kernel⟩
abbrev N_Table_text : List Str := ["self"]
theorem sc_Table_text : FnScope N_Table_text ["self"] (defScope s_Table_text) := ⟨rfl, rfl, rfl, by decide +kernel, rfl, by decide +kernel, by decide +kernel⟩
abbrev N_Table_size : List Str := ["self"]
theorem sc_Table_size : FnScope N_Table_size ["self"] (defScope s_Table_size) := ⟨rfl, rfl, rfl, by decide +kernel, rfl, by decide +kernel, by decide +kernel⟩
abbrev N_Table_is_thing : List Str := ["self", "value"]
theorem sc_Table_is_thing : FnScope N_Table_is_thing ["self", "value"] (defScope s_Table_is_thing) := ⟨rfl, rfl, rfl, by decide +kernel, rfl, by decide +kernel, by decide +kernel⟩
abbrev N_Table__order : List Str := ["self", "x", "h", "total"]
theorem sc_Table__order : FnScope N_Table__order ["self", "x"] (defScope s_Table__order) := ⟨rfl, rfl, rfl, by decide +kernel, rfl, by decide +kernel, by decide +kernel⟩
abbrev N_Table__numbers : List Str := ["self", "places", "products", "swaps", "x", "y", "squares"]
theorem sc_Table__numbers : FnScope N_Table__numbers ["self"] (defScope s_Table__numbers) := ⟨rfl, rfl, rfl, by decide +kernel, rfl, by decide +kernel, by decide +kernel⟩
abbrev N_Table__difference_order : List Str := ["self", "x", "y"]
theorem sc_Table__difference_order : FnScope N_Table__difference_order ["self", "x", "y"] (defScope s_Table__difference_order) := ⟨rfl, rfl, rfl, by decide +kernel, rfl, by decide +kernel, by decide +kernel⟩
abbrev N_Table__plus : List Str := ["self", "x", "y"]
theorem sc_Table__plus : FnScope N_Table__plus ["self", "x", "y"] (defScope s_Table__plus) := ⟨rfl, rfl, rfl, by decide +kernel, rfl, by decide +kernel, by decide +kernel⟩
abbrev N_Table__product : List Str := ["self", "x", "y"]
theorem sc_Table__product : FnScope N_Table__product ["self", "x", "y"] (defScope s_Table__product) := ⟨rfl, rfl, rfl, by decide +kernel, rfl, by decide +kernel, by decide +kernel⟩
abbrev N_Table__times : List Str := ["self", "k", "x", "total", "_"]
theorem sc_Table__times : FnScope N_Table__times ["self", "k", "x"] (defScope s_Table__times) := ⟨rfl, rfl, rfl, by decide +kernel, rfl, by decide +kernel, by decide +kernel⟩
abbrev N_Table__share : List Str := ["self", "p", "q"]
theorem sc_Table__share : FnScope N_Table__share ["self", "p", "q"] (defScope s_Table__share) := ⟨rfl, rfl, rfl, by decide +kernel, rfl, by decide +kernel, by decide +kernel⟩
abbrev N_Table__listing : List Str := ["self"]
theorem sc_Table__listing : FnScope N_Table__listing ["self"] (defScope s_Table__listing) := ⟨rfl, rfl, rfl, by decide +kernel, rfl, by decide +kernel, by decide +kernel⟩
abbrev N_Table__square_samples : List Str := ["self"]
theorem sc_Table__square_samples : FnScope N_Table__square_samples ["self"] (defScope s_Table__square_samples) := ⟨rfl, rfl, rfl, by decide +kernel, rfl, by decide +kernel, by decide +kernel⟩
abbrev N_Table__swap_samples : List Str := ["self", "x", "y"]
theorem sc_Table__swap_samples : FnScope N_Table__swap_samples ["self"] (defScope s_Table__swap_samples) := ⟨rfl, rfl, rfl, by decide +kernel, rfl, by decide +kernel, by decide +kernel⟩
structure Blt (mg : Str → Option Value) : Prop where
  IndexError : mg "IndexError" = none
  LookupError : mg "LookupError" = none
  ValueError : mg "ValueError" = none
  abs : mg "abs" = none
  all : mg "all" = none
  bool : mg "bool" = none
  int : mg "int" = none
  isinstance : mg "isinstance" = none
  len : mg "len" = none
  list : mg "list" = none
  max : mg "max" = none
  range : mg "range" = none
  str : mg "str" = none
  tuple : mg "tuple" = none
  zip : mg "zip" = none
theorem bb_IndexError : bootBuiltins "IndexError" = some (.type "IndexError") := by decide +kernel
theorem bb_LookupError : bootBuiltins "LookupError" = some (.type "LookupError") := by decide +kernel
theorem bb_ValueError : bootBuiltins "ValueError" = some (.type "ValueError") := by decide +kernel
theorem bb_abs : bootBuiltins "abs" = some (.builtin "abs") := by decide +kernel
theorem bb_all : bootBuiltins "all" = some (.builtin "all") := by decide +kernel
theorem bb_bool : bootBuiltins "bool" = some (.type "bool") := by decide +kernel
theorem bb_int : bootBuiltins "int" = some (.type "int") := by decide +kernel
theorem bb_isinstance : bootBuiltins "isinstance" = some (.builtin "isinstance") := by decide +kernel
theorem bb_len : bootBuiltins "len" = some (.builtin "len") := by decide +kernel
theorem bb_list : bootBuiltins "list" = some (.type "list") := by decide +kernel
theorem bb_max : bootBuiltins "max" = some (.builtin "max") := by decide +kernel
theorem bb_range : bootBuiltins "range" = some (.type "range") := by decide +kernel
theorem bb_str : bootBuiltins "str" = some (.type "str") := by decide +kernel
theorem bb_tuple : bootBuiltins "tuple" = some (.type "tuple") := by decide +kernel
theorem bb_zip : bootBuiltins "zip" = some (.type "zip") := by decide +kernel
/-! ### an own def by its name -/
structure Has (P : Program) (w : World) (K : PySem.W.Frag) (mg : Str → Option Value) (base : Heap) (k : Nat) (x : Str) (ps : List Str) (sp : Sp) : Prop where
  ex : ∃ (f : Addr) (fd : FuncData), FnOk P w K mg base CX0 k f fd ps sp ∧ mg x = some (.ref f) ∧ PySem.W.keepIn K (.ref f) = true ∧ Binds K fd ps []
structure Fn (K : PySem.W.Frag) (mg : Str → Option Value) (x : Str) (st : Stmt) (ps : List Str) : Prop where
  ex : ∃ (f : Addr) (fd : FuncData), Fun K x x st f fd ∧ mg x = some (.ref f) ∧ Binds K fd ps []
section
variable {X : Cx} {k : Nat} {x : Str} {ps : List Str} {sp : Sp} {p pos : Pos} {e : Expr} {es : List Expr} {t : TA}
theorem pe_own (h : Has X.prog X.w X.K X.mg X.base k x ps sp) (hr : Room k X.A) (hg : Gl X x) (ha : PA X (e :: es) t) (hdb : (x == ("__debug__" : Str)) = false := by decide)
    (he : starEach (e :: es) X.env = (false, eval e X.env) :: starEach es X.env := by rfl) (hpl : (backTo pos (starEach es X.env)).any (·.1) = false := by rfl) : PE X (.Call (.Name x p) (e :: es) [] pos) (tCall sp [] E0 t) := by
  obtain ⟨f, fd, F, m, kp, b⟩ := h.ex
  exact pe_call F hr hg m kp b .nil pass0 ha hdb he hpl
theorem pe_own0 (h : Has X.prog X.w X.K X.mg X.base k x ps sp) (hr : Room k X.A) (hg : Gl X x) (hdb : (x == ("__debug__" : Str)) = false := by decide) : PE X (.Call (.Name x p) [] [] pos) (tCall sp [] E0 tNil) := by
  obtain ⟨f, fd, F, m, kp, b⟩ := h.ex
  exact pe_call0 F hr hg m kp b .nil pass0 hdb
theorem pe_gstr {z : Str} (h : ∃ u, X.mg x = some (.str z u)) (hg : Gl X x) (hdb : (x == ("__debug__" : Str)) = false := by decide) : PE X (.Name x pos) (tC (.str z)) := by
  obtain ⟨u, h⟩ := h
  exact pe_glob hg h ⟨_, rfl⟩ hdb
theorem pe_gint {z : Int} (h : ∃ u, X.mg x = some (.int z u)) (hg : Gl X x) (hdb : (x == ("__debug__" : Str)) = false := by decide) : PE X (.Name x pos) (tC (.int z)) := by
  obtain ⟨u, h⟩ := h
  exact pe_glob hg h ⟨_, rfl⟩ hdb
theorem pe_gref {a : Addr} (h : X.mg x = some (.ref a)) (hg : Gl X x) (hdb : (x == ("__debug__" : Str)) = false := by decide) : PE X (.Name x pos) (tC (.ref a)) := pe_glob hg h rfl hdb
end
section
variable {P : Program} {w : World} {K : PySem.W.Frag} {mg : Str → Option Value} {base : Heap}
theorem Fn.has {x : Str} {st : Stmt} {N ps : List Str} {k : Nat} {sp : Sp} (F : Fn K mg x st ps) (S : FnScope N ps (defScope st)) (len : ∀ vs H Q E, sp vs H Q E → vs.length = ps.length)
    (hbody : ∀ (f : Addr) (cdv : Value) (A : Around) (outer : List Env) (s : Shared) (H : Hp) (vs : List V) (Q : VK) (E : XK), Room k (A.deeper (envOfC x (defScope st) s.heap.objs.size f cdv)) → sp vs H Q E →
      ∃ t, PSs (cxOf CX0 P w K mg base N x (defScope st) f cdv A outer s H E).nox (defBody st) t ∧ t { nx := fun _ H' => Q .non H', rt := Q } (start N vs) H) : Has P w K mg base (k + 1) x ps sp := by
  obtain ⟨f, fd, F, m, b⟩ := F.ex
  exact ⟨f, fd, F.ok S len (hbody f), m, F.kp, b⟩
end
/-! ### heaps -/
theorem same_upd {H : Hp} {p : Addr} {o : HO} (h : H p = none) : Same H (upd H p o) := fun b x e => by
  rw [upd_ne (ne_of_none e h)]
  exact e
/-- all that was tracked is as it was, but for b -/
def Kp (b : Addr) (H H' : Hp) : Prop := ∀ a o, a ≠ b → H a = some o → H' a = some o
theorem Kp.refl (b : Addr) (H : Hp) : Kp b H H := fun _ _ _ h => h
theorem Kp.trans {b : Addr} {H H1 H2 : Hp} (x : Kp b H H1) (y : Kp b H1 H2) : Kp b H H2 := fun a o n h => y a o n (x a o n h)
theorem Kp.of {b : Addr} {H H' : Hp} (s : Same H H') : Kp b H H' := fun a o _ h => s a o h
theorem Kp.upd {b : Addr} {H : Hp} {o : HO} : Kp b H (upd H b o) := fun a u n h => by rw [upd_ne n]; exact h
/-! ### the bag -/
structure BgAt (H : Hp) (b c : Addr) (ns : List Int) (i r m : Int) : Prop where
  hb : H b = some (.lst [.ref c, .int i, .int r, .int m])
  hc : H c = some (.lst (ns.map V.int))
  len : ns.length ≤ 63
  i0 : 0 ≤ i
  r0 : 0 ≤ r
  m0 : 0 ≤ m
  m1 : m < 2147483648
def Bg (H : Hp) (b c : Addr) : Prop := ∃ ns i r m, BgAt H b c ns i r m
theorem bg_ne {H : Hp} {b c : Addr} {x : V} {r : List V} {ns : List Int} {a : Addr} (hb : H b = some (.lst (.ref a :: r))) (hc : H c = some (.lst (ns.map V.int))) : c ≠ b := by
  refine ne_of hc hb fun e => ?_
  cases ns with
  | nil => cases e
  | cons n t => cases e
theorem BgAt.ne {H : Hp} {b c : Addr} {ns : List Int} {i r m : Int} (h : BgAt H b c ns i r m) : c ≠ b := bg_ne (x := .non) h.hb h.hc
theorem BgAt.put {H : Hp} {b c : Addr} {ns : List Int} {i r m i' r' m' : Int} (h : BgAt H b c ns i r m) (i0 : 0 ≤ i') (r0 : 0 ≤ r') (m0 : 0 ≤ m') (m1 : m' < 2147483648) :
    BgAt (upd H b (.lst [.ref c, .int i', .int r', .int m'])) b c ns i' r' m' := ⟨upd_same, by rw [upd_ne h.ne]; exact h.hc, h.len, i0, r0, m0, m1⟩
theorem Bg.same {H H' : Hp} {b c : Addr} (h : Bg H b c) (s : Same H H') : Bg H' b c := by
  obtain ⟨ns, i, r, m, h⟩ := h
  exact ⟨ns, i, r, m, s _ _ h.hb, s _ _ h.hc, h.len, h.i0, h.r0, h.m0, h.m1⟩
theorem Bg.kp {H H' : Hp} {b c d : Addr} (h : Bg H b c) (hd : d ≠ b) (hc : d ≠ c) (s : Kp d H H') : Bg H' b c := by
  obtain ⟨ns, i, r, m, h⟩ := h
  exact ⟨ns, i, r, m, s _ _ hd.symm h.hb, s _ _ hc.symm h.hc, h.len, h.i0, h.r0, h.m0, h.m1⟩
theorem cut63 {xs : List V} (h : xs.length ≤ 63) : cutV xs none (some 63) = xs := by
  unfold cutV
  rw [HT.sIx_none, show HT.sIx xs.length xs.length (some 63) = min 63 xs.length from HT.sIx_nat xs.length xs.length 63, List.drop_zero, Nat.sub_zero]
  exact List.take_of_length_le (by omega)
theorem at_ofG {α : Type} {xs : List α} {z : Int} {j : Nat} {v : α} (e : z = (j : Int)) (h : xs[j]? = some v) : atI xs z = some v := by
  rw [e]
  exact atI_nat h
def spBag (K : PySem.W.Frag) : Sp := fun vs H Q _ => ∃ (a : Addr) (ns : List Int), vs = [.ref a] ∧ SqL K H a (ns.map V.int) ∧ ns.length ≤ 63 ∧ ∀ (b c : Addr) (H' : Hp), Same H H' → H b = none → Bg H' b c → Q (.ref b) H'
def spDraw : Sp := fun vs H Q _ => ∃ (b c : Addr) (many : Int), vs = [.ref b, .int many] ∧ Bg H b c ∧ 1 ≤ many ∧ many < 2 ^ 200 ∧ ∀ (v : Int) (H' : Hp), 0 ≤ v → v < many → Kp b H H' → Bg H' b c → Q (.int v) H'
section
variable {P : Program} {w : World} {K : PySem.W.Frag} {mg : Str → Option Value} {base : Heap}
theorem ok_bag (F : Fn K mg "_law_bag" s_l_bag ["_law_script"]) (B : Blt mg) : Has P w K mg base 1 "_law_bag" ["_law_script"] (spBag K) := by
  refine F.has sc_l_bag (fun vs H Q E h => ?_) (fun f cdv A outer s H vs Q E hr h => ?_)
  · obtain ⟨a, ns, rfl, _⟩ := h
    rfl
  obtain ⟨a, ns, rfl, hS, hl, q⟩ := h
  refine ⟨_, (pss_cons (ps_set (i := 1) sc_l_bag.nd rfl (Or.inl rfl) (pe_callTy call_list_of (by rfl) B.list bb_list (pa_cons (pe_slice sl_list (pv 0) po_none (po_some pe_int)) pa_nil)))
      (pss_one (ps_ret (pe_lst (pa_cons (pv 1) (pa_cons pe_int (pa_cons pe_int (pa_cons (pe_op op_add pe_int (pe_op op_mul pe_int (pe_callB call_len (by rfl) B.len bb_len (pa_cons (pv 1) pa_nil)))) pa_nil)))))))), ?_⟩
  have hl' : (ns.map V.int).length ≤ 63 := by rw [List.length_map]; exact hl
  refine ⟨_, rfl, 63, rfl, a, _, rfl, hS, fun p hp => ?_⟩
  rw [cut63 hl']
  refine ⟨p, _, rfl, .inl (SqL.of upd_same), fun c hc => ?_⟩
  have sm : Same H (upd (upd H p (.lst (ns.map V.int))) c (.lst (ns.map V.int))) := (same_upd hp).trans (same_upd hc)
  refine ⟨_, rfl, _, rfl, .ref c, _, rfl, .inl ⟨_, SqL.of upd_same, rfl⟩, _, _, rfl, rfl, .inl ⟨by decide, by decide⟩, _, _, rfl, rfl, (by show 4 ≤ sizeLine; decide), fun b hb => ?_⟩
  refine q b c _ (sm.trans (same_upd hb)) (sm.free hb) ⟨ns, 0, 0, _, upd_same, ?_, hl, Int.le_refl _, Int.le_refl _, ?_, ?_⟩
  · rw [upd_ne (ne_of_none upd_same hb)]
    exact upd_same
  · omega
  · rw [List.length_map]
    omega
theorem div200 {y z : Int} (h : 1 ≤ z) (h2 : z < 2 ^ 200) : CDivW y z := by
  refine wide_div (b := 200) (by omega) ?_ (by decide) (by decide)
  omega
theorem ok_draw (F : Fn K mg "_law_draw" s_l_draw ["_law_bag_here", "_law_many"]) (B : Blt mg) : Has P w K mg base 1 "_law_draw" ["_law_bag_here", "_law_many"] spDraw := by
  refine F.has sc_l_draw (fun vs H Q E h => ?_) (fun f cdv A outer s H vs Q E hr h => ?_)
  · obtain ⟨a, c, ns, rfl, _⟩ := h
    rfl
  obtain ⟨b, c, many, rfl, hB, h1, h2, q⟩ := h
  refine ⟨_, (C8.pss_cut (ps_if (PW.pt (pw_and (pt_cmpR op_eq (pe_ix ix_list (pv 0) pe_int (fun _ _ => rfl)) pe_int (nomark _)) (pw_and1 (pt_cmpR op_lt (pe_ix ix_list (pv 0) pe_int (fun _ _ => rfl)) (pe_callB call_len (by rfl) B.len bb_len (pa_cons (pe_ix ix_list (pv 0) pe_int (fun _ _ => rfl)) pa_nil)) (nomark _)))))
        (pss_cons (ps_set (i := 2) sc_l_draw.nd rfl (Or.inl rfl) (pe_ix ix_list (pe_ix ix_list (pv 0) pe_int (fun _ _ => rfl)) (pe_ix ix_list (pv 0) pe_int (fun _ _ => rfl)) (fun _ _ => rfl)))
      (pss_cons (ps_asg (pe_op op_add (pe_ix ix_list (pv 0) pe_int (fun _ _ => rfl)) pe_int) (pg_sub (pv 0) pe_int set_list))
      (pss_one (ps_if (pt_cmpR op_ge (pe_callB call_abs (by rfl) B.abs bb_abs (pa_cons (pv 2) pa_nil)) (pe_op op_pow pe_int pe_int) (nomark _))
        (pss_one (ps_asg (pe_callB call_abs (by rfl) B.abs bb_abs (pa_cons (pv 2) pa_nil)) (pg_sub (pv 0) pe_int set_list)))
        (pss_one (ps_asg (pe_op op_mod (pe_callTy call_int1 (by rfl) B.int bb_int (pa_cons (pe_op op_add (pe_op op_add (pe_op op_mul (pe_ix ix_list (pv 0) pe_int (fun _ _ => rfl)) pe_int) (pe_op op_mul (pe_op op_mod (pe_callTy call_int1 (by rfl) B.int bb_int (pa_cons (pv 2) pa_nil)) pe_int) pe_int)) pe_int) pa_nil)) pe_int) (pg_sub (pv 0) pe_int set_list)))))))
        pss_nil)
      (pss_cons (ps_if (pt_cmpR op_gt (pe_ix ix_list (pv 0) pe_int (fun _ _ => rfl)) pe_int (nomark _))
        (pss_cons (ps_set (i := 3) sc_l_draw.nd rfl (Or.inl rfl) (pe_op op_mod (pe_callTy call_int1 (by rfl) B.int bb_int (pa_cons (pe_ix ix_list (pv 0) pe_int (fun _ _ => rfl)) pa_nil)) (pv 1)))
      (pss_cons (ps_asg (pe_op op_fdivW (pe_ix ix_list (pv 0) pe_int (fun _ _ => rfl)) (pv 1)) (pg_sub (pv 0) pe_int set_list))
      (pss_one (ps_ret (pv 3)))))
        pss_nil)
      (pss_cons (ps_asg (pe_op op_mod (pe_callTy call_int1 (by rfl) B.int bb_int (pa_cons (pe_op op_add (pe_op op_add (pe_op op_mul (pe_op op_mul (pe_ix ix_list (pv 0) pe_int (fun _ _ => rfl)) (pe_ix ix_list (pv 0) pe_int (fun _ _ => rfl))) pe_int) (pe_op op_mul (pe_ix ix_list (pv 0) pe_int (fun _ _ => rfl)) pe_int)) pe_int) pa_nil)) pe_int) (pg_sub (pv 0) pe_int set_list))
      (pss_one (ps_ret (pe_op op_mod (pe_callTy call_int1 (by rfl) B.int bb_int (pa_cons (pe_op op_fdiv (pe_ix ix_list (pv 0) pe_int (fun _ _ => rfl)) pe_int) pa_nil)) (pv 1))))))), ?_⟩
  refine ⟨fun σ' H' => ∃ y, σ' = [some (.ref b), some (.int many), y, none] ∧ Kp b H H' ∧ Bg H' b c, ?_, ?_⟩
  · obtain ⟨ns, i, r, m, g⟩ := hB
    refine ⟨_, rfl, b, _, 2, _, rfl, rfl, SqL.of g.hb, atI_nat (j := 2) rfl, rfl, _, rfl, ite2 (fun e => ?_) (fun e => ?_)⟩
    · refine ⟨_, rfl, b, _, 1, _, rfl, rfl, SqL.of g.hb, atI_nat (j := 1) rfl, _, rfl, b, _, 0, _, rfl, rfl, SqL.of g.hb, atI_nat (j := 0) rfl, .ref c, _, rfl, .inl ⟨_, SqL.of g.hc, rfl⟩, _, _, rfl, rfl, _, rfl, ite2 (fun e2 => ?_) (fun e2 => ?_)⟩
      · have hi : i < ((ns.map V.int).length : Int) := of_decide_eq_true e2
        rw [List.length_map] at hi
        have i0 := g.i0
        obtain ⟨x, hx⟩ : ∃ x : Int, atI (ns.map V.int) i = some (.int x) := by
          have hk : i.toNat < ns.length := by omega
          have ek : i = ((i.toNat : Nat) : Int) := by omega
          exact ⟨ns[i.toNat], at_of ek (by rw [List.getElem?_map]; simp [hk])⟩
        refine ⟨_, rfl, b, _, 0, _, rfl, rfl, SqL.of g.hb, atI_nat (j := 0) rfl, _, rfl, b, _, 1, _, rfl, rfl, SqL.of g.hb, atI_nat (j := 1) rfl, c, _, i, .int x, rfl, rfl, SqL.of g.hc, hx, ?_⟩
        refine ⟨_, rfl, b, _, 1, _, rfl, rfl, SqL.of g.hb, atI_nat (j := 1) rfl, _, _, rfl, rfl, _, rfl, b, _, 1, 1, rfl, rfl, g.hb, rfl, ?_⟩
        have g1 := g.put (i' := i + 1) (r' := r) (m' := m) (by omega) g.r0 g.m0 g.m1
        refine ⟨_, rfl, x, rfl, _, _, rfl, rfl, ⟨by decide, by decide, by decide⟩, _, _, rfl, rfl, _, rfl, ite2 (fun e3 => ?_) (fun e3 => ?_)⟩
        · refine ⟨_, rfl, x, rfl, _, rfl, b, _, 2, 2, rfl, rfl, g1.hb, rfl, ?_⟩
          refine ⟨_, rfl, Kp.upd.trans Kp.upd, ns, i + 1, _, m, g1.put g1.i0 ?_ g1.m0 g1.m1⟩
          split <;> omega
        · refine ⟨_, rfl, b, _, 3, _, rfl, rfl, SqL.of g1.hb, atI_nat (j := 3) rfl, _, _, rfl, rfl, .inr ⟨by decide, by decide⟩, _, rfl, .inl ⟨_, rfl, _, _, rfl, rfl, (show (0 : Int) < 1000171 by decide), _, _, rfl, rfl, .inr ⟨by decide, by decide⟩, _, _, rfl, rfl, _, _, rfl, rfl, .inl ⟨_, rfl, _, _, rfl, rfl, (show (0 : Int) < 2147483563 by decide), _, rfl, b, _, 3, 3, rfl, rfl, g1.hb, rfl, ?_⟩⟩⟩
          refine ⟨_, rfl, Kp.upd.trans Kp.upd, ns, i + 1, r, _, g1.put g1.i0 g1.r0 (Int.emod_nonneg _ (by decide)) ?_⟩
          have z := Int.emod_lt_of_pos (m * 41177 + x % 1000171 * 907 + 59) (show (0 : Int) < 2147483563 by decide)
          omega
      · exact ⟨_, rfl, Kp.refl _ _, ns, i, r, m, g⟩
    · exact ⟨_, rfl, Kp.refl _ _, ns, i, r, m, g⟩
  · rintro σ' H' ⟨y, rfl, kp, ns, i, r, m, g⟩
    refine ⟨_, rfl, b, _, 2, _, rfl, rfl, SqL.of g.hb, atI_nat (j := 2) rfl, _, _, rfl, rfl, _, rfl, ite2 (fun e => ?_) (fun e => ?_)⟩
    · have hm : 0 < many := by omega
      refine ⟨_, rfl, b, _, 2, _, rfl, rfl, SqL.of g.hb, atI_nat (j := 2) rfl, .inl ⟨_, rfl, _, rfl, _, _, rfl, rfl, hm, ?_⟩⟩
      refine ⟨_, rfl, b, _, 2, _, rfl, rfl, SqL.of g.hb, atI_nat (j := 2) rfl, _, rfl, _, _, rfl, rfl, div200 h1 h2, _, rfl, b, _, 2, 2, rfl, rfl, g.hb, rfl, ?_⟩
      have g1 := g.put (i' := i) (r' := r / many) (m' := m) g.i0 (Int.ediv_nonneg g.r0 (by omega)) g.m0 g.m1
      refine ⟨_, rfl, q _ _ (Int.emod_nonneg _ (by omega)) (Int.emod_lt_of_pos _ hm) (kp.trans Kp.upd) ⟨ns, i, _, m, g1⟩⟩
    · refine ⟨_, rfl, b, _, 3, _, rfl, rfl, SqL.of g.hb, atI_nat (j := 3) rfl, _, rfl, b, _, 3, _, rfl, rfl, SqL.of g.hb, atI_nat (j := 3) rfl, _, _, rfl, rfl, ?_, ?_⟩
      · have h3 := g.m0
        have h4 := g.m1
        exact .inl ⟨by omega, by omega⟩
      · refine ⟨_, _, rfl, rfl, .inr ⟨by decide, by decide⟩, _, rfl, b, _, 3, _, rfl, rfl, SqL.of g.hb, atI_nat (j := 3) rfl, _, _, rfl, rfl, .inr ⟨by decide, by decide⟩, _, _, rfl, rfl, _, _, rfl, rfl, .inl ⟨_, rfl, _, _, rfl, rfl, (show (0 : Int) < 2147483579 by decide), _, rfl, b, _, 3, 3, rfl, rfl, g.hb, rfl, ?_⟩⟩
        have z := Int.emod_lt_of_pos (m * m * 3 + m * 30089 + 1700047) (show (0 : Int) < 2147483579 by decide)
        have g1 := g.put (i' := i) (r' := r) (m' := (m * m * 3 + m * 30089 + 1700047) % 2147483579) g.i0 g.r0 (Int.emod_nonneg _ (by decide)) (by omega)
        have hm : 0 < many := by omega
        refine ⟨_, rfl, b, _, 3, _, rfl, rfl, SqL.of g1.hb, atI_nat (j := 3) rfl, _, _, rfl, rfl, ⟨by decide, by decide⟩, .inl ⟨_, rfl, _, rfl, _, _, rfl, rfl, hm, ?_⟩⟩
        exact q _ _ (Int.emod_nonneg _ (by omega)) (Int.emod_lt_of_pos _ hm) (kp.trans Kp.upd) ⟨ns, i, r, _, g1⟩
/-- an item of some list or sign of some text, by a draw -/
def spPick (K : PySem.W.Frag) : Sp := fun vs H Q _ => ∃ (b c : Addr) (x : V), vs = [.ref b, x] ∧ Bg H b c ∧
  ((∃ (a : Addr) (xs : List V), x = .ref a ∧ a ≠ b ∧ H a = some (.lst xs) ∧ xs ≠ [] ∧ xs.length ≤ 1000 ∧ ∀ (v : V) (H' : Hp), v ∈ xs → Kp b H H' → Bg H' b c → Q v H') ∨
   (∃ z : Str, x = .str z ∧ 0 < z.cps.size ∧ z.cps.size ≤ 1000 ∧ ∀ (d : Nat) (H' : Hp), d ∈ z.cps.toList → Kp b H H' → Bg H' b c → Q (.str ⟨#[d]⟩) H'))
end
/-! ### the same data -/
def leafV : V → Prop
  | .non => True
  | .bl _ => True
  | .int _ => True
  | .str _ => True
  | _ => False
/-- two values that stand for the same data, so deep at most -/
def Eqd (H : Hp) : Nat → V → V → Prop
  | 0 => fun _ _ => False
  | n + 1 => fun x y => (x = y ∧ leafV x) ∨
    (∃ (a b : Addr) (xs ys : List V), x = .ref a ∧ y = .ref b ∧ H a = some (.lst xs) ∧ H b = some (.lst ys) ∧ xs.length ≤ 1000 ∧ Paired (Eqd H n) xs ys) ∨
    (∃ (a b : Addr) (xs ys : List V), x = .ref a ∧ y = .ref b ∧ H a = some (.tup xs) ∧ H b = some (.tup ys) ∧ xs.length ≤ 1000 ∧ Paired (Eqd H n) xs ys)
theorem Eqd.leaf {H : Hp} {n : Nat} {x : V} (h : leafV x) : Eqd H (n + 1) x x := .inl ⟨rfl, h⟩
theorem Eqd.lst {H : Hp} {n : Nat} {a b : Addr} {xs ys : List V} (ha : H a = some (.lst xs)) (hb : H b = some (.lst ys)) (hl : xs.length ≤ 1000) (h : Paired (Eqd H n) xs ys) : Eqd H (n + 1) (.ref a) (.ref b) := .inr (.inl ⟨a, b, xs, ys, rfl, rfl, ha, hb, hl, h⟩)
theorem Eqd.tup {H : Hp} {n : Nat} {a b : Addr} {xs ys : List V} (ha : H a = some (.tup xs)) (hb : H b = some (.tup ys)) (hl : xs.length ≤ 1000) (h : Paired (Eqd H n) xs ys) : Eqd H (n + 1) (.ref a) (.ref b) := .inr (.inr ⟨a, b, xs, ys, rfl, rfl, ha, hb, hl, h⟩)
theorem Eqd.mono {H H' : Hp} (s : Same H H') : ∀ {n : Nat} {x y : V}, Eqd H n x y → Eqd H' n x y
  | 0, _, _, h => h
  | n + 1, x, y, h => by
    rcases h with h | ⟨a, b, xs, ys, h1, h2, h3, h4, h5, h6⟩ | ⟨a, b, xs, ys, h1, h2, h3, h4, h5, h6⟩
    · exact .inl h
    · exact .inr (.inl ⟨a, b, xs, ys, h1, h2, s _ _ h3, s _ _ h4, h5, Paired.mapP h6 fun _ _ z => Eqd.mono s z⟩)
    · exact .inr (.inr ⟨a, b, xs, ys, h1, h2, s _ _ h3, s _ _ h4, h5, Paired.mapP h6 fun _ _ z => Eqd.mono s z⟩)
theorem Eqd.up {H : Hp} : ∀ {n : Nat} {x y : V}, Eqd H n x y → Eqd H (n + 1) x y
  | 0, _, _, h => h.elim
  | n + 1, x, y, h => by
    rcases h with h | ⟨a, b, xs, ys, h1, h2, h3, h4, h5, h6⟩ | ⟨a, b, xs, ys, h1, h2, h3, h4, h5, h6⟩
    · exact .inl h
    · exact .inr (.inl ⟨a, b, xs, ys, h1, h2, h3, h4, h5, Paired.mapP h6 fun _ _ z => Eqd.up z⟩)
    · exact .inr (.inr ⟨a, b, xs, ys, h1, h2, h3, h4, h5, Paired.mapP h6 fun _ _ z => Eqd.up z⟩)
theorem paired_get {F : V → V → Prop} : ∀ {xs ys : List V} {i : Nat} {x y : V}, Paired F xs ys → xs[i]? = some x → ys[i]? = some y → F x y
  | _, _, i, x, y, .nil, hx, _ => by simp at hx
  | _, _, 0, x, y, .cons r _, hx, hy => by
    cases hx
    cases hy
    exact r
  | _, _, i + 1, x, y, .cons _ t, hx, hy => paired_get t (i := i) (by simpa using hx) (by simpa using hy)
theorem paired_len {F : V → V → Prop} : ∀ {xs ys : List V}, Paired F xs ys → xs.length = ys.length
  | _, _, .nil => rfl
  | _, _, .cons _ t => congrArg (· + 1) (paired_len t)
theorem paired_refl {F : V → V → Prop} : ∀ {xs : List V}, (∀ x ∈ xs, F x x) → Paired F xs xs
  | [], _ => .nil
  | x :: r, h => .cons (h x List.mem_cons_self) (paired_refl fun y hy => h y (List.mem_cons_of_mem _ hy))
/-- isinstance(x, T), T a built-in class -/
theorem is_b {K : PySem.W.Frag} {H : Hp} {x : V} {t T : String} {b : Bool} {Q : VK} (ty : TyX K H x (.type t)) (k : kitB t T = some b) (h : Q (.bl b) H) : rIsi K [x, .ty T] H Q :=
  ⟨x, .ty T, .type t, .type T, b, rfl, .ty _, ty, kit_ty k, h⟩
theorem ite_of {c : Prop} [Decidable c] {A B : Prop} (hc : c) (h : A) : if c then A else B := by
  rw [if_pos hc]
  exact h
theorem ite_no {c : Prop} [Decidable c] {A B : Prop} (hc : ¬ c) (h : B) : if c then A else B := by
  rw [if_neg hc]
  exact h
theorem tYes_ok {σ : L2.St} {H : Hp} {A B : Hp → Prop} (h : A H) : tYes σ H (fun b H3 => if b = true then A H3 else B H3) := by
  show (if true = true then A H else B H)
  rw [if_pos rfl]
  exact h
theorem walk_zipT {K : PySem.W.Frag} {a b : Addr} {xs ys : List V} {n : Nat} (hn : n = min xs.length ys.length) : Walk (RZ.ItzT K a b) n (fun H => SqT K H a xs ∧ SqT K H b ys) (YPair (fun i => xs[i]?) (fun i => ys[i]?)) := by
  subst hn
  refine ⟨fun i _ hi q => ?_, fun _ q => ⟨xs, ys, q.1, q.2, by omega⟩, fun i H v H' _ q y => ?_⟩
  · have h1 : i < xs.length := by omega
    have h2 : i < ys.length := by omega
    exact ⟨xs, ys, xs[i], ys[i], q.1, q.2, by simp [h1], by simp [h2]⟩
  · obtain ⟨T, x, z, h1, h2, h3, h4, h5⟩ := y
    exact ⟨T, x, z, h1, h2, h3, h4 xs q.1, h5 ys q.2⟩
def spSame (n : Nat) : Sp := fun vs H Q _ => ∃ x y : V, vs = [x, y] ∧ Eqd H n x y ∧ ∀ H', Same H H' → Q (.bl true) H'
section
variable {P : Program} {w : World} {K : PySem.W.Frag} {mg : Str → Option Value} {base : Heap}
theorem ok_same {n : Nat} (F : Fn K mg "_law_same" s_l_same ["_law_found", "_law_due"]) (B : Blt mg) (G_l_same : Has P w K mg base n "_law_same" ["_law_found", "_law_due"] (spSame n)) :
    Has P w K mg base (n + 1) "_law_same" ["_law_found", "_law_due"] (spSame (n + 1)) := by
  refine F.has sc_l_same (fun vs H Q E h => ?_) (fun f cdv A outer s H vs Q E hr h => ?_)
  · obtain ⟨a, ns, rfl, _⟩ := h
    rfl
  obtain ⟨x, y, rfl, h, q⟩ := h
  refine ⟨_, (pss_cons (ps_if (pt_val (pe_callB call_isi (by rfl) B.isinstance bb_isinstance (pa_cons (pv 1) (pa_cons (pe_bltn (v := .ty "list") (by rfl) B.list bb_list rfl) pa_nil))))
        (pss_one (ps_ret (pe_and (pe_callB call_isi (by rfl) B.isinstance bb_isinstance (pa_cons (pv 0) (pa_cons (pe_bltn (v := .ty "list") (by rfl) B.list bb_list rfl) pa_nil))) (pe_and (pe_cmpR op_eq (pe_callB call_len (by rfl) B.len bb_len (pa_cons (pv 0) pa_nil)) (pe_callB call_len (by rfl) B.len bb_len (pa_cons (pv 1) pa_nil)) (nomark _)) (pe_one (pe_callB (cr_all rfl) (by rfl) B.all bb_all (pa_cons (pe_lc (own := [("_law_a", 2), ("_law_b", 3)]) (g := gTup K 2 (gCons (gName 2) (gCons (gName 3) gNil))) (tt := tYes) (by rfl) sc_l_same.nd (RZ.pi_zipA (by rfl) B.zip (pa_cons (pv 0) (pa_cons (pv 1) pa_nil))) (blkOk_by (own := [("_law_a", 2), ("_law_b", 3)]) (N := N_l_same) (sc := defScope s_l_same) (by decide +kernel)) (fun _ _ _ _ _ => (pg_tup rfl (pgs_cons (pg_name (i := 2) sc_l_same.nd rfl (Or.inl rfl)) (pgs_cons (pg_name (i := 3) sc_l_same.nd rfl (Or.inl rfl)) pgs_nil)))) (fun _ _ _ _ _ => pts_nil) (fun _ _ _ _ _ => (pe_own G_l_same hr (by rfl) (pa_cons (pv 2) (pa_cons (pv 3) pa_nil))))) pa_nil)))))))
        pss_nil)
      (pss_cons (ps_if (pt_val (pe_callB call_isi (by rfl) B.isinstance bb_isinstance (pa_cons (pv 1) (pa_cons (pe_bltn (v := .ty "tuple") (by rfl) B.tuple bb_tuple rfl) pa_nil))))
        (pss_one (ps_ret (pe_and (pe_callB call_isi (by rfl) B.isinstance bb_isinstance (pa_cons (pv 0) (pa_cons (pe_bltn (v := .ty "tuple") (by rfl) B.tuple bb_tuple rfl) pa_nil))) (pe_and (pe_cmpR op_eq (pe_callB call_len (by rfl) B.len bb_len (pa_cons (pv 0) pa_nil)) (pe_callB call_len (by rfl) B.len bb_len (pa_cons (pv 1) pa_nil)) (nomark _)) (pe_one (pe_callB (cr_all rfl) (by rfl) B.all bb_all (pa_cons (pe_lc (own := [("_law_a", 2), ("_law_b", 3)]) (g := gTup K 2 (gCons (gName 2) (gCons (gName 3) gNil))) (tt := tYes) (by rfl) sc_l_same.nd (RZ.pi_zipA (by rfl) B.zip (pa_cons (pv 0) (pa_cons (pv 1) pa_nil))) (blkOk_by (own := [("_law_a", 2), ("_law_b", 3)]) (N := N_l_same) (sc := defScope s_l_same) (by decide +kernel)) (fun _ _ _ _ _ => (pg_tup rfl (pgs_cons (pg_name (i := 2) sc_l_same.nd rfl (Or.inl rfl)) (pgs_cons (pg_name (i := 3) sc_l_same.nd rfl (Or.inl rfl)) pgs_nil)))) (fun _ _ _ _ _ => pts_nil) (fun _ _ _ _ _ => (pe_own G_l_same hr (by rfl) (pa_cons (pv 2) (pa_cons (pv 3) pa_nil))))) pa_nil)))))))
        pss_nil)
      (pss_cons (ps_if (PW.pt (pw_or (pt_cmp (pc_isN (pv 1))) (pw_or1 (pt_cmp (pc_isN (pv 0))))))
        (pss_one (ps_ret (pe_and (pe_cmp (pc_isN (pv 1))) (pe_one (pe_cmp (pc_isN (pv 0)))))))
        pss_nil)
      (pss_cons (ps_if (PW.pt (pw_or (pt_val (pe_callB call_isi (by rfl) B.isinstance bb_isinstance (pa_cons (pv 1) (pa_cons (pe_bltn (v := .ty "bool") (by rfl) B.bool bb_bool rfl) pa_nil)))) (pw_or1 (pt_val (pe_callB call_isi (by rfl) B.isinstance bb_isinstance (pa_cons (pv 0) (pa_cons (pe_bltn (v := .ty "bool") (by rfl) B.bool bb_bool rfl) pa_nil)))))))
        (pss_one (ps_ret (pe_and (pe_callB call_isi (by rfl) B.isinstance bb_isinstance (pa_cons (pv 1) (pa_cons (pe_bltn (v := .ty "bool") (by rfl) B.bool bb_bool rfl) pa_nil))) (pe_and (pe_callB call_isi (by rfl) B.isinstance bb_isinstance (pa_cons (pv 0) (pa_cons (pe_bltn (v := .ty "bool") (by rfl) B.bool bb_bool rfl) pa_nil))) (pe_one (pe_cmpR op_eq (pv 0) (pv 1) (nomark _)))))))
        pss_nil)
      (pss_cons (ps_if (pt_val (pe_callB call_isi (by rfl) B.isinstance bb_isinstance (pa_cons (pv 1) (pa_cons (pe_bltn (v := .ty "int") (by rfl) B.int bb_int rfl) pa_nil))))
        (pss_one (ps_ret (pe_and (pe_callB call_isi (by rfl) B.isinstance bb_isinstance (pa_cons (pv 0) (pa_cons (pe_bltn (v := .ty "int") (by rfl) B.int bb_int rfl) pa_nil))) (pe_one (pe_cmpR op_eq (pv 0) (pv 1) (nomark _))))))
        pss_nil)
      (pss_one (ps_ret (pe_and (pe_callB call_isi (by rfl) B.isinstance bb_isinstance (pa_cons (pv 0) (pa_cons (pe_bltn (v := .ty "str") (by rfl) B.str bb_str rfl) pa_nil))) (pe_and (pe_callB call_isi (by rfl) B.isinstance bb_isinstance (pa_cons (pv 1) (pa_cons (pe_bltn (v := .ty "str") (by rfl) B.str bb_str rfl) pa_nil))) (pe_one (pe_cmpR op_eq (pv 0) (pv 1) (nomark _)))))))))))), ?_⟩
  rcases h with ⟨rfl, hx⟩ | ⟨a, b, xs, ys, rfl, rfl, ha, hb, hl, hp⟩ | ⟨a, b, xs, ys, rfl, rfl, ha, hb, hl, hp⟩
  · cases x with
    | non =>
      refine ⟨_, rfl, _, .ty "list", .type "NoneType", .type "list", false, rfl, .ty _, .base .non, kit_ty (by decide +kernel), _, rfl, iteF ?_⟩
      refine ⟨_, rfl, _, .ty "tuple", .type "NoneType", .type "tuple", false, rfl, .ty _, .base .non, kit_ty (by decide +kernel), _, rfl, iteF ?_⟩
      refine ⟨_, rfl, _, rfl, ite_of (decide_eq_true rfl) ?_⟩
      refine ⟨_, rfl, _, rfl, ite_of (decide_eq_true rfl) ⟨_, rfl, ?_⟩⟩
      exact q _ (Same.refl _)
    | bl x =>
      refine ⟨_, rfl, _, .ty "list", .type "bool", .type "list", false, rfl, .ty _, .base (.bl _), kit_ty (by decide +kernel), _, rfl, iteF ?_⟩
      refine ⟨_, rfl, _, .ty "tuple", .type "bool", .type "tuple", false, rfl, .ty _, .base (.bl _), kit_ty (by decide +kernel), _, rfl, iteF ?_⟩
      refine ⟨_, rfl, _, rfl, ite_no (by simp) ⟨_, rfl, _, rfl, ite_no (by simp) ?_⟩⟩
      refine ⟨_, rfl, _, .ty "bool", .type "bool", .type "bool", true, rfl, .ty _, .base (.bl _), kit_ty (by decide +kernel), _, rfl, iteT ?_⟩
      refine ⟨_, rfl, _, .ty "bool", .type "bool", .type "bool", true, rfl, .ty _, .base (.bl _), kit_ty (by decide +kernel), _, rfl, iteT ⟨_, rfl, _, .ty "bool", .type "bool", .type "bool", true, rfl, .ty _, .base (.bl _), kit_ty (by decide +kernel), _, rfl, iteT ⟨_, rfl, _, rfl, rfl, ?_⟩⟩⟩
      rw [decide_eq_true rfl]
      exact q _ (Same.refl _)
    | int x =>
      refine ⟨_, rfl, _, .ty "list", .type "int", .type "list", false, rfl, .ty _, .base (.int _), kit_ty (by decide +kernel), _, rfl, iteF ?_⟩
      refine ⟨_, rfl, _, .ty "tuple", .type "int", .type "tuple", false, rfl, .ty _, .base (.int _), kit_ty (by decide +kernel), _, rfl, iteF ?_⟩
      refine ⟨_, rfl, _, rfl, ite_no (by simp) ⟨_, rfl, _, rfl, ite_no (by simp) ?_⟩⟩
      refine ⟨_, rfl, _, .ty "bool", .type "int", .type "bool", false, rfl, .ty _, .base (.int _), kit_ty (by decide +kernel), _, rfl, iteF ⟨_, rfl, _, .ty "bool", .type "int", .type "bool", false, rfl, .ty _, .base (.int _), kit_ty (by decide +kernel), _, rfl, iteF ?_⟩⟩
      refine ⟨_, rfl, _, .ty "int", .type "int", .type "int", true, rfl, .ty _, .base (.int _), kit_ty (by decide +kernel), _, rfl, iteT ?_⟩
      refine ⟨_, rfl, _, .ty "int", .type "int", .type "int", true, rfl, .ty _, .base (.int _), kit_ty (by decide +kernel), _, rfl, iteT ⟨_, rfl, _, rfl, rfl, ?_⟩⟩
      rw [decide_eq_true rfl]
      exact q _ (Same.refl _)
    | str x =>
      refine ⟨_, rfl, _, .ty "list", .type "str", .type "list", false, rfl, .ty _, .base (.str _), kit_ty (by decide +kernel), _, rfl, iteF ?_⟩
      refine ⟨_, rfl, _, .ty "tuple", .type "str", .type "tuple", false, rfl, .ty _, .base (.str _), kit_ty (by decide +kernel), _, rfl, iteF ?_⟩
      refine ⟨_, rfl, _, rfl, ite_no (by simp) ⟨_, rfl, _, rfl, ite_no (by simp) ?_⟩⟩
      refine ⟨_, rfl, _, .ty "bool", .type "str", .type "bool", false, rfl, .ty _, .base (.str _), kit_ty (by decide +kernel), _, rfl, iteF ⟨_, rfl, _, .ty "bool", .type "str", .type "bool", false, rfl, .ty _, .base (.str _), kit_ty (by decide +kernel), _, rfl, iteF ?_⟩⟩
      refine ⟨_, rfl, _, .ty "int", .type "str", .type "int", false, rfl, .ty _, .base (.str _), kit_ty (by decide +kernel), _, rfl, iteF ?_⟩
      refine ⟨_, rfl, _, .ty "str", .type "str", .type "str", true, rfl, .ty _, .base (.str _), kit_ty (by decide +kernel), _, rfl, iteT ⟨_, rfl, _, .ty "str", .type "str", .type "str", true, rfl, .ty _, .base (.str _), kit_ty (by decide +kernel), _, rfl, iteT ⟨_, rfl, _, rfl, rfl, ?_⟩⟩⟩
      rw [decide_eq_true rfl]
      exact q _ (Same.refl _)
    | byt x => exact hx.elim
    | flt x => exact hx.elim
    | ref x => exact hx.elim
    | ty x => exact hx.elim
  · have hlen := paired_len hp
    refine ⟨_, rfl, _, .ty "list", .type "list", .type "list", true, rfl, .ty _, .base (.lst hb), kit_ty (by decide +kernel), _, rfl, iteT ?_⟩
    refine ⟨_, rfl, _, .ty "list", .type "list", .type "list", true, rfl, .ty _, .base (.lst ha), kit_ty (by decide +kernel), _, rfl, iteT ?_⟩
    refine ⟨_, rfl, .ref a, _, rfl, .inl ⟨xs, SqL.of ha, rfl⟩, _, rfl, .ref b, _, rfl, .inl ⟨ys, SqL.of hb, rfl⟩, rfl, _, rfl, ite_of (decide_eq_true (by rw [hlen])) ?_⟩
    refine ⟨_, rfl, _, rfl, a, b, xs, ys, rfl, .inl ⟨SqL.of ha, SqL.of hb, fun D hD => lc_it (walk_zip (K := K) (n := xs.length) (by omega)) (fun i H' => Same H H' ∧ H' D = some (.lst (List.replicate i (.bl true))))
      ⟨same_upd hD, upd_same⟩ (fun i H1 hi p => ⟨SqL.of (p.1 _ _ ha), SqL.of (p.1 _ _ hb)⟩) ?_ ?_⟩⟩
    · rintro i v H1 H2 hi ⟨s1, e1⟩ ⟨T, u, z, rfl, hT, rfl, hu, hz⟩
      refine ⟨T, [u, z], rfl, SqT.of upd_same, rfl, u, [z], rfl, z, [], rfl, rfl, rfl, tYes_ok ?_⟩
      refine ⟨_, rfl, _, rfl, u, z, rfl, (paired_get hp hu hz).mono (s1.trans (same_upd hT)), fun H3 s3 => ?_⟩
      refine ⟨_, s3 _ _ ((same_upd hT) _ _ e1), by rw [List.length_replicate]; exact small1000 (by omega), fun c o hc => ?_, ?_⟩
      · rw [upd_ne (ne_of_none hc hD)]
        exact s3 _ _ (same_upd hT _ _ (s1 _ _ hc))
      · rw [upd_same, List.replicate_succ']
    · rintro H1 ⟨s1, e1⟩
      refine ⟨D, List.replicate xs.length true, rfl, SqL.of (by rw [e1, List.map_replicate]), ?_⟩
      rw [show (List.replicate xs.length true).all id = true by simp]
      exact q _ s1
  · have hlen := paired_len hp
    refine ⟨_, rfl, _, .ty "list", .type "tuple", .type "list", false, rfl, .ty _, .base (.tup hb), kit_ty (by decide +kernel), _, rfl, iteF ?_⟩
    refine ⟨_, rfl, _, .ty "tuple", .type "tuple", .type "tuple", true, rfl, .ty _, .base (.tup hb), kit_ty (by decide +kernel), _, rfl, iteT ?_⟩
    refine ⟨_, rfl, _, .ty "tuple", .type "tuple", .type "tuple", true, rfl, .ty _, .base (.tup ha), kit_ty (by decide +kernel), _, rfl, iteT ?_⟩
    refine ⟨_, rfl, .ref a, _, rfl, .inr ⟨xs, SqT.of ha, rfl⟩, _, rfl, .ref b, _, rfl, .inr ⟨ys, SqT.of hb, rfl⟩, rfl, _, rfl, ite_of (decide_eq_true (by rw [hlen])) ?_⟩
    refine ⟨_, rfl, _, rfl, a, b, xs, ys, rfl, .inr ⟨SqT.of ha, SqT.of hb, fun D hD => lc_it (walk_zipT (K := K) (n := xs.length) (by omega)) (fun i H' => Same H H' ∧ H' D = some (.lst (List.replicate i (.bl true))))
      ⟨same_upd hD, upd_same⟩ (fun i H1 hi p => ⟨SqT.of (p.1 _ _ ha), SqT.of (p.1 _ _ hb)⟩) ?_ ?_⟩⟩
    · rintro i v H1 H2 hi ⟨s1, e1⟩ ⟨T, u, z, rfl, hT, rfl, hu, hz⟩
      refine ⟨T, [u, z], rfl, SqT.of upd_same, rfl, u, [z], rfl, z, [], rfl, rfl, rfl, tYes_ok ?_⟩
      refine ⟨_, rfl, _, rfl, u, z, rfl, (paired_get hp hu hz).mono (s1.trans (same_upd hT)), fun H3 s3 => ?_⟩
      refine ⟨_, s3 _ _ ((same_upd hT) _ _ e1), by rw [List.length_replicate]; exact small1000 (by omega), fun c o hc => ?_, ?_⟩
      · rw [upd_ne (ne_of_none hc hD)]
        exact s3 _ _ (same_upd hT _ _ (s1 _ _ hc))
      · rw [upd_same, List.replicate_succ']
    · rintro H1 ⟨s1, e1⟩
      refine ⟨D, List.replicate xs.length true, rfl, SqL.of (by rw [e1, List.map_replicate]), ?_⟩
      rw [show (List.replicate xs.length true).all id = true by simp]
      exact q _ s1
end
theorem no_same {P : Program} {w : World} {K : PySem.W.Frag} {mg : Str → Option Value} {base : Heap} {f : Addr} {fd : FuncData} {ps : List Str} {sp : Sp} (no : ∀ vs H Q E, ¬ sp vs H Q E) : FnOk P w K mg base CX0 0 f fd ps sp :=
  ⟨fun vs H Q E h => absurd h (no vs H Q E), fun A outer s H args us vs Q E _ _ _ _ h => absurd h (no vs H Q E)⟩
section
variable {P : Program} {w : World} {K : PySem.W.Frag} {mg : Str → Option Value} {base : Heap}
theorem all_same (F : Fn K mg "_law_same" s_l_same ["_law_found", "_law_due"]) (B : Blt mg) : ∀ n : Nat, Has P w K mg base n "_law_same" ["_law_found", "_law_due"] (spSame n)
  | 0 => by
    obtain ⟨f, fd, F, m, b⟩ := F.ex
    exact ⟨f, fd, no_same fun vs H Q E h => by obtain ⟨x, y, _, h, _⟩ := h; exact h, m, F.kp, b⟩
  | n + 1 => ok_same F B (all_same F B n)
end
/-! ### odd values -/
inductive OddV (H : Hp) (b : Addr) : V → Prop
  | non : OddV H b .non
  | bl (x : Bool) : OddV H b (.bl x)
  | s0 : OddV H b (.str "")
  | s1 : OddV H b (.str "A")
  | s2 : OddV H b (.str "in")
  | s3 : OddV H b (.str "a b")
  | s4 : OddV H b (.str "7")
  | t0 {p : Addr} : p ≠ b → H p = some (.tup []) → OddV H b (.ref p)
  | t1 {p : Addr} : p ≠ b → H p = some (.tup [.int 1]) → OddV H b (.ref p)
  | l0 {p : Addr} : p ≠ b → H p = some (.lst []) → OddV H b (.ref p)
  | l1 {p : Addr} : p ≠ b → H p = some (.lst [.str "a"]) → OddV H b (.ref p)
theorem OddV.kp {H H' : Hp} {b : Addr} {v : V} (h : OddV H b v) (k : Kp b H H') : OddV H' b v := by
  cases h with
  | non => exact .non
  | bl x => exact .bl x
  | s0 => exact .s0
  | s1 => exact .s1
  | s2 => exact .s2
  | s3 => exact .s3
  | s4 => exact .s4
  | t0 n h => exact .t0 n (k _ _ n h)
  | t1 n h => exact .t1 n (k _ _ n h)
  | l0 n h => exact .l0 n (k _ _ n h)
  | l1 n h => exact .l1 n (k _ _ n h)
def spOdd : Sp := fun vs H Q _ => ∃ b c : Addr, vs = [.ref b] ∧ Bg H b c ∧ ∀ (v : V) (H' : Hp), Kp b H H' → Bg H' b c → OddV H' b v → Q v H'
def spGcd : Sp := fun vs H Q _ => ∃ a b : Int, vs = [.int a, .int b] ∧ Q (.int ((Nat.gcd a.natAbs b.natAbs : Nat) : Int)) H
theorem abs_cast (i : Int) : (if i < 0 then -i else i) = ((i.natAbs : Nat) : Int) := by split <;> omega
theorem Bg.sel {H : Hp} {b c : Addr} (h : Bg H b c) : ∃ r : List V, H b = some (.lst (.ref c :: r)) := by
  obtain ⟨ns, i, r, m, g⟩ := h
  exact ⟨_, g.hb⟩
theorem Bg.ne_new {H : Hp} {b c p : Addr} (h : Bg H b c) (hp : H p = none) : p ≠ b := by
  obtain ⟨_, e⟩ := h.sel
  exact (ne_of_none e hp).symm
theorem Bg.ne_new2 {H : Hp} {b c p : Addr} (h : Bg H b c) (hp : H p = none) : p ≠ c := by
  obtain ⟨ns, i, r, m, g⟩ := h
  exact (ne_of_none g.hc hp).symm
section
variable {P : Program} {w : World} {K : PySem.W.Frag} {mg : Str → Option Value} {base : Heap}
end
/-! ### kinds of values -/
inductive Typ (H : Hp) : V → String → Prop
  | non : Typ H .non "NoneType"
  | bl (x : Bool) : Typ H (.bl x) "bool"
  | int (i : Int) : Typ H (.int i) "int"
  | str (z : Str) : Typ H (.str z) "str"
  | lst {a : Addr} {xs : List V} : H a = some (.lst xs) → Typ H (.ref a) "list"
  | tup {a : Addr} {xs : List V} : H a = some (.tup xs) → Typ H (.ref a) "tuple"
theorem Typ.tyx {K : PySem.W.Frag} {H : Hp} {x : V} {t : String} (h : Typ H x t) : TyX K H x (.type t) := by
  cases h with
  | non => exact .base .non
  | bl x => exact .base (.bl x)
  | int i => exact .base (.int i)
  | str z => exact .base (.str z)
  | lst h => exact .base (.lst h)
  | tup h => exact .base (.tup h)
theorem Typ.same {H H' : Hp} {x : V} {t : String} (h : Typ H x t) (s : Same H H') : Typ H' x t := by
  cases h with
  | non => exact .non
  | bl x => exact .bl x
  | int i => exact .int i
  | str z => exact .str z
  | lst h => exact .lst (s _ _ h)
  | tup h => exact .tup (s _ _ h)
theorem OddV.typ {H : Hp} {b : Addr} {v : V} (h : OddV H b v) : ∃ t, Typ H v t ∧ t ≠ "int" := by
  cases h with
  | non => exact ⟨_, .non, by decide⟩
  | bl x => exact ⟨_, .bl x, by decide⟩
  | s0 => exact ⟨_, .str _, by decide⟩
  | s1 => exact ⟨_, .str _, by decide⟩
  | s2 => exact ⟨_, .str _, by decide⟩
  | s3 => exact ⟨_, .str _, by decide⟩
  | s4 => exact ⟨_, .str _, by decide⟩
  | t0 n h => exact ⟨_, .tup h, by decide⟩
  | t1 n h => exact ⟨_, .tup h, by decide⟩
  | l0 n h => exact ⟨_, .lst h, by decide⟩
  | l1 n h => exact ⟨_, .lst h, by decide⟩
def isIntV : V → Bool
  | .int _ => true
  | _ => false
end My
/-! an own error whose __init__ says super().__init__(a text) and stores what it got and its code -/
namespace PySem
namespace ErrX
open PySem.W PySem.Calls PyProof.Rows PySem.HandSPX
/-- the statements of such an __init__: the field is called f, the code is q -/
def eArgs (f : Str) (p1 p2 : Pos) : Arguments := { posonlyargs := [], args := [{ arg := "self", annotation := none, pos := p1 }, { arg := f, annotation := none, pos := p2 }], vararg := none, kwonlyargs := [], kw_defaults := [], kwarg := none, defaults := [] }
def eBody (f msg q : Str) (k1 k2 : Nat) (a1 a2 a3 a4 a5 a6 b1 b2 b3 b4 c1 c2 c3 c4 : Pos) : List Stmt :=
  [.Expr (.Call (.Attribute (.Call (.Name "super" a1) [] [] a2) "__init__" a3) [.Constant (.str msg) k1 a4] [] a5) a6,
   .Assign [.Attribute (.Name "self" b1) f b2] (.Name f b3) b4,
   .Assign [.Attribute (.Name "self" c1) "code" c2] (.Constant (.str q) k2 c3) c4]
def eScope (f : Str) : Scope := { kind := .function, names := [(PySem.Str.ofString "self", .local), (f, .local), (PySem.Str.ofString "__class__", .free), (PySem.Str.ofString "super", .globalImplicit)], isGenerator := false, isCoroutine := false, more := [] }
/-- how the first statement's call is evaluated -/
def InitEval (msg : Str) (k1 : Nat) (a1 a2 a3 a4 a5 : Pos) : Prop := ∃ pl : Sem Bool, ∀ env : Env,
  eval (.Call (.Attribute (.Call (.Name "super" a1) [] [] a2) "__init__" a3) [.Constant (.str msg) k1 a4] [] a5) env = (do
    let ov ← attributeBase (.Call (.Name "super" a1) [] [] a2) "__init__" env (eval (.Call (.Name "super" a1) [] [] a2) env)
    standAt a3.atName
    let (g, first) ← holding [ov] (getMethod ov "__init__" pl)
    callWith a5 g first (backTo a5 (starEach [.Constant (.str msg) k1 a4] env)) [])
/-- what the written part says of the class at C, of its __init__ at fI, of the cell cc that holds the class, of the code object cd -/
structure ErrTxt (prog : Program) (K : Frag) (mg : Str → Option Value) (nm f q : Str) (C fI cc cd : Addr) : Prop where
  gC : mg nm = some (.ref C)
  gS : mg "super" = none
  cls : ∃ nm' q' N bs bm sn sub ab col dd k0 k1 k2 k3 k5, K.lookup C = some (excClassObj nm' q' C N bs bm true sn sub ab col dd k0 k1 k2 k3 k5 "ValueError.__new__") ∧ refsVE bm = true ∧ alongIn K "__init__" bm = some (some (.builtin "ValueError.__init__"))
  sa : findIn K (.ref C) "__setattr__" = some (some (.builtin "object.__setattr__"))
  ga : findIn K (.ref C) "__getattribute__" = some (some (.builtin "BaseException.__getattribute__"))
  gg : findIn K (.ref C) "__getattr__" = some none
  noF : findIn K (.ref C) f = some none
  noC : findIn K (.ref C) "code" = some none
  iC : findIn K (.ref C) "__init__" = some (some (.ref fI))
  tC : typeIn K (.ref fI) = some (.type "function")
  kC : keepIn K (.ref C) = true
  exC : subIn K (.ref C) (.type "BaseException") = some true
  veC : subIn K (.ref C) (.type "ValueError") = some true
  slf : mroIn K C (.ref C) = some true
  tyC : typeIn K (.ref C) = some (.type "type")
  hdC : hasDictIn K C = true
  opq : nsIn K cStatics "thirdparty.any" = some none
  cell : ∃ cl cld csl, K.lookup cc = some ⟨cl, cld, .cell (some (.ref C)), csl⟩
  code : ∃ ccl cdd vs ccs file tf, K.lookup cd = some ⟨ccl, cdd, .fields vs, ccs⟩ ∧ vs[2]? = some (.str file tf) ∧ ((prog.main.file : Str) == file) = true
  top : (prog.main.scope.names.lookup ("super" : Str)).isSome = false
  fn : ∃ (oc : Value) (od : Option Addr) (doc pm : Value) (an : Option Addr) (ct : Value) (osl : Array (Option Value)) (qual msg : Str) (k1 k2 : Nat) (p1 p2 a1 a2 a3 a4 a5 a6 b1 b2 b3 b4 c1 c2 c3 c4 : Pos),
    K.lookup fI = some ⟨oc, od, .func (ksFn "__init__" qual (eArgs f p1 p2) (eBody f msg q k1 k2 a1 a2 a3 a4 a5 a6 b1 b2 b3 b4 c1 c2 c3 c4) (eScope f) .none .none doc pm an (.ref cd) ct cc), osl⟩ ∧ codeIn K (.ref cd) qual = true ∧
    (∀ (s : Shared) (a b : Value), BindsTo s (ksFn "__init__" qual (eArgs f p1 p2) (eBody f msg q k1 k2 a1 a2 a3 a4 a5 a6 b1 b2 b3 b4 c1 c2 c3 c4) (eScope f) .none .none doc pm an (.ref cd) ct cc) ⟨[a, b], []⟩ [("self", a), (f, b)]) ∧ InitEval msg k1 a1 a2 a3 a4 a5
  nf : f ≠ "self" ∧ f ≠ "code" ∧ f ≠ "super" ∧ f ≠ "__class__" ∧ f ≠ "__debug__"
theorem kept_x {K : Frag} {h h' : Heap} {x : Addr} (X : K.In h) (hx : K.lookup x = none) (k : ∀ b o, b ≠ x → h.get? b = some o → h'.get? b = some o) : K.In h' := fun a o e =>
  k a o (fun z => by rw [z, hx] at e; cases e) (X a o e)
/-- what it leaves of a fresh exception at x -/
structure Made (h h' : Heap) (x C dx t1 : Addr) (f q : Str) (v : Value) : Prop where
  keep : ∀ b o, b ≠ x → h.get? b = some o → h'.get? b = some o
  obj : h'.get? x = some { cls := .ref C, dict := some dx, data := .fields #[.ref t1, .none, .none, .none, .bool false, .none] }
  dbig : h.objs.size ≤ dx
  dne : dx ≠ x
  ns : ∃ tk, h'.Ns1 dx (fun y => if y = "code" then some (.str q tk) else if y = f then some v else none)
section
variable {prog : Program} {w : World} {M : Model} {A : Around} {E : Value → Shared → Prop} {R : Result → Shared → Prop} {s : Shared} {K : Frag} {mg : Str → Option Value} {nm f q : Str} {C fI cc cd : Addr}
/-- the bound built-in __init__, called with one value -/
theorem mw_call {hp : Heap} {g : Array GenState} {d : Drawn} {t : Nat} {os : OsState} {u e t0 : Addr} {rest : List Value} {Q : Value → Shared → Prop} {nm' q' : Str} {N : Addr} {bs bm : List Value} {hdct : Bool} {sn : List Str} {sub : List Value} {ab : Bool} {col : Option Bool} {dd : Option Addr} {k0 k1 k2 k3 k5 : Option Value}
    (hC : hp.get? C = some (excClassObj nm' q' C N bs bm hdct sn sub ab col dd k0 k1 k2 k3 k5 "ValueError.__new__")) (he : hp.get? e = some (excO C t0)) (hu : hp.get? u = some (kxs_mw "ValueError.__init__" e)) (hrest : rest.length ≤ sizeLine)
    (hq : ∀ h' t1, (∀ b o, b ≠ e → hp.get? b = some o → h'.get? b = some o) → h'.get? e = some (excO C t1) → Q .none ⟨h', g, d, t, os⟩) :
    wpAny (model prog w) A (call (.ref u) rest) Q E ⟨hp, g, d, t, os⟩ := by
  refine wpAny_call (codeAny_of_tree ?_)
  show wpAny _ A.in1 (callAny (.ref u) ⟨rest, []⟩) _ _ _
  unfold callAny
  refine wpAny_bind (wpAny_load hu ?_)
  refine KFB.if_so rfl ?_
  refine wpAny_bind (ESX.check_bound F.excBase_ValueError hC he rfl ?_)
  refine wpAny_bind (wpAny_pure (wpAny_pure ⟨Code.quiet_builtin _ (by decide +kernel), codeAny_builtin F.excBase_ValueError.initEntry ?_⟩))
  rw [Around.under_plainId F.excBase_ValueError.init.plain _]
  wp_walk
  refine hq _ hp.objs.size (fun b o hb ho => ?_) ?_
  · rw [Heap.get?_update_other _ _ (Ne.symm hb)]
    exact Heap.get?_push_of_some _ ho
  · rw [Heap.get?_update_self _ (Heap.get?_push_of_some _ he) rfl]
    rfl
theorem err_init (T : ErrTxt prog K mg nm f q C fI cc cd) {x t0 : Addr} {v : Value} (X : K.In s.heap) (hG : s.heap.Ns mainGlobals mg) (hB : ∃ mb, s.heap.Ns builtinsNs mb ∧ mb "super" = some (.type "super")) (hlim : s.heap.NoLimit) (hx : s.heap.get? x = some (excO C t0)) (hnx : K.lookup x = none) (hroom : A.depth < recursionLimit)
    (hq : ∀ h' tk dx t1, Made s.heap h' x C dx t1 f q v → R (.ok (.ret .none)) { s with heap := h', toks := tk }) :
    codeAny (model prog w) A (.call (.ref fI) ⟨[.ref x, v], []⟩) R s := by
  obtain ⟨oc, od, doc, pm, an, ct, osl, qual, msg, k1, k2, p1, p2, a1, a2, a3, a4, a5, a6, b1, b2, b3, b4, c1, c2, c3, c4, ho, hcd, hbind, pl, hev⟩ := T.fn
  obtain ⟨nm', q', N, bs, bm, sn, sub, ab, col, dd, k0, k1', k2', k3, k5, hC, hbm, hal⟩ := T.cls
  obtain ⟨cl, cld, csl, hcell⟩ := T.cell
  obtain ⟨ccl, cdd, vs, ccs, file, tf, hcode, hvs, hfile⟩ := T.code
  obtain ⟨n1, n2, n3, n4, n5⟩ := T.nf
  have lk : (eScope f).names.lookup f = some .local := by
    show List.lookup f [(PySem.Str.ofString "self", NameKind.local), (f, .local), (PySem.Str.ofString "__class__", .free), (PySem.Str.ofString "super", .globalImplicit)] = some .local
    have e : (f == PySem.Str.ofString "self") = false := by simpa using n1
    simp only [List.lookup, e, beq_self_eq_true]
  refine ks_codeAny_call_defAt (binds := [("self", .ref x), (f, v)]) hroom (X _ _ ho) rfl hlim (codeRec_of X hcd) rfl (hbind _ _ _) ?_ ?_ (fun h₁ hns hk => ?_) rfl rfl rfl
  · intro y hy
    simp only [eScope, List.mem_cons, List.not_mem_nil, or_false] at hy
    rcases hy with rfl | rfl | rfl | rfl <;> (intro z; cases z)
  · intro y hy
    simp only [List.mem_cons, List.not_mem_nil, or_false] at hy
    rcases hy with rfl | rfl
    · rfl
    · exact lk
  have z1 : (PySem.Str.ofString "super" == f) = false := by simpa using n3.symm
  have z2 : (PySem.Str.ofString "__class__" == f) = false := by simpa using n4.symm
  have z3 : (PySem.Str.ofString "self" == f) = false := by simpa using n1.symm
  have z4 : (f == PySem.Str.ofString "self") = false := by simpa using n1
  have lkS : (eScope f).names.lookup ("super" : Str) = some .globalImplicit := by
    simp only [eScope, List.lookup, z1, show (PySem.Str.ofString "super" == PySem.Str.ofString "self") = false by decide +kernel, show (PySem.Str.ofString "super" == PySem.Str.ofString "__class__") = false by decide +kernel, beq_self_eq_true]
  have lkC : (eScope f).names.lookup ("__class__" : Str) = some .free := by
    simp only [eScope, List.lookup, z2, show (PySem.Str.ofString "__class__" == PySem.Str.ofString "self") = false by decide +kernel, beq_self_eq_true]
  have lkX : (eScope f).names.lookup ("self" : Str) = some .local := by
    simp only [eScope, List.lookup, beq_self_eq_true]
  have mS : List.lookup (PySem.Str.ofString "self") ([(PySem.Str.ofString "self", Value.ref x), (f, v)] : List (Str × Value)).reverse = some (.ref x) := by
    show List.lookup (PySem.Str.ofString "self") [(f, v), (PySem.Str.ofString "self", Value.ref x)] = _
    simp only [List.lookup, z3, beq_self_eq_true]
  have mF : List.lookup f ([(PySem.Str.ofString "self", Value.ref x), (f, v)] : List (Str × Value)).reverse = some v := by
    show List.lookup f [(f, v), (PySem.Str.ofString "self", Value.ref x)] = _
    simp only [List.lookup, beq_self_eq_true]
  refine ks_wpAt_execs_cons (ks_wpAt_Expr_any (ks_wpAt_MethodCall (pl := pl) ?_ (hev _)))
  have X₁ : K.In h₁ := X.keeps hk
  have hx₁ := hk _ _ hx
  refine ks_wpAt_super_base (of := ⟨oc, od, _, osl⟩) (oc := ⟨ccl, cdd, .fields vs, ccs⟩) lkS lkC rfl rfl (X₁ _ _ ho) rfl rfl rfl (X₁ _ _ hcode) rfl hvs hfile T.top ?_
  obtain ⟨mb, hmb, hsb⟩ := hB
  refine ks_loadName_global rfl lkS (loadGlobal_builtin (hG.keeps hk) T.gS (hmb.keeps hk) hsb ⟨rfl, ?_⟩)
  refine wpAny_loadName_free rfl lkC rfl ⟨_, X₁ _ _ hcell, rfl⟩ ?_
  refine wpAny_loadName_local rfl lkX hns mS ?_
  refine ks_wpAny_isType_cls (X₁ _ _ hC) rfl ⟨rfl, ?_⟩
  refine ks_wpAny_call_super (X₁ _ _ hC) rfl hx₁ rfl (fun c e => by cases e) (looks_mroIn X₁ T.slf) (fun h₂ hso k₂ => ?_)
  have X₂ : K.In h₂ := X₁.keeps k₂
  have hx₂ := k₂ _ _ hx₁
  have I₂ : InstAt h₂ x (excO C t0) C none := ⟨hx₂, rfl, rfl, trivial⟩
  have nxC : x ≠ C := fun z => by rw [z, hC] at hnx; cases hnx
  have hcl : clsIn K C = some { name := nm', bases := bs, mro := .ref C :: bm, ns := N, qualname := q', hasDict := true, slotNames := sn, subclasses := sub, abstract := ab, collection := col, hasDel := false } := by unfold clsIn; rw [hC] <;> rfl
  refine kxs_getMethod kxs_ValueError hso (looks_opaque X₂ T.opq) ((looks_clsIn X₂ hcl).andThen .now) (ESX.drop_own C bm) X₂ hal (I₂.type.andThen (looks_subIn X₂ T.veC)) nxC rfl ?_
  have hu : (h₂.push (kxs_mw "ValueError.__init__" x)).get? h₂.objs.size = some (kxs_mw "ValueError.__init__" x) := Heap.get?_push_at rfl rfl
  have k₃ : ∀ b o, h₂.get? b = some o → (h₂.push (kxs_mw "ValueError.__init__" x)).get? b = some o := fun b o e => Heap.get?_push_of_some _ e
  refine kxs_callWith (i := "ValueError.__init__") (x := x) rfl (evalArgs_plain ?_)
  refine Calls.spliced_cons (Calls.Constant_str (k := k1) (pos := a4) (Calls.spliced_nil ⟨hu, ?_⟩))
  have X₃ : K.In (h₂.push (kxs_mw "ValueError.__init__" x)) := X₂.keeps k₃
  refine mw_call (X₃ _ _ hC) (k₃ _ _ hx₂) hu (by show 1 ≤ sizeLine; decide) (fun h₄ t1 k₄ hx₄ => ?_)
  have keep₄ : ∀ b o, b ≠ x → s.heap.get? b = some o → h₄.get? b = some o := fun b o nb e => k₄ b o nb (k₃ b o (k₂ b o (hk b o e)))
  have X₄ : K.In h₄ := kept_x X hnx keep₄
  have hxL : s.heap.objs.size ≠ x := Nat.ne_of_gt (Heap.lt_size hx)
  obtain ⟨oL, es, ep, hL, rL⟩ := id hns
  have hns₄ : h₄.Ns s.heap.objs.size fun y => List.lookup y ([(PySem.Str.ofString "self", Value.ref x), (f, v)] : List (Str × Value)).reverse := ⟨oL, es, ep, k₄ _ _ hxL (k₃ _ _ (k₂ _ _ hL)), rL⟩
  have hLt : s.heap.objs.size < h₄.objs.size := Heap.lt_size (k₄ _ _ hxL (k₃ _ _ (k₂ _ _ hL)))
  -- self.f = f
  refine wpAt_of_wpAny (wpAny_execs_cons (plainObj_wpAny_Assign_Attribute ?_))
  refine ESX.ldL hns₄ mF (ESX.ldL hns₄ mS ?_ rfl lkX (by decide +kernel)) rfl lk (by simpa using n5)
  refine set_plain X₄ (ox := excO C t1) (od := none) ⟨hx₄, rfl, rfl, trivial⟩ T.sa ?_
  refine exc_osa X₄ hx₄ hcl (show refsVE (.ref C :: bm) = true from hbm) rfl T.noF (fun h₅ tk₅ dx k₅ dn dne hx₅ hn₅ => ?_)
  have keep₅ : ∀ b o, b ≠ x → s.heap.get? b = some o → h₅.get? b = some o := fun b o nb e => k₅ b o nb (keep₄ b o nb e)
  have X₅ : K.In h₅ := kept_x X hnx keep₅
  have hns₅ : h₅.Ns s.heap.objs.size fun y => List.lookup y ([(PySem.Str.ofString "self", Value.ref x), (f, v)] : List (Str × Value)).reverse := ⟨oL, es, ep, k₅ _ _ hxL (k₄ _ _ hxL (k₃ _ _ (k₂ _ _ hL))), rL⟩
  -- self.code = q
  refine wpAny_execs_cons (plainObj_wpAny_Assign_Attribute ?_)
  refine Calls.Constant_str (k := k2) (pos := c3) (ESX.ldL hns₅ mS ?_ rfl lkX (by decide +kernel))
  obtain ⟨oD, eD, pD, hD, rD⟩ := id hn₅
  refine set_plain X₅ (ox := { cls := .ref C, dict := some dx, data := .fields #[.ref t1, .none, .none, .none, .bool false, .none] }) (od := some oD) ⟨hx₅, rfl, rfl, hD⟩ T.sa ?_
  have hw : Within (fun y => if y = f then some v else none) [f] := fun y hy => by
    by_cases e : y = f
    · rw [e]
      exact List.mem_singleton.mpr rfl
    · exact absurd (show (if y = f then some v else none) = none from if_neg e) hy
  refine OEX.osa_old X₅ hx₅ hn₅ hw (by show 1 ≤ 1000; decide) hcl (show refsVE (.ref C :: bm) = true from hbm) rfl T.noC (fun h₆ tk₆ k₆ hn₆ => ?_)
  refine wpAny_execs_nil (hq h₆ tk₆ dx t1 ⟨fun b o nb e => ?_, k₆ _ _ dne.symm hx₅, Nat.le_trans (Nat.le_of_lt hLt) dn, dne, _, hn₆⟩)
  have nbd : b ≠ dx := Nat.ne_of_lt (Nat.lt_of_lt_of_le (Heap.lt_size e) (Nat.le_trans (Nat.le_of_lt hLt) dn))
  exact k₆ b o nbd (keep₅ b o nb e)
/-- a made error -/
structure Own (h h' : Heap) (e C d : Addr) (f q : Str) (v : Value) : Prop where
  keep : ∀ b o, h.get? b = some o → h'.get? b = some o
  new : h.objs.size ≤ e
  obj : ∃ oe vs, h'.get? e = some oe ∧ oe.cls = .ref C ∧ oe.dict = some d ∧ oe.data = .fields vs ∧ vs[1]? = some .none
  dbig : h.objs.size ≤ d
  dne : d ≠ e
  ns : ∃ tk, h'.Ns1 d (fun y => if y = "code" then some (.str q tk) else if y = f then some v else none)
theorem err_made (T : ErrTxt prog K mg nm f q C fI cc cd) {v : Value} (X : K.In s.heap) (hG : s.heap.Ns mainGlobals mg) (hB : ∃ mb, s.heap.Ns builtinsNs mb ∧ mb "super" = some (.type "super")) (hlim : s.heap.NoLimit) (hroom : A.depth + 1 < recursionLimit)
    (hq : ∀ h' tk e d, Own s.heap h' e C d f q v → R (.ok (.ret (.ref e))) { s with heap := h', toks := tk }) :
    codeAny (model prog w) A (.call (.ref C) ⟨[v], []⟩) R s := by
  obtain ⟨nm', q', N, bs, bm, sn, sub, ab, col, dd, k0, k1', k2', k3, k5, hC, hbm, hal⟩ := T.cls
  obtain ⟨hp, g, dr, tk, os⟩ := s
  have k : ∀ b o, hp.get? b = some o → ((hp.push (kdv_tup [v])).push (excO C hp.objs.size)).get? b = some o := fun b o e => Heap.get?_push_of_some _ (Heap.get?_push_of_some _ e)
  have hget : ((hp.push (kdv_tup [v])).push (excO C hp.objs.size)).get? (hp.objs.size + 1) = some (excO C hp.objs.size) := by heap_get
  have hnx : K.lookup (hp.objs.size + 1) = none := by
    cases e : K.lookup (hp.objs.size + 1) with
    | none => rfl
    | some o =>
      have z : hp.get? (hp.objs.size + 1) = some o := X _ _ e
      exact absurd (Nat.lt_of_succ_lt (Heap.lt_size z)) (Nat.lt_irrefl _)
  obtain ⟨mb, hmb, hsb⟩ := hB
  refine call_own F.excBase_ValueError (fun X => refsVE_contains X bm hbm) (X _ _ hC) (looks_findIn X T.iC) (fun self => bind_fn X self T.tC) (by show 1 ≤ sizeLine; decide) ?_
  refine err_init (s := ⟨(hp.push (kdv_tup [v])).push (excO C hp.objs.size), g, dr, tk, os⟩) T (X.keeps k) (hG.keeps k) ⟨mb, hmb.keeps k, hsb⟩ (hlim.keeps k) hget hnx (show A.depth + 1 < recursionLimit from hroom) fun h' tk' dx t1 M => ?_
  have old : ∀ b o, hp.get? b = some o → h'.get? b = some o := fun b o e => M.keep b o (Nat.ne_of_lt (Nat.lt_succ_of_lt (Heap.lt_size e))) (k b o e)
  have z : hp.objs.size + 1 + 1 ≤ dx := by
    have dn := M.dbig
    rw [Heap.size_push, Heap.size_push] at dn
    exact dn
  exact ⟨rfl, hq h' tk' (hp.objs.size + 1) dx ⟨old, Nat.le_succ _, ⟨_, _, M.obj, rfl, rfl, rfl, rfl⟩, Nat.le_trans (Nat.le_trans (Nat.le_succ _) (Nat.le_succ _)) z, M.dne, M.ns⟩⟩
end
end ErrX
end PySem
namespace My
open PySem PySem.Spec PyProof.Rows L2
abbrev errD (f q : Str) (v : V) : List (Str × V) := [("code", .str q), (f, v)]
theorem relO_err {v : V} {v' : Value} {f q : Str} {tk : Tok} (r : RelV v v') (g : Str) : RelO (List.lookup g (errD f q v)) (if g = "code" then some (.str q tk) else if g = f then some v' else none) := by
  by_cases hc : g = "code"
  · rw [if_pos hc]
    have e : List.lookup g (errD f q v) = some (.str q) := by
      subst hc
      simp [errD, List.lookup]
    rw [e]
    exact ⟨_, rfl⟩
  · rw [if_neg hc]
    have e1 : (g == ("code" : Str)) = false := by simpa using hc
    by_cases hf : g = f
    · rw [if_pos hf]
      have e : List.lookup g (errD f q v) = some v := by
        subst hf
        simp [errD, List.lookup, e1]
      rw [e]
      exact r
    · rw [if_neg hf]
      have e2 : (g == f) = false := by simpa using hf
      have e : List.lookup g (errD f q v) = none := by simp [errD, List.lookup, e1, e2]
      rw [e]
      trivial
section
variable {X : Cx} {C fI cc cd : Addr} {nm f q : Str}
/-- X(e), the error made -/
def tMkErr (C : Addr) (f q : Str) (ta : TA) : L2.St → Hp → XK → Prop := fun σ H Q => ta σ H fun vs H1 => ∃ v, vs = [v] ∧ ∀ d, H1 d = none → Q (.ref C) (some d) (upd H1 d (.xd (errD f q v)))
theorem pmk_err {a : Expr} {ta : TA} {p pos : Pos} {k : Nat} (T : ErrX.ErrTxt X.prog X.K X.mg nm f q C fI cc cd) (hr : Room k X.A) (ha : PA X [a] ta) (hg : Gl X nm) (hd : (nm == ("__debug__" : Str)) = false := by decide)
    (he : starEach (a :: []) X.env = (false, eval a X.env) :: starEach [] X.env := by rfl) (hpl : (backTo pos (starEach [] X.env)).any (·.1) = false := by rfl) :
    PMk X (.Call (.Name nm p) [a] [] pos) (tMkErr C f q ta) := by
  intro pins s σ H Q I h
  refine wpAny_Call_Name_kw (ld_glob I hg T.gC ?_ hd)
  refine PySem.W.callWith_K (h₀ := X.base) I.ok.mod.kin T.kC (thn (ha.run pos pins s σ H _ I h) fun us s1 hh => ?_) he hpl
  obtain ⟨vs, H1, I1, r1, v, ev, q1⟩ := hh
  subst ev
  refine ⟨I1.kIn, ?_⟩
  cases r1 with
  | cons rv rn =>
    rename_i v' us'
    cases rn
    have hlim := I1.nolimit
    obtain ⟨mb, hb1, hb2⟩ := I1.mod.blt
    have hB : ∃ mb, s1.heap.Ns builtinsNs mb ∧ mb "super" = some (.type "super") := ⟨mb, hb1.keeps I1.bk, (hb2 _ (by decide +kernel)).trans (by decide +kernel)⟩
    refine wpAny_call (ErrX.err_made T I1.kIn (I1.mod.glob.keeps I1.bk) hB hlim (by have := hr.dp; omega) fun h' tk' e d M => ?_)
    obtain ⟨hp, g, dr, tok, os⟩ := s1
    obtain ⟨oe, fv, hoe, hc, hdct, hdat, h1⟩ := M.obj
    obtain ⟨tk0, hns⟩ := M.ns
    obtain ⟨G', g1, g2⟩ := restrict h' fun b => decide (b ≠ e)
    have gk : ∀ b, b ≠ e → G'.get? b = h'.get? b := fun b hb => g1 b (decide_eq_true hb)
    have ge : G'.get? e = none := g2 e (by simp)
    have old : ∀ b o, hp.get? b = some o → G'.get? b = some o := fun b o z => (gk b (Nat.ne_of_lt (Nat.lt_of_lt_of_le (Heap.lt_size z) M.new))).trans (M.keep b o z)
    have ob : ObjOk X.prog X.w (upd H1 d (.xd (errD f q v))) G' d (.xd (errD f q v)) := ⟨_, hns.at (fun o z => (gk d M.dne).trans z), fun y => relO_err rv y⟩
    have J : Inv X pins σ (upd H1 d (.xd (errD f q v))) ⟨G', g, dr, tk', os⟩ := I1.laid (t' := tk') old M.dbig ob
    refine ⟨e, oe, fv, ⟨G', g, dr, tk', os⟩, _, .ref C, some d, rfl, J, fun b o z => ?_, ge, hoe, ⟨hc, hdct⟩, hdat, h1, ?_, rfl, I1.bare, raises_own T.exC T.tyC, q1 d (I1.hok.fresh M.dbig)⟩
    · by_cases hb : b = e
      · have z' : G'.get? b = some o := z
        rw [hb, ge] at z'
        cases z'
      · exact (gk b hb).symm.trans z
    · rw [upd_ne (Ne.symm M.dne)]
      exact I1.hok.fresh M.new
end
end My
namespace My
open PySem PySem.Spec PyProof.Rows L2
/-! ### a field of a caught exception, wherever it is pinned -/
def tXg (K : PySem.W.Frag) (a : Addr) (cls : Value) (d : Option Addr) (n : Str) (te : TE) : TE := fun σ H Q => te σ H fun x H1 => x = .ref a ∧
  ∃ (C dd : Addr) (fs : List (Str × V)) (v : V), cls = .ref C ∧ XfC K C ∧ PySem.W.findIn K (.ref C) n = some none ∧ d = some dd ∧ H1 dd = some (.xd fs) ∧ fs.lookup n = some v ∧ Q v H1
section
variable {X : Cx} {a : Addr} {oe : Obj} {cls : Value} {d : Option Addr} {e : Expr} {te : TE} {pos : Pos} {n : Str}
theorem pe_xg {K : PySem.W.Frag} (hp : (a, oe) ∈ X.pn) (hz : Zc cls d oe) (hf : ∃ vs, oe.data = .fields vs) (he : PE X e te) (hK : X.K = K := by rfl) (hb : attributeBase e n X.env (eval e X.env) = eval e X.env := by rfl) : PE X (.Attribute e n pos) (tXg K a cls d n te) := by
  subst hK
  constructor
  intro pins s σ H Q I h
  apply attr_of hb
  apply thn (he.run pins s σ H _ I h)
  rintro u s1 ⟨x, H1, I1, rx, rfl, C, dd, fs, v, rfl, T, hno, rfl, ea, l, q⟩
  obtain rfl : u = Value.ref a := rx
  have pn := (I1.pin (a, oe) (List.mem_append_left _ hp)).1
  obtain ⟨vs, hd⟩ := hf
  obtain ⟨mA, hns, hr⟩ : ObjOk X.prog X.w H1 s1.heap dd (.xd fs) := I1.hok dd _ ea
  obtain ⟨od, ho, hl⟩ := lookIn_ns hns
  have rn := hr n
  rw [l] at rn
  obtain ⟨u, hu, ru⟩ := RelO.some_of (v := v) (o := mA n) rn
  have at_ : PySem.W.InstAt s1.heap a oe C (some od) := ⟨pn, hz.1, by unfold PySem.W.notCls; rw [hd] <;> rfl, by rw [hz.2]; exact ho⟩
  exact HandSPX.exc_get I1.kIn at_ T.ga T.gg T.exC (PySem.W.findObj_own T.hdC hno rfl (by rw [hl, hu])) (handed_of ru) ⟨v, H1, I1.tok _, ru, q⟩
end
/-! ### an own def, called where an exception is pinned -/
structure FnP (P : Program) (w : World) (K : PySem.W.Frag) (mg : Str → Option Value) (base : Heap) (k : Nat) (f : Addr) (fd : FuncData) (ps : List Str) (sp : Addr × Obj → Sp) : Prop where
  len : ∀ p vs H Q E, sp p vs H Q E → vs.length = ps.length
  run : ∀ (A : Around) (outer : List Env) (s : Shared) (H : Hp) (args : Args) (us : List Value) (vs : List V) (Q : VK) (p : Addr × Obj), L2H.RoomH k A → L2H.PinOk outer H s p → Env0 P w K mg base A outer s H → BindsTo s fd args (ps.zip us) → Vals vs us → sp p vs H Q E0 →
    codeAny (model P w) A (.call (.ref f) args) (CR CX0 outer P w H s Q E0) s
section
variable {P : Program} {w : World} {K : PySem.W.Frag} {mg : Str → Option Value} {base : Heap}
theorem Fun.pinned {x qual : Str} {st : Stmt} {f : Addr} {fd : FuncData} {N ps : List Str} {k : Nat} {sp : Addr × Obj → Sp} (F : Fun K x qual st f fd) (S : FnScope N ps (defScope st)) (len : ∀ p vs H Q E, sp p vs H Q E → vs.length = ps.length)
    (hbody : ∀ (cdv : Value) (A : Around) (outer : List Env) (s : Shared) (H : Hp) (vs : List V) (Q : VK) (p : Addr × Obj), L2H.RoomH k (A.deeper (envOfC qual (defScope st) s.heap.objs.size f cdv)) → sp p vs H Q E0 →
      ∃ t, PSs (L2H.cxH CX0 P w K mg base N qual (defScope st) f cdv A outer s H E0 p) (defBody st) t ∧ t { nx := fun _ H' => Q .non H', rt := Q } (L2.start N vs) H) : FnP P w K mg base (k + 1) f fd ps sp := by
  obtain ⟨oc, od, kV, doc, pm, an, cdv, ct, osl, rfl, lk, hcd⟩ := F.ex
  constructor
  · exact len
  intro A outer s H args us vs Q p hr hpin e0 hb r hsp
  have hl := len _ _ _ _ _ hsp
  have KX : K.In s.heap := e0.mod.kin.keeps fun b o e => (e0.bs b o e).1
  have lim : s.heap.NoLimit := e0.mod.nolimit.keeps fun b o e => (e0.bs b o e).1
  have kinds : ∀ y ∈ ps.zip us, (defScope st).names.lookup y.1 = some .local ∨ ((defScope st).names.lookup y.1 = some .cell ∧ ((cellsFrom (s.heap.objs.size + 1) (defScope st).names []).lookup y.1).isSome = true) := by
    rintro ⟨n, v⟩ hy
    cases S.par n (List.of_mem_zip hy).1 with
    | inl q => exact .inl q
    | inr q => exact .inr ⟨q, PySem.W.cellsFrom_some _ _ _ (.inl q)⟩
  apply codeAny_call_function hr.depth (KX _ _ lk) rfl S.co S.gen rfl (PySem.W.codeRec_of KX hcd)
  apply hb
  apply wpAny_newFunctionEnv_cells S.kind kinds
  rintro env rfl s1 x
  refine ⟨lim.keeps x.toInCall.keep, codeAny_func ?_⟩
  obtain ⟨t, ht, hq⟩ := hbody cdv A outer s H vs Q p (hr.deeper _) hsp
  have I := L2H.inv_startH (CX := CX0) (E := E0) (f := f) (cd := cdv) S hpin e0 hl r x
  apply wpAny_mono (ht.run [] s1 (L2.start N vs) H _ I hq)
  · intro fl s' hs
    cases fl with
    | ret u =>
      obtain ⟨v, σ', H', J, rv, q⟩ := hs
      exact ⟨v, H', J.os, J.bare, J.base, J.hok, rv, q⟩
    | next =>
      obtain ⟨σ', H', J, q⟩ := hs
      exact ⟨V.non, H', J.os, J.bare, J.base, J.hok, rfl, q⟩
    | brk =>
      obtain ⟨_, _, _, q⟩ := hs
      exact q.elim
    | cont =>
      obtain ⟨_, _, _, q⟩ := hs
      exact q.elim
  · exact fun e s' hs => hs
end
structure HasP (P : Program) (w : World) (K : PySem.W.Frag) (mg : Str → Option Value) (base : Heap) (k : Nat) (x : Str) (ps : List Str) (sp : Addr × Obj → Sp) : Prop where
  ex : ∃ (f : Addr) (fd : FuncData), FnP P w K mg base k f fd ps sp ∧ mg x = some (.ref f) ∧ PySem.W.keepIn K (.ref f) = true ∧ Binds K fd ps []
section
variable {X : Cx} {k : Nat} {x : Str} {ps : List Str} {sp : Addr × Obj → Sp} {p : Addr × Obj} {ps1 pos : Pos} {e : Expr} {es : List Expr} {t : TA}
theorem pe_ownP (h : HasP X.prog X.w X.K X.mg X.base k x ps sp) (hr : L2H.RoomH k X.A) (hp : p ∈ X.pn) {sp1 : Sp} (hs : ∀ vs H Q, sp1 vs H Q E0 → sp p vs H Q E0) (hg : Gl X x) (ha : PA X (e :: es) t) (hdb : (x == ("__debug__" : Str)) = false := by decide)
    (he : starEach (e :: es) X.env = (false, eval e X.env) :: starEach es X.env := by rfl) (hpl : (backTo pos (starEach es X.env)).any (·.1) = false := by rfl) : PE X (.Call (.Name x ps1) (e :: es) [] pos) (tCall sp1 [] E0 t) := by
  obtain ⟨f, fd, F, m, kp, hb⟩ := h.ex
  constructor
  intro pins s σ H Q I h
  apply wpAny_Call_Name_kw (ld_glob I hg m ?_ hdb)
  apply PySem.W.callWith_K (h₀ := X.base) I.ok.mod.kin kp _ he hpl
  apply thn (ha.run pos pins s σ H _ I h)
  rintro us s1 ⟨vs, H1, I1, r, q⟩
  rw [List.append_nil] at q
  replace q := hs _ _ _ q
  refine ⟨I1.kIn, ?_⟩
  have b := hb s1 us I1.kIn (by rw [List.append_nil, ← r.length]; exact F.len _ _ _ _ _ q)
  rw [List.append_nil] at b
  have P1 := I1.pin p (List.mem_append_left _ hp)
  have pok : L2H.PinOk X.stack H1 s1 p := ⟨P1.1, P1.2.1, fun hm => (List.mem_cons.mp (I1.stkSub p.1 hm)).elim P1.2.2.1 P1.2.2.2.1, P1.2.2.2.2⟩
  apply wpAny_call
  apply codeAny_mono (F.run X.A X.stack s1 H1 ⟨us, []⟩ us vs Q p hr pok I1.env0 b r q)
  intro r s' hq
  cases r with
  | error e => exact (show False from hq).elim
  | ok fl =>
    cases fl with
    | ret u => exact I1.after hq
    | next => exact False.elim hq
    | brk => exact False.elim hq
    | cont => exact False.elim hq
end
/-! ### except (x1, x2, x3) as n, one of which always fits -/
theorem fly_push {B h : Heap} {l : List Env} {e : Addr} {Z : Obj → Prop} (x : HandSPX.FlyingZ B l e Z h) (o : Obj) : HandSPX.FlyingZ B l e Z (h.push o) := by
  have k : ∀ b u, h.get? b = some u → (h.push o).get? b = some u := fun b u z => Heap.get?_push_of_some _ z
  obtain ⟨x1, x2, x3, oe, vs, T, oT, ts, y1, y2, y3, y4, y5, y6, y7, y8, y9⟩ := x
  exact ⟨fun b u z => k b u (x1 b u z), x2, Heap.FunFrames.of_keeps (fun b u z _ => ⟨u, k b u z, rfl⟩) x3, oe, vs, T, oT, ts, k _ _ y1, y2, y3, y4, y5, y6, k _ _ y7, y8, y9⟩
def endsOff (i : Nat) (D : Ends) : Ends := { nx := fun σ' H' => D.nx (σ'.set i none) H', rt := D.rt, bk := fun σ' H' => D.bk (σ'.set i none) H', ct := fun σ' H' => D.ct (σ'.set i none) H' }
/-- the wish for an exception that some of the classes cs takes -/
def wTup (K : PySem.W.Frag) (cs : List Value) (len i : Nat) (ts : Addr → Value → Option Addr → TS) (D : Ends) : WX := fun cls d σ H => PySem.W.exmAny K cls cs = some true ∧ ∀ a, H a = none → σ.length = len → ts a cls d (endsOff i D) (σ.set i (some (.ref a))) H
section
variable {X : Cx} {x1 x2 x3 n : Str} {c1 c2 c3 : Value} {i j : Nat} {body suite : List Stmt} {b₀ : Stmt} {p1 p2 p3 p4 pos pos' : Pos} {tb : WX → TS} {ts : Addr → Value → Option Addr → TS}
theorem ps_try_tup3 (hs : X.stack = X.env :: X.outer) (hf : X.env.frame = some X.env.locals) (hN : X.N.Nodup) (hi : X.N[i]? = some n) (hln : X.env.kindOf n = some .local) (n1 : Names X x1 c1) (n2 : Names X x2 c2) (n3 : Names X x3 c3)
    (hb : ∀ (W : WX) (pn : List (Addr × Obj)) (xe : Value → Shared → Prop), Takes (X.tr pn xe) W → PassesOwn (model X.prog X.w) X.A X.env xe → PSs (X.tr pn xe) body (tb W))
    (hsu : ∀ (a : Addr) (oe : Obj) (cls : Value) (d : Option Addr) (pn : List (Addr × Obj)), Zc cls d oe → (∃ vs, oe.data = .fields vs) → PSs (X.suite a ((a, oe) :: pn)) (b₀ :: suite) (ts a cls d)) :
    PS X (.Try body [.ExceptHandler (some (.Tuple [.Name x1 p1, .Name x2 p2, .Name x3 p3] j p4)) (some n) (b₀ :: suite) pos'] [] [] pos) (fun D σ H => tb (wTup X.K [c1, c2, c3] X.N.length i ts D) D σ H) := by
  constructor
  intro pins s σ H D I h
  have ok := I.ok
  have hfr : X.A.frames = some (X.env :: X.outer) := by rw [ok.frames, hs]
  apply wpAny_Try_except
  generalize hh : ExceptHandler.ExceptHandler (some (Expr.Tuple [.Name x1 p1, .Name x2 p2, .Name x3 p3] j p4)) (some n) (b₀ :: suite) pos' = hd
  have run := (hb (wTup X.K [c1, c2, c3] X.N.length i ts D) (X.pn ++ pins) (fun e s₁ => wpAny (model X.prog X.w) X.A (noteFrame e X.env) (fun _ s₂ => wpAny (model X.prog X.w) X.A (setFlight e none) (fun _ s₃ =>
    wpAny (model X.prog X.w) X.A (handleBy e X.env [hd]) (SP X pins D) X.xe s₃) X.xe s₂) X.xe s₁) ?tk PassesOwn.looking).run [] s σ H D (I.toTry _) h
  case tk =>
    rintro u s' ⟨a, B, sI, pins', σ', H', cls, d, rfl, J', nb, up, sky, na, os, ag, hm, hyes⟩
    have J : Inv X pins σ' H' sI := J'.ofTry ok
    have sky' : Sky B (X.env :: X.outer) a (Zc cls d) X.env.locals s'.heap := by rw [← hs]; exact sky
    show wpAny (model X.prog X.w) X.A (noteFrame (.ref a) X.env) _ _ _
    apply Sky.land Zc.steady hfr hf sky'
    intro h3 fl3 up3
    obtain ⟨oe3, vs3, he3, hz3, hd3⟩ := fl3.there
    have out : a ∉ frs (X.env :: X.outer) := fun hm => by
      obtain ⟨_, o', e', hnf⟩ := fl3.2.2.1.mem hm
      rw [he3] at e'
      cases e'
      exact hnf _ hd3
    have nL : a ≠ X.env.locals := fun z => out (List.mem_filterMap.mpr ⟨X.env, List.mem_cons_self, by rw [hf, z]⟩)
    have nF : a ∉ X.fs := fun hm => by
      obtain ⟨e, he, q⟩ := List.mem_filterMap.mp hm
      exact out (List.mem_filterMap.mpr ⟨e, List.mem_cons_of_mem _ he, q⟩)
    have J3 : Inv X pins σ' H' { s' with heap := h3 } := J.landed nb fl3.1 (up.trans up3) os ag
    have S3 := J3.suite he3 hd3 na nL nF
    subst hh
    refine wpAny_handleBy_cons (codeAny_handlers_test ?_) (by intro q; cases q)
    have nm : ∀ {x : Str} {c : Value} {p : Pos} {Q : Value → Shared → Prop} {E : Value → Shared → Prop}, Names X x c → Q c { s' with heap := h3 } → wpAny (model X.prog X.w) (X.A.mark (some (.ref a))) (eval (.Name x p) X.env) Q E { s' with heap := h3 } := by
      rintro x c p Q E ⟨hg, hdbg, hm | ⟨hm, hv, hnn⟩⟩ q
      · exact ld_glob (X := X.suite a ((a, oe3) :: (X.pn ++ pins))) S3 hg hm q hdbg
      · exact ld_blt (X := X.suite a ((a, oe3) :: (X.pn ++ pins))) S3 hg hm hv q hnn hdbg
    apply wpAny_Tuple
    refine wpAny_items_cons (nm n1 (wpAny_items_cons (nm n2 (wpAny_items_cons (nm n3 (wpAny_items_nil ⟨by show 3 ≤ sizeLine; decide, ?_⟩))))))
    have fl5 := fly_push fl3 { cls := .type "tuple", data := .seq [c1, c2, c3].toArray }
    have up5 : s'.heap.UpToSlots (h3.push { cls := .type "tuple", data := .seq [c1, c2, c3].toArray }) := up3.trans (Heap.UpToSlots.of_keeps fun b o e => Heap.get?_push_of_some _ e)
    have J5 : Inv X pins σ' H' { s' with heap := h3.push { cls := .type "tuple", data := .seq [c1, c2, c3].toArray } } := J.landed nb fl5.1 (up.trans up5) os ag
    have LT : PySem.W.Looks (model X.prog X.w) (h3.push { cls := .type "tuple", data := .seq [c1, c2, c3].toArray }) (typeOf (.ref a)) cls := fun A Q E s k q => wpAny_typeOf_ref (k _ _ (Heap.get?_push_of_some _ he3)) (by rw [hz3.1]; exact q)
    have LM := PySem.W.exm_tup3 (M := model X.prog X.w) (J5.kIn) LT (Heap.get?_push_size _ rfl) hm
    apply LM.here
    apply codeAny_handlers_suite_as
    apply HandSPX.lands_againZ fl5
    intro h4 fl4 up4
    have J4 : Inv X pins σ' H' { s' with heap := h4 } := J.landed nb fl4.1 ((up.trans up5).trans up4) os ag
    obtain ⟨oe4, vs4, he4, hz4, hd4⟩ := fl4.there
    have S4 := J4.suite he4 hd4 na nL nF
    refine store_ok (X := X.suite a ((a, oe4) :: (X.pn ++ pins))) (v := .ref a) S4 hN hi (.inl hln) rfl (fun s5 S5 => ?_) (.inr hln)
    apply wpAny_mono ((hsu a oe4 cls d (X.pn ++ pins) hz4 ⟨_, hd4⟩).run [] s5 _ H' _ S5 (hyes a na J.len))
    · have off : ∀ {σ6 : L2.St} {H6 : Hp} {s6 : Shared} {Q : Shared → Prop}, Inv (X.suite a ((a, oe4) :: (X.pn ++ pins))) [] σ6 H6 s6 → (∀ s7, Inv X pins (σ6.set i none) H6 s7 → Q s7) →
          wpAny (model X.prog X.w) X.A (do bindName X.env n .none; unbindBehindTheSuite X.env n pos') (fun _ s7 => Q s7) X.xe s6 := fun S6 hq => gone_ok (S6.unsuite ok) hN hi hln hq
      intro f s6 hsp
      cases f with
      | ret u =>
        obtain ⟨v6, σ6, H6, S6, r6, q6⟩ := hsp
        exact off S6 fun s7 J7 => ⟨_, _, _, J7, r6, q6⟩
      | next =>
        obtain ⟨σ6, H6, S6, q6⟩ := hsp
        exact off S6 fun s7 J7 => ⟨_, _, J7, q6⟩
      | brk =>
        obtain ⟨σ6, H6, S6, q6⟩ := hsp
        exact off S6 fun s7 J7 => ⟨_, _, J7, q6⟩
      | cont =>
        obtain ⟨σ6, H6, S6, q6⟩ := hsp
        exact off S6 fun s7 J7 => ⟨_, _, J7, q6⟩
    · exact fun _ _ z => z.elim
  refine wpAny_mono run (fun f s1 hsp => ?_) (fun e s1 he => he)
  cases f with
  | next =>
    obtain ⟨σ', H', J', q⟩ := hsp
    exact wpAny_execs_nil ⟨σ', H', J'.ofTry ok, q⟩
  | ret u =>
    obtain ⟨v, σ', H', J', r, q⟩ := hsp
    exact ⟨v, σ', H', J'.ofTry ok, r, q⟩
  | brk =>
    obtain ⟨σ', H', J', q⟩ := hsp
    exact ⟨σ', H', J'.ofTry ok, q⟩
  | cont =>
    obtain ⟨σ', H', J', q⟩ := hsp
    exact ⟨σ', H', J'.ofTry ok, q⟩
end
end My
namespace My
open PySem PySem.Spec PyProof.Rows L2
/-! ### which field an error's code tells -/
abbrev cGiven : List V := [.str "InvalidNumber", .str "InvalidThing", .str "InvalidRing", .str "InvalidName", .str "InvalidOrder", .str "WrongCount"]
abbrev cAt : List V := [.str "InvalidTerm", .str "InvalidLine", .str "InvalidProduct", .str "InvalidCommand", .str "DegreeTooHigh", .str "NotWhole", .str "NotStraight", .str "NoUnit"]
abbrev cNumber : List V := [.str "NoInverse", .str "Unsound", .str "InUse", .str "Broken", .str "UnknownNumber"]
abbrev cName : List V := [.str "Unused", .str "DuplicateName", .str "UnknownName"]
abbrev cMost : List V := [.str "TooMany", .str "TooGreat", .str "Full"]
def fieldName (q : Str) : Option Str :=
  if inV (.str q) cGiven then some "given" else if inV (.str q) cAt then some "at" else if inV (.str q) cNumber then some "number" else if inV (.str q) cName then some "name" else if inV (.str q) cMost then some "most" else if q = "InvalidHead" then some "part" else if q = "InvalidTable" then some "rule" else if q = "InvalidText" then some "line" else none
/-- an error of an own class at C, its dict fs: its code, the field that the code tells -/
structure ErrAt (K : PySem.W.Frag) (cls : Value) (d : Option Addr) (H : Hp) (q : Str) (v : V) : Prop where
  ex : ∃ (C dd : Addr) (fs : List (Str × V)) (f : Str), cls = .ref C ∧ XfC K C ∧ d = some dd ∧ H dd = some (.xd fs) ∧ PySem.W.findIn K (.ref C) "code" = some none ∧ fs.lookup ("code" : Str) = some (V.str q) ∧
    fieldName q = some f ∧ PySem.W.findIn K (.ref C) f = some none ∧ fs.lookup f = some v
theorem ErrAt.same {K : PySem.W.Frag} {cls : Value} {d : Option Addr} {H H' : Hp} {q : Str} {v : V} (h : ErrAt K cls d H q v) (s : Same H H') : ErrAt K cls d H' q v := by
  obtain ⟨C, dd, fs, f, a, b, c, e, r⟩ := h.ex
  exact ⟨C, dd, fs, f, a, b, c, s _ _ e, r⟩
def spField (K : PySem.W.Frag) (p : Addr × Obj) : Sp := fun vs H Q _ => ∃ (cls : Value) (d : Option Addr) (q : Str) (v : V), vs = [.ref p.1] ∧ Zc cls d p.2 ∧ (∃ ws, p.2.data = .fields ws) ∧ ErrAt K cls d H q v ∧ ∀ H', Same H H' → Q v H'
section
variable {P : Program} {w : World} {K : PySem.W.Frag} {mg : Str → Option Value} {base : Heap}
theorem ok_field (F : Fn K mg "_law_field" s_l_field ["_law_e"]) : HasP P w K mg base 1 "_law_field" ["_law_e"] (spField K) := by
  obtain ⟨f, fd, F, m, b⟩ := F.ex
  refine ⟨f, fd, Fun.pinned F sc_l_field (fun p vs H Q E h => ?_) (fun cdv A outer s H vs Q p hr h => ?_), m, F.kp, b⟩
  · obtain ⟨cls, d, q, v, rfl, _⟩ := h
    rfl
  obtain ⟨cls, d, q, v, rfl, hz, hf, er, hq⟩ := h
  refine ⟨_, (pss_cons (ps_if (pt_cmpR op_in_seq (pe_xg (K := K) (List.mem_cons_self) hz hf (pv 0)) (pe_lst (pa_cons pe_str (pa_cons pe_str (pa_cons pe_str (pa_cons pe_str (pa_cons pe_str (pa_cons pe_str pa_nil))))))) rfl)
        (pss_one (ps_ret (pe_xg (K := K) (List.mem_cons_self) hz hf (pv 0))))
        pss_nil)
      (pss_cons (ps_if (pt_cmpR op_in_seq (pe_xg (K := K) (List.mem_cons_self) hz hf (pv 0)) (pe_lst (pa_cons pe_str (pa_cons pe_str (pa_cons pe_str (pa_cons pe_str (pa_cons pe_str (pa_cons pe_str (pa_cons pe_str (pa_cons pe_str pa_nil))))))))) rfl)
        (pss_one (ps_ret (pe_xg (K := K) (List.mem_cons_self) hz hf (pv 0))))
        pss_nil)
      (pss_cons (ps_if (pt_cmpR op_in_seq (pe_xg (K := K) (List.mem_cons_self) hz hf (pv 0)) (pe_lst (pa_cons pe_str (pa_cons pe_str (pa_cons pe_str (pa_cons pe_str (pa_cons pe_str pa_nil)))))) rfl)
        (pss_one (ps_ret (pe_xg (K := K) (List.mem_cons_self) hz hf (pv 0))))
        pss_nil)
      (pss_cons (ps_if (pt_cmpR op_in_seq (pe_xg (K := K) (List.mem_cons_self) hz hf (pv 0)) (pe_lst (pa_cons pe_str (pa_cons pe_str (pa_cons pe_str pa_nil)))) rfl)
        (pss_one (ps_ret (pe_xg (K := K) (List.mem_cons_self) hz hf (pv 0))))
        pss_nil)
      (pss_cons (ps_if (pt_cmpR op_in_seq (pe_xg (K := K) (List.mem_cons_self) hz hf (pv 0)) (pe_lst (pa_cons pe_str (pa_cons pe_str (pa_cons pe_str pa_nil)))) rfl)
        (pss_one (ps_ret (pe_xg (K := K) (List.mem_cons_self) hz hf (pv 0))))
        pss_nil)
      (pss_cons (ps_if (pt_cmpR op_eq (pe_xg (K := K) (List.mem_cons_self) hz hf (pv 0)) pe_str (nomark _))
        (pss_one (ps_ret (pe_tup (pa_cons (pe_xg (K := K) (List.mem_cons_self) hz hf (pv 0)) (pa_cons (pe_xg (K := K) (List.mem_cons_self) hz hf (pv 0)) pa_nil)))))
        pss_nil)
      (pss_cons (ps_if (pt_cmpR op_eq (pe_xg (K := K) (List.mem_cons_self) hz hf (pv 0)) pe_str (nomark _))
        (pss_one (ps_ret (pe_xg (K := K) (List.mem_cons_self) hz hf (pv 0))))
        pss_nil)
      (pss_cons (ps_if (pt_cmpR op_eq (pe_xg (K := K) (List.mem_cons_self) hz hf (pv 0)) pe_str (nomark _))
        (pss_one (ps_ret (pe_xg (K := K) (List.mem_cons_self) hz hf (pv 0))))
        pss_nil)
      (pss_one (ps_ret (pe_ifExp (pt_cmpR op_eq (pe_xg (K := K) (List.mem_cons_self) hz hf (pv 0)) pe_str (nomark _)) (pe_xg (K := K) (List.mem_cons_self) hz hf (pv 0)) pe_non))))))))))), ?_⟩
  obtain ⟨C, dd, fs, fn, rfl, T, rfl, hd, noC, lC, hfn, noF, lF⟩ := er.ex
  have step : ∀ {H' : Hp} {l : Addr} {o : HO}, H' dd = some (.xd fs) → H' l = none → upd H' l o dd = some (.xd fs) := fun e n => by rw [upd_ne (ne_of_none e n)]; exact e
  unfold fieldName at hfn
  refine ⟨_, rfl, rfl, C, dd, fs, _, rfl, T, noC, rfl, hd, lC, (by show 6 ≤ sizeLine; decide), fun l1 h1 => ⟨l1, cGiven, rfl, .inl (SqL.of upd_same), rfl, rfl, ?_⟩⟩
  have d1 := step (o := .lst cGiven) hd h1
  have m1 : Same H (upd H l1 (.lst cGiven)) := same_upd h1
  cases i1 : inV (.str q) cGiven with
  | true =>
    rw [i1] at hfn
    cases hfn
    exact ⟨_, rfl, iteT ⟨_, rfl, rfl, C, dd, fs, _, rfl, T, noF, rfl, d1, lF, hq _ m1⟩⟩
  | false =>
  rw [i1] at hfn
  refine ⟨_, rfl, iteF ?_⟩
  refine ⟨_, rfl, rfl, C, dd, fs, _, rfl, T, noC, rfl, d1, lC, (by show 8 ≤ sizeLine; decide), fun l2 h2 => ⟨l2, cAt, rfl, .inl (SqL.of upd_same), rfl, rfl, ?_⟩⟩
  have d2 := step (o := .lst cAt) d1 h2
  have m2 := m1.trans (same_upd (o := .lst cAt) h2)
  cases i2 : inV (.str q) cAt with
  | true =>
    rw [i2] at hfn
    cases hfn
    exact ⟨_, rfl, iteT ⟨_, rfl, rfl, C, dd, fs, _, rfl, T, noF, rfl, d2, lF, hq _ m2⟩⟩
  | false =>
  rw [i2] at hfn
  refine ⟨_, rfl, iteF ?_⟩
  refine ⟨_, rfl, rfl, C, dd, fs, _, rfl, T, noC, rfl, d2, lC, (by show 5 ≤ sizeLine; decide), fun l3 h3 => ⟨l3, cNumber, rfl, .inl (SqL.of upd_same), rfl, rfl, ?_⟩⟩
  have d3 := step (o := .lst cNumber) d2 h3
  have m3 := m2.trans (same_upd (o := .lst cNumber) h3)
  cases i3 : inV (.str q) cNumber with
  | true =>
    rw [i3] at hfn
    cases hfn
    exact ⟨_, rfl, iteT ⟨_, rfl, rfl, C, dd, fs, _, rfl, T, noF, rfl, d3, lF, hq _ m3⟩⟩
  | false =>
  rw [i3] at hfn
  refine ⟨_, rfl, iteF ?_⟩
  refine ⟨_, rfl, rfl, C, dd, fs, _, rfl, T, noC, rfl, d3, lC, (by show 3 ≤ sizeLine; decide), fun l4 h4 => ⟨l4, cName, rfl, .inl (SqL.of upd_same), rfl, rfl, ?_⟩⟩
  have d4 := step (o := .lst cName) d3 h4
  have m4 := m3.trans (same_upd (o := .lst cName) h4)
  cases i4 : inV (.str q) cName with
  | true =>
    rw [i4] at hfn
    cases hfn
    exact ⟨_, rfl, iteT ⟨_, rfl, rfl, C, dd, fs, _, rfl, T, noF, rfl, d4, lF, hq _ m4⟩⟩
  | false =>
  rw [i4] at hfn
  refine ⟨_, rfl, iteF ?_⟩
  refine ⟨_, rfl, rfl, C, dd, fs, _, rfl, T, noC, rfl, d4, lC, (by show 3 ≤ sizeLine; decide), fun l5 h5 => ⟨l5, cMost, rfl, .inl (SqL.of upd_same), rfl, rfl, ?_⟩⟩
  have d5 := step (o := .lst cMost) d4 h5
  have m5 := m4.trans (same_upd (o := .lst cMost) h5)
  cases i5 : inV (.str q) cMost with
  | true =>
    rw [i5] at hfn
    cases hfn
    exact ⟨_, rfl, iteT ⟨_, rfl, rfl, C, dd, fs, _, rfl, T, noF, rfl, d5, lF, hq _ m5⟩⟩
  | false =>
  rw [i5] at hfn
  have hfn : (if q = "InvalidHead" then some ("part" : Str) else if q = "InvalidTable" then some ("rule" : Str) else if q = "InvalidText" then some ("line" : Str) else none) = some fn := hfn
  have ev : ∀ z : Str, q ≠ z → (decide (V.str q = V.str z)) = false := fun z n => decide_eq_false fun e => n (V.str.inj e)
  refine ⟨_, rfl, iteF ?_⟩
  have nS : q ≠ "InvalidStep" := fun z => by
    subst z
    have : (none : Option Str) = some fn := hfn
    cases this
  refine ⟨_, rfl, rfl, C, dd, fs, _, rfl, T, noC, rfl, d5, lC, rfl, _, rfl, ite_no (by rw [ev _ nS]; decide) ?_⟩
  refine ⟨_, rfl, rfl, C, dd, fs, _, rfl, T, noC, rfl, d5, lC, rfl, _, rfl, ?_⟩
  by_cases z1 : q = "InvalidHead"
  · rw [if_pos z1] at hfn
    cases hfn
    exact ite_of (decide_eq_true (congrArg V.str z1)) ⟨_, rfl, rfl, C, dd, fs, _, rfl, T, noF, rfl, d5, lF, hq _ m5⟩
  rw [if_neg z1] at hfn
  refine ite_no (by rw [ev _ z1]; decide) ?_
  refine ⟨_, rfl, rfl, C, dd, fs, _, rfl, T, noC, rfl, d5, lC, rfl, _, rfl, ?_⟩
  by_cases z2 : q = "InvalidTable"
  · rw [if_pos z2] at hfn
    cases hfn
    exact ite_of (decide_eq_true (congrArg V.str z2)) ⟨_, rfl, rfl, C, dd, fs, _, rfl, T, noF, rfl, d5, lF, hq _ m5⟩
  rw [if_neg z2] at hfn
  refine ite_no (by rw [ev _ z2]; decide) ?_
  refine ⟨_, rfl, rfl, C, dd, fs, _, rfl, T, noC, rfl, d5, lC, rfl, _, rfl, ?_⟩
  by_cases z3 : q = "InvalidText"
  · rw [if_pos z3] at hfn
    cases hfn
    exact ite_of (decide_eq_true (congrArg V.str z3)) ⟨_, rfl, rfl, C, dd, fs, _, rfl, T, noF, rfl, d5, lF, hq _ m5⟩
  rw [if_neg z3] at hfn
  cases hfn
end
/-! ### ask and tell: a value with no code, or an error's code and field -/
/-- what is wished of the exceptions that ask() lets out -/
def ErrWish (K : PySem.W.Frag) (cs : List Value) (Q : VK) : XK := fun cls d H => PySem.W.exmAny K cls cs = some true ∧ ∃ (q : Str) (v : V), ErrAt K cls d H q v ∧ ∀ H2 p, Same H H2 → H2 p = none → Q (.ref p) (upd H2 p (.tup [.str q, v]))
def spField1 (K : PySem.W.Frag) (a : Addr) (cls : Value) (d : Option Addr) : Sp := fun vs H Q _ => ∃ (q : Str) (v : V), vs = [.ref a] ∧ ErrAt K cls d H q v ∧ ∀ H', Same H H' → Q v H'
theorem pe_fld {Y : Cx} (K : PySem.W.Frag) {a : Addr} {oe : Obj} {cls : Value} {d : Option Addr} {ps1 pos : Pos} {e : Expr} {es : List Expr} {t : TA} (G : HasP Y.prog Y.w Y.K Y.mg Y.base 1 "_law_field" ["_law_e"] (spField Y.K)) (hr : L2H.RoomH 1 Y.A) (hp : (a, oe) ∈ Y.pn)
    (hz : Zc cls d oe) (hf : ∃ vs, oe.data = .fields vs) (hg : Gl Y "_law_field") (ha : PA Y (e :: es) t) (hK : Y.K = K := by rfl) (he : starEach (e :: es) Y.env = (false, eval e Y.env) :: starEach es Y.env := by rfl) (hpl : (backTo pos (starEach es Y.env)).any (·.1) = false := by rfl) :
    PE Y (.Call (.Name "_law_field" ps1) (e :: es) [] pos) (tCall (spField1 K a cls d) [] E0 t) := by
  subst hK
  exact pe_ownP G hr hp (fun vs H Q ⟨q, v, e, r⟩ => ⟨cls, d, q, v, e, hz, hf, r⟩) hg ha (by decide) he hpl
def TGot (K : PySem.W.Frag) (cs : List Value) : (XK → Hp → VK → Prop) → Hp → VK → Prop := fun tl H Q => tl (ErrWish K cs Q) H fun v H1 => 2 ≤ sizeLine ∧ ∀ p, H1 p = none → Q (.ref p) (upd H1 p (.tup [.str "", v]))
section
variable {X : Cx}
theorem got_gives {g : Addr} {cdg : Value} {q : Str} {C1 C2 C3 : Value} {k : Nat} (hr : Room (k + 2) X.A) (G_l_field : HasP X.prog X.w X.K X.mg X.base 1 "_law_field" ["_law_e"] (spField X.K)) (m1 : X.mg "RingError" = some C1) (m2 : X.mg "Missing" = some C2) (m3 : X.mg "NothingLeft" = some C3) :
    LamX.GivesTo X N_l_got "_law_got" (defScope s_l_got) g cdg (defBody s_l_got) "_law_ask" q (TGot X.K [C1, C2, C3]) := by
  intro f c' s H Q tl act hc h
  have hr1 : Room (k + 1) (X.A.deeper (envOfC "_law_got" (defScope s_l_got) s.heap.objs.size g cdg)) := hr.deeper _
  have hr2 : ∀ a : Addr, L2H.RoomH 1 ((X.A.deeper (envOfC "_law_got" (defScope s_l_got) s.heap.objs.size g cdg)).mark (some (.ref a))) := fun a => by
    have r := hr1.mono (Nat.succ_le_succ (Nat.zero_le k))
    exact ⟨r.dp, r.un⟩
  refine ⟨_, pss_one (ps_try_tup3 (X := (cxOf C8.CX0 X.prog X.w X.K X.mg X.base N_l_got "_law_got" (defScope s_l_got) g cdg X.A X.stack s H C8.E0).nox) (i := 1) (c1 := C1) (c2 := C2) (c3 := C3)
      (tb := fun W D σ H => ∃ Ech : XK, (∀ cls d σ' H', Ech cls d H' → W cls d σ' H') ∧ σ[0]? = some (some (.ref f)) ∧ H c' = some (LamX.CodeO c' q) ∧ tl Ech H (fun v H1 => 2 ≤ sizeLine ∧ ∀ p, H1 p = none → D.rt (.ref p) (upd H1 p (.tup [.str "", v]))))
      rfl rfl sc_l_got.nd rfl rfl ⟨rfl, by decide, .inl m1⟩ ⟨rfl, by decide, .inl m2⟩ ⟨rfl, by decide, .inl m3⟩ (fun W pn xe tk _ => ?_) (fun a oe cls d pn hz hf => pss_one (ps_ret (pe_tup (pa_cons (pe_xg (K := X.K) (List.mem_cons_self) hz hf (pv 1)) (pa_cons (pe_fld (Y := Cx.suite (cxOf C8.CX0 X.prog X.w X.K X.mg X.base N_l_got "_law_got" (defScope s_l_got) g cdg X.A X.stack s H C8.E0).nox a ((a, oe) :: pn)) X.K G_l_field (hr2 a) (List.mem_cons_self) hz hf rfl (pa_cons (pv 1) pa_nil)) pa_nil)))))), ?_⟩
  · constructor
    intro pins s' σ H' D I h'
    obtain ⟨Ech, hW, h1, h2, h3⟩ := h'
    have hp := fun p1 p2 => act W pn xe Ech p1 p2 tk hW
    exact (pss_one (ps_ret (pe_tup (pa_cons pe_str (pa_cons (hp _ _) pa_nil))))).run pins s' σ H' D I ⟨h1, h2, h3⟩
  · refine ⟨ErrWish X.K [C1, C2, C3] Q, fun cls d σ' H' ⟨hm, qq, v, er, hQ⟩ => ⟨hm, fun a na hl => ?_⟩, rfl, hc, h⟩
    obtain ⟨C, dd, fs, fn, rfl, T, rfl, hd, noC, lC, hfn, noF, lF⟩ := er.ex
    have hv : (σ'.set 1 (some (.ref a)))[1]? = some (some (V.ref a)) := List.getElem?_set_self (by rw [hl]; show 1 < N_l_got.length; decide)
    exact ⟨_, hv, rfl, C, dd, fs, _, rfl, T, noC, rfl, hd, lC, _, hv, qq, v, rfl, er, fun H2 s2 => ⟨by show 2 ≤ sizeLine; decide, fun p hp => hQ H2 p s2 hp⟩⟩
end
end My
/-! a method of an own class that says super(): its body, its last statement super().__init__(..) -/
namespace PySem
namespace SupX
open PySem.W PySem.Calls PyProof.Rows L2
theorem cells_app : ∀ (names : List (Str × NameKind)) (n : Nat) (acc : List (Str × Addr)), cellsFrom n names acc = cellsFrom n names [] ++ acc
  | [], _, _ => rfl
  | (x, k) :: r, n, acc => by
    unfold cellsFrom
    cases (k == NameKind.cell) with
    | true =>
      rw [if_pos rfl, if_pos rfl, cells_app r (n + 1) ((x, n) :: acc), cells_app r (n + 1) [(x, n)], List.append_assoc]
      rfl
    | false =>
      rw [if_neg (by decide), if_neg (by decide)]
      exact cells_app r n acc
theorem cells_mem : ∀ (names : List (Str × NameKind)) (n : Nat) {x : Str} {c : Addr}, (x, c) ∈ cellsFrom n names [] → (x, NameKind.cell) ∈ names
  | [], _, x, c, h => by cases h
  | (y, k) :: r, n, x, c, h => by
    unfold cellsFrom at h
    cases hk : (k == NameKind.cell) with
    | true =>
      rw [hk, if_pos rfl, cells_app] at h
      rcases List.mem_append.mp h with h | h
      · exact List.mem_cons_of_mem _ (cells_mem r (n + 1) h)
      · rw [List.mem_singleton] at h
        cases h
        rw [show k = NameKind.cell from beq_iff_eq.mp hk]
        exact List.mem_cons_self
    | false =>
      rw [hk, if_neg (by decide)] at h
      exact List.mem_cons_of_mem _ (cells_mem r n h)
abbrev clsC (cc : Addr) : List (Str × Addr) := [("__class__", cc)]
abbrev ownC (L : Addr) (scope : Scope) : List (Str × Addr) := cellsFrom (L + 1) scope.names []
abbrev envS (qual : Str) (scope : Scope) (L f : Addr) (cd : Value) (cc : Addr) : Env := envX qual scope L f cd (ownC L scope ++ clsC cc)
section
variable {M : Model} {A : Around} {E : Value → Shared → Prop} {s₀ : Shared} {env : Env} {cs : List (Str × Addr)}
/-- parameters stored in locals and own cells, beside them the class's cell -/
theorem bind_own (f : Str × Value → PUnit → Sem (ForInStep PUnit)) (hf : ∀ n v u, f (n, v) u = (do storeName env n v; pure (.yield ⟨⟩))) (hk : env.scope.kind = .function) (hcs : ∀ n c, cs.lookup n = some c → env.cells.lookup n = some c) :
    ∀ (binds : List (Str × Value)) (m cm : Str → Option Value) (s : Shared) (Q : PUnit → Shared → Prop), InCallC s₀ env.locals m cs cm s →
      (∀ x ∈ binds, env.kindOf x.1 = some .local ∨ (env.kindOf x.1 = some .cell ∧ (cs.lookup x.1).isSome = true)) →
      (∀ s', InCallC s₀ env.locals (bindL env.kindOf binds m) cs (bindC env.kindOf binds cm) s' → Q ⟨⟩ s') → wpAny M A (forIn binds ⟨⟩ f) Q E s := by
  intro binds
  induction binds with
  | nil =>
    intro m cm s Q x _ h
    rw [List.forIn_nil]
    exact wpAny_pure (h s x)
  | cons b r ih =>
    obtain ⟨n, v⟩ := b
    intro m cm s Q x hkind h
    rw [List.forIn_cons, hf]
    have hr : ∀ y ∈ r, env.kindOf y.1 = some .local ∨ (env.kindOf y.1 = some .cell ∧ (cs.lookup y.1).isSome = true) := fun y hy => hkind y (List.mem_cons_of_mem _ hy)
    rcases hkind (n, v) List.mem_cons_self with hl | ⟨hl, hc⟩
    · refine wpAny_bind (wpAny_bind (wpAny_storeName_local hl x.toInCall.ns (fun h' hn' hs' => wpAny_pure ?_) (by rw [hk]; rfl)))
      refine ih (fun y => if y = n then some v else m y) cm _ Q ⟨⟨?_, hn', fun b o e => ?_, x.toInCall.fresh⟩, fun k c hc => ?_, x.apart, x.above⟩ hr fun s'' x'' => h s'' ?_
      · obtain ⟨h₁, tk, rfl⟩ := x.toInCall.same
        exact ⟨h', _, rfl⟩
      · exact hs'.extBut b o (Nat.ne_of_lt (Nat.lt_of_lt_of_le (Heap.lt_size e) x.toInCall.fresh)) (x.toInCall.keep b o e)
      · exact (x.cell k c hc).sameBut hs' (Nat.ne_of_gt (x.above k c (PySem.mem_of_lookup hc)))
      · unfold bindL bindC
        rw [if_pos hl, if_pos hl]
        exact x''
    · obtain ⟨c, hc⟩ := Option.isSome_iff_exists.mp hc
      have hnl : ¬ env.kindOf n = some .local := by rw [hl]; decide
      have hLc := x.above n c (PySem.mem_of_lookup hc)
      refine wpAny_bind (wpAny_bind (wpAny_storeName_cell hk hl (hcs n c hc) (x.cell n c hc) fun h' hc' hs' => wpAny_pure ?_))
      refine ih m (fun y => if y = n then some v else cm y) _ Q ⟨⟨?_, x.toInCall.ns.sameBut hs' (Nat.ne_of_lt hLc), fun b o e => ?_, x.toInCall.fresh⟩, fun k c' hk' => ?_, x.apart, x.above⟩ hr fun s'' x'' => h s'' ?_
      · obtain ⟨h₁, tk, rfl⟩ := x.toInCall.same
        exact ⟨h', _, rfl⟩
      · exact hs'.extBut b o (Nat.ne_of_lt (Nat.lt_trans (Nat.lt_of_lt_of_le (Heap.lt_size e) x.toInCall.fresh) hLc)) (x.toInCall.keep b o e)
      · by_cases hkn : k = n
        · subst hkn
          rw [hc] at hk'
          cases hk'
          simpa using hc'
        · rw [if_neg hkn]
          exact (x.cell k c' hk').sameBut hs' fun e => hkn (name_of_addr x.apart (PySem.mem_of_lookup hk') (e ▸ PySem.mem_of_lookup hc))
      · unfold bindL bindC
        rw [if_neg hnl, if_neg hnl]
        exact x''
end
section
variable {M : Model} {A : Around} {E : Value → Shared → Prop} {s : Shared}
theorem env_own {scope : Scope} {binds : List (Str × Value)} {qual : Str} {f cc : Addr} {cd : Value} {Q : Env → Shared → Prop} (hk : scope.kind = .function)
    (hkind : ∀ x ∈ binds, scope.names.lookup x.1 = some .local ∨ (scope.names.lookup x.1 = some .cell ∧ ((ownC s.heap.objs.size scope).lookup x.1).isSome = true))
    (hQ : ∀ s', InCallC s s.heap.objs.size (bindL (envS qual scope s.heap.objs.size f cd cc).kindOf binds fun _ => none) (ownC s.heap.objs.size scope) (bindC (envS qual scope s.heap.objs.size f cd cc).kindOf binds fun _ => none) s' → Q (envS qual scope s.heap.objs.size f cd cc) s') :
    wpAny M A (newFunctionEnv scope mainGlobals (clsC cc) binds (qual ++ ".<locals>.") (some f) cd none builtinsNs) Q E s := by
  simp only [newFunctionEnv, Option.isSome_none, Bool.false_eq_true, if_false]
  refine wpAny_bind (wpAny_alloc ?_)
  refine wpAny_bind (wpAny_layCells _ (fun name kind cells => by cases hkc : kind == NameKind.cell <;> simp [hkc]) _ _ _ _ ?_)
  have ok := cellsFrom_ok scope.names (s.heap.push { cls := .type "frame", data := .dict #[] }) (s.heap.objs.size + 1) [] ⟨fun _ _ hm => (nomatch hm), List.Pairwise.nil⟩ (by rw [Heap.size_push]; exact Nat.le_refl _)
  rw [Heap.size_push] at ok
  rw [show ({ s with heap := s.heap.push { cls := .type "frame", data := .dict #[] } } : Shared).heap.objs.size = s.heap.objs.size + 1 from Heap.size_push .., cells_app]
  refine wpAny_bind (bind_own (s₀ := s) (env := envS qual scope s.heap.objs.size f cd cc) (cs := ownC s.heap.objs.size scope) _ (fun _ _ _ => rfl) hk (fun n c e => ?_) binds (fun _ => none) (fun _ => none) _ _
    ⟨⟨⟨_, _, rfl⟩, (Heap.Ns.new s.heap (.type "frame")).keeps (pushCells_keeps _ _), fun b o e => pushCells_keeps _ _ b o (Heap.get?_push_of_some _ e), Nat.le_refl _⟩, fun n c hc => (ok.empty n c (PySem.mem_of_lookup hc)).1, ok.apart, fun n c hm => (ok.empty n c hm).2⟩
    hkind fun s' x => wpAny_pure (hQ s' x))
  show (ownC s.heap.objs.size scope ++ clsC cc).lookup n = some c
  rw [List.lookup_append, e]
  rfl
end
end SupX
end PySem
namespace PySem
namespace SupX
open PySem.W PySem.Calls PyProof.Rows L2
structure SupScope (N P : List Str) (sc : Scope) : Prop where
  kind : sc.kind = .function
  co : sc.isCoroutine = false
  gen : sc.isGenerator = false
  nd : N.Nodup
  pre : N.take P.length = P
  par : ∀ x ∈ P, sc.names.lookup x = some .local ∨ sc.names.lookup x = some .cell
  free : ∀ y ∈ sc.names, y.2 = .free → y.1 = "__class__"
  cls : sc.names.lookup ("__class__" : Str) = some .free
  noc : ∀ y ∈ sc.names, y.1 = "__class__" → y.2 ≠ .cell
  sup : sc.names.lookup ("super" : Str) = some .globalImplicit
/-- the context of its body -/
def cxS (CX : CXT) (P : Program) (w : World) (K : Frag) (mg : Str → Option Value) (base : Heap) (N : List Str) (qual : Str) (scope : Scope) (f : Addr) (cd : Value) (cc : Addr) (A : Around) (outer : List Env) (s : Shared) (H : Hp) (E : XK) : Cx where
  prog := P
  w := w
  K := K
  mg := mg
  base := base
  A := A.deeper (envS qual scope s.heap.objs.size f cd cc)
  N := N
  s_0 := s
  H_0 := H
  env := envS qual scope s.heap.objs.size f cd cc
  outer := outer
  stack := envS qual scope s.heap.objs.size f cd cc :: outer
  ex := []
  fn := fun y => !(y == ("__class__" : Str))
  calm := true
  pn := []
  xe := fun e s' => wpAny (model P w) (A.deeper (envS qual scope s.heap.objs.size f cd cc)) (leaving (envS qual scope s.heap.objs.size f cd cc) e) (fun _ s'' => CX outer H s E e s'') (fun e' s'' => CX outer H s E e' s'') s'
theorem own_none {sc : Scope} {N P : List Str} {n : Nat} (S : SupScope N P sc) : (cellsFrom n sc.names []).lookup ("__class__" : Str) = none := by
  cases e : (cellsFrom n sc.names []).lookup ("__class__" : Str) with
  | none => rfl
  | some c => exact absurd rfl (S.noc _ (cells_mem _ _ (PySem.mem_of_lookup e)) rfl)
theorem cells_cases {L cc : Addr} {sc : Scope} {y : Str} {c : Addr} (h : (ownC L sc ++ clsC cc).lookup y = some c) : (ownC L sc).lookup y = some c ∨ (y = "__class__" ∧ c = cc) := by
  rw [List.lookup_append] at h
  cases e : (ownC L sc).lookup y with
  | some c' =>
    rw [e] at h
    exact .inl h
  | none =>
    rw [e] at h
    have h' : List.lookup y [(("__class__" : Str), cc)] = some c := h
    simp only [List.lookup] at h'
    cases b : (y == ("__class__" : Str)) with
    | true =>
      rw [b] at h'
      cases h'
      exact .inr ⟨beq_iff_eq.mp b, rfl⟩
    | false =>
      rw [b] at h'
      cases h'
section
variable {CX : CXT} {P : Program} {w : World} {K : Frag} {mg : Str → Option Value} {base : Heap} {N ps : List Str} {qual : Str} {scope : Scope} {f cc D : Addr} {cd : Value} {A : Around} {outer : List Env} {s s1 : Shared} {H : Hp} {E : XK} {us : List Value} {vs : List V}
theorem startS {cl : Value} {cld : Option Addr} {csl : Array (Option Value)} (S : SupScope N ps scope) (hd : A.handled = none) (e0 : Env0 P w K mg base A outer s H) (hcc : K.lookup cc = some ⟨cl, cld, .cell (some (.ref D)), csl⟩) (hl : vs.length = ps.length) (r : Vals vs us)
    (x : InCallC s s.heap.objs.size (bindL (envS qual scope s.heap.objs.size f cd cc).kindOf (ps.zip us) fun _ => none) (ownC s.heap.objs.size scope) (bindC (envS qual scope s.heap.objs.size f cd cc).kindOf (ps.zip us) fun _ => none) s1) :
    Inv (cxS CX P w K mg base N qual scope f cd cc A outer s H E) [] (L2.start N vs) H s1 := by
  have hpl : ps.length ≤ N.length := by have := congrArg List.length S.pre; rw [List.length_take] at this; omega
  obtain ⟨h1, tk, rfl, hk⟩ := x.done
  have noA : ∀ b : Addr, b ∉ (cxS CX P w K mg base N qual scope f cd cc A outer s H E).ex := fun b z => absurd (show b ∈ ([] : List Addr) from z) (by simp)
  have eb := e0.mod.kin cc _ hcc
  have es := (e0.bs _ _ eb).1
  have lt := Heap.lt_size es
  have nd : ps.Nodup := by rw [← S.pre]; exact S.nd.sublist (List.take_sublist _ _)
  have low : ∀ {y c}, (ownC s.heap.objs.size scope).lookup y = some c → s.heap.objs.size < c := fun h => x.above _ _ (PySem.mem_of_lookup h)
  refine ⟨⟨e0.mod, S.kind, rfl, rfl, Nat.le_refl _, fun y z c h1 h2 => ?_, fun y hy => ?_, fun y c hf h => ?_, fun _ => hd, Around.frames_deeper e0.frames, .inr ⟨rfl, rfl⟩, fun b z => absurd z (noA b), e0.bs, e0.bsz, fun b _ _ => noA b, fun b z => absurd z (noA b), e0.funs, e0.frf⟩,
    rfl, e0.bare, Un.kept hk, ⟨_, x.toInCall.ns, fun i y v h1 h2 h3 => ?_⟩, fun y c h => ?_, e0.hok.fresh (Nat.le_refl _), fun y c h => ?_, fun p hp => absurd (show p ∈ ([] : List (Addr × Obj)) from hp) (by simp), e0.hok.kept hk, ?_⟩
  · rcases cells_cases h1 with a | ⟨a, rfl⟩
    · rcases cells_cases h2 with b | ⟨b, rfl⟩
      · exact name_of_addr x.apart (PySem.mem_of_lookup a) (PySem.mem_of_lookup b)
      · exact absurd (Nat.lt_trans lt (low a)) (Nat.lt_irrefl _)
    · rcases cells_cases h2 with b | ⟨b, _⟩
      · exact absurd (Nat.lt_trans lt (low b)) (Nat.lt_irrefl _)
      · rw [a, b]
  · have hy : scope.names.lookup y = some .cell ∨ scope.names.lookup y = some .free := hy
    show ∃ c, (ownC s.heap.objs.size scope ++ clsC cc).lookup y = some c
    rw [List.lookup_append]
    rcases hy with hy | hy
    · obtain ⟨c, e⟩ := cell_has (n := s.heap.objs.size + 1) hy
      rw [e]
      exact ⟨c, rfl⟩
    · have e := S.free _ (PySem.mem_of_lookup hy) rfl
      have e' : y = "__class__" := e
      subst e'
      rw [own_none S]
      exact ⟨cc, rfl⟩
  · rcases cells_cases h with a | ⟨a, _⟩
    · exact Nat.le_of_lt (low a)
    · rw [a] at hf
      exact absurd (show (!(("__class__" : Str) == ("__class__" : Str))) = true from hf) (by decide)
  · have hi : i < vs.length := by
      unfold L2.start at h2
      by_cases hi : i < vs.length
      · exact hi
      · rw [List.getElem?_append_right (by simpa using hi), List.getElem?_replicate] at h2
        split at h2 <;> cases h2
    have ha : vs[i]? = some v := by
      unfold L2.start at h2
      rw [List.getElem?_append_left (by simpa using hi), List.getElem?_map] at h2
      cases e : vs[i]? with
      | none => rw [e] at h2; cases h2
      | some a => rw [e] at h2; cases h2; rfl
    obtain ⟨u, hu, rv⟩ := r.get ha
    have hp : ps[i]? = some y := by
      rw [← S.pre, List.getElem?_take_of_lt (by omega)]
      exact h1
    refine ⟨u, rv, ?_⟩
    rcases S.par y (List.mem_of_getElem? hp) with k | k
    · exact .inl ⟨k, bindL_get nd hp hu k⟩
    · obtain ⟨c, e⟩ := cell_has (n := s.heap.objs.size + 1) k
      have q := x.cell y c e
      rw [bindC_get nd hp hu (by show scope.names.lookup y ≠ _; rw [k]; decide)] at q
      refine .inr ⟨.inl k, c, ?_, q⟩
      show (ownC s.heap.objs.size scope ++ clsC cc).lookup y = some c
      rw [List.lookup_append, e]
      rfl
  · rcases cells_cases h with a | ⟨_, rfl⟩
    · exact ⟨_, x.cell y c a⟩
    · exact ⟨_, _, hk _ _ es, rfl⟩
  · rcases cells_cases h with a | ⟨_, rfl⟩
    · exact e0.hok.fresh (Nat.le_of_lt (low a))
    · exact (e0.bs _ _ eb).2
  · unfold L2.start
    show _ = N.length
    rw [List.length_append, List.length_map, List.length_replicate]
    omega
end
/-- what is known of such a method: the class D that its cell holds, its code -/
structure SupFn (prog : Program) (K : Frag) (f : Addr) (fd : FuncData) (name qual : Str) (st : Stmt) (cc cda D : Addr) : Prop where
  ex : ∃ (oc kV doc pm ct cl ccl : Value) (od an cld cdd : Option Addr) (osl csl ccs : Array (Option Value)) (vs : Array Value) (file : Str) (tf : Tok),
    fd = ksFn name qual (defArgs st) (defBody st) (defScope st) .none kV doc pm an (.ref cda) ct cc ∧ K.lookup f = some ⟨oc, od, .func fd, osl⟩ ∧ codeIn K (.ref cda) qual = true ∧
    K.lookup cc = some ⟨cl, cld, .cell (some (.ref D)), csl⟩ ∧ K.lookup cda = some ⟨ccl, cdd, .fields vs, ccs⟩ ∧ vs[2]? = some (.str file tf) ∧ ((prog.main.file : Str) == file) = true
  top : (prog.main.scope.names.lookup ("super" : Str)).isSome = false
theorem execs_app {env : Env} (post : List Stmt) : ∀ pre : List Stmt, execs (pre ++ post) env = (execs pre env >>= fun f => match f with | .next => execs post env | f => pure f)
  | [] => rfl
  | st :: r => by
    rw [List.cons_append, execs_cons, execs_cons, bind_assoc]
    congr 1
    funext f
    cases f with
    | next => exact execs_app post r
    | _ => rfl
end SupX
end PySem
namespace PySem
namespace SupX
open PySem.W PySem.Calls PyProof.Rows L2
abbrev supE (es : List Expr) (p0 p1 p2 p3 : Pos) : Expr := .Call (.Attribute (.Call (.Name "super" p0) [] [] p1) "__init__" p2) es [] p3
/-- the class C of the instance: above it stands D, behind D comes the __init__ at f2 -/
structure Above (K : Frag) (C D f2 : Addr) : Prop where
  cD : (clsIn K D).isSome = true
  sub : mroIn K C (.ref D) = some true
  ini : ks_superIn K C D "__init__" = some (some (.ref f2))
  ty : typeIn K (.ref f2) = some (.type "function")
  fn : fnIn K f2 = true
  opq : nsIn K cStatics "thirdparty.any" = some none
/-- super().__init__(..) as the last statement -/
def tSup (K : Frag) (D f2 : Addr) (sp : Sp) (E : XK) (t : TA) : TS := fun Dn σ H => ∃ (a C dx : Addr) (fs : List (Str × V)), σ[0]? = some (some (.ref a)) ∧ H a = some (.ins C dx fs) ∧ Above K C D f2 ∧ t σ H fun vs H1 => sp (.ref a :: vs) H1 (fun _ H2 => Dn.nx σ H2) E
section
variable {X : Cx} {CX : CXT} {name qual : Str} {st : Stmt} {f cc cda D f2 : Addr} {fd : FuncData} {s : Shared} {H : Hp} {E : XK} {k : Nat} {sp : Sp} {e : Expr} {es : List Expr} {t : TA}
  {ar : Arg} {body : List Stmt} {p0 p1 p2 p3 p4 : Pos} {pl : Sem Bool} {pins : List (Addr × Obj)} {σ : L2.St} {Dn : Ends}
theorem sup_run (F : SupFn X.prog X.K f fd name qual st cc cda D) (hk : X.env.scope.kind = .function) (hks : X.env.kindOf ("super" : Str) = some .globalImplicit) (hkc : X.env.kindOf ("__class__" : Str) = some .free) (hcl : X.env.cells.lookup ("__class__" : Str) = some cc)
    (hfu : X.env.func = some f) (hco : X.env.code = .ref cda) (hN : X.N[0]? = some ar.arg) (hv : Vis X.env.scope ar.arg) (hcd : (ar.arg == ("__classdict__" : Str)) = false) (har : ((defArgs st).posonlyargs ++ (defArgs st).args).head? = some ar) (hms : X.mg "super" = none)
    (F2 : FnR X.prog X.w X.K X.mg X.base CX k f2 sp) (hr : Room k X.A) (hx : Passes CX X E) (ha : PA X (e :: es) t) (I : Inv X pins σ H s) (h : tSup X.K D f2 sp E t Dn σ H)
    (hev : eval (supE (e :: es) p0 p1 p2 p3) X.env = (do
      let ov ← attributeBase (.Call (.Name "super" p0) [] [] p1) "__init__" X.env (eval (.Call (.Name "super" p0) [] [] p1) X.env)
      standAt p2.atName
      let (g, first) ← holding [ov] (getMethod ov "__init__" pl)
      callWith p3 g first (backTo p3 (starEach (e :: es) X.env)) []))
    (hi : interactive X.env = false) (hs : swapsWith (supE (e :: es) p0 p1 p2 p3) none p4.line X.env = pure false)
    (he : starEach (e :: es) X.env = (false, eval e X.env) :: starEach es X.env) (hpl : (backTo p3 (starEach es X.env)).any (·.1) = false) :
    wpAt (model X.prog X.w) X.A (.func body X.env) (exec (.Expr (supE (e :: es) p0 p1 p2 p3) p4) X.env) (SP X pins Dn) X.xe s := by
  obtain ⟨oc, kV, doc, pm, ct, cl, ccl, od, an, cld, cdd, osl, csl, ccs, vs, file, tf, rfl, lk, hcd', lcc, lcd, hvs, hfile⟩ := F.ex
  obtain ⟨a, C, dx, fs, hσ, hA, Ab, hq⟩ := h
  refine ks_wpAt_Expr_any (ks_wpAt_MethodCall (pl := pl) ?_ hev) hi hs
  have KX := I.kIn
  refine ks_wpAt_super_base (env := X.env) hks hkc (by decide +kernel) hfu (KX _ _ lk) rfl har hco (KX _ _ lcd) rfl hvs hfile F.top ?_
  obtain ⟨mb, hb1, hb2⟩ := I.mod.blt
  refine ks_loadName_global hk hks ?_
  have gl : X.env.globals = mainGlobals := I.ok.glob
  have bl : X.env.builtins = builtinsNs := I.ok.blt
  refine loadGlobal_builtin (env := X.env) (by rw [gl]; exact I.mod.glob.keeps I.bk) hms (by rw [bl]; exact hb1.keeps I.bk) ((hb2 _ (by decide +kernel)).trans (show bootBuiltins ("super" : Str) = some (.type "super") by decide +kernel)) ⟨rfl, ?_⟩
  refine wpAny_loadName_free hk hkc hcl ⟨_, KX _ _ lcc, rfl⟩ ?_
  obtain ⟨m, hns, hlk⟩ := I.loc
  obtain ⟨u, ru, look⟩ := hlk 0 ar.arg (.ref a) hN hσ hv
  obtain rfl : u = Value.ref a := ru
  have self : ∀ {Q : Value → Shared → Prop} {E' : Value → Shared → Prop}, Q (.ref a) s → wpAny (model X.prog X.w) X.A (loadName X.env ar.arg) Q E' s := fun q => by
    rcases look with ⟨hl, hm⟩ | ⟨hl | hl, c, hc, hcell⟩
    · exact wpAny_loadName_local hk hl hns hm q
    · exact wpAny_loadName_cell hk hl hc hcell q
    · exact wpAny_loadName_free hk hl hc hcell q hcd
  refine self ?_
  obtain ⟨mA, O, rO, wi, _, ho⟩ := ins_get I.hok hA
  obtain ⟨cdD, hcdD⟩ := Option.isSome_iff_exists.mp Ab.cD
  obtain ⟨oD, hD1, hD2⟩ : ∃ oD, s.heap.get? D = some oD ∧ oD.data = .cls cdD := by
    unfold clsIn at hcdD
    split at hcdD
    · rename_i c d cd' sl ho
      cases hcdD
      exact ⟨_, KX _ _ ho, rfl⟩
    · cases hcdD
  refine ks_wpAny_isType_cls hD1 hD2 ⟨rfl, ?_⟩
  refine ks_wpAny_call_super hD1 hD2 O.obj rfl (fun c z => by cases z) (looks_mroIn KX Ab.sub) (fun h2 hso k2 => ?_)
  have I2 : Inv X pins σ H { s with heap := h2 } := I.kept k2
  have K2 := I2.kIn
  cases hc : clsIn X.K C with
  | none =>
    have z := Ab.ini
    unfold ks_superIn at z
    rw [hc] at z
    cases z
  | some cdC =>
    have z := Ab.ini
    unfold ks_superIn at z
    rw [hc] at z
    obtain ⟨of, hof, hofc⟩ : ∃ of, h2.get? f2 = some of ∧ of.cls = .type "function" := by
      have ht' : (X.K.lookup f2).map (·.cls) = some (.type "function") := Ab.ty
      cases y : X.K.lookup f2 with
      | none => rw [y] at ht'; cases ht'
      | some of => rw [y] at ht'; exact ⟨of, K2 _ _ y, Option.some.inj ht'⟩
    obtain ⟨odd, hodd, _⟩ := lookIn_ns O.ns
    have J : InstAt s.heap a (instObj C dx) C (some odd) := ⟨O.obj, rfl, rfl, hodd⟩
    refine ks_wpAny_getMethod_super hso (looks_opaque K2 Ab.opq) (l₀ := cdC.mro) ?_ rfl K2 z hof hofc (ks_ne KX J hc) (by decide +kernel) ?_
    · exact fun A Q E s k q => wpAny_bind ((looks_clsIn K2 hc) A _ E s k (wpAny_pure q))
    · have I3 := ClX.met_new (g := f2) (C := a) I2
      have run : wpAny (model X.prog X.w) X.A (callWith p3 (.ref h2.objs.size) [] (backTo p3 (starEach (e :: es) X.env)) []) (EP X pins σ fun _ H2 => Dn.nx σ H2) X.xe { s with heap := h2.push (methodObj (.ref f2) (.ref a)), toks := s.toks + 1 } := by
        refine ClX.callwith_cm I3 (ClX.base_none I2 (Nat.le_refl _)) Ab.fn (thn (ha.run p3 _ _ σ H _ I3 hq) fun us s3 ⟨vs, H2, I4, rv, q2⟩ => ⟨⟨ClX.pin_at I4, I4.kIn⟩, ?_⟩) he hpl
        exact ClX.run_cm F2 hr hx I4 rv q2
      refine thn run fun v s' h' => ?_
      obtain ⟨v', H', I', _, q'⟩ := h'
      exact ⟨σ, H', I', q'⟩
end
end SupX
end PySem
namespace PySem
namespace SupX
open PySem.W PySem.Calls PyProof.Rows L2
/-- what the syntax of such a last statement gives, in an environment -/
def SupSyn (env : Env) (e : Expr) (es : List Expr) (p0 p1 p2 p3 p4 : Pos) : Prop := (∃ pl : Sem Bool, eval (supE (e :: es) p0 p1 p2 p3) env = (do
      let ov ← attributeBase (.Call (.Name "super" p0) [] [] p1) "__init__" env (eval (.Call (.Name "super" p0) [] [] p1) env)
      standAt p2.atName
      let (g, first) ← holding [ov] (getMethod ov "__init__" pl)
      callWith p3 g first (backTo p3 (starEach (e :: es) env)) [])) ∧ interactive env = false ∧ swapsWith (supE (e :: es) p0 p1 p2 p3) none p4.line env = pure false ∧
  starEach (e :: es) env = (false, eval e env) :: starEach es env ∧ (backTo p3 (starEach es env)).any (·.1) = false
section
variable {CX : CXT} {P : Program} {w : World} {K : Frag} {mg : Str → Option Value} {base : Heap} {N ps : List Str} {name qual : Str} {st : Stmt} {f cc cda D f2 : Addr} {fd : FuncData} {k : Nat} {sp : Sp} {e : Expr} {es : List Expr} {pre : List Stmt}
  {ar : Arg} {p0 p1 p2 p3 p4 : Pos}
/-- THE RULE: a method by its statements pre and a last super().__init__(e, ..) -/
theorem fnS_of (F : SupFn P K f fd name qual st cc cda D) (S : SupScope N ps (defScope st)) (hb0 : defBody st = pre ++ [.Expr (supE (e :: es) p0 p1 p2 p3) p4]) (hN : N[0]? = some ar.arg) (hv : Vis (defScope st) ar.arg) (hcd0 : (ar.arg == ("__classdict__" : Str)) = false)
    (har : ((defArgs st).posonlyargs ++ (defArgs st).args).head? = some ar) (hms : mg "super" = none) (hsyn : ∀ L : Addr, SupSyn (envS qual (defScope st) L f (.ref cda) cc) e es p0 p1 p2 p3 p4) (len : ∀ vs H Q E, sp vs H Q E → vs.length = ps.length)
    (hbody : ∀ (A : Around) (outer : List Env) (s : Shared) (H : Hp) (vs : List V) (Q : VK) (E : XK), Room k (A.deeper (envS qual (defScope st) s.heap.objs.size f (.ref cda) cc)) → sp vs H Q E →
      ∃ (t : TS) (ta : TA) (sp2 : Sp) (E2 : XK), PSs (cxS CX P w K mg base N qual (defScope st) f (.ref cda) cc A outer s H E) pre t ∧ FnR P w K mg base CX k f2 sp2 ∧ Passes CX (cxS CX P w K mg base N qual (defScope st) f (.ref cda) cc A outer s H E) E2 ∧
        PA (cxS CX P w K mg base N qual (defScope st) f (.ref cda) cc A outer s H E) (e :: es) ta ∧ t { nx := fun σ H' => tSup K D f2 sp2 E2 ta { nx := fun _ H' => Q .non H', rt := Q } σ H', rt := Q } (L2.start N vs) H) :
    FnOk P w K mg base CX (k + 1) f fd ps sp := by
  refine ⟨len, fun A outer s H args us vs Q E hr e0 hb r hsp => ?_⟩
  have F' := F
  obtain ⟨oc, kV, doc, pm, ct, cl, ccl, od, an, cld, cdd, osl, csl, ccs, ws, file, tf, rfl, lk, hcd, lcc, lcd, hvs, hfile⟩ := F'.ex
  have hl := len _ _ _ _ hsp
  have KX : K.In s.heap := e0.mod.kin.keeps fun b o e => (e0.bs b o e).1
  have lim : s.heap.NoLimit := e0.mod.nolimit.keeps fun b o e => (e0.bs b o e).1
  have kinds : ∀ y ∈ ps.zip us, (defScope st).names.lookup y.1 = some .local ∨ ((defScope st).names.lookup y.1 = some .cell ∧ ((ownC s.heap.objs.size (defScope st)).lookup y.1).isSome = true) := by
    rintro ⟨n, v⟩ hy
    rcases S.par n (List.of_mem_zip hy).1 with q | q
    · exact .inl q
    · exact .inr ⟨q, PySem.W.cellsFrom_some _ _ _ (.inl q)⟩
  refine codeAny_call_function hr.depth (KX _ _ lk) rfl S.co S.gen rfl (codeRec_of KX hcd) (hb _ _ _ _ ?_)
  refine env_own S.kind kinds fun s1 x => ⟨lim.keeps x.toInCall.keep, ks_codeAny_funcAt ?_⟩
  obtain ⟨t, ta, sp2, E2, ht, F2, hx, ha, hq⟩ := hbody A outer s H vs Q E (hr.deeper _) hsp
  have I : Inv (cxS CX P w K mg base N qual (defScope st) f (.ref cda) cc A outer s H E) [] (L2.start N vs) H s1 := startS S hr.hd e0 lcc hl r x
  obtain ⟨⟨pl, hev⟩, hi, hs, he, hpl⟩ := hsyn s.heap.objs.size
  have fin : ∀ {σ' : L2.St} {H' : Hp} {v : V} {u : Value} {s' : Shared}, Inv (cxS CX P w K mg base N qual (defScope st) f (.ref cda) cc A outer s H E) [] σ' H' s' → RelV v u → Q v H' → CE outer P w H s Q u s' :=
    fun J rv q => ⟨_, _, J.os, J.bare, J.base, J.hok, rv, q⟩
  have eb : execs (defBody st) (envS qual (defScope st) s.heap.objs.size f (.ref cda) cc) = (execs pre (envS qual (defScope st) s.heap.objs.size f (.ref cda) cc) >>= fun fl => match fl with | .next => execs [.Expr (supE (e :: es) p0 p1 p2 p3) p4] (envS qual (defScope st) s.heap.objs.size f (.ref cda) cc) | fl => pure fl) := by
    rw [hb0]
    exact execs_app _ _
  rw [eb]
  refine wpAt_bind (wpAt_mono (wpAt_of_wpAny (ht.run [] s1 (L2.start N vs) H _ I hq)) (fun fl s' hs' => ?_) fun _ _ z => z)
  cases fl with
  | next =>
    obtain ⟨σ', H', J, q⟩ := hs'
    refine ks_wpAt_execs_cons (wpAt_mono (sup_run (X := cxS CX P w K mg base N qual (defScope st) f (.ref cda) cc A outer s H E) (pl := pl) F S.kind S.sup S.cls ?_ rfl rfl hN hv hcd0 har hms F2 (hr.deeper _) hx ha J q hev hi hs he hpl) (fun fl2 s2 h2 => ?_) fun _ _ z => z)
    · show (ownC s.heap.objs.size (defScope st) ++ clsC cc).lookup ("__class__" : Str) = some cc
      rw [List.lookup_append, own_none S]
      rfl
    · cases fl2 with
      | next =>
        obtain ⟨σ2, H2, J2, q2⟩ := h2
        exact wpAt_of_wpAny (wpAny_execs_nil (fin (v := V.non) (u := Value.none) J2 rfl q2))
      | ret u =>
        obtain ⟨v, σ2, H2, J2, rv, q2⟩ := h2
        exact fin J2 rv q2
      | brk =>
        obtain ⟨_, _, _, q2⟩ := h2
        exact False.elim q2
      | cont =>
        obtain ⟨_, _, _, q2⟩ := h2
        exact False.elim q2
  | ret u =>
    obtain ⟨v, σ', H', J, rv, q⟩ := hs'
    exact wpAt_of_wpAny (wpAny_pure (fin J rv q))
  | brk =>
    obtain ⟨_, _, _, q⟩ := hs'
    exact False.elim q
  | cont =>
    obtain ⟨_, _, _, q⟩ := hs'
    exact False.elim q
end
end SupX
end PySem
/-! a list comprehension of any number of clauses -/
namespace LcN
open PySem PySem.Spec PyProof.Rows L2
theorem turn_more {elt tg it tg1 it1 : Expr} {ifs ifs1 : List Expr} {gens : List Comprehension} {scope : Scope} {pos : Pos} {d : Nat} {itv acc : Value} {env : Env} (h : gens[d]? = some ⟨tg, it, ifs, 0⟩) (h1 : gens[d + 1]? = some ⟨tg1, it1, ifs1, 0⟩) :
    compTurn (.ListComp elt gens scope pos) d itv acc env = (do
      standAt it.pos
      match ← pyNext itv with
      | none => pure (.done .next)
      | some v =>
        letOwnedTupleGo tg itv v
        assign tg env v
        let mut ok := true
        for c in ifs do
          if ok then ok ← isTrue c env (eval c env)
        if ok then
          let x ← eval it1 env
          standAt it1.pos
          let x ← foldedSetIterable it1 env x
          let _ ← runOwn (.compStart (.ListComp elt gens scope pos) (d + 1) (← holding [x] (pyIter x)) acc env) env
        again (.compLoop (.ListComp elt gens scope pos) d itv acc env)) := by
  unfold compTurn
  simp only [h, h1]
  rfl
theorem turn_last {elt tg it : Expr} {ifs : List Expr} {gens : List Comprehension} {scope : Scope} {pos : Pos} {d : Nat} {itv acc : Value} {env : Env} (h : gens[d]? = some ⟨tg, it, ifs, 0⟩) (h1 : gens[d + 1]? = none) :
    compTurn (.ListComp elt gens scope pos) d itv acc env = (do
      standAt it.pos
      match ← pyNext itv with
      | none => pure (.done .next)
      | some v =>
        letOwnedTupleGo tg itv v
        assign tg env v
        let mut ok := true
        for c in ifs do
          if ok then ok ← isTrue c env (eval c env)
        if ok then
          (do let _ ← call (.builtin "list.append") [acc, ← eval elt env])
        again (.compLoop (.ListComp elt gens scope pos) d itv acc env)) := by
  unfold compTurn
  simp only [h, h1]
  rfl

section
variable {prog : Program} {w : World} {A : Around} {R : Result → Shared → Prop} {s : Shared} {elt tg it tg1 it1 : Expr} {ifs ifs1 : List Expr} {gens : List Comprehension} {scope : Scope} {pos : Pos} {d : Nat} {itv acc : Value} {env : Env}
/-- what is done behind the tests of clause d -/
abbrev innerP (elt : Expr) (gens : List Comprehension) (scope : Scope) (pos : Pos) (d : Nat) (acc : Value) (env : Env) : Sem Unit := match gens[d + 1]? with
        | some g' => do
          let x ← eval g'.iter env
          standAt g'.iter.pos
          let x ← if g'.is_async != 0 then foldedIterable g'.iter x else foldedSetIterable g'.iter env x
          let _ ← runOwn (.compStart (.ListComp elt gens scope pos) (d + 1) (← holding [x] (if g'.is_async != 0 then asyncIter x else pyIter x)) acc env) env
        | none => do let _ ← call (.builtin "list.append") [acc, ← eval elt env]
abbrev testsOf (ifs : List Expr) (env : Env) : Sem Bool := forIn ifs true fun c r => if r = true then do let ok ← isTrue c env (eval c env); pure (ForInStep.yield ok) else pure (ForInStep.yield r)
/-- one clause's loop: what is done behind its tests is told by In -/
theorem loop_by (In : (Shared → Prop) → Shared → Prop) (hIn : ∀ (Q : Shared → Prop) (s : Shared) (E : Value → Shared → Prop), In Q s → wpAny (model prog w) A (match gens[d + 1]? with
        | some g' => do
          let x ← eval g'.iter env
          standAt g'.iter.pos
          let x ← if g'.is_async != 0 then foldedIterable g'.iter x else foldedSetIterable g'.iter env x
          let _ ← runOwn (.compStart (.ListComp elt gens scope pos) (d + 1) (← holding [x] (if g'.is_async != 0 then asyncIter x else pyIter x)) acc env) env
        | none => do let _ ← call (.builtin "list.append") [acc, ← eval elt env]) (fun _ s' => Q s') E s)
    (hd : gens[d]? = some ⟨tg, it, ifs, 0⟩) (hg : gens[d + 1]? = none ∨ ∃ tg1 it1 ifs1, gens[d + 1]? = some ⟨tg1, it1, ifs1, 0⟩) (Iv : Nat → Shared → Prop)
    (turn : ∀ n s, Iv n s → wpAny (model prog w) A (pyNext itv) (fun r s₁ => match r with
      | none => R (.ok .next) s₁
      | some v => wpAny (model prog w) A (letOwnedTupleGo tg itv v) (fun _ s₂ => wpAny (model prog w) A (assign tg env v) (fun _ s₃ => wpAny (model prog w) A (testsOf ifs env) (fun ok s₄ =>
          if ok = true then In (fun s₅ => ∃ m, m < n ∧ Iv m s₅) s₄ else ∃ m, m < n ∧ Iv m s₄) (fun _ _ => False) s₃) (fun _ _ => False) s₂) (fun _ _ => False) s₁) (fun _ _ => False) s)
    (n : Nat) (h : Iv n s) : codeAny (model prog w) A (.compLoop (.ListComp elt gens scope pos) d itv acc env) R s := by
  refine codeAny_loop rfl Iv (fun n s hI => ?_) n h
  show wpAny _ A ((compTurn (.ListComp elt gens scope pos) d itv acc env).onRaise (fun x => do noteFrame x env; theTreesLotGoes x)) _ _ s
  refine wpAny_noted ?_
  unfold compTurn
  simp only [hd]
  have no : ∀ {α : Type} {t : Sem α} {Q Q' : α → Shared → Prop} {E : Value → Shared → Prop} {s : Shared}, wpAny (model prog w) A t Q (fun _ _ => False) s → (∀ a s, Q a s → Q' a s) → wpAny (model prog w) A t Q' E s := fun h hq => wpAny_mono h hq fun _ _ z => z.elim
  refine wpAny_bind (wpAny_standAt (wpAny_bind (no (turn n s hI) fun r s₁ h₁ => ?_)))
  cases r with
  | none => exact wpAny_pure h₁
  | some v =>
    refine wpAny_bind (no h₁ fun _ s₂ h₂ => wpAny_bind (no h₂ fun _ s₃ h₃ => wpAny_bind (no h₃ fun ok s₄ h₄ => ?_)))
    cases ok with
    | false => exact wpAny_pure ⟨rfl, h₄⟩
    | true =>
      have z := hIn _ s₄ (notedBy (model prog w) A env fun x s' => R (.error x) s') h₄
      rcases hg with hg | ⟨tg1, it1, ifs1, hg⟩
      · rw [hg] at z ⊢
        exact wpAny_bind (wpAny_mono z (fun _ s' h' => wpAny_pure ⟨rfl, h'⟩) fun _ _ h' => h')
      · rw [hg] at z ⊢
        have z2 := wpAny_bind (f := fun _ => (again (.compLoop (.ListComp elt gens scope pos) d itv acc env) : Sem PySem.Fin)) (wpAny_mono z (fun _ s' h' => wpAny_pure (Q := fun (fin : PySem.Fin) s' => match fin with | .done f => R (.ok f) s' | .again c' => c' = Code.compLoop (.ListComp elt gens scope pos) d itv acc env ∧ ∃ m, m < n ∧ Iv m s') ⟨rfl, h'⟩) fun _ _ h' => h')
        simp only [bind_assoc, pure_bind, if_true, bne_self_eq_false, Bool.false_eq_true, if_false] at z2 ⊢
        exact z2
end
/-- a clause's inner part, at its slots and heap: the list at D, what is to be reached -/
abbrev TC := L2.St → Hp → Addr → (Hp → Prop) → Prop
structure Inner (Y : Cx) (elt : Expr) (gens : List Comprehension) (scope : Scope) (pos : Pos) (d : Nat) (tC : TC) (ws : List Nat) : Prop where
  run : ∀ (pins : List (Addr × Obj)) (s : Shared) (σ : L2.St) (H : Hp) (D : Addr) (Nx : Hp → Prop) (E : Value → Shared → Prop), Inv Y pins σ H s → tC σ H D Nx →
    wpAny (model Y.prog Y.w) Y.A (innerP elt gens scope pos d (.ref D) Y.env) (fun _ s' => ∃ H', Inv Y pins (wipe σ ws) H' s' ∧ Nx H') E s
def tEmit (te : TE) : TC := fun σ H D Nx => te σ H fun y H4 => ∃ acc, H4 D = some (.lst acc) ∧ acc.length < sizeLine ∧ Nx (upd H4 D (.lst (acc ++ [y])))
def tClause (wi : TI) (g : TG) (tt : TT) (tC : TC) (vs : List Nat) : TC := fun σ H D Nx => wi σ H fun J H1 => ∃ W : Nat → Nat → Hp → Prop, (∃ m, W 0 m H1) ∧ ∀ j k H, W j k H →
  (J.stop j H ∧ Nx H) ∨ (J.go j H ∧ ∃ Nx1 : Hp → Prop, (∀ H', Nx1 H' → ∃ k', k' < k ∧ W (j + 1) k' H') ∧ ∀ x H', J.yld j H x H' → g x (wipe σ vs) H' fun σ3 H5 => wipe σ3 vs = wipe σ vs ∧ tt σ3 H5 fun b H6 => if b = true then tC σ3 H6 D Nx1 else Nx1 H6)
section
variable {Y : Cx} {elt tg it tg1 it1 : Expr} {ifs ifs1 : List Expr} {gens : List Comprehension} {scope : Scope} {pos : Pos} {d : Nat} {te : TE} {tC : TC} {ws vs : List Nat} {wi : TI} {g : TG} {tt : TT}
theorem out_of {α : Type} {M : Model} {A : Around} {t : Sem α} {Q : α → Shared → Prop} {E E' : Value → Shared → Prop} {s : Shared} (hE : E = fun _ _ => False) (h : wpAny M A t Q E s) : wpAny M A t Q E' s := by
  subst hE
  exact wpAny_mono h (fun _ _ q => q) fun _ _ z => z.elim
theorem inner_last (hxe : Y.xe = fun _ _ => False) (hg : gens[d + 1]? = none) (he : PE Y elt te) : Inner Y elt gens scope pos d (tEmit te) [] := by
  constructor
  intro pins s σ H D Nx E I h
  unfold innerP
  rw [hg]
  refine wpAny_bind (out_of hxe (thn (he.run pins s σ H _ I h) fun z s1 hz => ?_))
  obtain ⟨y, H4, I4, r, acc, hD, hl, nx⟩ := hz
  exact wpAny_bind (app_ok I4 hD hl r fun s2 I5 => wpAny_pure ⟨_, I5, nx⟩)
theorem clause_loop (hxe : Y.xe = fun _ _ => False) (hc : Y.calm = true) (hd : gens[d]? = some ⟨tg, it, ifs, 0⟩) (hg : gens[d + 1]? = none ∨ ∃ tg1 it1 ifs1, gens[d + 1]? = some ⟨tg1, it1, ifs1, 0⟩) (pg : PG Y tg g) (pt : PTs Y ifs tt) (In : Inner Y elt gens scope pos d tC ws)
    (hws : ∀ j ∈ ws, j ∈ vs) {itv D : Addr} {fp : List Addr} {tn : Nat → Heap → Prop} {J : It} (T : Turn Y.prog Y.w Y.K tg J fp itv tn) {pins : List (Addr × Obj)} {s : Shared} {σ : L2.St} {H : Hp} {Nx : Hp → Prop} {W : Nat → Nat → Hp → Prop} {m : Nat} (I : Inv Y pins σ H s) (st : tn 0 s.heap) (f : ∀ b ∈ fp, FpOk Y pins H b)
    (w0 : W 0 m H) (turn : ∀ j k H, W j k H → (J.stop j H ∧ Nx H) ∨ (J.go j H ∧ ∃ Nx1 : Hp → Prop, (∀ H', Nx1 H' → ∃ k', k' < k ∧ W (j + 1) k' H') ∧ ∀ x H', J.yld j H x H' → g x (wipe σ vs) H' fun σ3 H5 => wipe σ3 vs = wipe σ vs ∧ tt σ3 H5 fun b H6 => if b = true then tC σ3 H6 D Nx1 else Nx1 H6)) :
    codeAny (model Y.prog Y.w) Y.A (.compLoop (.ListComp elt gens scope pos) d (.ref itv) (.ref D) Y.env) (fun r s' => match r with | .ok f => f = .next ∧ ∃ H', Inv Y pins (wipe σ vs) H' s' ∧ Nx H' | .error _ => False) s := by
  have stat : ∀ {H' : Hp}, (∀ b ∈ fp, H' b = none) → ∀ b ∈ fp, FpOk Y pins H' b := fun hn b hb => ⟨hn b hb, (f b hb).2⟩
  refine loop_by (fun Q s => ∃ (pins : List (Addr × Obj)) (σ3 : L2.St) (H6 : Hp) (Nx1 : Hp → Prop), Inv Y pins σ3 H6 s ∧ tC σ3 H6 D Nx1 ∧ ∀ s' H', Inv Y pins (wipe σ3 ws) H' s' → Nx1 H' → Q s')
    (fun Q s E ⟨pn, σ3, H6, Nx1, I6, h6, k⟩ => wpAny_mono (In.run pn s σ3 H6 D Nx1 E I6 h6) (fun _ s' ⟨H', I', n'⟩ => k s' H' I' n') fun _ _ z => z) hd hg
    (fun n s' => ∃ j H', Inv Y pins (wipe σ vs) H' s' ∧ tn j s'.heap ∧ (∀ b ∈ fp, H' b = none) ∧ W j n H') ?_ m ⟨0, H, I.weak (wipe_length _ _) (fun j v e => (wipe_some e).1), st, fun b hb => (f b hb).1, w0⟩
  rintro n s1 ⟨j, H1, I1, st1, n1, w1⟩
  rcases turn j n H1 w1 with ⟨stop, nx⟩ | ⟨go, Nx1, hN, step⟩
  · refine thnF (T.done Y rfl rfl rfl hc j pins s1 _ H1 (fun _ _ => False) I1 (stat n1) st1 stop) fun r s2 ⟨hr, I2⟩ => ?_
    subst hr
    exact ⟨rfl, H1, I2, nx⟩
  · refine thnF (T.item Y rfl rfl rfl hc j pins s1 _ H1 (fun _ _ => False) I1 (stat n1) st1 go) fun r s2 ⟨u, hr, h2⟩ => ?_
    subst hr
    refine thnF h2 fun _ s3 ⟨x, H3, I3, r3, y3, st3, n3⟩ => ?_
    have I3' := I3.pinned (stat n3) (T.obj _ _ st3)
    refine out_of hxe (thn (pg.run _ s3 _ H3 x u _ I3' r3 (step x H3 y3)) fun _ s4 h4 => ?_)
    obtain ⟨σ4, H4, I4, hw4, q4⟩ := h4
    refine out_of hxe (thn (pt.run _ s4 σ4 H4 _ I4 q4) fun b s5 h5 => ?_)
    obtain ⟨H5, I5, q5⟩ := h5
    have back : ∀ {σ5 : L2.St} {s' : Shared} {H' : Hp}, Inv Y (pins ++ pinsAt fp s3.heap) σ5 H' s' → (wipe σ vs).length = σ5.length → (∀ (i : Nat) v, (wipe σ vs)[i]? = some (some v) → σ5[i]? = some (some v)) → Nx1 H' →
        ∃ k, k < n ∧ ∃ j H', Inv Y pins (wipe σ vs) H' s' ∧ tn j s'.heap ∧ (∀ b ∈ fp, H' b = none) ∧ W j k H' := fun {σ5 s' H'} I' hl hk nx => by
      obtain ⟨k, hkn, w'⟩ := hN H' nx
      have pin' : ∀ b ∈ fp, ∀ o, s3.heap.get? b = some o → s'.heap.get? b = some o ∧ H' b = none := fun b hb o e =>
        let z := I'.pin (b, o) (List.mem_append_right _ (List.mem_append_right _ (mem_pinsAt hb e)))
        ⟨z.1, z.2.1⟩
      refine ⟨k, hkn, j + 1, H', I'.unpinned.weak hl hk, T.keep _ _ _ st3 fun b hb o e => (pin' b hb o e).1, fun b hb => ?_, w'⟩
      obtain ⟨o, e, _⟩ := T.obj _ _ st3 b hb
      exact (pin' b hb o e).2
    have l4 : (wipe σ vs).length = σ4.length := by rw [← hw4, wipe_length]
    have k4 : ∀ (i : Nat) v, (wipe σ vs)[i]? = some (some v) → σ4[i]? = some (some v) := fun i v e => by
      rw [← hw4] at e
      exact (wipe_some e).1
    cases b with
    | false => exact back I5 l4 k4 q5
    | true =>
      refine ⟨_, σ4, H5, Nx1, I5, q5, fun s' H' I' nx => back I' (l4.trans (wipe_length σ4 ws).symm) (fun i v e => ?_) nx⟩
      rw [← hw4] at e
      obtain ⟨e1, e2⟩ := wipe_some e
      rw [wipe_out fun z => e2 (hws i z)]
      exact e1
end
end LcN
/-! a clause within a clause, and the whole comprehension -/
namespace LcN
open PySem PySem.Spec PyProof.Rows L2
theorem wipe_in {σ : L2.St} {i : Nat} (hi : i < σ.length) : ∀ {vs : List Nat}, i ∈ vs → (wipe σ vs)[i]? = some none
  | [], h => by cases h
  | v :: vs, h => by
    unfold wipe
    by_cases e : v = i
    · subst e
      rw [List.getElem?_set_self (by rw [wipe_length]; exact hi)]
    · rw [List.getElem?_set_ne e]
      exact wipe_in hi ((List.mem_cons.1 h).resolve_left fun z => e z.symm)
theorem wipe_twice (σ : L2.St) (vs : List Nat) : wipe (wipe σ vs) vs = wipe σ vs := by
  refine List.ext_getElem? fun i => ?_
  by_cases h : i ∈ vs
  · by_cases hl : i < σ.length
    · rw [wipe_in hl h, wipe_in (by rw [wipe_length]; exact hl) h]
    · rw [List.getElem?_eq_none (by rw [wipe_length, wipe_length]; omega), List.getElem?_eq_none (by rw [wipe_length]; omega)]
  · rw [wipe_out h]
section
variable {prog : Program} {w : World} {A : Around} {R : Result → Shared → Prop} {s : Shared} {elt tg iter : Expr} {ifs : List Expr} {gens : List Comprehension} {scope : Scope} {pos : Pos} {d : Nat} {it acc : Value} {env : Env}
theorem startN_ok (hd : gens[d]? = some ⟨tg, iter, ifs, 0⟩) (h0 : codeAny (model prog w) A (.compLoop (.ListComp elt gens scope pos) d it acc env) R s)
    (h : wpAny (model prog w) A (pyIter it) (fun it' s' => codeAny (model prog w) A (.compLoop (.ListComp elt gens scope pos) d it' acc env) R s')
      (notedBy (model prog w) A env fun x s' => R (.error x) s') s) :
    codeAny (model prog w) A (.compStart (.ListComp elt gens scope pos) d it acc env) R s := by
  refine codeAny_of_tree ?_
  show wpAny _ _ ((compStart (.ListComp elt gens scope pos) d it acc env).onRaise (fun x => do noteFrame x env; standAt theWindowsPlace)) _ _ s
  refine wpAny_notedAt ?_
  have e : (clausesOf (.ListComp elt gens scope pos))[d]? = some ⟨tg, iter, ifs, 0⟩ := hd
  unfold compStart
  rw [e]
  show wpAny _ _ (ask >>= _) _ _ s
  refine wpAny_bind (wpAny_askSetting (wpAny_ite ?_))
  split
  · first
      | exact wpAny_bind (wpAny_pure (wpAny_pure (And.intro rfl h0)))
      | exact wpAny_pure (And.intro rfl h0)
  · first
      | exact wpAny_bind (wpAny_rule (wpAny_bind (wpAny_standAt (wpAny_bind (wpAny_mono h (fun it' s' h' => wpAny_pure (And.intro rfl h')) fun _ _ x => x)))))
      | (refine wpAny_bind (wpAny_rule ?_); show wpAny _ _ (standAt iter.pos >>= _) _ _ s; exact wpAny_bind (wpAny_standAt (wpAny_bind (wpAny_mono h (fun it' s' h' => wpAny_pure (And.intro rfl h')) fun _ _ x => x))))
end
section
variable {Y : Cx} {elt tg it : Expr} {ifs : List Expr} {gens : List Comprehension} {scope : Scope} {pos : Pos} {d : Nat} {te : TE} {tC : TC} {ws vs : List Nat} {wi : TI} {g : TG} {tt : TT}
theorem inner_more (hxe : Y.xe = fun _ _ => False) (hc : Y.calm = true) (hd : gens[d + 1]? = some ⟨tg, it, ifs, 0⟩) (hg : gens[d + 1 + 1]? = none ∨ ∃ tg1 it1 ifs1, gens[d + 1 + 1]? = some ⟨tg1, it1, ifs1, 0⟩) (pi : PI Y tg it wi) (pg : PG Y tg g) (pt : PTs Y ifs tt) (In : Inner Y elt gens scope pos (d + 1) tC ws)
    (hws : ∀ j ∈ ws, j ∈ vs) (hs : ∀ x, foldedSetIterable it Y.env x = pure x) : Inner Y elt gens scope pos d (tClause wi g tt tC vs) vs := by
  constructor
  intro pins s σ H D Nx E I h
  unfold innerP
  rw [hd]
  simp only [bne_self_eq_false, Bool.false_eq_true, if_false]
  refine wpAny_bind (out_of hxe (thn (pi.run pins s σ H _ I h) fun xv s1 hx => ?_))
  refine wpAny_bind (wpAny_standAt (wpAny_bind (wpAny_of_eq (hs xv) (wpAny_bind (wpAny_holding (out_of hxe (thn hx fun itv s2 h2 => ?_)))))))
  obtain ⟨it1, fp, tn, J, H2, e, I2, T, st2, f2, W, ⟨m, w0⟩, turn⟩ := h2
  subst e
  refine wpAny_bind (wpAny_runOwn ?_)
  rw [Around.mark_none]
  have loop := clause_loop (Nx := Nx) (D := D) hxe hc hd hg pg pt In hws T I2 st2 f2 w0 turn
  refine codeAny_mono (startN_ok hd loop (T.self Y.A 0 _ _ _ st2 loop)) fun r s' hr => ?_
  cases r with
  | ok f => exact wpAny_pure hr.2
  | error e => exact hr.elim
end
section
variable {X : Cx}
/-- a comprehension of any number of clauses: the first one's source, the new list, then what its turns owe -/
def tLcN (wi : TI) (g : TG) (tt : TT) (tC : TC) (vs : List Nat) : TE := fun σ H Q => wi σ H fun J H1 => ∀ D, H1 D = none → ∃ W : Nat → Nat → Hp → Prop, (∃ m, W 0 m (upd H1 D (.lst []))) ∧ ∀ i m H, W i m H →
  (J.stop i H ∧ Q (.ref D) H) ∨ (J.go i H ∧ ∃ Nx : Hp → Prop, (∀ H', Nx H' → ∃ m', m' < m ∧ W (i + 1) m' H') ∧ ∀ x H', J.yld i H x H' → g x (wipe σ vs) H' fun σ2 H2 => wipe σ2 vs = wipe σ vs ∧ tt σ2 H2 fun b H3 => if b = true then tC σ2 H3 D Nx else Nx H3)
theorem lcN_core {pins : List (Addr × Obj)} {s : Shared} {σ : L2.St} {H : Hp} {Q : VK} {elt tg iter : Expr} {ifs : List Expr} {rest : List Comprehension} {scope : Scope} {own : List (Str × Nat)} {ws : List Nat} {pos pos' : Pos} {wi : TI} {g : TG} {tt : TT} {tC : TC} {use : Option (Value → Sem Unit)} {Qf : Value → Shared → Prop}
    (hc : X.calm = true) (hN : X.N.Nodup) (I : Inv X pins σ H s) (hi : PI X tg iter wi) (ok : BlkOk X.N X.env.scope scope own) (hv : ∀ i ∈ ws, i ∈ own.map (·.2))
    (hr : (⟨tg, iter, ifs, 0⟩ :: rest : List Comprehension)[0 + 1]? = none ∨ ∃ tg1 it1 ifs1, (⟨tg, iter, ifs, 0⟩ :: rest : List Comprehension)[0 + 1]? = some ⟨tg1, it1, ifs1, 0⟩)
    (hg : ∀ (s : Shared) (H : Hp) (C : Addr) (cl : List (Str × Addr)) (fp : List Addr), PG (X.blk s H scope (compEnvC scope cl C X.env) fp) tg g) (ht : ∀ (s : Shared) (H : Hp) (C : Addr) (cl : List (Str × Addr)) (fp : List Addr), PTs (X.blk s H scope (compEnvC scope cl C X.env) fp) ifs tt)
    (hC : ∀ (s : Shared) (H : Hp) (C : Addr) (cl : List (Str × Addr)) (fp : List Addr), Inner (X.blk s H scope (compEnvC scope cl C X.env) fp) elt (⟨tg, iter, ifs, 0⟩ :: rest) scope pos 0 tC ws) (hs : ∀ x, foldedSetIterable iter X.env x = pure x)
    (h : tLcN wi g tt tC (own.map (·.2)) σ H Q)
    (hRR : ∀ D C s' m H', Inv X pins σ H' s' → Q (.ref D) H' → s'.heap.Ns C m → FpOk X pins H' C → compPost (model X.prog X.w) X.A X.xe use Qf (.ref D) C (.ok .next) s') :
    wpAny (model X.prog X.w) X.A (comprehension (.ListComp elt (⟨tg, iter, ifs, 0⟩ :: rest) scope pos) scope X.env pos' (newList []) false (eval iter X.env) use) Qf X.xe s := by
  have hfree : ∀ y ∈ scope.names, y.2 = .free → ∃ c, X.env.cells.lookup y.1 = some c := fun y hy e => by
    rcases ok.free y hy e with k | k
    · exact I.ok.has _ (.inl k)
    · exact I.ok.has _ (.inr k)
  refine wpAny_comprehension_free (use := use) rfl hs (closure_ok hfree) ok.kind (fun y hy e => by rw [ok.uniq y hy, e])
    (thn (hi.run pins s σ H _ I h) fun xv s1 hx => thn hx fun itv s2 h2 => ?_)
  obtain ⟨it, fp, tn, J, H2, e, I2, T, st2, f2, q⟩ := h2
  subst e
  refine wpAny_newObj_type (newEnv_comp ?_) (by show 0 ≤ sizeLine; decide)
  generalize hD : s2.heap.objs.size = D
  have hDn : H2 D = none := I2.hok.fresh (Nat.le_of_eq hD)
  obtain ⟨W, ⟨m0, w0⟩, turn⟩ := q D hDn
  generalize hs3 : ({ s2 with heap := s2.heap.push { cls := .type "list", data := .seq ([] : List Value).toArray } } : Shared) = s3
  have I3 : Inv X pins σ (upd H2 D (.lst [])) s3 := by
    rw [← hs3]
    refine I2.laid (t' := s2.toks) (fun b o e => Heap.get?_push_of_some _ e) (Nat.le_of_eq hD) ⟨Nat.zero_le _, [], 0, .nil, ?_⟩
    rw [← hD]
    exact Heap.get?_push_size _ rfl
  have h3 : s3.heap = s2.heap.push { cls := .type "list", data := .seq ([] : List Value).toArray } := by rw [← hs3]
  have sz : ∀ b ∈ fp, b < s2.heap.objs.size := fun b hb => by
    obtain ⟨o, e, _⟩ := T.obj _ _ st2 b hb
    exact Heap.lt_size e
  have f3 : ∀ b ∈ fp, FpOk X pins (upd H2 D (.lst [])) b ∧ b < s3.heap.objs.size := fun b hb => by
    have hlt := sz b hb
    refine ⟨⟨?_, (f2 b hb).2⟩, by rw [h3, Heap.size_push]; exact Nat.lt_succ_of_lt hlt⟩
    rw [upd_ne (by rw [← hD]; exact Nat.ne_of_lt hlt)]
    exact (f2 b hb).1
  have st3 : tn 0 s3.heap := T.keep _ _ _ st2 fun b _ o e => by rw [h3]; exact Heap.get?_push_of_some _ e
  have I4 := block_start I3 ok hN f3
  have pg := hg s3 (upd H2 D (.lst [])) s3.heap.objs.size (cellsFrom (s3.heap.objs.size + 1) scope.names (cloFrom X.env.cells scope.names [])) fp
  have pt := ht s3 (upd H2 D (.lst [])) s3.heap.objs.size (cellsFrom (s3.heap.objs.size + 1) scope.names (cloFrom X.env.cells scope.names [])) fp
  have pc := hC s3 (upd H2 D (.lst [])) s3.heap.objs.size (cellsFrom (s3.heap.objs.size + 1) scope.names (cloFrom X.env.cells scope.names [])) fp
  show codeAny _ _ (.compStart (.ListComp elt (⟨tg, iter, ifs, 0⟩ :: rest) scope pos) 0 (.ref it) (.ref D) (compEnvC scope (cellsFrom (s3.heap.objs.size + 1) scope.names (cloFrom X.env.cells scope.names [])) s3.heap.objs.size X.env)) (compPost (model X.prog X.w) X.A X.xe use Qf (.ref D) s3.heap.objs.size) { s3 with heap := pushCells (s3.heap.push { cls := .type "dict", data := .dict #[] }) scope.names }
  have nfp : ∀ b ∈ fp, (upd H2 D (.lst [])) b = none := fun b hb => (f3 b hb).1.1
  generalize hce : compEnvC scope (cellsFrom (s3.heap.objs.size + 1) scope.names (cloFrom X.env.cells scope.names [])) s3.heap.objs.size X.env = ce at I4 pg pt pc ⊢
  have cL : ce.locals = s3.heap.objs.size := by subst hce; rfl
  generalize hH3 : upd H2 D (.lst []) = H3 at I3 I4 pg pt pc w0 nfp f3
  generalize hs4 : ({ s3 with heap := pushCells (s3.heap.push { cls := .type "dict", data := .dict #[] }) scope.names } : Shared) = s4 at I4 ⊢
  have st4 : tn 0 s4.heap := T.keep _ _ _ st3 fun b _ o e => by rw [← hs4]; exact pushCells_keeps _ _ _ _ (Heap.get?_push_of_some _ e)
  have stat : ∀ {σ' : L2.St} {H' : Hp} {s' : Shared}, Inv (X.blk s3 H3 scope ce fp) [] σ' H' s' → (∀ b ∈ fp, H' b = none) → ∀ b ∈ fp, FpOk (X.blk s3 H3 scope ce fp) [] H' b := fun {σ' H' s'} I' hn b hb =>
    ⟨hn b hb, (I'.ok.exf b hb).1, I'.ok.exfs b hb, .inl hb, fun x c e => (I'.ok.exf b hb).2 x c e, fun p hp => absurd (show p ∈ ([] : List (Addr × Obj)) ++ [] from hp) (by simp)⟩
  have loop0 := clause_loop (Y := X.blk s3 H3 scope ce fp) (itv := it) (D := D) (vs := own.map (·.2)) (Nx := fun H' => Q (.ref D) H') rfl hc (gens := ⟨tg, iter, ifs, 0⟩ :: rest) (d := 0) rfl hr pg pt pc hv T I4 st4 (stat I4 nfp) w0
    (by rw [wipe_twice]; exact turn)
  have loop : codeAny (model X.prog X.w) X.A (.compLoop (.ListComp elt (⟨tg, iter, ifs, 0⟩ :: rest) scope pos) 0 (.ref it) (.ref D) ce) (compPost (model X.prog X.w) X.A X.xe use Qf (.ref D) s3.heap.objs.size) s4 := by
    refine codeAny_mono loop0 fun r s6 hr => ?_
    cases r with
    | error e => exact hr.elim
    | ok f =>
      obtain ⟨hf, H5, I6, qq⟩ := hr
      subst hf
      have I7 : Inv X pins σ H5 s6 := I3.call' (ch := fp) I6.os I6.base I6.hok I6.bare fun b hb => ⟨(f3 b hb).1.2.2.2.1, (f3 b hb).1.2.1, (f3 b hb).1.2.2.2.2.1, (f3 b hb).1.2.2.2.2.2⟩
      have nC : H5 s3.heap.objs.size = none := by
        have z : H5 ce.locals = none := I6.free
        rw [cL] at z
        exact z
      obtain ⟨m, hn, _⟩ := I6.loc
      have hn : s6.heap.Ns ce.locals m := hn
      rw [cL] at hn
      exact hRR D s3.heap.objs.size s6 m H5 I7 qq hn (I3.fpOk (Nat.le_refl _) nC)
  exact codeAny_compStart_list loop (T.self X.A 0 _ _ _ st4 loop)
/-- as a value -/
theorem pe_lcN {elt tg iter : Expr} {ifs : List Expr} {rest : List Comprehension} {scope : Scope} {own : List (Str × Nat)} {ws : List Nat} {pos : Pos} {wi : TI} {g : TG} {tt : TT} {tC : TC} (hc : X.calm = true) (hN : X.N.Nodup) (hi : PI X tg iter wi) (ok : BlkOk X.N X.env.scope scope own) (hv : ∀ i ∈ ws, i ∈ own.map (·.2))
    (hr : (⟨tg, iter, ifs, 0⟩ :: rest : List Comprehension)[0 + 1]? = none ∨ ∃ tg1 it1 ifs1, (⟨tg, iter, ifs, 0⟩ :: rest : List Comprehension)[0 + 1]? = some ⟨tg1, it1, ifs1, 0⟩)
    (hg : ∀ (s : Shared) (H : Hp) (C : Addr) (cl : List (Str × Addr)) (fp : List Addr), PG (X.blk s H scope (compEnvC scope cl C X.env) fp) tg g) (ht : ∀ (s : Shared) (H : Hp) (C : Addr) (cl : List (Str × Addr)) (fp : List Addr), PTs (X.blk s H scope (compEnvC scope cl C X.env) fp) ifs tt)
    (hC : ∀ (s : Shared) (H : Hp) (C : Addr) (cl : List (Str × Addr)) (fp : List Addr), Inner (X.blk s H scope (compEnvC scope cl C X.env) fp) elt (⟨tg, iter, ifs, 0⟩ :: rest) scope pos 0 tC ws) (hs : ∀ x, foldedSetIterable iter X.env x = pure x := by intro _; rfl) :
    PE X (.ListComp elt (⟨tg, iter, ifs, 0⟩ :: rest) scope pos) (tLcN wi g tt tC (own.map (·.2))) := by
  refine ⟨fun pins s σ H Q I h => ?_⟩
  rw [eval_ListComp]
  refine lcN_core hc hN I hi ok hv hr hg ht hC hs h fun D C s' m H' I' q hn f => ⟨m, hn, fun h'' sb => ?_⟩
  obtain ⟨f0, f1, f2, f3, f4, f5⟩ := f
  exact ⟨.ref D, H', I'.turned (t' := s'.toks) (fun b o hb e => (sb.2 b hb).trans e) f0 f1 f3 f4 f5, rfl, q⟩
/-- given to a name -/
theorem ps_setLcN {i : Nat} {y : Str} {py : Pos} {elt tg iter : Expr} {ifs : List Expr} {rest : List Comprehension} {scope : Scope} {own : List (Str × Nat)} {ws : List Nat} {pos spos : Pos} {wi : TI} {g : TG} {tt : TT} {tC : TC} (hc : X.calm = true) (hN : X.N.Nodup) (hy : X.N[i]? = some y) (hyl : X.env.scope.names.lookup y = some .local)
    (hsw : swapsWith (.ListComp elt (⟨tg, iter, ifs, 0⟩ :: rest) scope pos) (some (.Name y py)) spos.line X.env = pure true) (hi : PI X tg iter wi) (ok : BlkOk X.N X.env.scope scope own) (hv : ∀ i ∈ ws, i ∈ own.map (·.2))
    (hr : (⟨tg, iter, ifs, 0⟩ :: rest : List Comprehension)[0 + 1]? = none ∨ ∃ tg1 it1 ifs1, (⟨tg, iter, ifs, 0⟩ :: rest : List Comprehension)[0 + 1]? = some ⟨tg1, it1, ifs1, 0⟩)
    (hg : ∀ (s : Shared) (H : Hp) (C : Addr) (cl : List (Str × Addr)) (fp : List Addr), PG (X.blk s H scope (compEnvC scope cl C X.env) fp) tg g) (ht : ∀ (s : Shared) (H : Hp) (C : Addr) (cl : List (Str × Addr)) (fp : List Addr), PTs (X.blk s H scope (compEnvC scope cl C X.env) fp) ifs tt)
    (hC : ∀ (s : Shared) (H : Hp) (C : Addr) (cl : List (Str × Addr)) (fp : List Addr), Inner (X.blk s H scope (compEnvC scope cl C X.env) fp) elt (⟨tg, iter, ifs, 0⟩ :: rest) scope pos 0 tC ws) (hs : ∀ x, foldedSetIterable iter X.env x = pure x := by intro _; rfl) :
    PS X (.Assign [.Name y py] (.ListComp elt (⟨tg, iter, ifs, 0⟩ :: rest) scope pos) spos) (tAsg (tLcN wi g tt tC (own.map (·.2))) (gName i)) := by
  refine ⟨fun pins s σ H D I h => ?_⟩
  rw [exec_Assign_Name_used _ _ _ _ hsw]
  refine wpAny_bind (wpAny_standAt (wpAny_bind ?_))
  show wpAny _ X.A (do let _ ← comprehension (.ListComp elt (⟨tg, iter, ifs, 0⟩ :: rest) scope pos) scope X.env (firstIterPos (⟨tg, iter, ifs, 0⟩ :: rest) pos) (newList []) false (eval iter X.env) (some (assign (.Name y py) X.env))) _ _ s
  have h : tLcN wi g tt tC (own.map (·.2)) σ H (fun x H1 => gName i x σ H1 D.nx) := h
  refine wpAny_bind (thn (lcN_core (Qf := fun _ s' => SP X pins D .next s') hc hN I hi ok hv hr hg ht hC hs h fun L C s' m H' I' q hn f => ?_) fun _ s' hq => wpAny_pure (wpAny_pure hq))
  show wpAny _ _ (assign (.Name y py) X.env (.ref L)) _ _ _
  refine wpAny_assign_Name (store_ok2 (v := V.ref L) I' hN hy (.inl hyl) rfl (fun s2 I2 ⟨a, sb, ha⟩ => ?_) (.inr hyl))
  obtain ⟨f0, f1, f2, f3, f4, f5⟩ := f
  have haC : C ≠ a := by
    rcases ha with z | z
    · rw [z]; exact f1
    · exact fun e => f4 y a z e.symm
  refine ⟨m, hn.sameBut sb haC, fun h3 sb3 => ?_⟩
  exact ⟨_, H', I2.turned (t' := s2.toks) (fun b o hb e => (sb3.2 b hb).trans e) f0 f1 f3 f4 f5, q⟩
end
end LcN
/-! a range that a name holds; max(.., default=0) -/
namespace LcN
open PySem PySem.Spec PyProof.Rows L2 PySem.W
section
variable {X : Cx} {tg : Expr}
def iRngV (tl : TE) : TI := fun σ H R => tl σ H fun v H1 => ∃ (a : Addr) (j : Int), v = .ref a ∧ H1 a = some (.rng 0 j) ∧ -(2 ^ 62) ≤ j ∧ j < 2 ^ 62 ∧ R (Itr 0 j.toNat) H1
/-- a walk over a range object that stands in the heap -/
theorem pi_rng {l : Expr} {tl : TE} (hl : PE X l tl) : PI X tg l (iRngV tl) := by
  refine ⟨fun pins s σ H R I h => ?_⟩
  refine thn (hl.run pins s σ H _ I h) fun v s1 ⟨x, H1, I1, r1, q1⟩ => ?_
  obtain ⟨a, j, e, ha, h1, h2, q⟩ := q1
  subst e
  cases r1
  obtain ⟨t, u, v, ho⟩ := I1.hok _ _ ha
  refine wpAny_pyIter_range (a := 0) (b := j) (c := 1) (show IsRange s1.heap a 0 j 1 t u v from ho) (small_one (by omega) (by omega) h1 h2) ?_
  refine ⟨s1.heap.objs.size, [s1.heap.objs.size], _, _, H1, rfl,
    I1.kept (t' := s1.toks) fun b o e => Heap.get?_push_of_some _ e, turn_range _ 0 j.toNat, ?_, fun b hb => ?_, q⟩
  · have e1 : (0 : Int) + ((0 : Nat) : Int) * 1 = 0 := by simp
    have e2 : ((j.toNat : Nat) : Int) - ((0 : Nat) : Int) = Builtin.Range.rangeSize 0 j 1 := by rw [rangeSize_one]; split <;> omega
    show IsRangeIter _ _ ((0 : Int) + ((0 : Nat) : Int) * 1) (((j.toNat : Nat) : Int) - ((0 : Nat) : Int)) 1
    rw [e1, e2]
    exact Heap.get?_push_size _ rfl
  · have e : b = s1.heap.objs.size := by simpa using hb
    subst e
    exact I1.fpOk (Nat.le_refl _) (I1.hok.fresh (Nat.le_refl _))
/-- range(n) as a value -/
theorem cr_range1 : CallR X (.type "range") (fun vs H Q => ∃ j, vs = [V.int j] ∧ ∀ p, H p = none → Q (.ref p) (upd H p (.rng 0 j))) := by
  intro pins s σ H vs us Q I r h
  obtain ⟨j, rfl, q⟩ := h
  cases r with
  | cons r rr =>
    cases rr
    obtain ⟨t, rfl⟩ := r
    refine call_range_1 ⟨.ref s.heap.objs.size, upd H s.heap.objs.size (.rng 0 j), I.laid (t' := s.toks + 2) (fun b o e => Heap.get?_push_of_some _ e) (Nat.le_refl _) ?_, rfl, q _ (I.hok.fresh (Nat.le_refl _))⟩
    exact ⟨_, t, _, Heap.get?_push_size _ rfl⟩
/-- what max(ns, default=d) gives -/
def maxDef (d : Int) : List Int → Int
  | [] => d
  | n :: r => r.foldl max n
def rMaxDef (K : PySem.W.Frag) : List V → List V → Hp → VK → Prop := fun vs zs H Q => ∃ (a : Addr) (ns : List Int) (d : Int), vs = [V.ref a] ∧ zs = [V.int d] ∧ SqL K H a (ns.map V.int) ∧ Q (.int (maxDef d ns)) H
theorem depth_ints : ∀ ns : List Int, PyData.depthAll (ns.map PyData.int) ≤ 1
  | [] => Nat.zero_le _
  | n :: r => by
    have e := depth_ints r
    show max (PyData.depth (.int n)) (PyData.depthAll (r.map PyData.int)) ≤ 1
    have e1 : PyData.depth (.int n) ≤ 1 := by first | exact Nat.le_refl _ | exact Nat.zero_le _ | (unfold PyData.depth; omega)
    omega
theorem alike_ints (ns : List Int) : AlikeAll (ns.map PyData.int) := by
  constructor
  · intro x hx y hy
    obtain ⟨i, _, rfl⟩ := List.mem_map.1 hx
    obtain ⟨j, _, rfl⟩ := List.mem_map.1 hy
    unfold alike
    rfl
  · intro x hx
    obtain ⟨i, _, rfl⟩ := List.mem_map.1 hx
    exact fun z => by cases z
theorem cr_maxDef (hc : X.calm = true) (hu : X.A.units + 65 < cLine) : CallRK X (.builtin "max") [Str.ofString "default"] (rMaxDef X.K) := by
  intro pins s σ H vs zs us ws Q I r rz h
  obtain ⟨a, ns, d, rfl, rfl, hs, q⟩ := h
  obtain rfl := Vals.ref1 r
  obtain ⟨w1, rfl, e1⟩ := vals1 rz
  obtain ⟨t1, rfl⟩ := e1
  obtain ⟨its, rv, hl, hz⟩ := I.list hs
  have hi := rv.ints
  have hd := depth_ints ns
  refine max_list_default (I.ok.hd hc) hl.isList (hi.reads _) (alike_ints ns) (by omega) (fun e h' tk k => ?_) (fun y ys i v h' tk bs e hv hr k => ?_)
  · cases ns with
    | nil => exact ⟨.int d, H, I.kept k, ⟨_, rfl⟩, q⟩
    | cons n r => cases e
  · cases ns with
    | nil => cases e
    | cons n r =>
      injection e with e1 e2
      subst e1
      subst e2
      rw [maxD_ints] at hr
      cases hr
      exact ⟨.int _, H, I.kept k, ⟨_, rfl⟩, q⟩
end
end LcN
/-! a field as a target; a clause over a range that a name holds, read -/
namespace LcN
open PySem PySem.Spec PyProof.Rows L2 PySem.W
section
variable {X : Cx} {o : Expr} {ta : TE} {f : Str} {pos : Pos}
def gFld (K : PySem.W.Frag) (ta : TE) (f : Str) : TG := fun y σ H Q => ta σ H fun x H2 => ∃ a C dx fs, x = .ref a ∧ H2 a = some (.ins C dx fs) ∧ Cls K C ∧ NoAttr K C f ∧ fs.length < 1000 ∧ Q σ (upd H2 a (.ins C dx (putF f y fs)))
theorem pg_fld (ha : PE X o ta) : PG X (.Attribute o f pos) (gFld X.K ta f) := by
  refine ⟨fun pins s σ H v u Q I r h => ?_⟩
  rw [assign_Attribute]
  refine wpAny_bind (wpAny_holding (thn (ha.run pins s σ H _ I h) fun ov s1 ⟨x, H1, I1, r1, a, C, dx, fs, ex, ea, c, n, l, q⟩ => ?_))
  subst ex
  obtain rfl : ov = Value.ref a := r1
  refine wpAny_bind (wpAny_standAt (wpAny_bind (wpAny_holding (setattr_ok I1 ea c n l r fun s2 I2 => ?_))))
  exact wpAny_release ⟨σ, _, I2, q⟩
end
theorem wipe_set {σ : L2.St} {k : Nat} {x : Option V} {vs : List Nat} (h : k ∈ vs) : wipe (σ.set k x) vs = wipe σ vs := by
  refine List.ext_getElem? fun i => ?_
  by_cases hi : i ∈ vs
  · by_cases hl : i < σ.length
    · rw [wipe_in (by rw [List.length_set]; exact hl) hi, wipe_in hl hi]
    · rw [List.getElem?_eq_none (by rw [wipe_length, List.length_set]; omega), List.getElem?_eq_none (by rw [wipe_length]; omega)]
  · rw [wipe_out hi, wipe_out hi, List.getElem?_set_ne fun z => hi (by rw [← z]; exact h)]
/-- what a clause's turns over 0, .., n - 1 ask -/
theorem walk_rng {n k : Nat} {vs : List Nat} {σ : L2.St} {H : Hp} {Nx : Hp → Prop} {B : L2.St → Hp → (Hp → Prop) → Prop} (hk : k ∈ vs) (P : Nat → Hp → Prop) (h0 : P 0 H) (hn : ∀ H', P n H' → Nx H')
    (hs : ∀ j H', j < n → P j H' → B ((wipe σ vs).set k (some (.int j))) H' (P (j + 1))) :
    ∃ W : Nat → Nat → Hp → Prop, (∃ m, W 0 m H) ∧ ∀ j m H, W j m H →
      ((Itr 0 n).stop j H ∧ Nx H) ∨ ((Itr 0 n).go j H ∧ ∃ Nx1 : Hp → Prop, (∀ H', Nx1 H' → ∃ m', m' < m ∧ W (j + 1) m' H') ∧ ∀ x H', (Itr 0 n).yld j H x H' → gName k x (wipe σ vs) H' fun σ3 H5 => wipe σ3 vs = wipe σ vs ∧ tYes σ3 H5 fun b H6 => if b = true then B σ3 H6 Nx1 else Nx1 H6) := by
  refine ⟨fun i m H => m = n - i ∧ i ≤ n ∧ P i H, ⟨n, by simp, Nat.zero_le _, h0⟩, ?_⟩
  rintro i m H ⟨rfl, hi, p⟩
  by_cases hlt : i < n
  · refine .inr ⟨hlt, P (i + 1), fun H' p' => ⟨n - (i + 1), by omega, rfl, hlt, p'⟩, fun x H' y => ?_⟩
    obtain ⟨e, y⟩ := y
    subst e y
    refine ⟨by rw [wipe_set hk, wipe_twice], ?_⟩
    have z := hs i H' hlt p
    show (if true = true then B ((wipe σ vs).set k (some (.int ((0 : Int) + (i : Int))))) H' (P (i + 1)) else P (i + 1) H')
    rw [if_pos rfl, show (0 : Int) + (i : Int) = (i : Int) from Int.zero_add _]
    exact z
  · have e : i = n := by omega
    subst e
    exact .inl ⟨Nat.le_refl _, hn H p⟩
/-- a comprehension over such a range: what it asks -/
theorem lcN_rng {n k : Nat} {vs : List Nat} {σ : L2.St} {H : Hp} {Q : VK} {tl : TE} {tC : TC} (hk : k ∈ vs)
    (h : tl σ H fun v H1 => ∃ a : Addr, v = .ref a ∧ H1 a = some (.rng 0 n) ∧ n < 1000000 ∧ ∀ D, H1 D = none → ∃ P : Nat → Hp → Prop, P 0 (upd H1 D (.lst [])) ∧ (∀ H', P n H' → Q (.ref D) H') ∧
      ∀ j H', j < n → P j H' → tC ((wipe σ vs).set k (some (.int j))) H' D (P (j + 1)))
    (mono : ∀ (σ : L2.St) (H : Hp) (Q Q' : VK), (∀ v H, Q v H → Q' v H) → tl σ H Q → tl σ H Q') : tLcN (iRngV tl) (gName k) tYes tC vs σ H Q := by
  refine mono _ _ _ _ (fun v H1 ⟨a, e, ha, hn, q⟩ => ⟨a, n, e, ha, by omega, by omega, ?_⟩) h
  intro D hD
  obtain ⟨P, h0, hn', hs⟩ := q D hD
  exact walk_rng (B := fun σ3 H6 N => tC σ3 H6 D N) hk P h0 hn' hs
theorem clause_rng {n k : Nat} {vs : List Nat} {σ : L2.St} {H : Hp} {D : Addr} {Nx : Hp → Prop} {tl : TE} {tC : TC} (hk : k ∈ vs)
    (h : tl σ H fun v H1 => ∃ a : Addr, v = .ref a ∧ H1 a = some (.rng 0 n) ∧ n < 1000000 ∧ ∃ P : Nat → Hp → Prop, P 0 H1 ∧ (∀ H', P n H' → Nx H') ∧
      ∀ j H', j < n → P j H' → tC ((wipe σ vs).set k (some (.int j))) H' D (P (j + 1)))
    (mono : ∀ (σ : L2.St) (H : Hp) (Q Q' : VK), (∀ v H, Q v H → Q' v H) → tl σ H Q → tl σ H Q') : tClause (iRngV tl) (gName k) tYes tC vs σ H D Nx := by
  refine mono _ _ _ _ (fun v H1 ⟨a, e, ha, hn, q⟩ => ⟨a, n, e, ha, by omega, by omega, ?_⟩) h
  obtain ⟨P, h0, hn', hs⟩ := q
  exact walk_rng (B := fun σ3 H6 N => tC σ3 H6 D N) hk P h0 hn' hs
end LcN
/-! comprehensions of two and three clauses over one range, whose element leaves the objects as they are -/
namespace LcN
open PySem PySem.Spec PyProof.Rows L2 PySem.W
abbrev flat2 {α : Type} (n : Nat) (b : Nat → Nat → α) : List α := (List.range n).flatMap fun x => (List.range n).map (b x)
abbrev flat3 {α : Type} (n : Nat) (b : Nat → Nat → Nat → α) : List α := (List.range n).flatMap fun x => flat2 n (b x)
theorem flatMap_succ {α : Type} (j : Nat) (f : Nat → List α) : (List.range (j + 1)).flatMap f = (List.range j).flatMap f ++ f j := by
  rw [List.range_succ, List.flatMap_append]
  simp
theorem map_succ {α : Type} (j : Nat) (f : Nat → α) : (List.range (j + 1)).map f = (List.range j).map f ++ [f j] := by
  rw [List.range_succ, List.map_append]
  rfl
theorem len_flatMap {α : Type} {m : Nat} (f : Nat → List α) (h : ∀ x, (f x).length = m) : ∀ j : Nat, ((List.range j).flatMap f).length = j * m
  | 0 => by simp
  | j + 1 => by rw [flatMap_succ, List.length_append, len_flatMap f h j, h, Nat.succ_mul]
theorem len_flat2 {α : Type} {n : Nat} (b : Nat → Nat → α) (j : Nat) : ((List.range j).flatMap fun x => (List.range n).map (b x)).length = j * n := len_flatMap _ (fun x => by simp) j
theorem len_flat3 {α : Type} {n : Nat} (b : Nat → Nat → Nat → α) (j : Nat) : ((List.range j).flatMap fun x => flat2 n (b x)).length = j * (n * n) := len_flatMap _ (fun x => len_flat2 (b x) n) j
theorem tVar_mono {i : Nat} : ∀ (σ : L2.St) (H : Hp) (Q Q' : VK), (∀ v H, Q v H → Q' v H) → tVar i σ H Q → tVar i σ H Q' := fun σ H Q Q' k ⟨v, e, q⟩ => ⟨v, e, k _ _ q⟩
theorem small100 {a : Nat} (h : a ≤ 2000000) : a < sizeLine := by rw [sizeLine_eq]; omega
section
variable {n i k1 k2 k3 : Nat} {vs ws us : List Nat} {σ : L2.St} {H : Hp} {Q : VK} {te : TE} {p : Addr}
/-- the innermost clause: it adds to what the list holds -/
theorem emit_rng {D : Addr} {pre : List V} {Nx : Hp → Prop} (v : Nat → V) (hk : k1 ∈ vs) (hi : σ[i]? = some (some (.ref p))) (hp : H p = some (.rng 0 n)) (hn : n ≤ 100) (hD : H D = none) (hl : pre.length ≤ 1100000)
    (he : ∀ x, x < n → ∀ (acc : List V) (Q' : VK), Q' (v x) (upd H D (.lst acc)) → te ((wipe σ vs).set k1 (some (.int x))) (upd H D (.lst acc)) Q')
    (hN : Nx (upd H D (.lst (pre ++ (List.range n).map v)))) : tClause (iRngV (tVar i)) (gName k1) tYes (tEmit te) vs σ (upd H D (.lst pre)) D Nx := by
  have hpD : p ≠ D := fun e => by
    rw [e, hD] at hp
    cases hp
  refine clause_rng (n := n) hk ⟨_, hi, p, rfl, by rw [upd_ne hpD]; exact hp, by omega, fun j H' => H' = upd H D (.lst (pre ++ (List.range j).map v)), by simp, fun H' e => e ▸ hN, fun j H' hj e => ?_⟩ tVar_mono
  subst e
  refine he j hj _ _ ⟨_, upd_same, ?_, ?_⟩
  · refine small100 ?_
    rw [List.length_append, List.length_map, List.length_range]
    omega
  · show upd (upd H D _) D _ = upd H D (.lst (pre ++ (List.range (j + 1)).map v))
    rw [upd_upd, map_succ, List.append_assoc]
theorem rd2 (v : Nat → Nat → V) (hk1 : k1 ∈ vs) (hk2 : k2 ∈ ws) (hi : σ[i]? = some (some (.ref p))) (hi2 : ∀ x, ((wipe σ vs).set k1 (some x))[i]? = some (some (.ref p))) (hp : H p = some (.rng 0 n)) (hn : n ≤ 100)
    (he : ∀ D, H D = none → ∀ x y, x < n → y < n → ∀ (acc : List V) (Q' : VK), Q' (v x y) (upd H D (.lst acc)) → te ((wipe ((wipe σ vs).set k1 (some (.int x))) ws).set k2 (some (.int y))) (upd H D (.lst acc)) Q')
    (hQ : ∀ D, H D = none → Q (.ref D) (upd H D (.lst (flat2 n v)))) :
    tLcN (iRngV (tVar i)) (gName k1) tYes (tClause (iRngV (tVar i)) (gName k2) tYes (tEmit te) ws) vs σ H Q := by
  refine lcN_rng (n := n) hk1 ⟨_, hi, p, rfl, hp, by omega, fun D hD => ⟨fun j H' => H' = upd H D (.lst ((List.range j).flatMap fun x => (List.range n).map (v x))), rfl, fun H' e => e ▸ hQ D hD, fun j H' hj e => ?_⟩⟩ tVar_mono
  subst e
  refine emit_rng (n := n) (p := p) (v j) hk2 (hi2 _) hp hn hD ?_ (fun x hx acc Q' q => he D hD j x hj hx acc Q' q) ?_
  · rw [len_flat2]
    have : j * n ≤ 100 * 100 := Nat.mul_le_mul (by omega) hn
    omega
  · show upd H D _ = upd H D (.lst ((List.range (j + 1)).flatMap fun x => (List.range n).map (v x)))
    rw [flatMap_succ]
theorem rd3 (v : Nat → Nat → Nat → V) (hk1 : k1 ∈ vs) (hk2 : k2 ∈ ws) (hk3 : k3 ∈ us) (hi : σ[i]? = some (some (.ref p))) (hi2 : ∀ x, ((wipe σ vs).set k1 (some x))[i]? = some (some (.ref p)))
    (hi3 : ∀ x y, ((wipe ((wipe σ vs).set k1 (some x)) ws).set k2 (some y))[i]? = some (some (.ref p))) (hp : H p = some (.rng 0 n)) (hn : n ≤ 100)
    (he : ∀ D, H D = none → ∀ x y z, x < n → y < n → z < n → ∀ (acc : List V) (Q' : VK), Q' (v x y z) (upd H D (.lst acc)) →
      te ((wipe ((wipe ((wipe σ vs).set k1 (some (.int x))) ws).set k2 (some (.int y))) us).set k3 (some (.int z))) (upd H D (.lst acc)) Q')
    (hQ : ∀ D, H D = none → Q (.ref D) (upd H D (.lst (flat3 n v)))) :
    tLcN (iRngV (tVar i)) (gName k1) tYes (tClause (iRngV (tVar i)) (gName k2) tYes (tClause (iRngV (tVar i)) (gName k3) tYes (tEmit te) us) ws) vs σ H Q := by
  refine lcN_rng (n := n) hk1 ⟨_, hi, p, rfl, hp, by omega, fun D hD => ⟨fun j H' => H' = upd H D (.lst ((List.range j).flatMap fun x => flat2 n (v x))), rfl, fun H' e => e ▸ hQ D hD, fun j H' hj e => ?_⟩⟩ tVar_mono
  subst e
  have hpD : p ≠ D := fun e => by
    rw [e, hD] at hp
    cases hp
  have hl : ((List.range j).flatMap fun x => flat2 n (v x)).length ≤ 100 * (100 * 100) := by
    rw [len_flat3]
    exact Nat.mul_le_mul (by omega) (Nat.mul_le_mul hn hn)
  refine clause_rng (n := n) hk2 ⟨_, hi2 _, p, rfl, by rw [upd_ne hpD]; exact hp, by omega, fun l H' => H' = upd H D (.lst (((List.range j).flatMap fun x => flat2 n (v x)) ++ (List.range l).flatMap fun x => (List.range n).map (v j x))), by simp, fun H' e => ?_, fun l H' hl2 e => ?_⟩ tVar_mono
  · show H' = upd H D (.lst ((List.range (j + 1)).flatMap fun x => flat2 n (v x)))
    rw [e, flatMap_succ]
  · subst e
    refine emit_rng (n := n) (p := p) (v j l) hk3 (hi3 _ _) hp hn hD ?_ (fun x hx acc Q' q => he D hD j l x hj hl2 hx acc Q' q) ?_
    · have h2 : l * n ≤ 100 * 100 := Nat.mul_le_mul (by omega) hn
      have h3 := len_flat2 (n := n) (v j) l
      rw [List.length_append, h3]
      omega
    · show upd H D _ = upd H D (.lst (((List.range j).flatMap fun x => flat2 n (v x)) ++ (List.range (l + 1)).flatMap fun x => (List.range n).map (v j x)))
      rw [flatMap_succ, List.append_assoc]
end
theorem ix_listK {X : Cx} (K : PySem.W.Frag) (e : X.K = K) : IxR X (rIxL K) := by
  subst e
  exact ix_list
theorem ix_tupK {X : Cx} (K : PySem.W.Frag) (e : X.K = K) : IxR X (rIxT K) := by
  subst e
  exact ix_tup
theorem in_seqK {X : Cx} (K : PySem.W.Frag) (e : X.K = K) : OpR X (compareOp .In) (rIn K false) := by
  subst e
  exact op_in_seq
end LcN
/-! the program's tables: what the rows of a table tell -/
namespace My
open PySem PySem.Spec PyProof.Rows L2
/-- the rows of a table as lists: entry f x y -/
structure Grid (K : PySem.W.Frag) (H : Hp) (a : Addr) (n : Nat) (f : Nat → Nat → Nat) : Prop where
  at_ : ∃ r : Nat → Addr, H a = some (.lst ((List.range n).map fun x => V.ref (r x))) ∧ ∀ x, x < n → H (r x) = some (.lst ((List.range n).map fun y => V.int ((f x y : Nat) : Int)))
theorem Grid.rows {K : PySem.W.Frag} {H : Hp} {a : Addr} {n : Nat} {f : Nat → Nat → Nat} (G : Grid K H a n f) : ∃ r : Nat → Addr, SqL K H a ((List.range n).map fun x => V.ref (r x)) ∧ ∀ x, x < n → SqL K H (r x) ((List.range n).map fun y => V.int ((f x y : Nat) : Int)) := by
  obtain ⟨r, h1, h2⟩ := G.at_
  exact ⟨r, SqL.of h1, fun x hx => SqL.of (h2 x hx)⟩
theorem Grid.same {K : PySem.W.Frag} {H H' : Hp} {a : Addr} {n : Nat} {f : Nat → Nat → Nat} (G : Grid K H a n f) (s : Same H H') : Grid K H' a n f := by
  obtain ⟨r, h1, h2⟩ := G.at_
  exact ⟨r, s _ _ h1, fun x hx => s _ _ (h2 x hx)⟩
theorem at_range {α : Type} {n x : Nat} {g : Nat → α} (h : x < n) : atI ((List.range n).map g) ((x : Nat) : Int) = some (g x) := at_ofG rfl (by rw [List.getElem?_map, List.getElem?_range h]; rfl)
def Lt (n : Nat) (f : Nat → Nat → Nat) : Prop := ∀ x y, x < n → y < n → f x y < n
/-- rows[x][y], x and y read by any parts -/
theorem rd_cell {K : PySem.W.Frag} {H : Hp} {a : Addr} {n x y : Nat} {f : Nat → Nat → Nat} {Q : VK} (G : Grid K H a n f) (hx : x < n) (hy : y < n) (q : Q (.int ((f x y : Nat) : Int)) H) :
    ∃ r : Addr, rIxL K (.ref a) (.int ((x : Nat) : Int)) H (fun v H' => v = .ref r ∧ H' = H) ∧ rIxL K (.ref r) (.int ((y : Nat) : Int)) H Q := by
  obtain ⟨r, h1, h2⟩ := G.rows
  exact ⟨r x, ⟨a, _, _, _, rfl, rfl, h1, at_range hx, rfl, rfl⟩, ⟨r x, _, _, _, rfl, rfl, h2 x hx, at_range hy, q⟩⟩
abbrev commB (n : Nat) (f : Nat → Nat → Nat) : Bool := (LcN.flat2 n fun x y => f x y == f y x).all id
abbrev assocB (n : Nat) (f : Nat → Nat → Nat) : Bool := (LcN.flat3 n fun x y z => f (f x y) z == f x (f y z)).all id
def spComm (K : PySem.W.Frag) : Sp := fun vs H Q _ => ∃ (a : Addr) (n : Nat) (f : Nat → Nat → Nat), vs = [.ref a] ∧ Grid K H a n f ∧ n ≤ 16 ∧ ∀ H', Same H H' → Q (.bl (commB n f)) H'
def spAssoc (K : PySem.W.Frag) : Sp := fun vs H Q _ => ∃ (a : Addr) (n : Nat) (f : Nat → Nat → Nat), vs = [.ref a] ∧ Grid K H a n f ∧ Lt n f ∧ n ≤ 16 ∧ ∀ H', Same H H' → Q (.bl (assocB n f)) H'
theorem map_flat2 {α β : Type} (g : α → β) (n : Nat) (b : Nat → Nat → α) : (LcN.flat2 n b).map g = LcN.flat2 n fun x y => g (b x y) := by
  show ((List.range n).flatMap fun x => (List.range n).map (b x)).map g = _
  rw [List.map_flatMap]
  refine congrArg (fun h => List.flatMap h (List.range n)) (funext fun x => ?_)
  rw [List.map_map]
  rfl
theorem map_flat3 {α β : Type} (g : α → β) (n : Nat) (b : Nat → Nat → Nat → α) : (LcN.flat3 n b).map g = LcN.flat3 n fun x y z => g (b x y z) := by
  show ((List.range n).flatMap fun x => LcN.flat2 n (b x)).map g = _
  rw [List.map_flatMap]
  exact congrArg (fun h => List.flatMap h (List.range n)) (funext fun x => map_flat2 g n (b x))
theorem dec_nat {a b : Nat} : decide (V.int ((a : Nat) : Int) = V.int ((b : Nat) : Int)) = (a == b) := by
  rw [dec_int, Bool.eq_iff_iff, beq_iff_eq, beq_iff_eq]
  omega
theorem ret1 {r : List V → Hp → VK → Prop} {tl : TE} {D : Ends} {σ : L2.St} {H : Hp} (h : tl σ H fun v H1 => r [v] H1 D.rt) : tRet (tCB r (tCons tl tNil)) D σ H := h
section
variable {P : Program} {w : World} {K : PySem.W.Frag} {mg : Str → Option Value} {base : Heap}
theorem ok_comm (F : Fn K mg "is_commutative" s_is_commutative ["rows"]) (B : Blt mg) : Has P w K mg base 1 "is_commutative" ["rows"] (spComm K) := by
  refine F.has sc_is_commutative (fun vs H Q E h => ?_) (fun f cdv A outer s H vs Q E hr h => ?_)
  · obtain ⟨a, n, f, rfl, _⟩ := h
    rfl
  obtain ⟨a, n, f, rfl, G, hn, q⟩ := h
  refine ⟨_, (pss_cons (ps_set (i := 1) sc_is_commutative.nd rfl (Or.inr rfl) (pe_callTy LcN.cr_range1 (by rfl) B.range bb_range (pa_cons (pe_callB call_len (by rfl) B.len bb_len (pa_cons (pv 0) pa_nil)) pa_nil)))
      (pss_one (ps_ret (pe_callB (cr_all rfl) (by rfl) B.all bb_all (pa_cons (LcN.pe_lcN (own := [("x", 2), ("y", 3)]) (ws := [3]) (g := gName 2) (tt := tYes) rfl sc_is_commutative.nd (LcN.pi_rng (pv 1)) (blkOk_by (own := [("x", 2), ("y", 3)]) (N := N_is_commutative) (sc := defScope s_is_commutative) (by decide +kernel)) (by decide) (.inr ⟨_, _, _, rfl⟩) (fun _ _ _ _ _ => (pg_name (i := 2) sc_is_commutative.nd rfl (Or.inl rfl))) (fun _ _ _ _ _ => pts_nil) (fun _ _ _ _ _ => (LcN.inner_more (g := gName 3) (tt := tYes) (vs := [3]) rfl rfl rfl (.inl rfl) (LcN.pi_rng (pv 1)) (pg_name (i := 3) sc_is_commutative.nd rfl (Or.inl rfl)) pts_nil
          (LcN.inner_last rfl rfl (pe_cmpR op_eq (pe_ix (LcN.ix_listK K rfl) (pe_ix (LcN.ix_listK K rfl) (pv 0) (pv 2) (fun _ _ => rfl)) (pv 3) (fun _ _ => rfl)) (pe_ix (LcN.ix_listK K rfl) (pe_ix (LcN.ix_listK K rfl) (pv 0) (pv 3) (fun _ _ => rfl)) (pv 2) (fun _ _ => rfl)) (nomark _))) (by decide) (fun _ => rfl)))) pa_nil))))), ?_⟩
  obtain ⟨r, g1, g2⟩ := G.rows
  refine ⟨_, rfl, .ref a, n, rfl, .inl ⟨_, g1, by simp⟩, _, rfl, fun p hp => ?_⟩
  have s1 : Same H (upd H p (.rng 0 n)) := same_upd hp
  dsimp only [gName]
  refine ret1 (LcN.rd2 (n := n) (p := p) (σ := [some (.ref a), some (.ref p), none, none]) (fun x y => V.bl (f x y == f y x)) (by decide) (by decide) rfl (fun _ => rfl) upd_same (by omega) (fun D hD x y hx hy acc Q' q' => ?_) (fun D hD => ?_))
  · have s2 : Same H (upd (upd H p (.rng 0 n)) D (.lst acc)) := s1.trans (same_upd hD)
    have G2 := G.same s2
    refine ⟨_, rfl, _, rfl, a, _, _, _, rfl, rfl, s2.seq g1, at_range hx, _, rfl, _, _, _, _, rfl, rfl, s2.seq (g2 x hx), at_range hy, ?_⟩
    refine ⟨_, rfl, _, rfl, a, _, _, _, rfl, rfl, s2.seq g1, at_range hy, _, rfl, _, _, _, _, rfl, rfl, s2.seq (g2 y hy), at_range hx, ?_⟩
    refine ⟨rfl, ?_⟩
    rw [dec_nat]
    exact q'
  · refine ⟨D, _, rfl, SqL.of (show upd _ D _ D = _ from by rw [← map_flat2 V.bl n fun x y => f x y == f y x]; exact upd_same), q _ (s1.trans (same_upd hD))⟩
theorem ok_assoc (F : Fn K mg "is_associative" s_is_associative ["rows"]) (B : Blt mg) : Has P w K mg base 1 "is_associative" ["rows"] (spAssoc K) := by
  refine F.has sc_is_associative (fun vs H Q E h => ?_) (fun f cdv A outer s H vs Q E hr h => ?_)
  · obtain ⟨a, n, f, rfl, _⟩ := h
    rfl
  obtain ⟨a, n, f, rfl, G, hf, hn, q⟩ := h
  refine ⟨_, (pss_cons (ps_set (i := 1) sc_is_associative.nd rfl (Or.inr rfl) (pe_callTy LcN.cr_range1 (by rfl) B.range bb_range (pa_cons (pe_callB call_len (by rfl) B.len bb_len (pa_cons (pv 0) pa_nil)) pa_nil)))
      (pss_one (ps_ret (pe_callB (cr_all rfl) (by rfl) B.all bb_all (pa_cons (LcN.pe_lcN (own := [("x", 2), ("y", 3), ("z", 4)]) (ws := [3, 4]) (g := gName 2) (tt := tYes) rfl sc_is_associative.nd (LcN.pi_rng (pv 1)) (blkOk_by (own := [("x", 2), ("y", 3), ("z", 4)]) (N := N_is_associative) (sc := defScope s_is_associative) (by decide +kernel)) (by decide) (.inr ⟨_, _, _, rfl⟩) (fun _ _ _ _ _ => (pg_name (i := 2) sc_is_associative.nd rfl (Or.inl rfl))) (fun _ _ _ _ _ => pts_nil) (fun _ _ _ _ _ => (LcN.inner_more (g := gName 3) (tt := tYes) (vs := [3, 4]) rfl rfl rfl (.inr ⟨_, _, _, rfl⟩) (LcN.pi_rng (pv 1)) (pg_name (i := 3) sc_is_associative.nd rfl (Or.inl rfl)) pts_nil
          (LcN.inner_more (g := gName 4) (tt := tYes) (vs := [4]) rfl rfl rfl (.inl rfl) (LcN.pi_rng (pv 1)) (pg_name (i := 4) sc_is_associative.nd rfl (Or.inl rfl)) pts_nil
          (LcN.inner_last rfl rfl (pe_cmpR op_eq (pe_ix (LcN.ix_listK K rfl) (pe_ix (LcN.ix_listK K rfl) (pv 0) (pe_ix (LcN.ix_listK K rfl) (pe_ix (LcN.ix_listK K rfl) (pv 0) (pv 2) (fun _ _ => rfl)) (pv 3) (fun _ _ => rfl)) (fun _ _ => rfl)) (pv 4) (fun _ _ => rfl)) (pe_ix (LcN.ix_listK K rfl) (pe_ix (LcN.ix_listK K rfl) (pv 0) (pv 2) (fun _ _ => rfl)) (pe_ix (LcN.ix_listK K rfl) (pe_ix (LcN.ix_listK K rfl) (pv 0) (pv 3) (fun _ _ => rfl)) (pv 4) (fun _ _ => rfl)) (fun _ _ => rfl)) (nomark _))) (by decide) (fun _ => rfl)) (by decide) (fun _ => rfl)))) pa_nil))))), ?_⟩
  obtain ⟨r, g1, g2⟩ := G.rows
  refine ⟨_, rfl, .ref a, n, rfl, .inl ⟨_, g1, by simp⟩, _, rfl, fun p hp => ?_⟩
  have s1 : Same H (upd H p (.rng 0 n)) := same_upd hp
  dsimp only [gName]
  refine ret1 (LcN.rd3 (n := n) (p := p) (σ := [some (.ref a), some (.ref p), none, none, none]) (fun x y z => V.bl (f (f x y) z == f x (f y z))) (by decide) (by decide) (by decide) rfl (fun _ => rfl) (fun _ _ => rfl) upd_same (by omega) (fun D hD x y z hx hy hz acc Q' q' => ?_) (fun D hD => ?_))
  · have s2 : Same H (upd (upd H p (.rng 0 n)) D (.lst acc)) := s1.trans (same_upd hD)
    have hxy := hf x y hx hy
    have hyz := hf y z hy hz
    refine ⟨_, rfl, _, rfl, _, rfl, a, _, _, _, rfl, rfl, s2.seq g1, at_range hx, _, rfl, _, _, _, _, rfl, rfl, s2.seq (g2 x hx), at_range hy, ?_⟩
    refine ⟨a, _, _, _, rfl, rfl, s2.seq g1, at_range hxy, _, rfl, _, _, _, _, rfl, rfl, s2.seq (g2 _ hxy), at_range hz, ?_⟩
    refine ⟨_, rfl, _, rfl, a, _, _, _, rfl, rfl, s2.seq g1, at_range hx, _, rfl, _, rfl, a, _, _, _, rfl, rfl, s2.seq g1, at_range hy, _, rfl, _, _, _, _, rfl, rfl, s2.seq (g2 y hy), at_range hz, ?_⟩
    refine ⟨_, _, _, _, rfl, rfl, s2.seq (g2 x hx), at_range hyz, ?_⟩
    refine ⟨rfl, ?_⟩
    rw [dec_nat]
    exact q'
  · refine ⟨D, _, rfl, SqL.of (show upd _ D _ D = _ from by rw [← map_flat3 V.bl n fun x y z => f (f x y) z == f x (f y z)]; exact upd_same), q _ (s1.trans (same_upd hD))⟩
end
end My
/-! the form of a table -/
namespace My
open PySem PySem.Spec PyProof.Rows L2
def spIsInt : Sp := fun vs H Q _ => ∃ (x : V) (t : String), vs = [x] ∧ Typ H x t ∧ Q (.bl (isIntV x)) H
def spBetween : Sp := fun vs H Q _ => ∃ (x : V) (t : String) (lo hi : Int), vs = [x, .int lo, .int hi] ∧ Typ H x t ∧ Q (.bl (match x with | .int i => decide (lo ≤ i) && decide (i ≤ hi) | _ => false)) H
/-- a row: n numbers below n -/
def RowAt (H : Hp) (a : Addr) (n : Nat) (g : Nat → Nat) : Prop := H a = some (.lst ((List.range n).map fun y => V.int ((g y : Nat) : Int))) ∧ ∀ y, y < n → g y < n
def spRow : Sp := fun vs H Q _ => ∃ (a : Addr) (n : Nat) (g : Nat → Nat), vs = [.ref a, .int n] ∧ RowAt H a n g ∧ n ≤ 16 ∧ ∀ H', Same H H' → Q (.bl true) H'
def spTable (K : PySem.W.Frag) : Sp := fun vs H Q _ => ∃ (a : Addr) (n : Nat) (f : Nat → Nat → Nat), vs = [.ref a, .int n] ∧ Grid K H a n f ∧ Lt n f ∧ n ≤ 16 ∧ ∀ H', Same H H' → Q (.bl true) H'
def spForm (K : PySem.W.Frag) : Sp := fun vs H Q _ => ∃ (a b : Addr) (n : Nat) (f g : Nat → Nat → Nat), vs = [.ref a, .ref b] ∧ Grid K H a n f ∧ Lt n f ∧ Grid K H b n g ∧ Lt n g ∧ 2 ≤ n ∧ n ≤ 16 ∧ ∀ H', Same H H' → Q (.bl true) H'
abbrev twoT : List V := [.ty "list", .ty "tuple"]
theorem isi_pr : Paired ClsV twoT [.type "list", .type "tuple"] := by first | exact ⟨.ty _, .ty _, trivial⟩ | exact .cons (.ty _) (.cons (.ty _) .nil)
theorem isi_kit {K : PySem.W.Frag} : PySem.W.kitAny K (.type "list") [.type "list", .type "tuple"] = some true := kitAny_cons (b := true) (kit_ty (by decide +kernel)) (fun z => by cases z) (fun _ => rfl)
theorem bls_true (n : Nat) : ((List.range n).map fun _ => true).all id = true := by
  rw [List.all_eq_true]
  intro x hx
  obtain ⟨_, _, rfl⟩ := List.mem_map.1 hx
  rfl
section
variable {P : Program} {w : World} {K : PySem.W.Frag} {mg : Str → Option Value} {base : Heap}
theorem ok_is_int (F : Fn K mg "is_int" s_is_int ["value"]) (B : Blt mg) : Has P w K mg base 1 "is_int" ["value"] spIsInt := by
  refine F.has sc_is_int (fun vs H Q E h => ?_) (fun f cdv A outer s H vs Q E hr h => ?_)
  · obtain ⟨a, t, rfl, _⟩ := h
    rfl
  obtain ⟨x, t, rfl, ht, q⟩ := h
  refine ⟨_, (pss_one (ps_ret (pe_and (pe_callB call_isi (by rfl) B.isinstance bb_isinstance (pa_cons (pv 0) (pa_cons (pe_bltn (v := .ty "int") (by rfl) B.int bb_int rfl) pa_nil))) (pe_one (pe_not (pe_callB call_isi (by rfl) B.isinstance bb_isinstance (pa_cons (pv 0) (pa_cons (pe_bltn (v := .ty "bool") (by rfl) B.bool bb_bool rfl) pa_nil)))))))), ?_⟩
  have ty := ht.tyx (K := K)
  cases ht with
  | non =>
    refine ⟨_, rfl, _, .ty "int", _, .type "int", false, rfl, .ty _, ty, kit_ty (by decide +kernel), _, rfl, iteF ?_⟩
    exact q
  | bl x =>
    refine ⟨_, rfl, _, .ty "int", _, .type "int", true, rfl, .ty _, ty, kit_ty (by decide +kernel), _, rfl, iteT ?_⟩
    refine ⟨_, rfl, _, .ty "bool", _, .type "bool", true, rfl, .ty _, ty, kit_ty (by decide +kernel), _, rfl, ?_⟩
    exact q
  | int i =>
    refine ⟨_, rfl, _, .ty "int", _, .type "int", true, rfl, .ty _, ty, kit_ty (by decide +kernel), _, rfl, iteT ?_⟩
    refine ⟨_, rfl, _, .ty "bool", _, .type "bool", false, rfl, .ty _, ty, kit_ty (by decide +kernel), _, rfl, ?_⟩
    exact q
  | str z =>
    refine ⟨_, rfl, _, .ty "int", _, .type "int", false, rfl, .ty _, ty, kit_ty (by decide +kernel), _, rfl, iteF ?_⟩
    exact q
  | lst h =>
    refine ⟨_, rfl, _, .ty "int", _, .type "int", false, rfl, .ty _, ty, kit_ty (by decide +kernel), _, rfl, iteF ?_⟩
    exact q
  | tup h =>
    refine ⟨_, rfl, _, .ty "int", _, .type "int", false, rfl, .ty _, ty, kit_ty (by decide +kernel), _, rfl, iteF ?_⟩
    exact q
theorem ok_is_between (F : Fn K mg "is_between" s_is_between ["value", "least", "most"]) (G_is_int : Has P w K mg base 1 "is_int" ["value"] spIsInt) : Has P w K mg base 2 "is_between" ["value", "least", "most"] spBetween := by
  refine F.has sc_is_between (fun vs H Q E h => ?_) (fun f cdv A outer s H vs Q E hr h => ?_)
  · obtain ⟨a, t, lo, hi, rfl, _⟩ := h
    rfl
  obtain ⟨x, t, lo, hi, rfl, ht, q⟩ := h
  refine ⟨_, (pss_one (ps_ret (pe_and (pe_own G_is_int (hr.mono (by decide)) (by rfl) (pa_cons (pv 0) pa_nil)) (pe_one (pe_chain op_le op_le (pv 1) (pv 0) (pv 2)))))), ?_⟩
  refine ⟨_, rfl, x, t, rfl, ht, ?_⟩
  cases ht with
  | int i =>
    refine ⟨_, rfl, iteT ⟨_, rfl, _, rfl, _, _, rfl, rfl, _, rfl, ?_⟩⟩
    have q' : Q (.bl (decide (lo ≤ i) && decide (i ≤ hi))) H := q
    by_cases h1 : lo ≤ i
    · refine ite_of (decide_eq_true h1) ⟨_, rfl, _, _, rfl, rfl, ?_⟩
      rw [decide_eq_true h1] at q'
      exact q'
    · refine ite_no (by simp [h1]) ?_
      rw [decide_eq_false h1] at q'
      exact q'
  | _ => exact ⟨_, rfl, iteF q⟩
theorem ok_is_row (F : Fn K mg "is_row" s_is_row ["value", "size"]) (B : Blt mg) (G_is_between : Has P w K mg base 2 "is_between" ["value", "least", "most"] spBetween) : Has P w K mg base 3 "is_row" ["value", "size"] spRow := by
  refine F.has sc_is_row (fun vs H Q E h => ?_) (fun f cdv A outer s H vs Q E hr h => ?_)
  · obtain ⟨a, n, g, rfl, _⟩ := h
    rfl
  obtain ⟨a, n, g, rfl, ⟨ha, hg⟩, hn, q⟩ := h
  refine ⟨_, (pss_cons (ps_if (PW.pt (pw_or (pt_not (pt_val (pe_callB call_isiT (by rfl) B.isinstance bb_isinstance (pa_cons (pv 0) (pa_cons (pe_tup (pa_cons (pe_bltn (v := .ty "list") (by rfl) B.list bb_list rfl) (pa_cons (pe_bltn (v := .ty "tuple") (by rfl) B.tuple bb_tuple rfl) pa_nil))) pa_nil))))) (pw_or1 (pt_cmpR op_ne (pe_callB call_len (by rfl) B.len bb_len (pa_cons (pv 0) pa_nil)) (pv 1) (nomark _)))))
        (pss_one (ps_ret pe_bl))
        pss_nil)
      (pss_one (ps_ret (pe_callB (cr_all rfl) (by rfl) B.all bb_all (pa_cons (pe_lc (own := [("entry", 2)]) (g := gName 2) (tt := tYes) (by rfl) sc_is_row.nd (pi_list (pv 0)) (blkOk_by (own := [("entry", 2)]) (N := N_is_row) (sc := defScope s_is_row) (by decide +kernel)) (fun _ _ _ _ _ => (pg_name (i := 2) sc_is_row.nd rfl (Or.inl rfl))) (fun _ _ _ _ _ => pts_nil) (fun _ _ _ _ _ => (pe_own G_is_between (hr.mono (by decide)) (by rfl) (pa_cons (pv 2) (pa_cons pe_int (pa_cons (pe_op op_sub (pv 1) pe_int) pa_nil)))))) pa_nil))))), ?_⟩
  refine ⟨_, rfl, by show 2 ≤ sizeLine; decide, fun t ht => ?_⟩
  have s1 : Same H (upd H t (.tup [.ty "list", .ty "tuple"])) := same_upd ht
  refine ⟨.ref a, t, twoT, .type "list", _, true, rfl, upd_same, isi_pr, (Typ.lst (s1 _ _ ha)).tyx, isi_kit, _, rfl, iteF ?_⟩
  refine ⟨_, rfl, .ref a, n, rfl, .inl ⟨_, SqL.of (s1 _ _ ha), by simp⟩, _, rfl, rfl, _, rfl, ite_no (by simp) ?_⟩
  refine ⟨_, rfl, a, rfl, ⟨_, SqL.of (s1 _ _ ha)⟩, fun D hD => ?_⟩
  have s2 : ∀ acc, Same H (upd (upd H t (.tup [.ty "list", .ty "tuple"])) D (.lst acc)) := fun acc => s1.trans (same_upd hD)
  refine lc_list (K := K) (a := a) (xs := (List.range n).map fun y => V.int ((g y : Nat) : Int)) (fun i H' => H' = upd (upd H t (.tup [.ty "list", .ty "tuple"])) D (.lst (((List.range i).map fun _ => true).map V.bl))) rfl (fun i H' _ e => e ▸ SqL.of (s2 _ _ _ ha)) (fun i x H' hi e => ?_) (fun H' e => ?_)
  · subst e
    have hin : i < n := by
      have := (List.getElem?_eq_some_iff.mp hi).1
      simpa using this
    rw [List.getElem?_map, List.getElem?_range hin] at hi
    cases hi
    have hgi := hg i hin
    refine ⟨rfl, tYes_ok ?_⟩
    refine ⟨_, rfl, _, rfl, _, _, rfl, rfl, _, "int", 0, (n : Int) - 1, rfl, .int _, ?_⟩
    refine ⟨_, upd_same, ?_, ?_⟩
    · rw [List.length_map, List.length_map, List.length_range]
      exact LcN.small100 (by omega)
    · rw [upd_upd, LcN.map_succ, List.map_append]
      have e : (match V.int ((g i : Nat) : Int) with | .int i => decide ((0 : Int) ≤ i) && decide (i ≤ (n : Int) - 1) | _ => false) = true := by
        show (decide ((0 : Int) ≤ (g i : Int)) && decide ((g i : Int) ≤ (n : Int) - 1)) = true
        rw [decide_eq_true (by omega), decide_eq_true (by omega)]
        rfl
      rw [e]
      rfl
  · subst e
    refine ⟨D, _, rfl, SqL.of upd_same, ?_⟩
    rw [List.length_map, List.length_range, bls_true]
    exact q _ (s2 _)
end
end My
namespace My
open PySem PySem.Spec PyProof.Rows L2
structure TxT (mg : Str → Option Value) : Prop where
  m_LEAST_THINGS : ∃ u, mg "LEAST_THINGS" = some (.int 2 u)
  m_MOST_TABLE : ∃ u, mg "MOST_TABLE" = some (.int 16 u)
theorem Grid.row {K : PySem.W.Frag} {H : Hp} {a : Addr} {n : Nat} {f : Nat → Nat → Nat} (G : Grid K H a n f) (l : Lt n f) : ∃ r : Nat → Addr, H a = some (.lst ((List.range n).map fun x => V.ref (r x))) ∧ ∀ x, x < n → RowAt H (r x) n (f x) := by
  obtain ⟨r, h1, h2⟩ := G.at_
  exact ⟨r, h1, fun x hx => ⟨h2 x hx, fun y hy => l x y hx hy⟩⟩
section
variable {P : Program} {w : World} {K : PySem.W.Frag} {mg : Str → Option Value} {base : Heap}
theorem ok_is_table (F : Fn K mg "is_table" s_is_table ["value", "size"]) (B : Blt mg) (G_is_row : Has P w K mg base 3 "is_row" ["value", "size"] spRow) : Has P w K mg base 4 "is_table" ["value", "size"] (spTable K) := by
  refine F.has sc_is_table (fun vs H Q E h => ?_) (fun f cdv A outer s H vs Q E hr h => ?_)
  · obtain ⟨a, n, g, rfl, _⟩ := h
    rfl
  obtain ⟨a, n, g, rfl, G, l, hn, q⟩ := h
  obtain ⟨r, ha, hg⟩ := G.row l
  refine ⟨_, (pss_cons (ps_if (PW.pt (pw_or (pt_not (pt_val (pe_callB call_isiT (by rfl) B.isinstance bb_isinstance (pa_cons (pv 0) (pa_cons (pe_tup (pa_cons (pe_bltn (v := .ty "list") (by rfl) B.list bb_list rfl) (pa_cons (pe_bltn (v := .ty "tuple") (by rfl) B.tuple bb_tuple rfl) pa_nil))) pa_nil))))) (pw_or1 (pt_cmpR op_ne (pe_callB call_len (by rfl) B.len bb_len (pa_cons (pv 0) pa_nil)) (pv 1) (nomark _)))))
        (pss_one (ps_ret pe_bl))
        pss_nil)
      (pss_one (ps_ret (pe_callB (cr_all rfl) (by rfl) B.all bb_all (pa_cons (pe_lc (own := [("row", 2)]) (g := gName 2) (tt := tYes) (by rfl) sc_is_table.nd (pi_list (pv 0)) (blkOk_by (own := [("row", 2)]) (N := N_is_table) (sc := defScope s_is_table) (by decide +kernel)) (fun _ _ _ _ _ => (pg_name (i := 2) sc_is_table.nd rfl (Or.inl rfl))) (fun _ _ _ _ _ => pts_nil) (fun _ _ _ _ _ => (pe_own G_is_row (hr.mono (by decide)) (by rfl) (pa_cons (pv 2) (pa_cons (pv 1) pa_nil))))) pa_nil))))), ?_⟩
  refine ⟨_, rfl, by show 2 ≤ sizeLine; decide, fun t ht => ?_⟩
  have s1 : Same H (upd H t (.tup [.ty "list", .ty "tuple"])) := same_upd ht
  refine ⟨.ref a, t, twoT, .type "list", _, true, rfl, upd_same, isi_pr, (Typ.lst (s1 _ _ ha)).tyx, isi_kit, _, rfl, iteF ?_⟩
  refine ⟨_, rfl, .ref a, n, rfl, .inl ⟨_, SqL.of (s1 _ _ ha), by simp⟩, _, rfl, rfl, _, rfl, ite_no (by simp) ?_⟩
  refine ⟨_, rfl, a, rfl, ⟨_, SqL.of (s1 _ _ ha)⟩, fun D hD => ?_⟩
  refine lc_list (K := K) (a := a) (xs := (List.range n).map fun x => V.ref (r x)) (fun i H' => Same H H' ∧ H' D = some (.lst (((List.range i).map fun _ => true).map V.bl))) ⟨s1.trans (same_upd hD), upd_same⟩ (fun i H' _ e => SqL.of (e.1 _ _ ha)) (fun i x H' hi e => ?_) (fun H' e => ?_)
  · obtain ⟨s2, eD⟩ := e
    have hin : i < n := by
      have := (List.getElem?_eq_some_iff.mp hi).1
      simpa using this
    rw [List.getElem?_map, List.getElem?_range hin] at hi
    cases hi
    have hgi := hg i hin
    have DH : H D = Option.none := s1.free hD
    refine ⟨rfl, tYes_ok ?_⟩
    refine ⟨_, rfl, _, rfl, r i, n, g i, rfl, ⟨s2 _ _ hgi.1, hgi.2⟩, hn, fun H2 s3 => ?_⟩
    refine ⟨_, s3 _ _ eD, ?_, ?_, ?_⟩
    · rw [List.length_map, List.length_map, List.length_range]
      exact LcN.small100 (by omega)
    · intro b o e
      rw [upd_ne (ne_of_none e DH)]
      exact s3 _ _ (s2 _ _ e)
    · rw [upd_same, LcN.map_succ, List.map_append]
      rfl
  · obtain ⟨s2, eD⟩ := e
    refine ⟨D, _, rfl, SqL.of eD, ?_⟩
    rw [List.length_map, List.length_range, bls_true]
    exact q _ s2
theorem ok_has_form (F : Fn K mg "has_form" s_has_form ["plus", "times"]) (B : Blt mg) (T : TxT mg) (G_is_table : Has P w K mg base 4 "is_table" ["value", "size"] (spTable K)) : Has P w K mg base 5 "has_form" ["plus", "times"] (spForm K) := by
  refine F.has sc_has_form (fun vs H Q E h => ?_) (fun f cdv A outer s H vs Q E hr h => ?_)
  · obtain ⟨a, b, n, f, g, rfl, _⟩ := h
    rfl
  obtain ⟨a, b, n, f, g, rfl, Ga, la, Gb, lb, h2, hn, q⟩ := h
  obtain ⟨r, ha, hg⟩ := Ga.row la
  refine ⟨_, (pss_cons (ps_if (PW.pt (pw_or (pt_not (pt_val (pe_callB call_isiT (by rfl) B.isinstance bb_isinstance (pa_cons (pv 0) (pa_cons (pe_tup (pa_cons (pe_bltn (v := .ty "list") (by rfl) B.list bb_list rfl) (pa_cons (pe_bltn (v := .ty "tuple") (by rfl) B.tuple bb_tuple rfl) pa_nil))) pa_nil))))) (pw_or1 (pt_not (pt_chain op_le op_le (pe_gint T.m_LEAST_THINGS (by rfl)) (pe_callB call_len (by rfl) B.len bb_len (pa_cons (pv 0) pa_nil)) (pe_gint T.m_MOST_TABLE (by rfl)))))))
        (pss_one (ps_ret pe_bl))
        pss_nil)
      (pss_one (ps_ret (pe_and (pe_own G_is_table (hr.mono (by decide)) (by rfl) (pa_cons (pv 0) (pa_cons (pe_callB call_len (by rfl) B.len bb_len (pa_cons (pv 0) pa_nil)) pa_nil))) (pe_one (pe_own G_is_table (hr.mono (by decide)) (by rfl) (pa_cons (pv 1) (pa_cons (pe_callB call_len (by rfl) B.len bb_len (pa_cons (pv 0) pa_nil)) pa_nil)))))))), ?_⟩
  refine ⟨_, rfl, by show 2 ≤ sizeLine; decide, fun t ht => ?_⟩
  have s1 : Same H (upd H t (.tup [.ty "list", .ty "tuple"])) := same_upd ht
  refine ⟨.ref a, t, twoT, .type "list", _, true, rfl, upd_same, isi_pr, (Typ.lst (s1 _ _ ha)).tyx, isi_kit, _, rfl, iteF ?_⟩
  refine ⟨_, rfl, .ref a, n, rfl, .inl ⟨_, SqL.of (s1 _ _ ha), by simp⟩, _, _, rfl, rfl, _, rfl, ite_of (decide_eq_true (by omega)) ⟨_, _, rfl, rfl, _, rfl, ?_⟩⟩
  refine ite_no (by rw [decide_eq_true (by omega)]; decide) ?_
  refine ⟨_, rfl, _, rfl, .ref a, n, rfl, .inl ⟨_, SqL.of (s1 _ _ ha), by simp⟩, a, n, f, rfl, Ga.same s1, la, hn, fun H2 s2 => ⟨_, rfl, iteT ?_⟩⟩
  have s3 : Same H H2 := s1.trans s2
  exact ⟨_, rfl, _, rfl, .ref a, n, rfl, .inl ⟨_, SqL.of (s3 _ _ ha), by simp⟩, b, n, g, rfl, Gb.same s3, lb, hn, fun H4 s4 => q H4 (s3.trans s4)⟩
end
end My
namespace My
open PySem PySem.Spec PyProof.Rows L2
abbrev ntrB (n : Nat) (f : Nat → Nat → Nat) (e : Nat) : Bool := ((List.range n).map fun x => (f e x == x && f x e == x)).all id
def neutralM (n : Nat) (f : Nat → Nat → Nat) : Option Nat := (List.range n).find? (ntrB n f)
def optV : Option Nat → V
  | some e => .int ((e : Nat) : Int)
  | none => .non
abbrev spreadL (n : Nat) (p t : Nat → Nat → Nat) : Bool := (LcN.flat3 n fun x y z => t x (p y z) == p (t x y) (t x z)).all id
abbrev spreadR (n : Nat) (p t : Nat → Nat → Nat) : Bool := (LcN.flat3 n fun x y z => t (p x y) z == p (t x z) (t y z)).all id
def spNeutral (K : PySem.W.Frag) : Sp := fun vs H Q _ => ∃ (a : Addr) (n : Nat) (f : Nat → Nat → Nat), vs = [.ref a] ∧ Grid K H a n f ∧ n ≤ 16 ∧ ∀ H', Same H H' → Q (optV (neutralM n f)) H'
def spSpread (K : PySem.W.Frag) : Sp := fun vs H Q _ => ∃ (a b : Addr) (n : Nat) (p t : Nat → Nat → Nat), vs = [.ref a, .ref b] ∧ Grid K H a n p ∧ Lt n p ∧ Grid K H b n t ∧ Lt n t ∧ n ≤ 16 ∧ ∀ H', Same H H' → Q (.bl (spreadL n p t && spreadR n p t)) H'
theorem asg1 {tl : TE} {i : Nat} {D : Ends} {σ : L2.St} {H : Hp} (h : tl σ H fun v H1 => D.nx (σ.set i (some v)) H1) : tAsg tl (gName i) D σ H := h
theorem find_none {n : Nat} {p : Nat → Bool} (h : ∀ e, e < n → p e = false) : (List.range n).find? p = none := by
  rw [List.find?_eq_none]
  intro x hx
  rw [h x (List.mem_range.1 hx)]
  exact Bool.noConfusion
theorem find_first {p : Nat → Bool} : ∀ {n : Nat} {i : Nat}, i < n → (∀ e, e < i → p e = false) → p i = true → (List.range n).find? p = some i := by
  intro n i hi h0 h1
  rw [List.find?_range_eq_some]
  exact ⟨h1, List.mem_range.2 hi, fun j hj => by rw [h0 j hj]; rfl⟩
section
variable {P : Program} {w : World} {K : PySem.W.Frag} {mg : Str → Option Value} {base : Heap}
theorem ok_neutral (F : Fn K mg "neutral" s_neutral ["rows"]) (B : Blt mg) : Has P w K mg base 1 "neutral" ["rows"] (spNeutral K) := by
  refine F.has sc_neutral (fun vs H Q E h => ?_) (fun f cdv A outer s H vs Q E hr h => ?_)
  · obtain ⟨a, n, f, rfl, _⟩ := h
    rfl
  obtain ⟨a, n, f, rfl, G, hn, q⟩ := h
  refine ⟨_, (pss_cons (ps_set (i := 1) sc_neutral.nd rfl (Or.inl rfl) (pe_callTy LcN.cr_range1 (by rfl) B.range bb_range (pa_cons (pe_callB call_len (by rfl) B.len bb_len (pa_cons (pv 0) pa_nil)) pa_nil)))
      (pss_cons (ps_for PassesOwn.never rfl (LcN.pi_rng (pv 1)) (pg_name (i := 2) sc_neutral.nd rfl (Or.inr rfl))
        (pss_one (ps_if (pt_val (pe_callB (cr_all rfl) (by rfl) B.all bb_all (pa_cons (pe_lc (own := [("x", 3)]) (g := gName 3) (tt := tYes) (by rfl) sc_neutral.nd (LcN.pi_rng (pv 1)) (blkOk_by (own := [("x", 3)]) (N := N_neutral) (sc := defScope s_neutral) (by decide +kernel)) (fun _ _ _ _ _ => (pg_name (i := 3) sc_neutral.nd rfl (Or.inl rfl))) (fun _ _ _ _ _ => pts_nil) (fun _ _ _ _ _ => (pe_and (pe_cmpR op_eq (pe_ix (LcN.ix_listK K rfl) (pe_ix (LcN.ix_listK K rfl) (pv 0) (pv 2) (fun _ _ => rfl)) (pv 3) (fun _ _ => rfl)) (pv 3) (nomark _)) (pe_one (pe_cmpR op_eq (pe_ix (LcN.ix_listK K rfl) (pe_ix (LcN.ix_listK K rfl) (pv 0) (pv 3) (fun _ _ => rfl)) (pv 2) (fun _ _ => rfl)) (pv 3) (nomark _)))))) pa_nil)))
        (pss_one (ps_ret (pv 2)))
        pss_nil)))
      (pss_one (ps_ret pe_non)))), ?_⟩
  obtain ⟨r, g1, g2⟩ := G.rows
  refine ⟨_, rfl, .ref a, n, rfl, .inl ⟨_, g1, by simp⟩, _, rfl, fun p hp => ?_⟩
  have s1 : Same H (upd H p (.rng 0 n)) := same_upd hp
  refine ⟨_, rfl, p, (n : Int), rfl, upd_same, by omega, by omega, for_range (n := n) (fun i σ H' => ∃ y z, σ = [some (.ref a), some (.ref p), y, z] ∧ Same (upd H p (.rng 0 n)) H' ∧ ∀ e, e < i → ntrB n f e = false) ⟨_, _, rfl, Same.refl _, fun e he => absurd he (by omega)⟩ ?_ ?_⟩
  · rintro i σ H' hi ⟨y, z, rfl, s2, no⟩
    rw [Int.zero_add]
    have sH : Same H H' := s1.trans s2
    have hpr : H' p = some (.rng 0 n) := s2 _ _ upd_same
    refine ⟨_, rfl, p, (n : Int), rfl, hpr, by omega, by omega, fun D hD => ?_⟩
    refine lc_range (lo := 0) (n := n) (fun j H2 => H2 = upd H' D (.lst (((List.range j).map fun x => (f i x == x && f x i == x)).map V.bl))) rfl (fun j H2 hj e => ?_) (fun H2 e => ?_)
    · subst e
      rw [Int.zero_add]
      have s3 : ∀ acc, Same H (upd H' D (.lst acc)) := fun acc => sH.trans (same_upd hD)
      refine ⟨rfl, tYes_ok ?_⟩
      refine ⟨_, rfl, _, rfl, a, _, _, _, rfl, rfl, (s3 _).seq g1, at_range hi, _, rfl, _, _, _, _, rfl, rfl, (s3 _).seq (g2 i hi), at_range hj, ?_⟩
      refine ⟨_, rfl, rfl, _, rfl, ?_⟩
      rw [dec_nat]
      have fin : ∀ b : Bool, (f i j == j && f j i == j) = b → ∃ acc, (upd H' D (.lst (((List.range j).map fun x => (f i x == x && f x i == x)).map V.bl))) D = some (.lst acc) ∧ acc.length < sizeLine ∧ upd (upd H' D (.lst (((List.range j).map fun x => (f i x == x && f x i == x)).map V.bl))) D (.lst (acc ++ [V.bl b])) = upd H' D (.lst (((List.range (j + 1)).map fun x => (f i x == x && f x i == x)).map V.bl)) := fun b hb => by
        refine ⟨_, upd_same, ?_, ?_⟩
        · rw [List.length_map, List.length_map, List.length_range]
          exact LcN.small100 (by omega)
        · rw [upd_upd, LcN.map_succ, List.map_append, hb]
          rfl
      by_cases h1 : (f i j == j) = true
      · rw [h1, if_pos rfl]
        refine ⟨_, rfl, _, rfl, a, _, _, _, rfl, rfl, (s3 _).seq g1, at_range hj, _, rfl, _, _, _, _, rfl, rfl, (s3 _).seq (g2 j hj), at_range hi, ?_⟩
        refine ⟨_, rfl, rfl, ?_⟩
        rw [dec_nat]
        exact fin _ (by rw [h1]; rfl)
      · have h1 : (f i j == j) = false := by
          cases e : (f i j == j) with
          | true => exact absurd e h1
          | false => rfl
        rw [h1, if_neg Bool.noConfusion]
        exact fin _ (by rw [h1]; rfl)
    · subst e
      refine ⟨D, _, rfl, SqL.of upd_same, _, rfl, ?_⟩
      cases hb : ntrB n f i with
      | true =>
        refine ite_of hb ?_
        refine ⟨_, rfl, ?_⟩
        have z := q _ (sH.trans (same_upd (o := .lst (((List.range n).map fun x => (f i x == x && f x i == x)).map V.bl)) hD))
        unfold neutralM at z
        rw [find_first hi no hb] at z
        exact z
      | false =>
        refine ite_no (fun z => Bool.noConfusion (hb.symm.trans z)) ?_
        refine ⟨_, _, rfl, s2.trans (same_upd hD), fun e he => ?_⟩
        rcases Nat.lt_succ_iff_lt_or_eq.1 he with h | h
        · exact no e h
        · rw [h]
          exact hb
  · rintro σ H' ⟨y, z, rfl, s2, no⟩
    have z := q _ (s1.trans s2)
    unfold neutralM at z
    rw [find_none no] at z
    exact z
theorem ok_spreads (F : Fn K mg "spreads" s_spreads ["plus", "times"]) (B : Blt mg) : Has P w K mg base 1 "spreads" ["plus", "times"] (spSpread K) := by
  refine F.has sc_spreads (fun vs H Q E h => ?_) (fun f cdv A outer s H vs Q E hr h => ?_)
  · obtain ⟨a, b, n, f, g, rfl, _⟩ := h
    rfl
  obtain ⟨a, b, n, pl, ti, rfl, Ga, la, Gb, lb, hn, q⟩ := h
  refine ⟨_, (pss_cons (ps_set (i := 2) sc_spreads.nd rfl (Or.inr rfl) (pe_callTy LcN.cr_range1 (by rfl) B.range bb_range (pa_cons (pe_callB call_len (by rfl) B.len bb_len (pa_cons (pv 0) pa_nil)) pa_nil)))
      (pss_cons (LcN.ps_setLcN (i := 3) (own := [("x", 4), ("y", 5), ("z", 6)]) (ws := [5, 6]) (g := gName 4) (tt := tYes) rfl sc_spreads.nd rfl rfl (sw_true rfl rfl rfl (by decide +kernel)) (LcN.pi_rng (pv 2)) (blkOk_by (own := [("x", 4), ("y", 5), ("z", 6)]) (N := N_spreads) (sc := defScope s_spreads) (by decide +kernel)) (by decide) (.inr ⟨_, _, _, rfl⟩) (fun _ _ _ _ _ => (pg_name (i := 4) sc_spreads.nd rfl (Or.inl rfl))) (fun _ _ _ _ _ => pts_nil) (fun _ _ _ _ _ => (LcN.inner_more (g := gName 5) (tt := tYes) (vs := [5, 6]) rfl rfl rfl (.inr ⟨_, _, _, rfl⟩) (LcN.pi_rng (pv 2)) (pg_name (i := 5) sc_spreads.nd rfl (Or.inl rfl)) pts_nil
          (LcN.inner_more (g := gName 6) (tt := tYes) (vs := [6]) rfl rfl rfl (.inl rfl) (LcN.pi_rng (pv 2)) (pg_name (i := 6) sc_spreads.nd rfl (Or.inl rfl)) pts_nil
          (LcN.inner_last rfl rfl (pe_cmpR op_eq (pe_ix (LcN.ix_listK K rfl) (pe_ix (LcN.ix_listK K rfl) (pv 1) (pv 4) (fun _ _ => rfl)) (pe_ix (LcN.ix_listK K rfl) (pe_ix (LcN.ix_listK K rfl) (pv 0) (pv 5) (fun _ _ => rfl)) (pv 6) (fun _ _ => rfl)) (fun _ _ => rfl)) (pe_ix (LcN.ix_listK K rfl) (pe_ix (LcN.ix_listK K rfl) (pv 0) (pe_ix (LcN.ix_listK K rfl) (pe_ix (LcN.ix_listK K rfl) (pv 1) (pv 4) (fun _ _ => rfl)) (pv 5) (fun _ _ => rfl)) (fun _ _ => rfl)) (pe_ix (LcN.ix_listK K rfl) (pe_ix (LcN.ix_listK K rfl) (pv 1) (pv 4) (fun _ _ => rfl)) (pv 6) (fun _ _ => rfl)) (fun _ _ => rfl)) (nomark _))) (by decide) (fun _ => rfl)) (by decide) (fun _ => rfl))))
      (pss_cons (LcN.ps_setLcN (i := 7) (own := [("x", 4), ("y", 5), ("z", 6)]) (ws := [5, 6]) (g := gName 4) (tt := tYes) rfl sc_spreads.nd rfl rfl (sw_true rfl rfl rfl (by decide +kernel)) (LcN.pi_rng (pv 2)) (blkOk_by (own := [("x", 4), ("y", 5), ("z", 6)]) (N := N_spreads) (sc := defScope s_spreads) (by decide +kernel)) (by decide) (.inr ⟨_, _, _, rfl⟩) (fun _ _ _ _ _ => (pg_name (i := 4) sc_spreads.nd rfl (Or.inl rfl))) (fun _ _ _ _ _ => pts_nil) (fun _ _ _ _ _ => (LcN.inner_more (g := gName 5) (tt := tYes) (vs := [5, 6]) rfl rfl rfl (.inr ⟨_, _, _, rfl⟩) (LcN.pi_rng (pv 2)) (pg_name (i := 5) sc_spreads.nd rfl (Or.inl rfl)) pts_nil
          (LcN.inner_more (g := gName 6) (tt := tYes) (vs := [6]) rfl rfl rfl (.inl rfl) (LcN.pi_rng (pv 2)) (pg_name (i := 6) sc_spreads.nd rfl (Or.inl rfl)) pts_nil
          (LcN.inner_last rfl rfl (pe_cmpR op_eq (pe_ix (LcN.ix_listK K rfl) (pe_ix (LcN.ix_listK K rfl) (pv 1) (pe_ix (LcN.ix_listK K rfl) (pe_ix (LcN.ix_listK K rfl) (pv 0) (pv 4) (fun _ _ => rfl)) (pv 5) (fun _ _ => rfl)) (fun _ _ => rfl)) (pv 6) (fun _ _ => rfl)) (pe_ix (LcN.ix_listK K rfl) (pe_ix (LcN.ix_listK K rfl) (pv 0) (pe_ix (LcN.ix_listK K rfl) (pe_ix (LcN.ix_listK K rfl) (pv 1) (pv 4) (fun _ _ => rfl)) (pv 6) (fun _ _ => rfl)) (fun _ _ => rfl)) (pe_ix (LcN.ix_listK K rfl) (pe_ix (LcN.ix_listK K rfl) (pv 1) (pv 5) (fun _ _ => rfl)) (pv 6) (fun _ _ => rfl)) (fun _ _ => rfl)) (nomark _))) (by decide) (fun _ => rfl)) (by decide) (fun _ => rfl))))
      (pss_one (ps_ret (pe_and (pe_callB (cr_all rfl) (by rfl) B.all bb_all (pa_cons (pv 3) pa_nil)) (pe_one (pe_callB (cr_all rfl) (by rfl) B.all bb_all (pa_cons (pv 7) pa_nil))))))))), ?_⟩
  obtain ⟨r, g1, g2⟩ := Ga.rows
  obtain ⟨t, t1, t2⟩ := Gb.rows
  refine ⟨_, rfl, .ref a, n, rfl, .inl ⟨_, g1, by simp⟩, _, rfl, fun p hp => ?_⟩
  have s1 : Same H (upd H p (.rng 0 n)) := same_upd hp
  dsimp only [gName]
  refine asg1 (LcN.rd3 (n := n) (p := p) (fun x y z => V.bl (ti x (pl y z) == pl (ti x y) (ti x z))) (by decide) (by decide) (by decide) rfl (fun _ => rfl) (fun _ _ => rfl) upd_same (by omega) (fun D hD x y z hx hy hz acc Q' q' => ?_) (fun D hD => ?_))
  · have s2 : Same H (upd (upd H p (.rng 0 n)) D (.lst acc)) := s1.trans (same_upd hD)
    refine ⟨_, rfl, _, rfl, b, _, _, _, rfl, rfl, s2.seq t1, at_range hx, _, rfl, _, rfl, a, _, _, _, rfl, rfl, s2.seq g1, at_range hy, _, rfl, _, _, _, _, rfl, rfl, s2.seq (g2 y hy), at_range hz, ?_⟩
    refine ⟨_, _, _, _, rfl, rfl, s2.seq (t2 x hx), at_range (la y z hy hz), ?_⟩
    refine ⟨_, rfl, _, rfl, _, rfl, b, _, _, _, rfl, rfl, s2.seq t1, at_range hx, _, rfl, _, _, _, _, rfl, rfl, s2.seq (t2 x hx), at_range hy, ?_⟩
    refine ⟨a, _, _, _, rfl, rfl, s2.seq g1, at_range (lb x y hx hy), ?_⟩
    refine ⟨_, rfl, _, rfl, b, _, _, _, rfl, rfl, s2.seq t1, at_range hx, _, rfl, _, _, _, _, rfl, rfl, s2.seq (t2 x hx), at_range hz, ?_⟩
    refine ⟨_, _, _, _, rfl, rfl, s2.seq (g2 _ (lb x y hx hy)), at_range (lb x z hx hz), ?_⟩
    refine ⟨rfl, ?_⟩
    rw [dec_nat]
    exact q'
  · have s2 : Same (upd H p (.rng 0 n)) (upd (upd H p (.rng 0 n)) D (.lst (LcN.flat3 n fun x y z => V.bl (ti x (pl y z) == pl (ti x y) (ti x z))))) := same_upd hD
    have eL : (upd (upd H p (.rng 0 n)) D (.lst (LcN.flat3 n fun x y z => V.bl (ti x (pl y z) == pl (ti x y) (ti x z))))) D = some (.lst ((LcN.flat3 n fun x y z => ti x (pl y z) == pl (ti x y) (ti x z)).map V.bl)) := by
      rw [map_flat3]
      exact upd_same
    have hpr := s2 _ _ (upd_same (H := H) (a := p) (o := .rng 0 n))
    generalize upd (upd H p (.rng 0 n)) D (.lst (LcN.flat3 n fun x y z => V.bl (ti x (pl y z) == pl (ti x y) (ti x z)))) = H2 at s2 eL hpr ⊢
    have s3 : Same H H2 := s1.trans s2
    dsimp only
    refine asg1 (LcN.rd3 (n := n) (p := p) (fun x y z => V.bl (ti (pl x y) z == pl (ti x z) (ti y z))) (by decide) (by decide) (by decide) rfl (fun _ => rfl) (fun _ _ => rfl) hpr (by omega) (fun D2 hD2 x y z hx hy hz acc Q' q' => ?_) (fun D2 hD2 => ?_))
    · have s4 : Same H (upd H2 D2 (.lst acc)) := s3.trans (same_upd hD2)
      refine ⟨_, rfl, _, rfl, _, rfl, a, _, _, _, rfl, rfl, s4.seq g1, at_range hx, _, rfl, _, _, _, _, rfl, rfl, s4.seq (g2 x hx), at_range hy, ?_⟩
      refine ⟨b, _, _, _, rfl, rfl, s4.seq t1, at_range (la x y hx hy), _, rfl, _, _, _, _, rfl, rfl, s4.seq (t2 _ (la x y hx hy)), at_range hz, ?_⟩
      refine ⟨_, rfl, _, rfl, _, rfl, b, _, _, _, rfl, rfl, s4.seq t1, at_range hx, _, rfl, _, _, _, _, rfl, rfl, s4.seq (t2 x hx), at_range hz, ?_⟩
      refine ⟨a, _, _, _, rfl, rfl, s4.seq g1, at_range (lb x z hx hz), ?_⟩
      refine ⟨_, rfl, _, rfl, b, _, _, _, rfl, rfl, s4.seq t1, at_range hy, _, rfl, _, _, _, _, rfl, rfl, s4.seq (t2 y hy), at_range hz, ?_⟩
      refine ⟨_, _, _, _, rfl, rfl, s4.seq (g2 _ (lb x z hx hz)), at_range (lb y z hy hz), ?_⟩
      refine ⟨rfl, ?_⟩
      rw [dec_nat]
      exact q'
    · have s4 := same_upd (o := .lst (LcN.flat3 n fun x y z => V.bl (ti (pl x y) z == pl (ti x z) (ti y z)))) hD2
      refine ⟨_, rfl, D, _, rfl, SqL.of (s4 _ _ eL), _, rfl, ?_⟩
      have z := q _ (s3.trans s4)
      cases hb : spreadL n pl ti with
      | false =>
        refine ite_no (fun z => Bool.noConfusion (hb.symm.trans z)) ?_
        rw [hb] at z
        exact z
      | true =>
        refine ite_of hb ?_
        refine ⟨_, rfl, D2, _, rfl, SqL.of (show upd _ D2 _ D2 = _ from by rw [← map_flat3 V.bl n fun x y z => ti (pl x y) z == pl (ti x z) (ti y z)]; exact upd_same), ?_⟩
        rw [hb] at z
        exact z
end
end My
namespace My
open PySem PySem.Spec PyProof.Rows L2
abbrev hasRow (n : Nat) (f : Nat → Nat → Nat) (z x : Nat) : Bool := inV (.int ((z : Nat) : Int)) ((List.range n).map fun y => V.int ((f x y : Nat) : Int))
def isSumM (n : Nat) (f : Nat → Nat → Nat) : Bool := match neutralM n f with
  | none => false
  | some z => commB n f && (assocB n f && ((List.range n).map fun x => hasRow n f z x).all id)
def spSum (K : PySem.W.Frag) : Sp := fun vs H Q _ => ∃ (a : Addr) (n : Nat) (f : Nat → Nat → Nat), vs = [.ref a] ∧ Grid K H a n f ∧ Lt n f ∧ n ≤ 16 ∧ ∀ H', Same H H' → Q (.bl (isSumM n f)) H'
theorem flat_ints (n : Nat) (g : Nat → Nat) : ((List.range n).map fun y => V.int ((g y : Nat) : Int)).all flatV = true := by
  rw [List.all_eq_true]
  intro x hx
  obtain ⟨_, _, rfl⟩ := List.mem_map.1 hx
  rfl
section
variable {P : Program} {w : World} {K : PySem.W.Frag} {mg : Str → Option Value} {base : Heap}
theorem ok_is_sum (F : Fn K mg "is_sum" s_is_sum ["plus"]) (B : Blt mg) (G_neutral : Has P w K mg base 1 "neutral" ["rows"] (spNeutral K)) (G_is_commutative : Has P w K mg base 1 "is_commutative" ["rows"] (spComm K)) (G_is_associative : Has P w K mg base 1 "is_associative" ["rows"] (spAssoc K)) :
    Has P w K mg base 2 "is_sum" ["plus"] (spSum K) := by
  refine F.has sc_is_sum (fun vs H Q E h => ?_) (fun f cdv A outer s H vs Q E hr h => ?_)
  · obtain ⟨a, n, f, rfl, _⟩ := h
    rfl
  obtain ⟨a, n, f, rfl, G, l, hn, q⟩ := h
  refine ⟨_, (pss_cons (ps_set (i := 1) sc_is_sum.nd rfl (Or.inr rfl) (pe_own G_neutral (hr.mono (by decide)) (by rfl) (pa_cons (pv 0) pa_nil)))
      (pss_cons (ps_if (PW.pt (pw_or (pt_cmp (pc_isN (pv 1))) (pw_or (pt_not (pt_val (pe_own G_is_commutative (hr.mono (by decide)) (by rfl) (pa_cons (pv 0) pa_nil)))) (pw_or1 (pt_not (pt_val (pe_own G_is_associative (hr.mono (by decide)) (by rfl) (pa_cons (pv 0) pa_nil))))))))
        (pss_one (ps_ret pe_bl))
        pss_nil)
      (pss_one (ps_ret (pe_callB (cr_all rfl) (by rfl) B.all bb_all (pa_cons (pe_lc (own := [("row", 2)]) (g := gName 2) (tt := tYes) (by rfl) sc_is_sum.nd (pi_list (pv 0)) (blkOk_by (own := [("row", 2)]) (N := N_is_sum) (sc := defScope s_is_sum) (by decide +kernel)) (fun _ _ _ _ _ => (pg_name (i := 2) sc_is_sum.nd rfl (Or.inl rfl))) (fun _ _ _ _ _ => pts_nil) (fun _ _ _ _ _ => (pe_cmpR (LcN.in_seqK K rfl) (pv 1) (pv 2) rfl))) pa_nil)))))), ?_⟩
  refine ⟨_, rfl, a, n, f, rfl, G, hn, fun H1 s1 => ?_⟩
  cases hz : neutralM n f with
  | none =>
    refine ⟨_, rfl, _, rfl, ite_of rfl ?_⟩
    have z := q _ s1
    unfold isSumM at z
    rw [hz] at z
    exact z
  | some e =>
    refine ⟨_, rfl, _, rfl, ite_no (fun z => by cases z) ?_⟩
    have eq1 : isSumM n f = (commB n f && (assocB n f && ((List.range n).map fun x => hasRow n f e x).all id)) := by
      unfold isSumM
      rw [hz]
    refine ⟨_, rfl, a, n, f, rfl, G.same s1, hn, fun H2 s2 => ?_⟩
    have s12 := s1.trans s2
    cases hc : commB n f with
    | false =>
      rw [hc] at eq1
      refine ⟨_, rfl, iteT ?_⟩
      have z := q _ s12
      rw [eq1] at z
      exact z
    | true =>
      rw [hc] at eq1
      refine ⟨_, rfl, iteF ⟨_, rfl, a, n, f, rfl, G.same s12, l, hn, fun H3 s3 => ?_⟩⟩
      have s13 := s12.trans s3
      cases ha : assocB n f with
      | false =>
        rw [ha] at eq1
        refine ⟨_, rfl, iteT ?_⟩
        have z := q _ s13
        rw [eq1] at z
        exact z
      | true =>
        rw [ha] at eq1
        refine ⟨_, rfl, iteF ?_⟩
        obtain ⟨r, g1, g2⟩ := G.at_
        refine ⟨_, rfl, a, rfl, ⟨_, SqL.of (s13 _ _ g1)⟩, fun D hD => ?_⟩
        have s4 : ∀ acc, Same H (upd H3 D (.lst acc)) := fun acc => s13.trans (same_upd hD)
        refine lc_list (K := K) (a := a) (xs := (List.range n).map fun x => V.ref (r x)) (fun i H' => H' = upd H3 D (.lst (((List.range i).map fun x => hasRow n f e x).map V.bl))) rfl (fun i H' _ e => e ▸ SqL.of (s4 _ _ _ g1)) (fun i x H' hi e => ?_) (fun H' e => ?_)
        · subst e
          have hin : i < n := by
            have := (List.getElem?_eq_some_iff.mp hi).1
            simpa using this
          rw [List.getElem?_map, List.getElem?_range hin] at hi
          cases hi
          refine ⟨rfl, tYes_ok ?_⟩
          refine ⟨_, rfl, _, rfl, r i, _, rfl, .inl (SqL.of (s4 _ _ _ (g2 i hin))), rfl, flat_ints _ _, ?_⟩
          refine ⟨_, upd_same, ?_, ?_⟩
          · rw [List.length_map, List.length_map, List.length_range]
            exact LcN.small100 (by omega)
          · rw [upd_upd, LcN.map_succ, List.map_append]
            rfl
        · subst e
          refine ⟨D, _, rfl, SqL.of upd_same, ?_⟩
          have z := q _ (s4 (((List.range n).map fun x => hasRow n f e x).map V.bl))
          rw [eq1] at z
          rw [List.length_map, List.length_range]
          exact z
end
end My
namespace My
open PySem PySem.Spec PyProof.Rows L2
/-! ### a def that may raise, by its name -/
structure HasX (P : Program) (w : World) (K : PySem.W.Frag) (mg : Str → Option Value) (base : Heap) (k : Nat) (x : Str) (ps : List Str) (sp : Sp) : Prop where
  ex : ∃ (f : Addr) (fd : FuncData), FnOk P w K mg base (L2.CX P w) k f fd ps sp ∧ mg x = some (.ref f) ∧ PySem.W.keepIn K (.ref f) = true ∧ Binds K fd ps []
section
variable {X : Cx} {k : Nat} {x : Str} {ps : List Str} {sp : Sp} {p pos : Pos} {e : Expr} {es : List Expr} {t : TA}
/-- called where it raises nothing -/
theorem pe_ownX (h : HasX X.prog X.w X.K X.mg X.base k x ps sp) (hr : Room k X.A) (hg : Gl X x) (ha : PA X (e :: es) t) (hdb : (x == ("__debug__" : Str)) = false := by decide)
    (he : starEach (e :: es) X.env = (false, eval e X.env) :: starEach es X.env := by rfl) (hpl : (backTo pos (starEach es X.env)).any (·.1) = false := by rfl) : PE X (.Call (.Name x p) (e :: es) [] pos) (tCall sp [] E0 t) := by
  obtain ⟨f, fd, F, m, kp, b⟩ := h.ex
  exact pe_call F hr hg m kp b .nil passL ha hdb he hpl
/-- called where what it raises is taken by E -/
theorem pe_ownE {E : XK} (h : HasX X.prog X.w X.K X.mg X.base k x ps sp) (tk : Takes X (fun cls d _ H => E cls d H)) (hr : Room k X.A) (hg : Gl X x) (ha : PA X (e :: es) t) (hdb : (x == ("__debug__" : Str)) = false := by decide)
    (he : starEach (e :: es) X.env = (false, eval e X.env) :: starEach es X.env := by rfl) (hpl : (backTo pos (starEach es X.env)).any (·.1) = false := by rfl) : PE X (.Call (.Name x p) (e :: es) [] pos) (tCall sp [] E t) := by
  obtain ⟨f, fd, F, m, kp, b⟩ := h.ex
  exact pe_call F hr hg m kp b .nil (passes_call tk fun _ _ _ _ h => h) ha hdb he hpl
end

/-- which rule a table breaks, the first in the order of the document -/
def checkM (n : Nat) (p t : Nat → Nat → Nat) : Option Str :=
  if isSumM n p = true then
    if assocB n t = true then
      match neutralM n t with
      | none => some "one"
      | some e => if neutralM n p = some e then some "one" else if (spreadL n p t && spreadR n p t) = true then none else some "spread"
    else some "times"
  else some "plus"
def spCheck (K : PySem.W.Frag) (CE : Addr) : Sp := fun vs H Q E => ∃ (a b : Addr) (n : Nat) (p t : Nat → Nat → Nat), vs = [.ref a, .ref b] ∧ Grid K H a n p ∧ Lt n p ∧ Grid K H b n t ∧ Lt n t ∧ 2 ≤ n ∧ n ≤ 16 ∧
  (checkM n p t = none → ∀ H', Same H H' → Q .non H') ∧ ∀ z, checkM n p t = some z → ∀ H' d, Same H H' → H' d = none → E (.ref CE) (some d) (upd H' d (.xd (errD "rule" "InvalidTable" (.str z))))
section
variable {P : Program} {w : World} {K : PySem.W.Frag} {mg : Str → Option Value} {base : Heap}
theorem ok_check {CE fI cc cd : Addr} (F : Fn K mg "check_rules" s_check_rules ["plus", "times"]) (E_InvalidTable : ErrX.ErrTxt P K mg "InvalidTable" "rule" "InvalidTable" CE fI cc cd)
    (G_has_form : Has P w K mg base 5 "has_form" ["plus", "times"] (spForm K)) (G_is_sum : Has P w K mg base 2 "is_sum" ["plus"] (spSum K)) (G_is_associative : Has P w K mg base 1 "is_associative" ["rows"] (spAssoc K))
    (G_neutral : Has P w K mg base 1 "neutral" ["rows"] (spNeutral K)) (G_spreads : Has P w K mg base 1 "spreads" ["plus", "times"] (spSpread K)) : HasX P w K mg base 6 "check_rules" ["plus", "times"] (spCheck K CE) := by
  obtain ⟨f, fd, F, m, b⟩ := F.ex
  refine ⟨f, fd, F.okX sc_check_rules (fun vs H Q E h => ?_) (fun cdv A outer s H vs Q E hr h => ?_), m, F.kp, b⟩
  · obtain ⟨a, b, n, p, t, rfl, _⟩ := h
    rfl
  have TK : Takes (cxOf (L2.CX P w) P w K mg base N_check_rules "check_rules" (defScope s_check_rules) f cdv A outer s H E) (fun cls d _ H => E cls d H) := takes_of rfl rfl rfl rfl
  refine ⟨_, (pss_cons (ps_if (pt_not (pt_val (pe_own G_has_form (hr.mono (by decide)) (by rfl) (pa_cons (pv 0) (pa_cons (pv 1) pa_nil)))))
        (pss_one (ps_raise rfl TK (pmk_err E_InvalidTable hr (pa_cons pe_str pa_nil) (by rfl))))
        pss_nil)
      (pss_cons (ps_if (pt_not (pt_val (pe_own G_is_sum (hr.mono (by decide)) (by rfl) (pa_cons (pv 0) pa_nil))))
        (pss_one (ps_raise rfl TK (pmk_err E_InvalidTable hr (pa_cons pe_str pa_nil) (by rfl))))
        pss_nil)
      (pss_cons (ps_if (pt_not (pt_val (pe_own G_is_associative (hr.mono (by decide)) (by rfl) (pa_cons (pv 1) pa_nil))))
        (pss_one (ps_raise rfl TK (pmk_err E_InvalidTable hr (pa_cons pe_str pa_nil) (by rfl))))
        pss_nil)
      (pss_cons (ps_set (i := 2) sc_check_rules.nd rfl (Or.inl rfl) (pe_own G_neutral (hr.mono (by decide)) (by rfl) (pa_cons (pv 1) pa_nil)))
      (pss_cons (ps_if (PW.pt (pw_or (pt_cmp (pc_isN (pv 2))) (pw_or1 (pt_cmpR op_eq (pv 2) (pe_own G_neutral (hr.mono (by decide)) (by rfl) (pa_cons (pv 0) pa_nil)) (nomark _)))))
        (pss_one (ps_raise rfl TK (pmk_err E_InvalidTable hr (pa_cons pe_str pa_nil) (by rfl))))
        pss_nil)
      (pss_one (ps_if (pt_not (pt_val (pe_own G_spreads (hr.mono (by decide)) (by rfl) (pa_cons (pv 0) (pa_cons (pv 1) pa_nil)))))
        (pss_one (ps_raise rfl TK (pmk_err E_InvalidTable hr (pa_cons pe_str pa_nil) (by rfl))))
        pss_nil))))))), ?_⟩
  obtain ⟨a, b, n, p, t, rfl, Ga, la, Gb, lb, h2, hn, q, qe⟩ := h
  refine ⟨_, rfl, _, rfl, a, b, n, p, t, rfl, Ga, la, Gb, lb, h2, hn, fun H1 s1 => ⟨_, rfl, iteF ?_⟩⟩
  refine ⟨_, rfl, a, n, p, rfl, Ga.same s1, la, hn, fun H2 s2 => ?_⟩
  have s12 := s1.trans s2
  cases hs : isSumM n p with
  | false => exact ⟨_, rfl, iteT ⟨_, rfl, fun d hd => qe _ (by unfold checkM; rw [hs]; rfl) _ _ s12 hd⟩⟩
  | true =>
  refine ⟨_, rfl, iteF ?_⟩
  refine ⟨_, rfl, b, n, t, rfl, Gb.same s12, lb, hn, fun H3 s3 => ?_⟩
  have s13 := s12.trans s3
  cases ha : assocB n t with
  | false => exact ⟨_, rfl, iteT ⟨_, rfl, fun d hd => qe _ (by unfold checkM; rw [hs, if_pos rfl, ha]; rfl) _ _ s13 hd⟩⟩
  | true =>
  refine ⟨_, rfl, iteF ?_⟩
  refine ⟨_, rfl, b, n, t, rfl, Gb.same s13, hn, fun H4 s4 => ?_⟩
  have s14 := s13.trans s4
  cases ht : neutralM n t with
  | none => exact ⟨_, rfl, _, rfl, ite_of rfl ⟨_, rfl, fun d hd => qe _ (by unfold checkM; rw [hs, if_pos rfl, if_pos ha, ht]) _ _ s14 hd⟩⟩
  | some e =>
  refine ⟨_, rfl, _, rfl, ite_no (fun z => by cases z) ?_⟩
  refine ⟨_, rfl, _, rfl, a, n, p, rfl, Ga.same s14, hn, fun H5 s5 => ?_⟩
  have s15 := s14.trans s5
  cases hp : neutralM n p with
  | none =>
    exfalso
    unfold isSumM at hs
    rw [hp] at hs
    cases hs
  | some z =>
  refine ⟨rfl, _, rfl, ?_⟩
  by_cases hze : z = e
  · subst hze
    exact ite_of (decide_eq_true rfl) ⟨_, rfl, fun d hd => qe _ (by unfold checkM; rw [hs, if_pos rfl, if_pos ha, ht]; show (if neutralM n p = some z then _ else _) = _; rw [hp, if_pos rfl]) _ _ s15 hd⟩
  · refine ite_no (fun k => hze ?_) ?_
    · have k := of_decide_eq_true k
      injection k with k
      omega
    · have hne : ¬ neutralM n p = some e := by
        rw [hp]
        exact fun k => hze (Option.some.inj k)
      refine ⟨_, rfl, _, rfl, a, b, n, p, t, rfl, Ga.same s15, la, Gb.same s15, lb, hn, fun H6 s6 => ?_⟩
      have s16 := s15.trans s6
      cases hd : (spreadL n p t && spreadR n p t) with
      | false => exact ⟨_, rfl, iteT ⟨_, rfl, fun d hd2 => qe _ (by unfold checkM; rw [hs, if_pos rfl, if_pos ha, ht]; show (if neutralM n p = some e then _ else _) = _; rw [if_neg hne, hd]; rfl) _ _ s16 hd2⟩⟩
      | true => exact ⟨_, rfl, iteF (q (by unfold checkM; rw [hs, if_pos rfl, if_pos ha, ht]; show (if neutralM n p = some e then _ else _) = _; rw [if_neg hne, hd]; rfl) _ s16)⟩
end
end My
/-! methods of a table -/
namespace My
open PySem PySem.Spec PyProof.Rows L2
structure HasM (P : Program) (w : World) (K : PySem.W.Frag) (mg : Str → Option Value) (base : Heap) (k : Nat) (C : Addr) (m : Str) (ps : List Str) (sp : Sp) : Prop where
  ex : ∃ (f : Addr) (fd : FuncData), FnOk P w K mg base CX0 k f fd ps sp ∧ Meth K C m f ∧ Binds K fd ps []
structure FnM (K : PySem.W.Frag) (C : Addr) (m qual : Str) (st : Stmt) (ps : List Str) : Prop where
  ex : ∃ (f : Addr) (fd : FuncData), Fun K m qual st f fd ∧ Meth K C m f ∧ Binds K fd ps []
section
variable {X : Cx} {k : Nat} {m : Str} {ps : List Str} {sp : Sp} {pos apos : Pos} {o e : Expr} {es : List Expr} {ta : TE} {t : TA} {C : Addr}
theorem pe_ownM {pl : Sem Bool} (c : Cls X.K C) (h : HasM X.prog X.w X.K X.mg X.base k C m ps sp) (hr : Room k X.A) (he : PE X o ta) (ha : PA X (e :: es) t)
    (hst : starEach (e :: es) X.env = (false, eval e X.env) :: starEach es X.env := by rfl) (hpl : (backTo pos (starEach es X.env)).any (·.1) = false := by rfl)
    (ht : eval (.Call (.Attribute o m apos) (e :: es) [] pos) X.env = (do
      let ov ← eval o X.env
      standAt apos.atName
      let (f, first) ← holding [ov] (getMethod ov m pl)
      callWith pos f first (backTo pos (starEach (e :: es) X.env)) (backToKw pos (keywordEach [] X.env))) := by rfl) :
    PE X (.Call (.Attribute o m apos) (e :: es) [] pos) (tMeth C m sp [] E0 ta t) := by
  obtain ⟨f, fd, F, M, b⟩ := h.ex
  exact pe_meth he c M F hr b .nil pass0 ha hst hpl ht
theorem pe_ownM0 {pl : Sem Bool} (c : Cls X.K C) (h : HasM X.prog X.w X.K X.mg X.base k C m ps sp) (hr : Room k X.A) (he : PE X o ta)
    (ht : eval (.Call (.Attribute o m apos) [] [] pos) X.env = (do
      let ov ← eval o X.env
      standAt apos.atName
      let (f, first) ← holding [ov] (getMethod ov m pl)
      callWith pos f first (backTo pos (starEach [] X.env)) (backToKw pos (keywordEach [] X.env))) := by rfl) :
    PE X (.Call (.Attribute o m apos) [] [] pos) (tMeth C m sp [] E0 ta tNil) := by
  obtain ⟨f, fd, F, M, b⟩ := h.ex
  exact pe_meth0 he c M F hr b .nil pass0 ht
end
/-- a table's rows as a tuple of tuples -/
structure GridT (H : Hp) (a : Addr) (n : Nat) (f : Nat → Nat → Nat) : Prop where
  at_ : ∃ r : Nat → Addr, H a = some (.tup ((List.range n).map fun x => V.ref (r x))) ∧ ∀ x, x < n → H (r x) = some (.tup ((List.range n).map fun y => V.int ((f x y : Nat) : Int)))
theorem GridT.same {H H' : Hp} {a : Addr} {n : Nat} {f : Nat → Nat → Nat} (G : GridT H a n f) (s : Same H H') : GridT H' a n f := by
  obtain ⟨r, h1, h2⟩ := G.at_
  exact ⟨r, s _ _ h1, fun x hx => s _ _ (h2 x hx)⟩
/-- x, x + x, .. until the zero z comes: how many -/
def ordF : Nat → (Nat → Nat → Nat) → Nat → Nat → Nat → Nat → Option Nat
  | 0, _, _, _, _, _ => none
  | k + 1, f, z, x, total, h => if total = z then some h else ordF k f z x (f total x) (h + 1)
def timesM (f : Nat → Nat → Nat) (z x : Nat) : Nat → Nat
  | 0 => z
  | m + 1 => f (timesM f z x m) x
theorem timesM_lt {n : Nat} {f : Nat → Nat → Nat} {z x : Nat} (l : Lt n f) (hz : z < n) (hx : x < n) : ∀ m : Nat, timesM f z x m < n
  | 0 => hz
  | m + 1 => l _ _ (timesM_lt l hz hx m) hx
structure ClsT (K : PySem.W.Frag) (C : Addr) : Prop where
  cl : Cls K C
  n_sums : NoAttr K C "_sums"
  n_zero : NoAttr K C "_zero_place"
  n_orders : NoAttr K C "_orders"
  n_products : NoAttr K C "_products"
  n_one : NoAttr K C "_one_place"
def spPlus (C : Addr) : Sp := fun vs H Q _ => ∃ (p S dx : Addr) (fs : List (Str × V)) (n x y : Nat) (f : Nat → Nat → Nat), vs = [.ref p, .int x, .int y] ∧ H p = some (.ins C dx fs) ∧ fs.lookup ("_sums" : Str) = some (.ref S) ∧ GridT H S n f ∧ x < n ∧ y < n ∧ Q (.int ((f x y : Nat) : Int)) H
def spOrder (C : Addr) : Sp := fun vs H Q _ => ∃ (p S dx : Addr) (fs : List (Str × V)) (n x z h : Nat) (f : Nat → Nat → Nat), vs = [.ref p, .int x] ∧ H p = some (.ins C dx fs) ∧ fs.lookup ("_sums" : Str) = some (.ref S) ∧ fs.lookup ("_zero_place" : Str) = some (.int z) ∧ GridT H S n f ∧ Lt n f ∧ x < n ∧
  ordF 17 f z x x 1 = some h ∧ Q (.int ((h : Nat) : Int)) H
def spTimes (C : Addr) : Sp := fun vs H Q _ => ∃ (p S O dx : Addr) (fs : List (Str × V)) (n x z : Nat) (k : Int) (f : Nat → Nat → Nat) (o : Nat → Nat), vs = [.ref p, .int k, .int x] ∧ H p = some (.ins C dx fs) ∧ fs.lookup ("_sums" : Str) = some (.ref S) ∧ fs.lookup ("_zero_place" : Str) = some (.int z) ∧ fs.lookup ("_orders" : Str) = some (.ref O) ∧
  H O = some (.lst ((List.range n).map fun x => V.int ((o x : Nat) : Int))) ∧ 0 < o x ∧ o x ≤ 100 ∧ z < n ∧ GridT H S n f ∧ Lt n f ∧ x < n ∧ Q (.int ((timesM f z x (k % (o x : Int)).toNat : Nat) : Int)) H
section
variable {P : Program} {w : World} {K : PySem.W.Frag} {mg : Str → Option Value} {base : Heap} {C : Addr}
theorem FnM.has {m qual : Str} {st : Stmt} {N ps : List Str} {k : Nat} {sp : Sp} (F : FnM K C m qual st ps) (S : FnScope N ps (defScope st)) (len : ∀ vs H Q E, sp vs H Q E → vs.length = ps.length)
    (hbody : ∀ (f : Addr) (cdv : Value) (A : Around) (outer : List Env) (s : Shared) (H : Hp) (vs : List V) (Q : VK) (E : XK), Room k (A.deeper (envOfC qual (defScope st) s.heap.objs.size f cdv)) → sp vs H Q E →
      ∃ t, PSs (cxOf CX0 P w K mg base N qual (defScope st) f cdv A outer s H E).nox (defBody st) t ∧ t { nx := fun _ H' => Q .non H', rt := Q } (start N vs) H) : HasM P w K mg base (k + 1) C m ps sp := by
  obtain ⟨f, fd, F, M, b⟩ := F.ex
  exact ⟨f, fd, F.ok S len (hbody f), M, b⟩
theorem ok_plus (F : FnM K C "_plus" "Table._plus" s_Table__plus ["self", "x", "y"]) (T : ClsT K C) : HasM P w K mg base 1 C "_plus" ["self", "x", "y"] (spPlus C) := by
  refine F.has sc_Table__plus (fun vs H Q E h => ?_) (fun f cdv A outer s H vs Q E hr h => ?_)
  · obtain ⟨p, S, dx, fs, n, x, y, f, rfl, _⟩ := h
    rfl
  obtain ⟨p, S, dx, fs, n, x, y, f, rfl, hp, hS, G, hx, hy, q⟩ := h
  refine ⟨_, (pss_one (ps_ret (pe_ix ix_tup (pe_ix ix_tup (L2.pe_fld (pv 0) rfl) (pv 1) (fun _ _ => rfl)) (pv 2) (fun _ _ => rfl)))), ?_⟩
  obtain ⟨r, g1, g2⟩ := G.at_
  exact ⟨_, rfl, p, C, dx, _, _, rfl, hp, T.cl, T.n_sums, hS, _, rfl, S, _, _, _, rfl, rfl, SqT.of g1, at_range hx, _, rfl, _, _, _, _, rfl, rfl, SqT.of (g2 x hx), at_range hy, q⟩
theorem ok_order (F : FnM K C "_order" "Table._order" s_Table__order ["self", "x"]) (T : ClsT K C) : HasM P w K mg base 1 C "_order" ["self", "x"] (spOrder C) := by
  refine F.has sc_Table__order (fun vs H Q E h => ?_) (fun f cdv A outer s H vs Q E hr h => ?_)
  · obtain ⟨p, S, dx, fs, n, x, z, h, f, rfl, _⟩ := h
    rfl
  obtain ⟨p, S, dx, fs, n, x, z, h, f, rfl, hp, hS, hz, G, l, hx, ho, q⟩ := h
  refine ⟨_, (pss_cons (ps_set (i := 2) sc_Table__order.nd rfl (Or.inl rfl) pe_int)
      (pss_cons (ps_set (i := 3) sc_Table__order.nd rfl (Or.inl rfl) (pv 1))
      (pss_cons (ps_while PassesOwn.never (pt_cmpR op_ne (pv 3) (L2.pe_fld (pv 0) rfl) (nomark _))
        (pss_cons (ps_set (i := 3) sc_Table__order.nd rfl (Or.inl rfl) (pe_ix ix_tup (pe_ix ix_tup (L2.pe_fld (pv 0) rfl) (pv 3) (fun _ _ => rfl)) (pv 1) (fun _ _ => rfl)))
      (pss_one (ps_aug (i := 2) sc_Table__order.nd rfl (Or.inl rfl) pe_int ip_add))))
      (pss_one (ps_ret (pv 2)))))), ?_⟩
  obtain ⟨r, g1, g2⟩ := G.at_
  refine ⟨_, rfl, ?_⟩
  refine while_by (fun σ H' => ∃ fu t g : Nat, σ = [some (.ref p), some (.int x), some (.int (g : Int)), some (.int (t : Int))] ∧ ordF fu f z x t g = some h ∧ t < n ∧ g + fu = 18 ∧ H' = H)
    (fun σ _ => match σ with | [_, _, some (.int g), _] => 18 - g.toNat | _ => 0) ⟨17, x, 1, rfl, ho, hx, rfl, rfl⟩ ?_ ?_
  · rintro σ H' ⟨fu, t, g, rfl, hf, ht, hg, rfl⟩
    cases fu with
    | zero => cases hf
    | succ fu =>
      unfold ordF at hf
      refine ⟨_, rfl, _, rfl, p, C, dx, _, _, rfl, hp, T.cl, T.n_zero, hz, rfl, _, rfl, ?_⟩
      by_cases htz : t = z
      · subst htz
        rw [if_pos rfl] at hf
        cases hf
        exact ite_no (by simp) ⟨_, rfl, q⟩
      · rw [if_neg htz] at hf
        refine ite_of (by rw [dec_nat]; simp [htz]) ?_
        refine ⟨_, rfl, p, C, dx, _, _, rfl, hp, T.cl, T.n_sums, hS, _, rfl, S, _, _, _, rfl, rfl, SqT.of g1, at_range ht, _, rfl, _, _, _, _, rfl, rfl, SqT.of (g2 t ht), at_range hx, ?_⟩
        refine ⟨_, rfl, _, _, rfl, rfl, ⟨fu, f t x, g + 1, ?_, hf, l _ _ ht hx, by omega, rfl⟩, ?_⟩
        · rw [Int.natCast_add]
          rfl
        · show 18 - ((g : Int) + 1).toNat < 18 - (g : Int).toNat
          omega
  · rintro σ H' Q1 Q2 hq ⟨v1, e1, v2, e2, a1, a2, a3, a4, a5, b1, b2, b3, b4, b5, b6, k, e8, z⟩
    exact ⟨v1, e1, v2, e2, a1, a2, a3, a4, a5, b1, b2, b3, b4, b5, b6, k, e8, hq _ _ z⟩
theorem ok_times (F : FnM K C "_times" "Table._times" s_Table__times ["self", "k", "x"]) (B : Blt mg) (T : ClsT K C) : HasM P w K mg base 1 C "_times" ["self", "k", "x"] (spTimes C) := by
  refine F.has sc_Table__times (fun vs H Q E h => ?_) (fun f cdv A outer s H vs Q E hr h => ?_)
  · obtain ⟨p, S, O, dx, fs, n, x, z, k, f, o, rfl, _⟩ := h
    rfl
  obtain ⟨p, S, O, dx, fs, n, x, z, k, f, o, rfl, hp, hS, hz, hO, gO, o0, o1, zn, G, l, hx, q⟩ := h
  refine ⟨_, (pss_cons (ps_set (i := 3) sc_Table__times.nd rfl (Or.inl rfl) (L2.pe_fld (pv 0) rfl))
      (pss_cons (ps_for PassesOwn.never rfl (pi_range1 (by rfl) B.range (pa_cons (pe_op op_mod (pv 1) (pe_ix ix_list (L2.pe_fld (pv 0) rfl) (pv 2) (fun _ _ => rfl))) pa_nil)) (pg_name (i := 4) sc_Table__times.nd rfl (Or.inl rfl))
        (pss_one (ps_set (i := 3) sc_Table__times.nd rfl (Or.inl rfl) (pe_ix ix_tup (pe_ix ix_tup (L2.pe_fld (pv 0) rfl) (pv 3) (fun _ _ => rfl)) (pv 2) (fun _ _ => rfl)))))
      (pss_one (ps_ret (pv 3))))), ?_⟩
  obtain ⟨r, g1, g2⟩ := G.at_
  have m0 : 0 ≤ k % (o x : Int) := Int.emod_nonneg _ (by omega)
  have m1 : k % (o x : Int) < (o x : Int) := Int.emod_lt_of_pos _ (by omega)
  refine ⟨_, rfl, p, C, dx, _, _, rfl, hp, T.cl, T.n_zero, hz, ?_⟩
  refine ⟨_, rfl, _, rfl, p, C, dx, _, _, rfl, hp, T.cl, T.n_orders, hO, _, rfl, O, _, _, _, rfl, rfl, SqL.of gO, at_range hx, _, _, rfl, rfl, by omega, ?_⟩
  refine ⟨_, rfl, by omega, by omega, for_range (n := (k % (o x : Int)).toNat) (fun i σ H' => ∃ y, σ = [some (.ref p), some (.int k), some (.int x), some (.int ((timesM f z x i : Nat) : Int)), y] ∧ H' = H) ⟨none, rfl, rfl⟩ ?_ ?_⟩
  · rintro i σ H' hi ⟨y, rfl, rfl⟩
    have ht := timesM_lt l zn hx i
    refine ⟨_, rfl, p, C, dx, _, _, rfl, hp, T.cl, T.n_sums, hS, _, rfl, S, _, _, _, rfl, rfl, SqT.of g1, at_range ht, _, rfl, _, _, _, _, rfl, rfl, SqT.of (g2 _ ht), at_range hx, ?_⟩
    exact ⟨_, rfl, rfl⟩
  · rintro σ H' ⟨y, rfl, rfl⟩
    exact ⟨_, rfl, q⟩
end
end My
namespace My
open PySem PySem.Spec PyProof.Rows L2
/-- a table as it is made: its rows, its zero, its orders -/
structure TabAt (H : Hp) (p C : Addr) (n z : Nat) (f : Nat → Nat → Nat) (o : Nat → Nat) (fs : List (Str × V)) : Prop where
  ex : ∃ (S O dx : Addr), H p = some (.ins C dx fs) ∧ fs.lookup ("_sums" : Str) = some (.ref S) ∧ fs.lookup ("_zero_place" : Str) = some (.int z) ∧ fs.lookup ("_orders" : Str) = some (.ref O) ∧
    H O = some (.lst ((List.range n).map fun x => V.int ((o x : Nat) : Int))) ∧ GridT H S n f
  o0 : ∀ x, x < n → 0 < o x ∧ o x ≤ 100
  zn : z < n
  lt : Lt n f
abbrev diffM (f : Nat → Nat → Nat) (z : Nat) (o : Nat → Nat) (x y : Nat) : Nat := o (f x (timesM f z y ((-1 : Int) % (o y : Int)).toNat))
def spDiff (C : Addr) : Sp := fun vs H Q _ => ∃ (p : Addr) (n z x y : Nat) (f : Nat → Nat → Nat) (o : Nat → Nat) (fs : List (Str × V)), vs = [.ref p, .int x, .int y] ∧ TabAt H p C n z f o fs ∧ fs.lookup ("_plus" : Str) = none ∧ fs.lookup ("_times" : Str) = none ∧ x < n ∧ y < n ∧
  Q (.int ((diffM f z o x y : Nat) : Int)) H
def spInv1 : Sp := fun vs H Q _ => ∃ m : Nat, vs = [.int 1, .int m] ∧ 1 ≤ m ∧ m ≤ 100 ∧ ∀ H', Same H H' → Q (.int ((1 % m : Nat) : Int)) H'
section
variable {P : Program} {w : World} {K : PySem.W.Frag} {mg : Str → Option Value} {base : Heap} {C : Addr}
theorem ok_diff (F : FnM K C "_difference_order" "Table._difference_order" s_Table__difference_order ["self", "x", "y"]) (T : ClsT K C) (M__plus : HasM P w K mg base 1 C "_plus" ["self", "x", "y"] (spPlus C)) (M__times : HasM P w K mg base 1 C "_times" ["self", "k", "x"] (spTimes C)) :
    HasM P w K mg base 2 C "_difference_order" ["self", "x", "y"] (spDiff C) := by
  refine F.has sc_Table__difference_order (fun vs H Q E h => ?_) (fun f cdv A outer s H vs Q E hr h => ?_)
  · obtain ⟨p, n, z, x, y, f, o, fs, rfl, _⟩ := h
    rfl
  obtain ⟨p, n, z, x, y, f, o, fs, rfl, t, np, nt, hx, hy, q⟩ := h
  obtain ⟨S, O, dx, hp, hS, hz, hO, gO, G⟩ := t.ex
  have cl_ := T.cl
  refine ⟨_, (pss_one (ps_ret (pe_ix ix_list (L2.pe_fld (pv 0) rfl) (pe_ownM cl_ M__plus (hr.mono (by decide)) (pv 0) (pa_cons (pv 1) (pa_cons (pe_ownM cl_ M__times (hr.mono (by decide)) (pv 0) (pa_cons (pe_un un_neg pe_int) (pa_cons (pv 2) pa_nil))) pa_nil))) (fun _ _ => rfl)))), ?_⟩
  have ht := timesM_lt (x := y) t.lt t.zn hy ((-1 : Int) % (o y : Int)).toNat
  refine ⟨_, rfl, p, C, dx, _, _, rfl, hp, T.cl, T.n_orders, hO, _, rfl, p, dx, fs, rfl, hp, np, _, rfl, _, rfl, p, dx, fs, rfl, hp, nt, ?_⟩
  refine ⟨_, rfl, _, rfl, p, S, O, dx, fs, n, y, z, -1, f, o, rfl, hp, hS, hz, hO, gO, (t.o0 y hy).1, (t.o0 y hy).2, t.zn, G, t.lt, hy, ?_⟩
  refine ⟨p, S, dx, fs, n, x, _, f, rfl, hp, hS, G, hx, ht, ?_⟩
  exact ⟨O, _, _, _, rfl, rfl, SqL.of gO, at_range (t.lt _ _ hx ht), q⟩
theorem ok_inv1 (F : Fn K mg "inverse_modulo" s_inverse_modulo ["number", "modulus"]) : Has P w K mg base 1 "inverse_modulo" ["number", "modulus"] spInv1 := by
  refine F.has sc_inverse_modulo (fun vs H Q E h => ?_) (fun f cdv A outer s H vs Q E hr h => ?_)
  · obtain ⟨m, rfl, _⟩ := h
    rfl
  obtain ⟨m, rfl, h1, h2, q⟩ := h
  refine ⟨_, (pss_cons (ps_par (i := 2) (j := 3) rfl sc_inverse_modulo.nd rfl rfl (by decide) rfl rfl (pa_cons (pv 1) (pa_cons (pe_op op_mod (pv 0) (pv 1)) pa_nil)) rfl)
      (pss_cons (ps_asg (pe_tup (pa_cons pe_int (pa_cons pe_int pa_nil))) (pg_tup rfl (pgs_cons (pg_name (i := 4) sc_inverse_modulo.nd rfl (Or.inl rfl)) (pgs_cons (pg_name (i := 5) sc_inverse_modulo.nd rfl (Or.inl rfl)) pgs_nil))))
      (pss_cons (ps_while PassesOwn.never (pt_cmpR op_ne (pv 3) pe_int (nomark _))
        (pss_cons (ps_set (i := 6) sc_inverse_modulo.nd rfl (Or.inl rfl) (pe_op op_fdiv (pv 2) (pv 3)))
      (pss_cons (ps_par (i := 2) (j := 3) rfl sc_inverse_modulo.nd rfl rfl (by decide) rfl rfl (pa_cons (pv 3) (pa_cons (pe_op op_sub (pv 2) (pe_op op_mul (pv 6) (pv 3))) pa_nil)) rfl)
      (pss_one (ps_par (i := 4) (j := 5) rfl sc_inverse_modulo.nd rfl rfl (by decide) rfl rfl (pa_cons (pv 5) (pa_cons (pe_op op_sub (pv 4) (pe_op op_mul (pv 6) (pv 5))) pa_nil)) rfl)))))
      (pss_one (ps_ret (pe_op op_mod (pv 4) (pv 1))))))), ?_⟩
  refine ⟨_, rfl, _, rfl, _, rfl, _, _, rfl, rfl, by omega, _, _, rfl, ?_⟩
  refine ⟨by show 2 ≤ sizeLine; decide, fun u hu => ⟨u, _, rfl, .inl (.inl upd_same), rfl, _, _, rfl, _, _, rfl, ?_⟩⟩
  refine ⟨rfl, ?_⟩
  have hS : Same H (upd H u (.tup [.int 0, .int 1])) := same_upd hu
  refine while_by (fun σ H' => H' = upd H u (.tup [.int 0, .int 1]) ∧ ((∃ t, σ = [some (.int 1), some (.int m), some (.int m), some (.int ((1 % m : Nat) : Int)), some (.int 0), some (.int 1), t]) ∨ (2 ≤ m ∧ ∃ t, σ = [some (.int 1), some (.int m), some (.int 1), some (.int 0), some (.int 1), some (.int (0 - (m : Int))), t])))
    (fun σ _ => match σ with | [_, _, _, some (.int k), _, _, _] => k.toNat | _ => 0) ⟨rfl, .inl ⟨none, ?_⟩⟩ ?_ ?_
  · rw [Int.natCast_emod]
    rfl
  · rintro σ H' ⟨rfl, ⟨t, rfl⟩ | ⟨hm, t, rfl⟩⟩
    · by_cases hm : m = 1
      · subst hm
        exact ⟨_, rfl, rfl, _, rfl, ite_no (by decide) ⟨_, rfl, _, rfl, _, _, rfl, rfl, by decide, q _ hS⟩⟩
      · have e : 1 % m = 1 := Nat.mod_eq_of_lt (by omega)
        rw [e]
        refine ⟨_, rfl, rfl, _, rfl, ite_of (by decide) ?_⟩
        refine ⟨_, rfl, _, rfl, _, _, rfl, rfl, ⟨by decide, by decide⟩, ?_⟩
        have ed : (m : Int) / ((1 : Nat) : Int) = m := Int.ediv_one _
        refine ⟨_, rfl, _, rfl, _, rfl, _, rfl, _, _, rfl, rfl, .inl ⟨by rw [ed]; omega, by rw [ed]; omega⟩, _, _, rfl, rfl, _, _, rfl, ?_⟩
        refine ⟨_, rfl, _, rfl, _, rfl, _, rfl, _, _, rfl, rfl, .inl ⟨by rw [ed]; omega, by rw [ed]; omega⟩, _, _, rfl, rfl, _, _, rfl, ?_⟩
        have e1 : (m : Int) - (m : Int) / ((1 : Nat) : Int) * ((1 : Nat) : Int) = 0 := by rw [ed]; omega
        have e2 : (0 : Int) - (m : Int) / ((1 : Nat) : Int) * 1 = 0 - (m : Int) := by rw [ed, Int.mul_one]
        refine ⟨⟨rfl, .inr ⟨by omega, some (.int ((m : Int) / ((1 : Nat) : Int))), ?_⟩⟩, ?_⟩
        · show [some (V.int 1), some (V.int m), some (V.int ((1 : Nat) : Int)), some (V.int ((m : Int) - (m : Int) / ((1 : Nat) : Int) * ((1 : Nat) : Int))), some (V.int 1), some (V.int ((0 : Int) - (m : Int) / ((1 : Nat) : Int) * 1)), some (V.int ((m : Int) / ((1 : Nat) : Int)))] = _
          rw [e1, e2]
          rfl
        · show ((m : Int) - (m : Int) / ((1 : Nat) : Int) * ((1 : Nat) : Int)).toNat < (((1 : Nat) : Int)).toNat
          rw [e1]
          decide
    · refine ⟨_, rfl, rfl, _, rfl, ite_no (by decide) ⟨_, rfl, _, rfl, _, _, rfl, rfl, by omega, ?_⟩⟩
      have z := q _ hS
      rw [Int.natCast_emod] at z
      exact z
  · rintro σ H' Q1 Q2 hq ⟨v1, e1, b6, k, e8, z⟩
    exact ⟨v1, e1, b6, k, e8, hq _ _ z⟩
end
end My
namespace My
open PySem PySem.Spec PyProof.Rows L2
theorem un65 {k : Nat} {A : Around} (r : Room k A) : A.units + 65 < cLine := by
  have := r.un
  omega
theorem fldK {X : Cx} {e : Expr} {ta : TE} {f : Str} {pos : Pos} (K : PySem.W.Frag) (hK : X.K = K) (he : PE X e ta) (hb : attributeBase e f X.env (eval e X.env) = eval e X.env) : PE X (.Attribute e f pos) (tFld K ta f) := by
  subst hK
  exact L2.pe_fld he hb
/-- the depth over no bases -/
def spDepth0 : Sp := fun vs H Q _ => ∃ a : Addr, vs = [.ref a] ∧ H a = some (.tup []) ∧ ∀ H', Same H H' → Q (.int 1) H'
def spShare1 (C : Addr) : Sp := fun vs H Q _ => ∃ (p : Addr) (n z e : Nat) (k : Int) (f : Nat → Nat → Nat) (o : Nat → Nat) (fs : List (Str × V)), vs = [.ref p, .int k, .int 1] ∧ TabAt H p C n z f o fs ∧ fs.lookup ("_times" : Str) = none ∧ fs.lookup ("_one_place" : Str) = some (.int e) ∧ e < n ∧ -1000 ≤ k ∧ k ≤ 1000 ∧
  ∀ H', Same H H' → Q (.int ((timesM f z e ((k * ((1 % o e : Nat) : Int)) % (o e : Int)).toNat : Nat) : Int)) H'
section
variable {P : Program} {w : World} {K : PySem.W.Frag} {mg : Str → Option Value} {base : Heap} {C : Addr}
theorem ok_depth0 (F : Fn K mg "depth_over" s_depth_over ["bases"]) (B : Blt mg) : Has P w K mg base 1 "depth_over" ["bases"] spDepth0 := by
  refine F.has sc_depth_over (fun vs H Q E h => ?_) (fun f cdv A outer s H vs Q E hr h => ?_)
  · obtain ⟨a, rfl, _⟩ := h
    rfl
  obtain ⟨a, rfl, ha, q⟩ := h
  refine ⟨_, (pss_one (ps_ret (pe_op op_add pe_int (pe_callBK (LcN.cr_maxDef rfl (un65 hr)) (by rfl) B.max bb_max (pa_cons (pe_lc (own := [("base", 1)]) (g := gName 1) (tt := tYes) (by rfl) sc_depth_over.nd (pi_tup (pv 0)) (blkOk_by (own := [("base", 1)]) (N := N_depth_over) (sc := defScope s_depth_over) (by decide +kernel)) (fun _ _ _ _ _ => (pg_name (i := 1) sc_depth_over.nd rfl (Or.inl rfl))) (fun _ _ _ _ _ => pts_nil) (fun _ _ _ _ _ => (fldK K rfl (pv 1) rfl))) pa_nil) (pk_cons pe_int pk_nil))))), ?_⟩
  refine ⟨_, rfl, a, rfl, ⟨_, SqT.of ha⟩, fun D hD => ?_⟩
  refine lc_tup (K := K) (a := a) (xs := []) (fun i H' => H' = upd H D (.lst [])) rfl (fun i H' _ e => e ▸ SqT.of (by rw [upd_ne (ne_of_none ha hD)]; exact ha)) (fun i x H' hi e => by cases hi) (fun H' e => ?_)
  subst e
  exact ⟨D, [], 0, rfl, rfl, SqL.of upd_same, _, _, rfl, rfl, q _ (same_upd hD)⟩
theorem ok_share1 (F : FnM K C "_share" "Table._share" s_Table__share ["self", "p", "q"]) (T : ClsT K C) (n_one : NoAttr K C "_one_place") (M__times : HasM P w K mg base 1 C "_times" ["self", "k", "x"] (spTimes C)) (G_inverse_modulo : Has P w K mg base 1 "inverse_modulo" ["number", "modulus"] spInv1) :
    HasM P w K mg base 2 C "_share" ["self", "p", "q"] (spShare1 C) := by
  refine F.has sc_Table__share (fun vs H Q E h => ?_) (fun f cdv A outer s H vs Q E hr h => ?_)
  · obtain ⟨p, n, z, e, k, f, o, fs, rfl, _⟩ := h
    rfl
  obtain ⟨p, n, z, e, k, f, o, fs, rfl, t, nt, he, hen, k0, k1, q⟩ := h
  obtain ⟨S, O, dx, hp, hS, hz, hO, gO, G⟩ := t.ex
  have cl_ := T.cl
  refine ⟨_, (pss_one (ps_ret (pe_ownM cl_ M__times (hr.mono (by decide)) (pv 0) (pa_cons (pe_op op_mul (pv 1) (pe_own G_inverse_modulo (hr.mono (by decide)) (by rfl) (pa_cons (pv 2) (pa_cons (pe_ix ix_list (L2.pe_fld (pv 0) rfl) (L2.pe_fld (pv 0) rfl) (fun _ _ => rfl)) pa_nil)))) (pa_cons (L2.pe_fld (pv 0) rfl) pa_nil))))), ?_⟩
  obtain ⟨o0, o1⟩ := t.o0 e hen
  have h1 : 1 % o e ≤ 1 := Nat.mod_le _ _
  refine ⟨_, rfl, p, dx, fs, rfl, hp, nt, _, rfl, _, rfl, _, rfl, p, C, dx, _, _, rfl, hp, T.cl, T.n_orders, hO, _, rfl, p, C, dx, _, _, rfl, hp, T.cl, n_one, he, O, _, _, _, rfl, rfl, SqL.of gO, at_range hen, ?_⟩
  refine ⟨o e, rfl, o0, o1, fun H' s1 => ?_⟩
  refine ⟨_, _, rfl, rfl, .inl ⟨by omega, by omega⟩, ?_⟩
  refine ⟨_, rfl, p, C, dx, _, _, rfl, s1 _ _ hp, T.cl, n_one, he, ?_⟩
  exact ⟨p, S, O, dx, fs, n, e, z, _, f, o, rfl, s1 _ _ hp, hS, hz, hO, s1 _ _ gO, o0, o1, t.zn, G.same s1, t.lt, hen, q _ s1⟩
end
end My
/-! Ring.__init__ on a table -/
namespace My
open PySem PySem.Spec PyProof.Rows L2
theorem GridT.kp {H H' : Hp} {p a C dx : Addr} {n : Nat} {f : Nat → Nat → Nat} {fs : List (Str × V)} (G : GridT H a n f) (hp : H p = some (.ins C dx fs)) (k : Kp p H H') : GridT H' a n f := by
  obtain ⟨r, h1, h2⟩ := G.at_
  exact ⟨r, k _ _ (ne_of h1 hp (by intro q; cases q)) h1, fun x hx => k _ _ (ne_of (h2 x hx) hp (by intro q; cases q)) (h2 x hx)⟩
theorem TabAt.put {H : Hp} {p C dx : Addr} {n z : Nat} {f : Nat → Nat → Nat} {o : Nat → Nat} {fs : List (Str × V)} {g : Str} {y : V} (t : TabAt H p C n z f o fs) (hp : H p = some (.ins C dx fs)) (h1 : ¬ ("_sums" : Str) = g) (h2 : ¬ ("_zero_place" : Str) = g) (h3 : ¬ ("_orders" : Str) = g) :
    TabAt (upd H p (.ins C dx (putF g y fs))) p C n z f o (putF g y fs) := by
  obtain ⟨S, O, dx', hp', hS, hz, hO, gO, G⟩ := t.ex
  rw [hp] at hp'
  cases hp'
  refine ⟨⟨S, O, dx, upd_same, by rw [lookup_putF, if_neg h1]; exact hS, by rw [lookup_putF, if_neg h2]; exact hz, by rw [lookup_putF, if_neg h3]; exact hO, ?_, G.kp hp Kp.upd⟩, t.o0, t.zn, t.lt⟩
  rw [upd_ne (ne_of gO hp (by intro q; cases q))]
  exact gO
structure ClsR (K : PySem.W.Frag) (C : Addr) : Prop where
  n_parts : NoAttr K C "_parts"
  n_ones : NoAttr K C "_ones"
  n_swaps : NoAttr K C "_swaps"
  n_squares : NoAttr K C "_squares"
  n_bases : NoAttr K C "_bases"
  n_depth : NoAttr K C "_depth"
  n_zero : NoAttr K C "_zero"
  n_one : NoAttr K C "_one"
end My
namespace My
open PySem PySem.Spec PyProof.Rows L2
theorem TabAt.same {H H' : Hp} {p C : Addr} {n z : Nat} {f : Nat → Nat → Nat} {o : Nat → Nat} {fs : List (Str × V)} (t : TabAt H p C n z f o fs) (s : Same H H') : TabAt H' p C n z f o fs := by
  obtain ⟨S, O, dx, hp, hS, hz, hO, gO, G⟩ := t.ex
  exact ⟨⟨S, O, dx, s _ _ hp, hS, hz, hO, s _ _ gO, G.same s⟩, t.o0, t.zn, t.lt⟩
theorem lk {f g : Str} {v : V} {fs : List (Str × V)} {r : Option V} (h : ¬ g = f) (e : fs.lookup g = r) : (putF f v fs).lookup g = r := by
  rw [lookup_putF, if_neg h]
  exact e
theorem lk_same {f : Str} {v : V} {fs : List (Str × V)} : (putF f v fs).lookup f = some v := by
  rw [lookup_putF, if_pos rfl]
def spRingInit (C : Addr) : Sp := fun vs H Q _ => ∃ (p N Bq dx : Addr) (parts : V) (a b c : Int) (n z e : Nat) (f : Nat → Nat → Nat) (o : Nat → Nat) (fs : List (Str × V)), vs = [.ref p, parts, .ref N, .ref Bq] ∧ H p = some (.ins C dx fs) ∧ TabAt H p C n z f o fs ∧ H N = some (.tup [.int a, .int b, .int c]) ∧ H Bq = some (.tup []) ∧
  fs.lookup ("_times" : Str) = none ∧ fs.lookup ("_share" : Str) = none ∧ fs.lookup ("_one_place" : Str) = some (.int e) ∧ e < n ∧ fs.length ≤ 20 ∧
  ∀ (H' : Hp) (fs' : List (Str × V)), Kp p H H' → H' p = some (.ins C dx fs') → fs'.lookup ("_ones" : Str) = some (.int a) → fs'.lookup ("_swaps" : Str) = some (.int b) → fs'.lookup ("_squares" : Str) = some (.int c) → Q .non H'
section
variable {P : Program} {w : World} {K : PySem.W.Frag} {mg : Str → Option Value} {base : Heap} {C : Addr}
theorem ok_ring_init {f1 : Addr} {fd : FuncData} (F : Fun K "__init__" "Ring.__init__" s_Ring_init f1 fd) (T : ClsT K C) (R : ClsR K C) (G_depth_over : Has P w K mg base 1 "depth_over" ["bases"] spDepth0) (M__share : HasM P w K mg base 2 C "_share" ["self", "p", "q"] (spShare1 C)) :
    FnOk P w K mg base (L2.CX P w) 3 f1 fd ["self", "parts", "numbers", "bases"] (spRingInit C) := by
  refine F.okX sc_Ring_init (fun vs H Q E h => ?_) (fun cdv A outer s H vs Q E hr h => ?_)
  · obtain ⟨p, N, Bq, dx, parts, a, b, c, n, z, e, f, o, fs, rfl, _⟩ := h
    rfl
  obtain ⟨p, N, Bq, dx, parts, a, b, c, n, z, e, f, o, fs, rfl, hp, t, hN, hB, nt, ns, he, hen, hl, q⟩ := h
  have cl_ := T.cl
  refine ⟨_, (pss_cons (ps_fld (pv 0) (pv 1) rfl)
      (pss_cons (ps_asg (pv 2) (pg_tup rfl (pgs_cons (LcN.pg_fld (pv 0)) (pgs_cons (LcN.pg_fld (pv 0)) (pgs_cons (LcN.pg_fld (pv 0)) pgs_nil)))))
      (pss_cons (ps_fld (pv 0) (pv 3) rfl)
      (pss_cons (ps_fld (pv 0) (pe_own G_depth_over (hr.mono (by decide)) (by rfl) (pa_cons (pv 3) pa_nil)) rfl)
      (pss_cons (ps_fld (pv 0) (pe_ownM cl_ M__share (hr.mono (by decide)) (pv 0) (pa_cons pe_int (pa_cons pe_int pa_nil))) rfl)
      (pss_one (ps_fld (pv 0) (pe_ownM cl_ M__share (hr.mono (by decide)) (pv 0) (pa_cons pe_int (pa_cons pe_int pa_nil))) rfl))))))), ?_⟩
  have Np : N ≠ p := ne_of hN hp (by intro q; cases q)
  have Bp : Bq ≠ p := ne_of hB hp (by intro q; cases q)
  have l1 := length_putF ("_parts" : Str) parts fs
  have l2 := length_putF ("_ones" : Str) (.int a) (putF ("_parts" : Str) parts fs)
  have l3 := length_putF ("_swaps" : Str) (.int b) (putF ("_ones" : Str) (.int a) (putF ("_parts" : Str) parts fs))
  have l4 := length_putF ("_squares" : Str) (.int c) (putF ("_swaps" : Str) (.int b) (putF ("_ones" : Str) (.int a) (putF ("_parts" : Str) parts fs)))
  have l5 := length_putF ("_bases" : Str) (.ref Bq) (putF ("_squares" : Str) (.int c) (putF ("_swaps" : Str) (.int b) (putF ("_ones" : Str) (.int a) (putF ("_parts" : Str) parts fs))))
  have t1 := t.put (g := "_parts") (y := parts) hp (by decide +kernel) (by decide +kernel) (by decide +kernel)
  have t2 := t1.put (g := "_ones") (y := .int a) upd_same (by decide +kernel) (by decide +kernel) (by decide +kernel)
  have t3 := t2.put (g := "_swaps") (y := .int b) upd_same (by decide +kernel) (by decide +kernel) (by decide +kernel)
  have t4 := t3.put (g := "_squares") (y := .int c) upd_same (by decide +kernel) (by decide +kernel) (by decide +kernel)
  have t5 := t4.put (g := "_bases") (y := .ref Bq) upd_same (by decide +kernel) (by decide +kernel) (by decide +kernel)
  refine ⟨_, rfl, _, rfl, p, C, dx, fs, rfl, hp, T.cl, R.n_parts, by omega, ?_⟩
  refine ⟨_, rfl, N, _, rfl, .inl (.inl (by rw [upd_ne Np]; exact hN)), rfl, _, _, rfl, _, rfl, p, C, dx, _, rfl, upd_same, T.cl, R.n_ones, by omega, ?_⟩
  refine ⟨_, _, rfl, _, rfl, p, C, dx, _, rfl, upd_same, T.cl, R.n_swaps, by omega, ?_⟩
  refine ⟨_, _, rfl, _, rfl, p, C, dx, _, rfl, upd_same, T.cl, R.n_squares, by omega, rfl, ?_⟩
  refine ⟨_, rfl, _, rfl, p, C, dx, _, rfl, upd_same, T.cl, R.n_bases, by omega, ?_⟩
  refine ⟨_, rfl, Bq, rfl, by rw [upd_ne Bp, upd_ne Bp, upd_ne Bp, upd_ne Bp, upd_ne Bp]; exact hB, fun H5 s5 => ?_⟩
  have k5 : Kp p H H5 := ((((Kp.upd.trans Kp.upd).trans Kp.upd).trans Kp.upd).trans Kp.upd).trans (Kp.of s5)
  have hp5 := s5 _ _ (upd_same (a := p))
  have t5' := t5.same s5
  generalize hF5 : putF ("_bases" : Str) (.ref Bq) (putF ("_squares" : Str) (.int c) (putF ("_swaps" : Str) (.int b) (putF ("_ones" : Str) (.int a) (putF ("_parts" : Str) parts fs)))) = F5 at *
  have g1 : F5.lookup ("_times" : Str) = none := by
    rw [← hF5]
    exact lk (by decide +kernel) (lk (by decide +kernel) (lk (by decide +kernel) (lk (by decide +kernel) (lk (by decide +kernel) nt))))
  have g2 : F5.lookup ("_share" : Str) = none := by
    rw [← hF5]
    exact lk (by decide +kernel) (lk (by decide +kernel) (lk (by decide +kernel) (lk (by decide +kernel) (lk (by decide +kernel) ns))))
  have g3 : F5.lookup ("_one_place" : Str) = some (.int e) := by
    rw [← hF5]
    exact lk (by decide +kernel) (lk (by decide +kernel) (lk (by decide +kernel) (lk (by decide +kernel) (lk (by decide +kernel) he))))
  have g4 : F5.lookup ("_ones" : Str) = some (.int a) := by
    rw [← hF5]
    exact lk (by decide +kernel) (lk (by decide +kernel) (lk (by decide +kernel) lk_same))
  have g5 : F5.lookup ("_swaps" : Str) = some (.int b) := by
    rw [← hF5]
    exact lk (by decide +kernel) (lk (by decide +kernel) lk_same)
  have g6 : F5.lookup ("_squares" : Str) = some (.int c) := by
    rw [← hF5]
    exact lk (by decide +kernel) lk_same
  have m5 : F5.length ≤ 25 := by omega
  clear l1 l2 l3 l4 l5 t1 t2 t3 t4 t5
  have l6 := length_putF ("_depth" : Str) (.int 1) F5
  have t6 := t5'.put (g := "_depth") (y := .int 1) hp5 (by decide +kernel) (by decide +kernel) (by decide +kernel)
  refine ⟨_, rfl, p, C, dx, F5, rfl, hp5, T.cl, R.n_depth, by omega, ?_⟩
  refine ⟨_, rfl, p, dx, _, rfl, upd_same, lk (by decide +kernel) g2, p, n, z, e, 0, f, o, _, rfl, t6, lk (by decide +kernel) g1, lk (by decide +kernel) g3, hen, by decide, by decide, fun H7 s7 => ?_⟩
  have hp7 := s7 _ _ (upd_same (a := p))
  have t7 := (t6.same s7).put (g := "_zero") (y := .int ((timesM f z e (((0 : Int) * ((1 % o e : Nat) : Int)) % (o e : Int)).toNat : Nat) : Int)) hp7 (by decide +kernel) (by decide +kernel) (by decide +kernel)
  have l7 := length_putF ("_zero" : Str) (.int ((timesM f z e (((0 : Int) * ((1 % o e : Nat) : Int)) % (o e : Int)).toNat : Nat) : Int)) (putF ("_depth" : Str) (.int 1) F5)
  refine ⟨_, rfl, p, C, dx, _, rfl, hp7, T.cl, R.n_zero, by omega, ?_⟩
  refine ⟨_, rfl, p, dx, _, rfl, upd_same, lk (by decide +kernel) (lk (by decide +kernel) g2), p, n, z, e, 1, f, o, _, rfl, t7, lk (by decide +kernel) (lk (by decide +kernel) g1), lk (by decide +kernel) (lk (by decide +kernel) g3), hen, by decide, by decide, fun H8 s8 => ?_⟩
  have hp8 := s8 _ _ (upd_same (a := p))
  refine ⟨_, rfl, p, C, dx, _, rfl, hp8, T.cl, R.n_one, by omega, ?_⟩
  refine q _ _ (((((k5.trans Kp.upd).trans (Kp.of s7)).trans Kp.upd).trans (Kp.of s8)).trans Kp.upd) upd_same (lk (by decide +kernel) (lk (by decide +kernel) (lk (by decide +kernel) g4))) (lk (by decide +kernel) (lk (by decide +kernel) (lk (by decide +kernel) g5))) (lk (by decide +kernel) (lk (by decide +kernel) (lk (by decide +kernel) g6)))
end
end My
/-! _law_mixed: a drawn order of a list -/
namespace My
open PySem PySem.Spec PyProof.Rows L2
/-- all lists that x can be put into l in -/
def insAll {α : Type} (x : α) (l : List α) : List (List α) := (List.range (l.length + 1)).map fun i => l.take i ++ [x] ++ l.drop i
/-- all orders of a list, by insertions -/
def mixF {α : Type} (xs : List α) : List (List α) := xs.foldl (fun acc x => acc.flatMap (insAll x)) [[]]
theorem mixF_snoc {α : Type} (xs : List α) (x : α) : mixF (xs ++ [x]) = (mixF xs).flatMap (insAll x) := by
  unfold mixF
  rw [List.foldl_append]
  rfl
theorem mixF_ins {α : Type} {xs ys : List α} {x : α} {i : Nat} (h : ys ∈ mixF xs) (hi : i ≤ ys.length) : ys.take i ++ [x] ++ ys.drop i ∈ mixF (xs ++ [x]) := by
  rw [mixF_snoc]
  exact List.mem_flatMap.mpr ⟨ys, h, List.mem_map.mpr ⟨i, List.mem_range.mpr (by omega), rfl⟩⟩
theorem mixF_perm {α : Type} : ∀ (n : Nat) (xs ys : List α), xs.length = n → ys ∈ mixF xs → ys.Perm xs
  | 0, xs, ys, hn, h => by
    obtain rfl := List.length_eq_zero_iff.mp hn
    rw [List.mem_singleton.mp h]
  | n + 1, xs, ys, hn, h => by
    obtain ⟨xs, x, rfl⟩ : ∃ (a : List α) (b : α), xs = a ++ [b] := ⟨xs.dropLast, xs.getLast (fun e => by rw [e] at hn; simp at hn), (List.dropLast_concat_getLast _).symm⟩
    rw [mixF_snoc] at h
    obtain ⟨zs, hz, h⟩ := List.mem_flatMap.mp h
    obtain ⟨i, _, rfl⟩ := List.mem_map.mp h
    have p := mixF_perm n xs zs (by simpa using hn) hz
    refine List.Perm.trans ?_ (p.append_right [x])
    have q : (zs.take i ++ [x] ++ zs.drop i).Perm (zs.take i ++ zs.drop i ++ [x]) := by
      rw [List.append_assoc, List.append_assoc]
      exact List.Perm.append_left _ List.perm_append_comm
    rw [List.take_append_drop] at q
    exact q
def spMixed (K : PySem.W.Frag) : Sp := fun vs H Q _ => ∃ (b c l : Addr) (xs : List V), vs = [.ref b, .ref l] ∧ Bg H b c ∧ H l = some (.lst xs) ∧ l ≠ b ∧ xs.length ≤ 100 ∧
  ∀ (H' : Hp) (D : Addr) (ys : List V), Kp b H H' → Bg H' b c → H D = none → D ≠ b → H' D = some (.lst ys) → ys ∈ mixF xs → Q (.ref D) H'
section
variable {P : Program} {w : World} {K : PySem.W.Frag} {mg : Str → Option Value} {base : Heap}
theorem ok_l_mixed (F : Fn K mg "_law_mixed" s_l_mixed ["_law_bag_here", "_law_some"]) (B : Blt mg) (G_l_draw : Has P w K mg base 1 "_law_draw" ["_law_bag_here", "_law_many"] spDraw) : Has P w K mg base 2 "_law_mixed" ["_law_bag_here", "_law_some"] (spMixed K) := by
  refine F.has sc_l_mixed (fun vs H Q E h => ?_) (fun f cdv A outer s H vs Q E hr h => ?_)
  · obtain ⟨b, c, l, xs, rfl, _⟩ := h
    rfl
  obtain ⟨b, c, l, xs, rfl, hB, hl, nlb, hn, q⟩ := h
  refine ⟨_, (pss_cons (ps_set (i := 2) sc_l_mixed.nd rfl (Or.inl rfl) (pe_lst pa_nil))
      (pss_cons (ps_for PassesOwn.never rfl (pi_list (pv 1)) (pg_name (i := 3) sc_l_mixed.nd rfl (Or.inl rfl))
        (pss_one (ps_expr (pe_bm PySem.F.plainAttrs_list PySem.F.slot_list_insert PySem.F.type_list_insert mt_insert (pv 2) (pa_cons (pe_own G_l_draw (hr.mono (by decide)) (by rfl) (pa_cons (pv 0) (pa_cons (pe_op op_add (pe_callB call_len (by rfl) B.len bb_len (pa_cons (pv 2) pa_nil)) pe_int) pa_nil))) (pa_cons (pv 3) pa_nil))))))
      (pss_one (ps_ret (pv 2))))), ?_⟩
  refine ⟨by show 0 ≤ sizeLine; decide, fun D hD => ?_⟩
  have sD := same_upd (o := .lst []) hD
  have nDb := hB.ne_new hD
  have nDc := hB.ne_new2 hD
  refine ⟨_, rfl, l, rfl, ⟨_, SqL.of (sD _ _ hl)⟩, for_list (xs := xs) (fun i σ H' => ∃ (y3 : Option V) (ys : List V), σ = [some (.ref b), some (.ref l), some (.ref D), y3] ∧ Kp b H H' ∧ Bg H' b c ∧ H' D = some (.lst ys) ∧ ys ∈ mixF (xs.take i) ∧ ys.length = i) ⟨_, [], rfl, Kp.of sD, hB.same sD, upd_same, by simp [mixF], rfl⟩
    (fun i σ H' _ e => by obtain ⟨_, _, _, k, _⟩ := e; exact SqL.of (k _ _ nlb hl)) ?_ ?_⟩
  · rintro i v σ Ha hv ⟨y3, ys, rfl, ka, Ba, ea, hm, ln⟩
    have hi : i < xs.length := (List.getElem?_eq_some_iff.mp hv).1
    refine ⟨_, rfl, .inl ⟨rfl, _, SqL.of ea⟩, _, rfl, _, rfl, .ref D, _, rfl, .inl ⟨_, SqL.of ea, rfl⟩, _, _, rfl, rfl, b, c, (ys.length : Int) + 1, rfl, Ba, by omega, by omega, fun v1 H1 v0 v9 k1 B1 => ?_⟩
    refine ⟨_, rfl, D, ys, v1, v, rfl, rfl, k1 _ _ nDb ea, Nat.lt_of_lt_of_le (small1000 (by omega)) (Nat.le_refl _), v0, by omega, ?_⟩
    refine ⟨_, _, rfl, fun x o nx hx => ?_, B1.kp (d := D) nDb nDc Kp.upd, upd_same, ?_, ?_⟩
    · rw [upd_ne (ne_of_none hx hD)]
      exact k1 _ _ nx (ka _ _ nx hx)
    · rw [List.take_add_one, hv]
      exact mixF_ins hm (by omega)
    · rw [List.length_append, List.length_append, List.length_take, List.length_drop, List.length_singleton]
      omega
  · rintro σ H1 ⟨y3, ys, rfl, k1, B1, e1, hm, ln⟩
    rw [List.take_length] at hm
    exact ⟨_, rfl, q H1 D ys k1 B1 hD nDb e1 hm⟩
end
end My
/-! multiple of ones and twos; Table._numbers -/
namespace My
open PySem PySem.Spec PyProof.Rows L2
def rLcm : List V → Hp → VK → Prop := fun vs H Q => ∃ a b : Int, vs = [.int a, .int b] ∧ a.natAbs < 2 ^ 200 ∧ b.natAbs < 2 ^ 200 ∧ Q (.int ((Nat.lcm a.natAbs b.natAbs : Nat) : Int)) H
theorem lcm_le (m n : Nat) : Nat.lcm m n ≤ m * n := by
  unfold Nat.lcm
  exact Nat.div_le_self _ _
theorem cr_lcm {X : Cx} : CallR X (.builtin "math.lcm") rLcm := by
  intro pins s σ H vs us Q I r h
  obtain ⟨a, b, rfl, ha, hb, q⟩ := h
  obtain ⟨t, u, rfl⟩ := Vals.int2 r
  have h1 : (max 1 a.natAbs).log2 ≤ 199 := PySem.W.mg_log (by show max 1 a.natAbs < 2 ^ 200; omega)
  have h2 : (max a.natAbs b.natAbs).log2 ≤ 199 := PySem.W.mg_log (by show max a.natAbs b.natAbs < 2 ^ 200; omega)
  have e1 : Nat.lcm 1 a.natAbs = a.natAbs := PySem.W.mc_lcm_one _
  have hm : a.natAbs.lcm b.natAbs < 2 ^ 400 := by
    refine Nat.lt_of_le_of_lt (lcm_le _ _) ?_
    rw [show (400 : Nat) = 200 + 200 from rfl, Nat.pow_add]
    exact Nat.mul_lt_mul'' ha hb
  have h3 : (a.natAbs.lcm b.natAbs).log2 ≤ 399 := PySem.W.mg_log hm
  have hsz : ((((Nat.lcm 1 a.natAbs).lcm b.natAbs : Nat) : Int)).natAbs.log2 < bitsLine := by
    rw [e1, Int.natAbs_natCast]
    refine Nat.lt_of_le_of_lt h3 ?_
    decide
  refine PySem.call_function_meets PySem.W.MGF.kind_lcm PySem.W.MGF.plain_lcm PySem.W.MGF.entry_lcm (PySem.W.MGF.args_lcm _ _) (PySem.W.mg_run_lcm a t b u (by omega) (by omega) hsz).meets ?_
  rw [e1]
  exact ⟨.int _, H, I.tok _, ⟨_, rfl⟩, q⟩
structure HasR (P : Program) (w : World) (K : PySem.W.Frag) (mg : Str → Option Value) (base : Heap) (k : Nat) (x : Str) (sp : Sp) : Prop where
  ex : ∃ f : Addr, FnR P w K mg base CX0 k f sp ∧ mg x = some (.ref f) ∧ PySem.W.keepIn K (.ref f) = true
def tOwnS (K : PySem.W.Frag) (sp : Sp) (te : TE) : TE := fun σ H Q => te σ H fun y H1 => ∃ a xs, y = V.ref a ∧ (SqT K H1 a xs ∨ SqL K H1 a xs) ∧ sp xs H1 Q E0
theorem pe_ownS {X : Cx} {k : Nat} {x : Str} {sp : Sp} {p pos : Pos} {e : Expr} {te : TE} {q : Pos} (K : PySem.W.Frag) (hK : X.K = K) (h : HasR X.prog X.w X.K X.mg X.base k x sp) (hr : Room k X.A) (hg : Gl X x) (he : PE X e te) (hdb : (x == ("__debug__" : Str)) = false := by decide) :
    PE X (.Call (.Name x p) [.Starred e q] [] pos) (tOwnS K sp te) := by
  subst hK
  obtain ⟨f, F, m, kp⟩ := h.ex
  exact StX.pe_callS1 F hr kp hg m pass0 he (hd := hdb)
structure TxtL (mg : Str → Option Value) : Prop where
  m_lcm : mg "lcm" = some (.builtin "math.lcm")
/-- the least common multiple of ones and twos -/
def mul2 (ns : List Nat) : Nat := if 2 ∈ ns then 2 else 1
def Small2 (ns : List Nat) : Prop := ∀ n ∈ ns, n = 1 ∨ n = 2
abbrev intsN (ns : List Nat) : List V := ns.map fun (n : Nat) => V.int (n : Int)
def spTup2 : Sp := fun vs H Q _ => ∃ (p : Addr) (ns : List Nat), vs = [.ref p] ∧ H p = some (.tup (intsN ns)) ∧ Small2 ns ∧ ns.length ≤ 1000 ∧ Q (.int (mul2 ns : Nat)) H
def spMul2 : Sp := fun vs H Q _ => ∃ ns : List Nat, vs = intsN ns ∧ Small2 ns ∧ ns.length ≤ 1000 ∧ ∀ H', Same H H' → Q (.int (mul2 ns : Nat)) H'
theorem mul2_snoc {ns : List Nat} {n i : Nat} (h : ns[i]? = some n) (hn : n = 1 ∨ n = 2) : Nat.lcm (mul2 (ns.take i)) n = mul2 (ns.take (i + 1)) := by
  have e : ns.take (i + 1) = ns.take i ++ [n] := by
    rw [List.take_add_one, h]
    rfl
  rw [e]
  unfold mul2
  by_cases m : 2 ∈ ns.take i
  · rw [if_pos m, if_pos (List.mem_append.mpr (.inl m))]
    rcases hn with rfl | rfl <;> decide
  · rw [if_neg m]
    rcases hn with rfl | rfl
    · rw [if_neg (fun z => by rcases List.mem_append.mp z with z | z; exact m z; simp at z)]
      decide
    · rw [if_pos (List.mem_append.mpr (.inr (by simp)))]
      decide
theorem mul2_le (ns : List Nat) : 1 ≤ mul2 ns ∧ mul2 ns ≤ 2 := by
  unfold mul2
  split <;> decide
/-- what _numbers finds -/
def spNumbers (C : Addr) : Sp := fun vs H Q _ => ∃ (p Pq dx : Addr) (n z e : Nat) (f t : Nat → Nat → Nat) (o : Nat → Nat) (fs : List (Str × V)), vs = [.ref p] ∧ TabAt H p C n z f o fs ∧ H p = some (.ins C dx fs) ∧ fs.lookup ("_products" : Str) = some (.ref Pq) ∧ GridT H Pq n t ∧ Lt n t ∧
  fs.lookup ("_one_place" : Str) = some (.int e) ∧ e < n ∧ fs.lookup ("_difference_order" : Str) = none ∧ fs.lookup ("_plus" : Str) = none ∧ fs.lookup ("_times" : Str) = none ∧ n ≤ 16 ∧
  Small2 (LcN.flat2 n fun x y => diffM f z o (t x y) (t y x)) ∧ Small2 ((List.range n).map fun x => diffM f z o (t x x) x) ∧
  ∀ (H' : Hp) (N : Addr), Same H H' → H' N = some (.tup [.int (o e : Nat), .int (mul2 (LcN.flat2 n fun x y => diffM f z o (t x y) (t y x)) : Nat), .int (mul2 ((List.range n).map fun x => diffM f z o (t x x) x) : Nat)]) → Q (.ref N) H'
section
variable {P : Program} {w : World} {K : PySem.W.Frag} {mg : Str → Option Value} {base : Heap} {C : Addr}
theorem ok_multiple (F : ∃ (f : Addr) (fd : FuncData), Fun K "multiple" "multiple" s_multiple f fd ∧ mg "multiple" = some (.ref f)) (T : TxtL mg) : HasR P w K mg base 1 "multiple" spMul2 := by
  obtain ⟨f, fd, F, m⟩ := F
  have kp := F.kp
  obtain ⟨oc, od, kV, doc, pm, an, cdv, ct, osl, rfl, lk, hcd⟩ := F.ex
  have R := StX.fn_star (P := P) (w := w) (mg := mg) (base := base) (CX := CX0) (k := 0) (sp := spTup2) (ps := []) (pv := "numbers") (N := N_multiple) lk hcd sc_multiple StX.cxUp_none (fun us rest hl => match us, rest, hl with | [], [], _ => rfl | [], _ :: _, _ => rfl) (fun A outer s H vs Q E hr h => by
    obtain ⟨p, ns, rfl, hp, hs, hl, q⟩ := h
    refine ⟨_, PSs.nox (pss_cons (ps_set (i := 1) sc_multiple.nd rfl (Or.inl rfl) pe_int)
      (pss_cons (ps_for PassesOwn.never rfl (pi_tup (pv 0)) (pg_name (i := 2) sc_multiple.nd rfl (Or.inl rfl))
        (pss_one (ps_set (i := 1) sc_multiple.nd rfl (Or.inl rfl) (pe_callBfun cr_lcm (by rfl) T.m_lcm (pa_cons (pv 1) (pa_cons (pv 2) pa_nil))))))
      (pss_one (ps_ret (pv 1))))), ?_⟩
    refine ⟨_, rfl, p, rfl, ⟨_, SqT.of hp⟩, for_tup (fun i σ H' => ∃ y, σ = [some (.ref p), some (.int ((mul2 (ns.take i) : Nat) : Int)), y] ∧ H' = H) ⟨none, rfl, rfl⟩ (fun i σ H' _ ⟨_, _, e⟩ => e ▸ SqT.of hp) ?_ ?_⟩
    · rintro i x σ H' hx ⟨y, rfl, rfl⟩
      obtain ⟨n, hn, rfl⟩ : ∃ n : Nat, ns[i]? = some n ∧ x = V.int (n : Int) := by
        rw [List.getElem?_map] at hx
        cases e : ns[i]? with
        | none => rw [e] at hx; cases hx
        | some n => rw [e] at hx; exact ⟨n, rfl, (Option.some.inj hx).symm⟩
      have b1 := mul2_le (ns.take i)
      have b2 := hs n (List.mem_of_getElem? hn)
      refine ⟨_, rfl, _, rfl, _, _, rfl, ?_, ?_, some (.int (n : Int)), ?_, rfl⟩
      · rw [Int.natAbs_natCast]
        exact Nat.lt_of_le_of_lt b1.2 (by decide)
      · rw [Int.natAbs_natCast]
        rcases b2 with rfl | rfl <;> decide
      · rw [Int.natAbs_natCast, Int.natAbs_natCast, mul2_snoc hn b2]
        rfl
    · rintro σ H' ⟨y, rfl, rfl⟩
      rw [List.length_map, List.take_length]
      exact ⟨_, rfl, q⟩)
  refine ⟨f, R.imp fun vs H Q E ⟨ns, ev, hs, hl, q⟩ => ⟨[], vs, rfl, rfl, ?_, fun p hp => ⟨p, ns, rfl, ?_, hs, hl, q _ (same_upd hp)⟩⟩, m, kp⟩
  · rw [ev, List.length_map]
    exact Nat.le_trans hl (by decide)
  · rw [ev]
    exact upd_same
theorem ok_numbers (F : FnM K C "_numbers" "Table._numbers" s_Table__numbers ["self"]) (B : Blt mg) (T : ClsT K C) (M__difference_order : HasM P w K mg base 2 C "_difference_order" ["self", "x", "y"] (spDiff C)) (G_multiple : HasR P w K mg base 1 "multiple" spMul2) :
    HasM P w K mg base 3 C "_numbers" ["self"] (spNumbers C) := by
  refine F.has sc_Table__numbers (fun vs H Q E h => ?_) (fun f cdv A outer s H vs Q E hr h => ?_)
  · obtain ⟨p, a, b, n, z, e, f, t, o, fs, rfl, _⟩ := h
    rfl
  obtain ⟨p, Pq, dx, n, z, e, f, t, o, fs, rfl, tb, hp, hP, GP, lt, he, hen, nd, np, nt, hn, sm1, sm2, q⟩ := h
  obtain ⟨S, O, dx', hp', hS, hz, hO, gO, G⟩ := id tb.ex
  rw [hp] at hp'
  cases hp'
  have cl_ := T.cl
  refine ⟨_, (pss_cons (ps_set (i := 1) sc_Table__numbers.nd rfl (Or.inr rfl) (pe_callTy LcN.cr_range1 (by rfl) B.range bb_range (pa_cons (pe_callB call_len (by rfl) B.len bb_len (pa_cons (L2.pe_fld (pv 0) rfl) pa_nil)) pa_nil)))
      (pss_cons (ps_set (i := 2) sc_Table__numbers.nd rfl (Or.inr rfl) (L2.pe_fld (pv 0) rfl))
      (pss_cons (LcN.ps_setLcN (i := 3) (own := [("x", 4), ("y", 5)]) (ws := [5]) (g := gName 4) (tt := tYes) rfl sc_Table__numbers.nd rfl rfl (sw_true rfl rfl rfl (by decide +kernel)) (LcN.pi_rng (pv 1)) (blkOk_by (own := [("x", 4), ("y", 5)]) (N := N_Table__numbers) (sc := defScope s_Table__numbers) (by decide +kernel)) (by decide) (.inr ⟨_, _, _, rfl⟩) (fun _ _ _ _ _ => (pg_name (i := 4) sc_Table__numbers.nd rfl (Or.inl rfl))) (fun _ _ _ _ _ => pts_nil) (fun _ _ _ _ _ => (LcN.inner_more (g := gName 5) (tt := tYes) (vs := [5]) rfl rfl rfl (.inl rfl) (LcN.pi_rng (pv 1)) (pg_name (i := 5) sc_Table__numbers.nd rfl (Or.inl rfl)) pts_nil
          (LcN.inner_last rfl rfl (pe_ownM cl_ M__difference_order (hr.mono (by decide)) (pv 0) (pa_cons (pe_ix (LcN.ix_tupK K rfl) (pe_ix (LcN.ix_tupK K rfl) (pv 2) (pv 4) (fun _ _ => rfl)) (pv 5) (fun _ _ => rfl)) (pa_cons (pe_ix (LcN.ix_tupK K rfl) (pe_ix (LcN.ix_tupK K rfl) (pv 2) (pv 5) (fun _ _ => rfl)) (pv 4) (fun _ _ => rfl)) pa_nil)))) (by decide) (fun _ => rfl))))
      (pss_cons (ps_setLc (i := 6) (own := [("x", 4)]) (g := gName 4) (tt := tYes) (by rfl) sc_Table__numbers.nd rfl rfl (sw_true rfl rfl rfl (by decide +kernel)) (LcN.pi_rng (pv 1)) (blkOk_by (own := [("x", 4)]) (N := N_Table__numbers) (sc := defScope s_Table__numbers) (by decide +kernel)) (fun _ _ _ _ _ => (pg_name (i := 4) sc_Table__numbers.nd rfl (Or.inl rfl))) (fun _ _ _ _ _ => pts_nil) (fun _ _ _ _ _ => (pe_ownM cl_ M__difference_order (hr.mono (by decide)) (pv 0) (pa_cons (pe_ix (LcN.ix_tupK K rfl) (pe_ix (LcN.ix_tupK K rfl) (pv 2) (pv 4) (fun _ _ => rfl)) (pv 4) (fun _ _ => rfl)) (pa_cons (pv 4) pa_nil)))))
      (pss_one (ps_ret (pe_tup (pa_cons (pe_ix ix_list (L2.pe_fld (pv 0) rfl) (L2.pe_fld (pv 0) rfl) (fun _ _ => rfl)) (pa_cons (pe_ownS K rfl G_multiple (hr.mono (by decide)) (by rfl) (pv 3)) (pa_cons (pe_ownS K rfl G_multiple (hr.mono (by decide)) (by rfl) (pv 6)) pa_nil)))))))))), ?_⟩
  obtain ⟨r, g1, g2⟩ := id G.at_
  obtain ⟨r2, h1, h2⟩ := id GP.at_
  refine ⟨_, rfl, p, C, dx, _, _, rfl, hp, T.cl, T.n_sums, hS, .ref S, n, rfl, .inr ⟨_, SqT.of g1, by simp⟩, _, rfl, fun rg hrg => ?_⟩
  have s1 : Same H (upd H rg (.rng 0 n)) := same_upd hrg
  dsimp only [gName]
  refine ⟨_, rfl, p, C, dx, _, _, rfl, s1 _ _ hp, T.cl, T.n_products, hP, ?_⟩
  have len2 : (LcN.flat2 n fun x y => diffM f z o (t x y) (t y x)).length ≤ 1000 := by
    rw [LcN.len_flat2]
    have : n * n ≤ 16 * 16 := Nat.mul_le_mul hn hn
    omega
  refine asg1 (LcN.rd2 (n := n) (p := rg) (fun x y => V.int ((diffM f z o (t x y) (t y x) : Nat) : Int)) (by decide) (by decide) rfl (fun _ => rfl) upd_same (by omega) (fun D hD x y hx hy acc Q' q' => ?_) (fun D hD => ?_))
  · have s2 : Same H (upd (upd H rg (.rng 0 n)) D (.lst acc)) := s1.trans (same_upd hD)
    exact ⟨_, rfl, p, dx, fs, rfl, s2 _ _ hp, nd, _, rfl, _, rfl, Pq, _, _, _, rfl, rfl, SqT.of (s2 _ _ h1), at_range hx, _, rfl, r2 x, _, _, _, rfl, rfl, SqT.of (s2 _ _ (h2 x hx)), at_range hy, _, rfl, _, rfl, Pq, _, _, _, rfl, rfl, SqT.of (s2 _ _ h1), at_range hy, _, rfl, r2 y, _, _, _, rfl, rfl, SqT.of (s2 _ _ (h2 y hy)), at_range hx,
      p, n, z, t x y, t y x, f, o, fs, rfl, tb.same s2, np, nt, lt x y hx hy, lt y x hy hx, q'⟩
  have s2 : Same (upd H rg (.rng 0 n)) (upd (upd H rg (.rng 0 n)) D (.lst (LcN.flat2 n fun x y => V.int ((diffM f z o (t x y) (t y x) : Nat) : Int)))) := same_upd hD
  have eD : (upd (upd H rg (.rng 0 n)) D (.lst (LcN.flat2 n fun x y => V.int ((diffM f z o (t x y) (t y x) : Nat) : Int)))) D = some (.lst (intsN (LcN.flat2 n fun x y => diffM f z o (t x y) (t y x)))) := by
    unfold intsN
    rw [map_flat2 (fun (n : Nat) => V.int (n : Int))]
    exact upd_same
  have hpr := s2 _ _ (upd_same (H := H) (a := rg) (o := .rng 0 n))
  generalize upd (upd H rg (.rng 0 n)) D (.lst (LcN.flat2 n fun x y => V.int ((diffM f z o (t x y) (t y x) : Nat) : Int))) = H2 at s2 eD hpr ⊢
  have s12 := s1.trans s2
  dsimp only
  refine ⟨_, rfl, rg, (n : Int), rfl, hpr, by omega, by omega, fun D2 hD2 => ?_⟩
  refine lc_range (lo := 0) (n := n) (fun j H3 => H3 = upd H2 D2 (.lst (intsN ((List.range j).map fun x => diffM f z o (t x x) x)))) rfl (fun j H3 hj e => ?_) (fun H3 e => ?_)
  · subst e
    rw [Int.zero_add]
    have s3 : ∀ acc, Same H (upd H2 D2 (.lst acc)) := fun acc => s12.trans (same_upd hD2)
    refine ⟨rfl, tYes_ok ⟨_, rfl, p, dx, fs, rfl, s3 _ _ _ hp, nd, _, rfl, _, rfl, Pq, _, _, _, rfl, rfl, SqT.of (s3 _ _ _ h1), at_range hj, _, rfl, r2 j, _, _, _, rfl, rfl, SqT.of (s3 _ _ _ (h2 j hj)), at_range hj, _, rfl,
      p, n, z, t j j, j, f, o, fs, rfl, tb.same (s3 _), np, nt, lt j j hj hj, hj, _, upd_same, ?_, ?_⟩⟩
    · rw [List.length_map, List.length_map, List.length_range]
      exact LcN.small100 (by omega)
    · rw [upd_upd, LcN.map_succ]
      simp [intsN]
  subst e
  have s3 := same_upd (o := .lst (intsN ((List.range n).map fun x => diffM f z o (t x x) x))) hD2
  have eD2 : (upd H2 D2 (.lst (intsN ((List.range n).map fun x => diffM f z o (t x x) x)))) D2 = some (.lst (intsN ((List.range n).map fun x => diffM f z o (t x x) x))) := upd_same
  generalize upd H2 D2 (.lst (intsN ((List.range n).map fun x => diffM f z o (t x x) x))) = H3 at s3 eD2 ⊢
  have s13 := s12.trans s3
  refine ⟨_, rfl, p, C, dx, _, _, rfl, s13 _ _ hp, T.cl, T.n_orders, hO, _, rfl, p, C, dx, _, _, rfl, s13 _ _ hp, T.cl, T.n_one, he, O, _, _, _, rfl, rfl, SqL.of (s13 _ _ gO), at_range hen, ?_⟩
  refine ⟨_, rfl, D, _, rfl, .inr (SqL.of (s3 _ _ eD)), _, rfl, sm1, len2, fun H4 s4 => ?_⟩
  refine ⟨_, rfl, D2, _, rfl, .inr (SqL.of (s4 _ _ eD2)), _, rfl, sm2, by rw [List.length_map, List.length_range]; omega, fun H5 s5 => ⟨by show 3 ≤ sizeLine; decide, fun N hN => ?_⟩⟩
  exact q _ N (s13.trans (s4.trans (s5.trans (same_upd hN)))) upd_same
end
end My
/-! rules within a comprehension: the written part given from outside -/
namespace NK
open PySem PySem.Spec PyProof.Rows L2
section
variable {X : Cx} {tg : Expr}
theorem pi_listK (K : PySem.W.Frag) (hK : X.K = K) {l : Expr} {tl : TE} (hl : PE X l tl) : PI X tg l (iList K tl) := by
  subst hK
  exact pi_list hl
theorem pi_tupK (K : PySem.W.Frag) (hK : X.K = K) {l : Expr} {tl : TE} (hl : PE X l tl) : PI X tg l (iTup K tl) := by
  subst hK
  exact pi_tup hl
theorem pe_joinK (K : PySem.W.Frag) (hK : X.K = K) {o e : Expr} {to te : TE} {apos pos : Pos} (ho : PE X o to) (he : PE X e te) (hs : starEach [e] X.env = [(false, eval e X.env)] := by rfl) (hbase : attributeBase o "join" X.env (eval o X.env) = eval o X.env := by rfl) (hline : (apos.endLine == pos.line) = true := by rfl) :
    PE X (.Call (.Attribute o "join" apos) [e] [] pos) (tM1 (fun x xs H Q => ∃ a p, ∃ ys : List Str, x = .str a ∧ xs = [.ref p] ∧ (SqL K H p (ys.map V.str) ∨ SqT K H p (ys.map V.str)) ∧
      (ys.map (·.length)).sum + ys.length * a.length ≤ 16777216 ∧ Q (.str (Txt.join a ys)) H) to te) := by
  subst hK
  exact pe_join ho he hs hbase hline
theorem call_lenK (K : PySem.W.Frag) (hK : X.K = K) : CallR X (.builtin "len") (fun xs H Q => ∃ x n, xs = [x] ∧ LenV K x H n ∧ Q (.int n) H) := by
  subst hK
  exact call_len
theorem cr_sumK (K : PySem.W.Frag) (hK : X.K = K) (hc : X.calm = true) : CallR X (.builtin "sum") (rSum K) := by
  subst hK
  exact cr_sum hc
theorem cr_allK (K : PySem.W.Frag) (hK : X.K = K) (hc : X.calm = true) : CallR X (.builtin "all") (rAll K) := by
  subst hK
  exact cr_all hc
theorem cr_anyK (K : PySem.W.Frag) (hK : X.K = K) (hc : X.calm = true) : CallR X (.builtin "any") (rAny K) := by
  subst hK
  exact cr_any hc
theorem call_tuple_ofK (K : PySem.W.Frag) (hK : X.K = K) : CallR X (.type "tuple") (fun xs H Q => ∃ p ys, xs = [.ref p] ∧ ((SqL K H p ys ∧ ∀ l, H l = none → Q (.ref l) (upd H l (.tup ys))) ∨ (SqT K H p ys ∧ Q (.ref p) H))) := by
  subst hK
  exact call_tuple_of
theorem call_list_ofK (K : PySem.W.Frag) (hK : X.K = K) : CallR X (.type "list") (fun xs H Q => ∃ p ys, xs = [.ref p] ∧ (SqL K H p ys ∨ SqT K H p ys) ∧ ∀ l, H l = none → Q (.ref l) (upd H l (.lst ys))) := by
  subst hK
  exact call_list_of
theorem pi_zipAK (K : PySem.W.Frag) (hK : X.K = K) {e e2 : Expr} {ta : TA} {p pos tpos : Pos} {elts : List Expr} {kk : Nat} (hg : Gl X "zip") (hm : X.mg "zip" = none) (ha : PA X [e, e2] ta)
    (hs : starEach [e, e2] X.env = (false, eval e X.env) :: starEach [e2] X.env := by rfl) (hpl : (backTo pos (starEach [e2] X.env)).any (·.1) = false := by rfl) :
    PI X (.Tuple elts kk tpos) (.Call (.Name "zip" p) [e, e2] [] pos) (RZ.iZipA K ta) := by
  subst hK
  exact RZ.pi_zipA hg hm ha hs hpl
theorem pi_enumK (K : PySem.W.Frag) (hK : X.K = K) {e : Expr} {ta : TA} {p pos tpos : Pos} {elts : List Expr} {kk : Nat} (hg : Gl X "enumerate") (hm : X.mg "enumerate" = none) (ha : PA X [e] ta) (hs : starEach [e] X.env = (false, eval e X.env) :: starEach [] X.env := by rfl) :
    PI X (.Tuple elts kk tpos) (.Call (.Name "enumerate" p) [e] [] pos) (iEnum K ta) := by
  subst hK
  exact pi_enum hg hm ha hs
end
end NK
/-! Table.__init__ -/
namespace My
open PySem PySem.Spec PyProof.Rows L2
theorem sc_Table_init : SupX.SupScope N_Table_init ["self", "plus", "times"] (defScope s_Table_init) := ⟨rfl, rfl, rfl, by decide +kernel, rfl, by decide +kernel, by decide +kernel, rfl, by decide +kernel, rfl⟩
theorem gridT_of {H : Hp} {a : Addr} {n : Nat} {f : Nat → Nat → Nat} {us : List Addr} (h : H a = some (.tup (us.map V.ref))) (hl : us.length = n) (g : ∀ j u, us[j]? = some u → H u = some (.tup ((List.range n).map fun y => V.int ((f j y : Nat) : Int)))) : GridT H a n f := by
  refine ⟨fun x => us.getD x 0, ?_, fun x hx => ?_⟩
  · rw [h]
    refine congrArg (fun z => some (HO.tup z)) ?_
    apply List.ext_getElem?
    intro i
    rw [List.getElem?_map, List.getElem?_map]
    by_cases hi : i < n
    · rw [List.getElem?_range hi]
      have e : us.getD i 0 = us[i]'(by omega) := by rw [List.getD_eq_getElem?_getD, List.getElem?_eq_getElem (by omega)]; rfl
      show Option.map V.ref us[i]? = some (V.ref (us.getD i 0))
      rw [e, List.getElem?_eq_getElem (by omega)]
      rfl
    · rw [List.getElem?_eq_none (by omega), List.getElem?_eq_none (by rw [List.length_range]; omega)]
      rfl
  · refine g x _ ?_
    show us[x]? = some (us.getD x 0)
    rw [List.getD_eq_getElem?_getD, List.getElem?_eq_getElem (by omega)]
    rfl
def TabErr (CE : Addr) (z : Str) (E : XK) (H : Hp) : Prop := ∀ H' d, Same H H' → H' d = none → E (.ref CE) (some d) (upd H' d (.xd (errD "rule" "InvalidTable" (.str z))))
structure GoodT (n : Nat) (f t : Nat → Nat → Nat) (o : Nat → Nat) (z e : Nat) : Prop where
  ck : checkM n f t = none
  nz : neutralM n f = some z
  ne : neutralM n t = some e
  od : ∀ x, x < n → ordF 17 f z x x 1 = some (o x)
  o0 : ∀ x, x < n → 0 < o x ∧ o x ≤ 100
  s1 : Small2 (LcN.flat2 n fun x y => diffM f z o (t x y) (t y x))
  s2 : Small2 ((List.range n).map fun x => diffM f z o (t x x) x)
def spTabInit (K : PySem.W.Frag) (C CE : Addr) : Sp := fun vs H Q E => ∃ (p dx a b : Addr) (n : Nat) (f t : Nat → Nat → Nat), vs = [.ref p, .ref a, .ref b] ∧ H p = some (.ins C dx []) ∧ Grid K H a n f ∧ Lt n f ∧ Grid K H b n t ∧ Lt n t ∧ 2 ≤ n ∧ n ≤ 16 ∧
  ((∃ z, checkM n f t = some z ∧ TabErr CE z E H) ∨
   (∃ (o : Nat → Nat) (z e : Nat), GoodT n f t o z e ∧ ∀ (H' : Hp) (fs' : List (Str × V)), Kp p H H' → H' p = some (.ins C dx fs') → fs'.lookup ("_ones" : Str) = some (.int (o e : Nat)) →
      fs'.lookup ("_swaps" : Str) = some (.int (mul2 (LcN.flat2 n fun x y => diffM f z o (t x y) (t y x)) : Nat)) → fs'.lookup ("_squares" : Str) = some (.int (mul2 ((List.range n).map fun x => diffM f z o (t x x) x) : Nat)) → Q .non H'))
theorem find_lt {n : Nat} {f : Nat → Nat → Nat} {e : Nat} (h : neutralM n f = some e) : e < n := List.mem_range.mp (List.mem_of_find?_eq_some h)
section
variable {P : Program} {w : World} {K : PySem.W.Frag} {mg : Str → Option Value} {base : Heap} {C CE : Addr}
theorem ok_table_init {f cc cda fR : Addr} {fd : FuncData} (S : SupX.SupFn P K f fd "__init__" "Table.__init__" s_Table_init cc cda C) (hms : mg "super" = none) (Ab : SupX.Above K C C fR) (RI : FnR P w K mg base (L2.CX P w) 3 fR (spRingInit C)) (B : Blt mg) (T : ClsT K C)
    (G_check_rules : HasX P w K mg base 6 "check_rules" ["plus", "times"] (spCheck K CE)) (G_neutral : Has P w K mg base 1 "neutral" ["rows"] (spNeutral K)) (M__order : HasM P w K mg base 1 C "_order" ["self", "x"] (spOrder C)) (M__numbers : HasM P w K mg base 3 C "_numbers" ["self"] (spNumbers C)) :
    FnOk P w K mg base (L2.CX P w) 8 f fd ["self", "plus", "times"] (spTabInit K C CE) := by
  have cl_ := T.cl
  refine SupX.fnS_of (pre := (defBody s_Table_init).take 6) (k := 7) (f2 := fR) (ar := (((defArgs s_Table_init).posonlyargs ++ (defArgs s_Table_init).args).head?).get rfl) S sc_Table_init rfl rfl (Or.inr (Or.inl rfl)) rfl rfl hms (fun L => ⟨⟨_, rfl⟩, rfl, rfl, rfl, rfl⟩) (fun vs H Q E h => ?_) (fun A outer s H vs Q E hr h => ?_)
  · obtain ⟨p, dx, a, b, n, f, t, rfl, _⟩ := h
    rfl
  obtain ⟨p, dx, a, b, n, fp, tp, rfl, hp, Ga, la, Gb, lb, hn2, hn, h⟩ := h
  have TK : Takes (SupX.cxS (L2.CX P w) P w K mg base N_Table_init "Table.__init__" (defScope s_Table_init) f (.ref cda) cc A outer s H E) (fun cls d _ H => E cls d H) := takes_of rfl rfl rfl rfl
  refine ⟨_, _, spRingInit C, E0, (pss_cons (ps_expr (pe_ownE G_check_rules TK (hr.mono (by decide)) (by rfl) (pa_cons (pv 1) (pa_cons (pv 2) pa_nil))))
      (pss_cons (ps_fld (pv 0) (pe_callTy call_tuple_of (by rfl) B.tuple bb_tuple (pa_cons (pe_lc (own := [("row", 3)]) (g := gName 3) (tt := tYes) (by rfl) sc_Table_init.nd (pi_list (pv 1)) (blkOk_by (own := [("row", 3)]) (N := N_Table_init) (sc := defScope s_Table_init) (by decide +kernel)) (fun _ _ _ _ _ => (pg_name (i := 3) sc_Table_init.nd rfl (Or.inl rfl))) (fun _ _ _ _ _ => pts_nil) (fun _ _ _ _ _ => (pe_callTy (NK.call_tuple_ofK K rfl) (by rfl) B.tuple bb_tuple (pa_cons (pv 3) pa_nil)))) pa_nil)) rfl)
      (pss_cons (ps_fld (pv 0) (pe_callTy call_tuple_of (by rfl) B.tuple bb_tuple (pa_cons (pe_lc (own := [("row", 3)]) (g := gName 3) (tt := tYes) (by rfl) sc_Table_init.nd (pi_list (pv 2)) (blkOk_by (own := [("row", 3)]) (N := N_Table_init) (sc := defScope s_Table_init) (by decide +kernel)) (fun _ _ _ _ _ => (pg_name (i := 3) sc_Table_init.nd rfl (Or.inl rfl))) (fun _ _ _ _ _ => pts_nil) (fun _ _ _ _ _ => (pe_callTy (NK.call_tuple_ofK K rfl) (by rfl) B.tuple bb_tuple (pa_cons (pv 3) pa_nil)))) pa_nil)) rfl)
      (pss_cons (ps_fld (pv 0) (pe_own G_neutral (hr.mono (by decide)) (by rfl) (pa_cons (pv 1) pa_nil)) rfl)
      (pss_cons (ps_fld (pv 0) (pe_own G_neutral (hr.mono (by decide)) (by rfl) (pa_cons (pv 2) pa_nil)) rfl)
      (pss_one (ps_fld (pv 0) (pe_lc (own := [("x", 4)]) (g := gName 4) (tt := tYes) (by rfl) sc_Table_init.nd (pi_range1 (by rfl) B.range (pa_cons (pe_callB call_len (by rfl) B.len bb_len (pa_cons (pv 1) pa_nil)) pa_nil)) (blkOk_by (own := [("x", 4)]) (N := N_Table_init) (sc := defScope s_Table_init) (by decide +kernel)) (fun _ _ _ _ _ => (pg_name (i := 4) sc_Table_init.nd rfl (Or.inl rfl))) (fun _ _ _ _ _ => pts_nil) (fun _ _ _ _ _ => (pe_ownM cl_ M__order (hr.mono (by decide)) (pv 0) (pa_cons (pv 4) pa_nil)))) rfl))))))), RI.mono (by decide), passL, (pa_cons (pe_tup (pa_cons pe_str (pa_cons (L2.pe_fld (pv 0) rfl) (pa_cons (L2.pe_fld (pv 0) rfl) pa_nil)))) (pa_cons (pe_ownM0 cl_ M__numbers (hr.mono (by decide)) (pv 0)) (pa_cons (pe_tup pa_nil) pa_nil))), ?_⟩
  have kgrid : ∀ {H H' : Hp} {q x : Addr} {m : Nat} {g : Nat → Nat → Nat} {fs : List (Str × V)}, Grid K H x m g → H q = some (.ins C dx fs) → Kp q H H' → Grid K H' x m g := fun G hq k => by
    obtain ⟨r, h1, h2⟩ := G.at_
    exact ⟨r, k _ _ (ne_of h1 hq (by intro q; cases q)) h1, fun x hx => k _ _ (ne_of (h2 x hx) hq (by intro q; cases q)) (h2 x hx)⟩
  refine ⟨_, rfl, _, rfl, a, b, n, fp, tp, rfl, Ga, la, Gb, lb, hn2, hn, fun ck H1 s1 => ?_, fun z ck H1 d s1 hd => ?_⟩
  rotate_left
  · rcases h with ⟨z', hz', te⟩ | ⟨o, z', e, G, _⟩
    · rw [ck] at hz'
      cases hz'
      exact te H1 d s1 hd
    · exact absurd (G.ck.symm.trans ck) (by intro z; cases z)
  · rcases h with ⟨z', hz', te⟩ | ⟨o, z, e, G, q⟩
    · rw [ck] at hz'
      cases hz'
    have hp1 := s1 _ _ hp
    have Ga1 := Ga.same s1
    have Gb1 := Gb.same s1
    have hz := find_lt G.nz
    have he := find_lt G.ne
    obtain ⟨r2, ga2, gr2⟩ := id (Ga1).at_
    refine ⟨_, rfl, a, rfl, ⟨_, SqL.of ga2⟩, fun D2 hD2 => ?_⟩
    refine lc_it (walk_list (xs := (List.range n).map fun x => V.ref (r2 x))) (fun i H' => Same H1 H' ∧ ∃ us : List Addr, H' D2 = some (.lst (us.map V.ref)) ∧ us.length = i ∧ ∀ j u, us[j]? = some u → H' u = some (.tup ((List.range n).map fun y => V.int ((fp j y : Nat) : Int)))) ⟨same_upd hD2, [], upd_same, rfl, fun j u e => by simp at e⟩ (fun i H' _ e => SqL.of (e.1 _ _ ga2)) ?_ ?_
    · rintro i v Ha Hb hi ⟨sa, us, ea, lu, hu⟩ ⟨rfl, hv⟩
      have hi : i < n := by simpa using hi
      obtain rfl : v = V.ref (r2 i) := by
        rw [List.getElem?_map, List.getElem?_range hi] at hv
        exact (Option.some.inj hv).symm
      refine ⟨rfl, tYes_ok ⟨_, rfl, r2 i, _, rfl, .inl ⟨SqL.of (sa _ _ (gr2 i hi)), fun l hl => ?_⟩⟩⟩
      have sl := same_upd (o := .tup ((List.range n).map fun y => V.int ((fp i y : Nat) : Int))) hl
      have e2 := sl _ _ ea
      refine ⟨_, e2, ?_, fun x o hx => ?_, us ++ [l], ?_, by simp [lu], fun j u e => ?_⟩
      · rw [List.length_map, lu]
        exact LcN.small100 (by omega)
      · rw [upd_ne (ne_of_none hx hD2)]
        exact sl _ _ (sa _ _ hx)
      · rw [upd_same]
        simp
      · have keep : ∀ {q : Addr} {qs : List V}, upd Hb l (.tup ((List.range n).map fun y => V.int ((fp i y : Nat) : Int))) q = some (.tup qs) → upd (upd Hb l (.tup ((List.range n).map fun y => V.int ((fp i y : Nat) : Int)))) D2 (.lst (us.map V.ref ++ [.ref l])) q = some (.tup qs) := fun h => by
          rw [upd_ne (ne_of h e2 (by intro z; cases z))]
          exact h
        by_cases hj : j < us.length
        · rw [List.getElem?_append_left hj] at e
          exact keep (sl _ _ (hu j u e))
        · have : j = us.length := by
            have := (List.getElem?_eq_some_iff.mp e).1
            simp at this
            omega
          subst this
          rw [List.getElem?_append_right (Nat.le_refl _), Nat.sub_self] at e
          have e : l = u := by simpa using e
          subst e
          rw [lu]
          exact keep upd_same
    rintro H2 ⟨s2, us2, e2, lu2, hu2⟩
    rw [List.length_map, List.length_range] at lu2
    refine ⟨D2, _, rfl, .inl ⟨SqL.of e2, fun S2 hS2 => ?_⟩⟩
    have t2 := same_upd (o := .tup (us2.map V.ref)) hS2
    have GT2 : GridT (upd H2 S2 (.tup (us2.map V.ref))) S2 n fp := gridT_of upd_same lu2 fun j u e => t2 _ _ (hu2 j u e)
    generalize upd H2 S2 (.tup (us2.map V.ref)) = I2 at t2 GT2 ⊢
    have hp2 := t2 _ _ (s2 _ _ hp1)
    have Gb2 := (Gb1.same s2).same t2
    have Ga2 := (Ga1.same s2).same t2
    refine ⟨_, rfl, p, C, dx, [], rfl, hp2, T.cl, T.n_sums, by decide, ?_⟩
    have kA : Kp p I2 (upd I2 p (.ins C dx [("_sums", .ref S2)])) := Kp.upd
    have hp3 : (upd I2 p (.ins C dx [("_sums", .ref S2)])) p = some (.ins C dx [("_sums", .ref S2)]) := upd_same
    have k03 : Kp p H (upd I2 p (.ins C dx [("_sums", .ref S2)])) := (Kp.of (s1.trans (s2.trans t2))).trans kA
    show _
    have GT3 := GT2.kp hp2 kA
    have Gb3 := kgrid Gb2 hp2 kA
    have Ga3 := kgrid Ga2 hp2 kA
    change tSeq _ _ _ _ (upd I2 p (.ins C dx [("_sums", .ref S2)]))
    generalize upd I2 p (.ins C dx [("_sums", .ref S2)]) = H3 at hp3 k03 GT3 Gb3 Ga3 ⊢
    clear kA hp2 Gb2 Ga2 GT2
    obtain ⟨r4, ga4, gr4⟩ := id (Gb3).at_
    refine ⟨_, rfl, b, rfl, ⟨_, SqL.of ga4⟩, fun D4 hD4 => ?_⟩
    refine lc_it (walk_list (xs := (List.range n).map fun x => V.ref (r4 x))) (fun i H' => Same H3 H' ∧ ∃ us : List Addr, H' D4 = some (.lst (us.map V.ref)) ∧ us.length = i ∧ ∀ j u, us[j]? = some u → H' u = some (.tup ((List.range n).map fun y => V.int ((tp j y : Nat) : Int)))) ⟨same_upd hD4, [], upd_same, rfl, fun j u e => by simp at e⟩ (fun i H' _ e => SqL.of (e.1 _ _ ga4)) ?_ ?_
    · rintro i v Ha Hb hi ⟨sa, us, ea, lu, hu⟩ ⟨rfl, hv⟩
      have hi : i < n := by simpa using hi
      obtain rfl : v = V.ref (r4 i) := by
        rw [List.getElem?_map, List.getElem?_range hi] at hv
        exact (Option.some.inj hv).symm
      refine ⟨rfl, tYes_ok ⟨_, rfl, r4 i, _, rfl, .inl ⟨SqL.of (sa _ _ (gr4 i hi)), fun l hl => ?_⟩⟩⟩
      have sl := same_upd (o := .tup ((List.range n).map fun y => V.int ((tp i y : Nat) : Int))) hl
      have e2 := sl _ _ ea
      refine ⟨_, e2, ?_, fun x o hx => ?_, us ++ [l], ?_, by simp [lu], fun j u e => ?_⟩
      · rw [List.length_map, lu]
        exact LcN.small100 (by omega)
      · rw [upd_ne (ne_of_none hx hD4)]
        exact sl _ _ (sa _ _ hx)
      · rw [upd_same]
        simp
      · have keep : ∀ {q : Addr} {qs : List V}, upd Hb l (.tup ((List.range n).map fun y => V.int ((tp i y : Nat) : Int))) q = some (.tup qs) → upd (upd Hb l (.tup ((List.range n).map fun y => V.int ((tp i y : Nat) : Int)))) D4 (.lst (us.map V.ref ++ [.ref l])) q = some (.tup qs) := fun h => by
          rw [upd_ne (ne_of h e2 (by intro z; cases z))]
          exact h
        by_cases hj : j < us.length
        · rw [List.getElem?_append_left hj] at e
          exact keep (sl _ _ (hu j u e))
        · have : j = us.length := by
            have := (List.getElem?_eq_some_iff.mp e).1
            simp at this
            omega
          subst this
          rw [List.getElem?_append_right (Nat.le_refl _), Nat.sub_self] at e
          have e : l = u := by simpa using e
          subst e
          rw [lu]
          exact keep upd_same
    rintro H4 ⟨s4, us4, e4, lu4, hu4⟩
    rw [List.length_map, List.length_range] at lu4
    refine ⟨D4, _, rfl, .inl ⟨SqL.of e4, fun S4 hS4 => ?_⟩⟩
    have t4 := same_upd (o := .tup (us4.map V.ref)) hS4
    have GT4 : GridT (upd H4 S4 (.tup (us4.map V.ref))) S4 n tp := gridT_of upd_same lu4 fun j u e => t4 _ _ (hu4 j u e)
    generalize upd H4 S4 (.tup (us4.map V.ref)) = I4 at t4 GT4 ⊢
    have hp4 := t4 _ _ (s4 _ _ hp3)
    have Ga4 := (Ga3.same s4).same t4
    have Gb4 := (Gb3.same s4).same t4
    have GS4 := (GT3.same s4).same t4
    refine ⟨_, rfl, p, C, dx, [("_sums", .ref S2)], rfl, hp4, T.cl, T.n_products, (by show 1 < 1000; decide), ?_⟩
    have kB : Kp p I4 (upd I4 p (.ins C dx [("_sums", .ref S2), ("_products", .ref S4)])) := Kp.upd
    have hp5 : (upd I4 p (.ins C dx [("_sums", .ref S2), ("_products", .ref S4)])) p = some (.ins C dx [("_sums", .ref S2), ("_products", .ref S4)]) := upd_same
    have k05 : Kp p H (upd I4 p (.ins C dx [("_sums", .ref S2), ("_products", .ref S4)])) := (k03.trans (Kp.of (s4.trans t4))).trans kB
    have Ga5 := kgrid Ga4 hp4 kB
    have Gb5 := kgrid Gb4 hp4 kB
    have GS5 := GS4.kp hp4 kB
    have GP5 := GT4.kp hp4 kB
    change tSeq _ _ _ _ (upd I4 p (.ins C dx [("_sums", .ref S2), ("_products", .ref S4)]))
    generalize upd I4 p (.ins C dx [("_sums", .ref S2), ("_products", .ref S4)]) = H5 at hp5 k05 Ga5 Gb5 GS5 GP5 ⊢
    clear kB hp4 Ga4 Gb4 GS4 GT4 s4 t4 k03 hp3 GT3 Gb3 Ga3
    -- the zero
    refine ⟨_, rfl, a, n, fp, rfl, Ga5, hn, fun H6 s6 => ?_⟩
    rw [G.nz]
    have hp6 := s6 _ _ hp5
    refine ⟨_, rfl, p, C, dx, _, rfl, hp6, T.cl, T.n_zero, (by show 2 < 1000; decide), ?_⟩
    have kC : Kp p H6 (upd H6 p (.ins C dx [("_sums", .ref S2), ("_products", .ref S4), ("_zero_place", .int z)])) := Kp.upd
    have hp7 : (upd H6 p (.ins C dx [("_sums", .ref S2), ("_products", .ref S4), ("_zero_place", .int z)])) p = some (.ins C dx [("_sums", .ref S2), ("_products", .ref S4), ("_zero_place", .int z)]) := upd_same
    have k07 : Kp p H (upd H6 p (.ins C dx [("_sums", .ref S2), ("_products", .ref S4), ("_zero_place", .int z)])) := (k05.trans (Kp.of s6)).trans kC
    have Ga7 := kgrid (Ga5.same s6) hp6 kC
    have Gb7 := kgrid (Gb5.same s6) hp6 kC
    have GS7 := (GS5.same s6).kp hp6 kC
    have GP7 := (GP5.same s6).kp hp6 kC
    change tSeq _ _ _ _ (upd H6 p (.ins C dx [("_sums", .ref S2), ("_products", .ref S4), ("_zero_place", .int z)]))
    generalize upd H6 p (.ins C dx [("_sums", .ref S2), ("_products", .ref S4), ("_zero_place", .int z)]) = H7 at hp7 k07 Ga7 Gb7 GS7 GP7 ⊢
    clear kC hp6 Ga5 Gb5 GS5 GP5 s6 k05 hp5
    -- the one
    refine ⟨_, rfl, b, n, tp, rfl, Gb7, hn, fun H8 s8 => ?_⟩
    rw [G.ne]
    have hp8 := s8 _ _ hp7
    refine ⟨_, rfl, p, C, dx, _, rfl, hp8, T.cl, T.n_one, (by show 3 < 1000; decide), ?_⟩
    have kD : Kp p H8 (upd H8 p (.ins C dx [("_sums", .ref S2), ("_products", .ref S4), ("_zero_place", .int z), ("_one_place", .int e)])) := Kp.upd
    have hp9 : (upd H8 p (.ins C dx [("_sums", .ref S2), ("_products", .ref S4), ("_zero_place", .int z), ("_one_place", .int e)])) p = some (.ins C dx [("_sums", .ref S2), ("_products", .ref S4), ("_zero_place", .int z), ("_one_place", .int e)]) := upd_same
    have k09 : Kp p H (upd H8 p (.ins C dx [("_sums", .ref S2), ("_products", .ref S4), ("_zero_place", .int z), ("_one_place", .int e)])) := (k07.trans (Kp.of s8)).trans kD
    have Ga9 := kgrid (Ga7.same s8) hp8 kD
    have GS9 := (GS7.same s8).kp hp8 kD
    have GP9 := (GP7.same s8).kp hp8 kD
    dsimp only
    change sFld _ _ _ _ _ _ (upd H8 p (.ins C dx [("_sums", .ref S2), ("_products", .ref S4), ("_zero_place", .int z), ("_one_place", .int e)]))
    generalize upd H8 p (.ins C dx [("_sums", .ref S2), ("_products", .ref S4), ("_zero_place", .int z), ("_one_place", .int e)]) = H9 at hp9 k09 Ga9 GS9 GP9 ⊢
    clear kD hp8 Ga7 Gb7 GS7 GP7 s8 k07 hp7
    -- the orders
    obtain ⟨r9, ga9, gr9⟩ := id Ga9.at_
    refine ⟨_, rfl, .ref a, n, rfl, .inl ⟨_, SqL.of ga9, by simp⟩, (n : Int), rfl, by omega, by omega, fun O hO => ?_⟩
    refine lc_range (lo := 0) (n := n) (fun j H' => H' = upd H9 O (.lst ((List.range j).map fun x => V.int ((o x : Nat) : Int)))) rfl (fun j H' hj e => ?_) (fun H' e => ?_)
    · subst e
      rw [Int.zero_add]
      have s3 : ∀ acc, Same H9 (upd H9 O (.lst acc)) := fun acc => same_upd hO
      refine ⟨rfl, tYes_ok ⟨_, rfl, p, dx, _, rfl, s3 _ _ _ hp9, rfl, _, rfl, p, S2, dx, _, n, j, z, o j, fp, rfl, s3 _ _ _ hp9, rfl, rfl, GS9.same (s3 _), la, hj, G.od j hj, _, upd_same, ?_, ?_⟩⟩
      · rw [List.length_map, List.length_range]
        exact LcN.small100 (by omega)
      · rw [upd_upd, LcN.map_succ]
    subst e
    have s10 := same_upd (o := .lst ((List.range n).map fun x => V.int ((o x : Nat) : Int))) hO
    have eO : (upd H9 O (.lst ((List.range n).map fun x => V.int ((o x : Nat) : Int)))) O = some (.lst ((List.range n).map fun x => V.int ((o x : Nat) : Int))) := upd_same
    generalize upd H9 O (.lst ((List.range n).map fun x => V.int ((o x : Nat) : Int))) = H10 at s10 eO ⊢
    have hp10 := s10 _ _ hp9
    refine ⟨_, rfl, p, C, dx, _, rfl, hp10, T.cl, T.n_orders, (by show 4 < 1000; decide), ?_⟩
    have kE : Kp p H10 (upd H10 p (.ins C dx [("_sums", .ref S2), ("_products", .ref S4), ("_zero_place", .int z), ("_one_place", .int e), ("_orders", .ref O)])) := Kp.upd
    have hp11 : (upd H10 p (.ins C dx [("_sums", .ref S2), ("_products", .ref S4), ("_zero_place", .int z), ("_one_place", .int e), ("_orders", .ref O)])) p = some (.ins C dx [("_sums", .ref S2), ("_products", .ref S4), ("_zero_place", .int z), ("_one_place", .int e), ("_orders", .ref O)]) := upd_same
    have k011 : Kp p H (upd H10 p (.ins C dx [("_sums", .ref S2), ("_products", .ref S4), ("_zero_place", .int z), ("_one_place", .int e), ("_orders", .ref O)])) := (k09.trans (Kp.of s10)).trans kE
    have GS11 := (GS9.same s10).kp hp10 kE
    have GP11 := (GP9.same s10).kp hp10 kE
    have eO11 := kE _ _ (ne_of eO hp10 (by intro q; cases q)) eO
    change SupX.tSup _ _ _ _ _ _ _ _ (upd H10 p (.ins C dx [("_sums", .ref S2), ("_products", .ref S4), ("_zero_place", .int z), ("_one_place", .int e), ("_orders", .ref O)]))
    generalize upd H10 p (.ins C dx [("_sums", .ref S2), ("_products", .ref S4), ("_zero_place", .int z), ("_one_place", .int e), ("_orders", .ref O)]) = H11 at hp11 k011 GS11 GP11 eO11 ⊢
    clear kE hp10 eO s10 k09 hp9 Ga9 GS9 GP9 ga9 gr9
    have tb : TabAt H11 p C n z fp o [("_sums", .ref S2), ("_products", .ref S4), ("_zero_place", .int z), ("_one_place", .int e), ("_orders", .ref O)] := ⟨⟨S2, O, dx, hp11, rfl, rfl, rfl, eO11, GS11⟩, G.o0, hz, la⟩
    refine ⟨p, C, dx, _, rfl, hp11, Ab, ?_⟩
    refine ⟨_, rfl, p, C, dx, _, _, rfl, hp11, T.cl, T.n_sums, rfl, _, rfl, p, C, dx, _, _, rfl, hp11, T.cl, T.n_products, rfl, by show 3 ≤ sizeLine; decide, fun tq htq => ?_⟩
    have s12 := same_upd (o := .tup [.str "table", .ref S2, .ref S4]) htq
    refine ⟨_, rfl, p, dx, _, rfl, s12 _ _ hp11, rfl, p, S4, dx, n, z, e, fp, tp, o, _, rfl, tb.same s12, s12 _ _ hp11, rfl, GP11.same s12, lb, rfl, he, rfl, rfl, rfl, hn, G.s1, G.s2, fun H13 N s13 eN => ⟨by show 0 ≤ sizeLine; decide, fun Bq hBq => ?_⟩⟩
    have s14 := same_upd (o := .tup []) hBq
    have s1114 := s12.trans (s13.trans s14)
    exact ⟨p, N, Bq, dx, _, _, _, _, n, z, e, fp, o, _, rfl, s1114 _ _ hp11, tb.same s1114, s14 _ _ eN, upd_same, rfl, rfl, rfl, he, (by show 5 ≤ 20; decide), fun H15 fs' k15 h15 l1 l2 l3 => q H15 fs' ((k011.trans (Kp.of s1114)).trans k15) h15 l1 l2 l3⟩
end
end My
/-! making tables, their numbers -/
namespace My
open PySem PySem.Spec PyProof.Rows L2
structure HasPr (P : Program) (w : World) (K : PySem.W.Frag) (mg : Str → Option Value) (base : Heap) (k : Nat) (C : Addr) (n : Str) (sp : Sp) : Prop where
  ex : ∃ (p g : Addr) (fd : FuncData), PropOf K C n p g ∧ FnOk P w K mg base CX0 k g fd ["self"] sp ∧ Binds K fd ["self"] []
theorem pe_pr {X : Cx} {k : Nat} {C : Addr} {n : Str} {sp : Sp} {e : Expr} {ta : TE} {pos : Pos} (c : Cls X.K C) (h : HasPr X.prog X.w X.K X.mg X.base k C n sp) (hr : Room (k + 1) X.A) (he : PE X e ta) (hab : attributeBase e n X.env (eval e X.env) = eval e X.env) :
    PE X (.Attribute e n pos) (tProp C sp [] E0 ta) := by
  obtain ⟨p, g, fd, hp, F, b⟩ := h.ex
  exact pe_prop he c hp F hr b .nil pass0 hab
structure HasCX (P : Program) (w : World) (K : PySem.W.Frag) (mg : Str → Option Value) (base : Heap) (k : Nat) (x : Str) (C : Addr) (ps ks : List Str) (sp : Sp) : Prop where
  ex : ∃ (f : Addr) (fd : FuncData), Mk K C f ∧ FnOk P w K mg base (L2.CX P w) k f fd ps sp ∧ mg x = some (.ref C) ∧ Binds K fd ps [] ∧ KBn K fd ps 1 ks (fun us ws => us ++ ws) (fun us ws => us ++ ws)
section
variable {X : Cx} {k : Nat} {x : Str} {C : Addr} {ps ks : List Str} {sp : Sp} {p pos : Pos} {e : Expr} {es : List Expr} {kws : List Keyword} {t : TA} {E : XK}
theorem pe_mkE (h : HasCX X.prog X.w X.K X.mg X.base k x C ps ks sp) (tk : Takes X (fun cls d _ H => E cls d H)) (hr : Room (k + 1) X.A) (hg : Gl X x) (ha : PA X (e :: es) t)
    (hdb : (x == ("__debug__" : Str)) = false := by decide) (he : starEach (e :: es) X.env = (false, eval e X.env) :: starEach es X.env := by rfl) (hpl : (backTo pos (starEach es X.env)).any (·.1) = false := by rfl) : PE X (.Call (.Name x p) (e :: es) [] pos) (tMake C sp [] E t) := by
  obtain ⟨f, fd, M, F, m, b, _⟩ := h.ex
  exact pe_make M F hr hg m b .nil (passes_call tk fun _ _ _ _ h => h) ha hdb he hpl
theorem pe_mkKE (h : HasCX X.prog X.w X.K X.mg X.base k x C ps ks sp) (tk : Takes X (fun cls d _ H => E cls d H)) (hr : Room (k + 1) X.A) (hg : Gl X x) (hkw : PK X kws t)
    (hall : (backToKw pos (keywordEach kws X.env)).all (·.1.isSome) = true := by rfl) (hks : (backToKw pos (keywordEach kws X.env)).filterMap (·.1) = ks := by rfl) (hdb : (x == ("__debug__" : Str)) = false := by decide)
    (hpl : ((backTo pos (starEach [] X.env)).any (·.1) || (backToKw pos (keywordEach kws X.env)).any (·.1.isNone)) = false := by rfl) :
    PE X (.Call (.Name x p) [] kws pos) (tMakeK C 0 ks.length sp (fun us ws => us ++ ws) E tNil t) := by
  obtain ⟨f, fd, M, F, m, _, kb⟩ := h.ex
  exact pe_makeK0 M F hr hg m kb (passes_call tk fun _ _ _ _ h => h) hkw hall hks hdb hpl
end
def spNum (C : Addr) (fn : Str) : Sp := fun vs H Q _ => ∃ (p dx : Addr) (fs : List (Str × V)) (v : Int), vs = [.ref p] ∧ H p = some (.ins C dx fs) ∧ fs.lookup fn = some (.int v) ∧ Q (.int v) H
section
variable {P : Program} {w : World} {K : PySem.W.Frag} {mg : Str → Option Value} {base : Heap} {C CE : Addr}
theorem ok_ones {f p : Addr} {fd : FuncData} (c : Cls K C) (R : ClsR K C) (F : Fun K "ones" "Ring.ones" s_Ring_ones f fd) (po : PropOf K C "ones" p f) (b : Binds K fd ["self"] []) : HasPr P w K mg base 1 C "ones" (spNum C "_ones") :=
  ⟨p, f, fd, po, F.ok sc_Ring_ones (fun vs H Q E h => by obtain ⟨p, dx, fs, v, rfl, _⟩ := h; rfl) (fun cdv A outer s H vs Q E hr h => by
    obtain ⟨p, dx, fs, v, rfl, hp, hv, q⟩ := h
    exact ⟨_, (pss_one (ps_ret (L2.pe_fld (pv 0) rfl))), ⟨_, rfl, p, C, dx, fs, _, rfl, hp, c, R.n_ones, hv, q⟩⟩), b⟩
theorem ok_swaps {f p : Addr} {fd : FuncData} (c : Cls K C) (R : ClsR K C) (F : Fun K "swaps" "Ring.swaps" s_Ring_swaps f fd) (po : PropOf K C "swaps" p f) (b : Binds K fd ["self"] []) : HasPr P w K mg base 1 C "swaps" (spNum C "_swaps") :=
  ⟨p, f, fd, po, F.ok sc_Ring_swaps (fun vs H Q E h => by obtain ⟨p, dx, fs, v, rfl, _⟩ := h; rfl) (fun cdv A outer s H vs Q E hr h => by
    obtain ⟨p, dx, fs, v, rfl, hp, hv, q⟩ := h
    exact ⟨_, (pss_one (ps_ret (L2.pe_fld (pv 0) rfl))), ⟨_, rfl, p, C, dx, fs, _, rfl, hp, c, R.n_swaps, hv, q⟩⟩), b⟩
theorem ok_squares {f p : Addr} {fd : FuncData} (c : Cls K C) (R : ClsR K C) (F : Fun K "squares" "Ring.squares" s_Ring_squares f fd) (po : PropOf K C "squares" p f) (b : Binds K fd ["self"] []) : HasPr P w K mg base 1 C "squares" (spNum C "_squares") :=
  ⟨p, f, fd, po, F.ok sc_Ring_squares (fun vs H Q E h => by obtain ⟨p, dx, fs, v, rfl, _⟩ := h; rfl) (fun cdv A outer s H vs Q E hr h => by
    obtain ⟨p, dx, fs, v, rfl, hp, hv, q⟩ := h
    exact ⟨_, (pss_one (ps_ret (L2.pe_fld (pv 0) rfl))), ⟨_, rfl, p, C, dx, fs, _, rfl, hp, c, R.n_squares, hv, q⟩⟩), b⟩
theorem tab_binds {f cc cda : Addr} {fd : FuncData} (S : SupX.SupFn P K f fd "__init__" "Table.__init__" s_Table_init cc cda C) : L2.Binds K fd ["self", "plus", "times"] [] ∧ KBn K fd ["self", "plus", "times"] 1 ["plus", "times"] (fun us ws => us ++ ws) (fun us ws => us ++ ws) := by
  obtain ⟨oc, kV, doc, pm, ct, cl, ccl, od, an, cld, cdd, osl, csl, ccs, vs, file, tf, rfl, _⟩ := S.ex
  refine ⟨.all fun us hl => ?_, ⟨fun s us ws _ hk hl => ?_, fun r1 r2 => r1.append r2⟩⟩
  · match us, hl with
    | [_, _, _], _ => rfl
  · match us, ws, hk, hl with
    | [_], [_, _], _, _ => exact .of_eq rfl
end
end My
/-! the law's tables, relabelled in all orders -/
namespace My
open PySem PySem.Spec PyProof.Rows L2
abbrev Tb := List (List Nat)
def fnT (L : Tb) (x y : Nat) : Nat := (L.getD x []).getD y 0
def relab (σ : List Nat) (L : Tb) (x y : Nat) : Nat := σ.getD (fnT L (σ.idxOf x) (σ.idxOf y)) 0
structure Tab where
  n : Nat
  s : Tb
  t : Tb
  rule : Str
def kleinT : Tb := [[0, 1, 2, 3], [1, 0, 3, 2], [2, 3, 0, 1], [3, 2, 1, 0]]
def mapsT : Tb := [[0, 3, 0, 3], [0, 2, 1, 3], [0, 1, 2, 3], [0, 0, 3, 3]]
def backT : Tb := [[0, 0, 0, 0], [3, 2, 1, 0], [0, 1, 2, 3], [3, 3, 3, 3]]
def turnsT : Tb := [[0, 1, 2, 3, 4, 5], [1, 2, 0, 4, 5, 3], [2, 0, 1, 5, 3, 4], [3, 5, 4, 0, 2, 1], [4, 3, 5, 1, 0, 2], [5, 4, 3, 2, 1, 0]]
def fieldT : Tb := [[0, 0, 0, 0], [0, 1, 2, 3], [0, 2, 3, 1], [0, 3, 1, 2]]
def tabs : List Tab := [⟨3, [[0, 1, 2], [1, 0, 0], [2, 0, 0]], [[0, 0, 0], [0, 1, 2], [0, 2, 1]], "plus"⟩, ⟨4, kleinT, mapsT, "spread"⟩, ⟨4, kleinT, backT, "spread"⟩, ⟨6, turnsT, List.replicate 6 (List.replicate 6 0), "plus"⟩,
  ⟨4, kleinT, kleinT, "one"⟩, ⟨4, kleinT, List.replicate 4 (List.replicate 4 0), "one"⟩, ⟨4, kleinT, fieldT, ""⟩]
def ltB (n : Nat) (f : Nat → Nat → Nat) : Bool := (List.range n).all fun x => (List.range n).all fun y => decide (f x y < n)
theorem lt_of {n : Nat} {f : Nat → Nat → Nat} (h : ltB n f = true) : Lt n f := fun x y hx hy =>
  of_decide_eq_true (List.all_eq_true.mp (List.all_eq_true.mp h x (List.mem_range.mpr hx)) y (List.mem_range.mpr hy))
def small2B (ns : List Nat) : Bool := ns.all fun n => n == 1 || n == 2
theorem small2_of {ns : List Nat} (h : small2B ns = true) : Small2 ns := fun n hn => by
  have := List.all_eq_true.mp h n hn
  simpa using this
def ordO (f : Nat → Nat → Nat) (z x : Nat) : Nat := (ordF 17 f z x x 1).getD 0
def goodB (n : Nat) (f t : Nat → Nat → Nat) : Bool := match neutralM n f, neutralM n t with
  | some z, some e => decide (checkM n f t = none) && (List.range n).all (fun x => (ordF 17 f z x x 1).isSome && decide (0 < ordO f z x) && decide (ordO f z x ≤ 100)) && small2B (LcN.flat2 n fun x y => diffM f z (ordO f z) (t x y) (t y x)) && small2B ((List.range n).map fun x => diffM f z (ordO f z) (t x x) x) &&
      decide (ordO f z e = 2) && decide (mul2 (LcN.flat2 n fun x y => diffM f z (ordO f z) (t x y) (t y x)) = 1) && decide (mul2 ((List.range n).map fun x => diffM f z (ordO f z) (t x x) x) = 2)
  | _, _ => false
theorem good_of {n : Nat} {f t : Nat → Nat → Nat} (h : goodB n f t = true) : ∃ (o : Nat → Nat) (z e : Nat), GoodT n f t o z e ∧ o e = 2 ∧ mul2 (LcN.flat2 n fun x y => diffM f z o (t x y) (t y x)) = 1 ∧ mul2 ((List.range n).map fun x => diffM f z o (t x x) x) = 2 := by
  unfold goodB at h
  split at h
  · rename_i z e h1 h2
    simp only [Bool.and_eq_true, decide_eq_true_eq] at h
    obtain ⟨⟨⟨⟨⟨⟨a1, a2⟩, a3⟩, a4⟩, a5⟩, a6⟩, a7⟩ := h
    have a2' : ∀ x, x < n → (ordF 17 f z x x 1).isSome = true ∧ 0 < ordO f z x ∧ ordO f z x ≤ 100 := fun x hx => by
      have := List.all_eq_true.mp a2 x (List.mem_range.mpr hx)
      simp only [Bool.and_eq_true, decide_eq_true_eq] at this
      exact ⟨this.1.1, this.1.2, this.2⟩
    refine ⟨ordO f z, z, e, ⟨a1, h1, h2, fun x hx => ?_, fun x hx => (a2' x hx).2, small2_of a3, small2_of a4⟩, a5, a6, a7⟩
    obtain ⟨v, hv⟩ := Option.isSome_iff_exists.mp (a2' x hx).1
    unfold ordO
    rw [hv]
    rfl
  · cases h
def chk (tb : Tab) (σ : List Nat) : Bool := ltB tb.n (relab σ tb.s) && ltB tb.n (relab σ tb.t) && (if tb.rule = "" then goodB tb.n (relab σ tb.s) (relab σ tb.t) else decide (checkM tb.n (relab σ tb.s) (relab σ tb.t) = some tb.rule))
set_option maxRecDepth 1000000 in
theorem chk_all : (tabs.all fun tb => (mixF (List.range tb.n)).all (chk tb)) = true := by decide +kernel
theorem mixF_map {α β : Type} (g : α → β) : ∀ (n : Nat) (xs : List α), xs.length = n → mixF (xs.map g) = (mixF xs).map (List.map g)
  | 0, xs, hn => by
    obtain rfl := List.length_eq_zero_iff.mp hn
    rfl
  | n + 1, xs, hn => by
    obtain ⟨xs, x, rfl⟩ : ∃ (a : List α) (b : α), xs = a ++ [b] := ⟨xs.dropLast, xs.getLast (fun e => by rw [e] at hn; simp at hn), (List.dropLast_concat_getLast _).symm⟩
    rw [List.map_append, List.map_singleton, mixF_snoc, mixF_snoc, mixF_map g n xs (by simpa using hn), List.flatMap_map, List.map_flatMap]
    refine congrArg (fun h => List.flatMap h (mixF xs)) (funext fun l => ?_)
    unfold insAll
    rw [List.map_map, List.length_map]
    refine List.map_congr_left fun i _ => ?_
    simp [List.map_take, List.map_drop]
end My
namespace My
open PySem PySem.Spec PyProof.Rows L2
theorem un1 {k : Nat} {A : Around} (r : Room k A) : A.units + 1 < cLine := by
  have := r.un
  omega
section
variable {X : Cx}
/-- _law_got(lambda: body) -/
theorem pe_got {c P : Addr} {k : Nat} {cs : List Value} {params : Arguments} {body : Expr} {scope : Scope} {t : XK → TE} {p lpos pos : Pos} (F : Fn X.K X.mg "_law_got" s_l_got ["_law_ask"])
    (GV : ∀ (g : Addr) (cdv : Value), LamX.GivesTo X N_l_got "_law_got" (defScope s_l_got) g cdv (defBody s_l_got) "_law_ask" (X.env.qual ++ "<lambda>") (TGot X.K cs))
    (TB : LamX.TabB X.base X.mg c P) (hcode : X.env.code = .ref c) (hr : Room (k + 2) X.A) (hg : Gl X "_law_got") (L : LamX.LamS X.env.scope scope) (hdef : defaultsOf params X.env = ([], []))
    (hbind : ∀ (q : Str) (cl : List (Str × Addr)) (pm cv ctv : Value), bindArgs (PySem.W.kla_fn "<lambda>" q params body scope cl pm cv ctv) ⟨[], []⟩ = pure [])
    (hbody : ∀ (A : Around) (outer : List Env) (s : Shared) (H : Hp) (E : XK) (f c' : Addr), Room k (A.deeper (LamX.lamEnv X scope s.heap.objs.size f c')) → PE (LamX.lamCx X A outer s H E scope f c') body (t E)) :
    PE X (.Call (.Name "_law_got" p) [.Lambda params body scope lpos] [] pos) (LamX.tLam [(P, X.env.qual ++ "<lambda>")] (TGot X.K cs) t) := by
  obtain ⟨g, fd, F, m, b⟩ := F.ex
  have kp := F.kp
  obtain ⟨oc, od, kV, doc, pm, an, cdv, ct, osl, rfl, lk, hcd⟩ := F.ex
  exact LamX.pe_lamcall hg m kp lk hcd b sc_l_got rfl (Or.inl rfl) (GV g cdv) TB hcode List.mem_cons_self (fun p hp _ => by rw [List.mem_singleton.mp hp]) hr L hdef hbind hbody
end
end My
/-! the law of k98 -/
namespace My
open PySem PySem.Spec PyProof.Rows L2
theorem mt_indexK {X : Cx} (K : PySem.W.Frag) (hK : X.K = K) : MtR X "list.index" (rIndex K) := by
  subst hK
  exact mt_index
theorem pe_bmK {X : Cx} (K : PySem.W.Frag) (hK : X.K = K) {T id : String} {name : Str} {r : V → List V → Hp → VK → Prop} {o e : Expr} {es : List Expr} {to : TE} {t : TA} {apos cpos : Pos} (pa : PlainAttrs T) (slot : Slot T name id) (hty : typeOf (.builtin id) = pure (.type "method_descriptor")) (hm : MtR X id r) (ho : PE X o to) (ha : PA X (e :: es) t)
    (hbase : attributeBase o name X.env (eval o X.env) = eval o X.env := by rfl)
    (hfew : ((backTo cpos (starEach (e :: es) X.env)).all (fun x => !x.1) && (backToKw cpos (keywordEach [] X.env)).all (fun x => x.1.isSome)
      && decide ((e :: es).length + ([] : List Keyword).length + (if ([] : List Keyword).isEmpty then 0 else 1) < 30)) = true := by rfl)
    (hline : (apos.endLine == cpos.line) = true := by rfl) (hs : starEach (e :: es) X.env = (false, eval e X.env) :: starEach es X.env := by rfl) (hplain : (backTo cpos (starEach es X.env)).any (·.1) = false := by rfl) :
    PE X (.Call (.Attribute o name apos) (e :: es) [] cpos) (tBM K T r to t) := by
  subst hK
  exact pe_bm pa slot hty hm ho ha hbase hfew hline hs hplain
def spLaw (K : PySem.W.Frag) (P : Addr) : Sp := fun vs H Q _ => ∃ (a : Addr) (ns : List Int), vs = [.ref a] ∧ SqL K H a (ns.map V.int) ∧ ns.length ≤ 63 ∧ H P = some (.tbl #[]) ∧ ∀ H', Q (.bl true) H'
section
variable {P : Program} {w : World} {K : PySem.W.Frag} {mg : Str → Option Value} {base : Heap} {C CE : Addr}
theorem refs_ne_b {H : Hp} {b c p : Addr} {cs : List Addr} (h : H p = some (.lst (cs.map V.ref))) (B : Bg H b c) : p ≠ b := by
  obtain ⟨ns, i, r, m, g⟩ := B
  refine ne_of h g.hb fun e => ?_
  match cs, e with
  | [], e => cases e
  | [_], e => cases e
  | _ :: _ :: _, e => cases e
theorem nats_ne_b {H : Hp} {b c p : Addr} {n : Nat} {g : Nat → Nat} (h : H p = some (.lst ((List.range n).map fun y => V.int ((g y : Nat) : Int)))) (B : Bg H b c) : p ≠ b := by
  obtain ⟨ns, i, r, m, gg⟩ := B
  refine ne_of h gg.hb fun e => ?_
  match n, e with
  | 0, e => cases e
  | n + 1, e =>
    rw [List.range_succ_eq_map] at e
    cases e
theorem Grid.kb {H H' : Hp} {a b c : Addr} {n : Nat} {f : Nat → Nat → Nat} (G : Grid K H a n f) (B : Bg H b c) (k : Kp b H H') : Grid K H' a n f := by
  obtain ⟨r, h1, h2⟩ := G.at_
  have h1' : H a = some (.lst (((List.range n).map r).map V.ref)) := by rw [List.map_map]; exact h1
  exact ⟨r, k _ _ (refs_ne_b h1' B) h1, fun x hx => k _ _ (nats_ne_b (h2 x hx) B) (h2 x hx)⟩
theorem grid_of {H : Hp} {a : Addr} {n : Nat} {f : Nat → Nat → Nat} {us : List Addr} (h : H a = some (.lst (us.map V.ref))) (hl : us.length = n) (g : ∀ j u, us[j]? = some u → H u = some (.lst ((List.range n).map fun y => V.int ((f j y : Nat) : Int)))) : Grid K H a n f := by
  refine ⟨fun x => us.getD x 0, ?_, fun x hx => ?_⟩
  · rw [h]
    refine congrArg (fun z => some (HO.lst z)) ?_
    apply List.ext_getElem?
    intro i
    rw [List.getElem?_map, List.getElem?_map]
    by_cases hi : i < n
    · rw [List.getElem?_range hi]
      have e : us.getD i 0 = us[i]'(by omega) := by rw [List.getD_eq_getElem?_getD, List.getElem?_eq_getElem (by omega)]; rfl
      show Option.map V.ref us[i]? = some (V.ref (us.getD i 0))
      rw [e, List.getElem?_eq_getElem (by omega)]
      rfl
    · rw [List.getElem?_eq_none (by omega), List.getElem?_eq_none (by rw [List.length_range]; omega)]
      rfl
  · refine g x _ ?_
    show us[x]? = some (us.getD x 0)
    rw [List.getD_eq_getElem?_getD, List.getElem?_eq_getElem (by omega)]
    rfl
theorem Grid.congr {H : Hp} {a : Addr} {n : Nat} {f g : Nat → Nat → Nat} (G : Grid K H a n f) (e : ∀ x y, x < n → y < n → f x y = g x y) : Grid K H a n g := by
  obtain ⟨r, h1, h2⟩ := G.at_
  refine ⟨r, h1, fun x hx => ?_⟩
  rw [h2 x hx]
  exact congrArg (fun z => some (HO.lst z)) (List.map_congr_left fun y hy => by rw [e x y hx (List.mem_range.mp hy)])
theorem rng0 (i : Nat) : V.int ((0 : Int) + (i : Int)) = V.int (i : Int) := by rw [Int.zero_add]
theorem bit_le (b : Bool) : ((if b = true then 1 else 0 : Int)).natAbs < 2 ^ 62 := by cases b <;> decide
theorem turns_1 : ∀ i : Nat, i < 3 → ∀ k : Nat, k < 6 → (((i : Int) % 3 + (k : Int) % 3) % 3 + 3 * (if (!decide (V.bl (decide ((i : Int) < 3)) = V.bl (decide ((k : Int) < 3)))) = true then 1 else 0)) = ((fnT turnsT i k : Nat) : Int) := by decide
theorem turns_2 : ∀ i : Nat, i < 6 → ∀ k : Nat, k < 6 → 3 ≤ i → (((i : Int) % 3 + (0 - (k : Int) % 3)) % 3 + 3 * (if (!decide (V.bl (decide ((i : Int) < 3)) = V.bl (decide ((k : Int) < 3)))) = true then 1 else 0)) = ((fnT turnsT i k : Nat) : Int) := by decide
theorem back_eq {x y : Nat} (hx : x < 4) (hy : y < 4) : fnT backT x y = fnT mapsT y x := (by decide : ∀ x, x < 4 → ∀ y, y < 4 → fnT backT x y = fnT mapsT y x) x hx y hy
theorem ne_lists {H : Hp} {u D : Addr} {us : List Addr} {n : Nat} {g : Nat → Nat} (h : 0 < us.length) (h0 : H u = some (.lst ((List.range n).map fun y => V.int ((g y : Nat) : Int)))) (hD : H D = some (.lst (us.map V.ref))) (hn : 0 < n) : u ≠ D := ne_of h0 hD fun e => by
  match us, n, h, hn, e with
  | _ :: _, n + 1, _, _, e =>
    rw [List.range_succ_eq_map] at e
    cases e
theorem row_nat (r : List Nat) : (List.range r.length).map (fun y => V.int ((r.getD y 0 : Nat) : Int)) = intsN r := by
  apply List.ext_getElem?
  intro i
  rw [List.getElem?_map, List.getElem?_map]
  by_cases h : i < r.length
  · rw [List.getElem?_range h, List.getElem?_eq_getElem h]
    show some (V.int ((r.getD i 0 : Nat) : Int)) = some (V.int ((r[i] : Nat) : Int))
    rw [List.getD_eq_getElem?_getD, List.getElem?_eq_getElem h]
    rfl
  · rw [List.getElem?_eq_none (by simp; omega), List.getElem?_eq_none (by omega)]
    rfl
/-- a list display of four rows -/
theorem disp4 {H : Hp} {a1 a2 a3 a4 l : Addr} {r1 r2 r3 r4 : List Nat} (l1 : r1.length = 4) (l2 : r2.length = 4) (l3 : r3.length = 4) (l4 : r4.length = 4) (n1 : H a1 = none) (n2 : upd H a1 (.lst (intsN r1)) a2 = none) (n3 : upd (upd H a1 (.lst (intsN r1))) a2 (.lst (intsN r2)) a3 = none)
    (n4 : upd (upd (upd H a1 (.lst (intsN r1))) a2 (.lst (intsN r2))) a3 (.lst (intsN r3)) a4 = none) (nl : upd (upd (upd (upd H a1 (.lst (intsN r1))) a2 (.lst (intsN r2))) a3 (.lst (intsN r3))) a4 (.lst (intsN r4)) l = none) :
    ∃ H', H' = upd (upd (upd (upd (upd H a1 (.lst (intsN r1))) a2 (.lst (intsN r2))) a3 (.lst (intsN r3))) a4 (.lst (intsN r4))) l (.lst [.ref a1, .ref a2, .ref a3, .ref a4]) ∧ Same H H' ∧ Grid K H' l 4 (fnT [r1, r2, r3, r4]) := by
  have u1 := same_upd (o := .lst (intsN r1)) n1
  have u2 := same_upd (o := .lst (intsN r2)) n2
  have u3 := same_upd (o := .lst (intsN r3)) n3
  have u4 := same_upd (o := .lst (intsN r4)) n4
  have u5 := same_upd (o := .lst [.ref a1, .ref a2, .ref a3, .ref a4]) nl
  refine ⟨_, rfl, u1.trans (u2.trans (u3.trans (u4.trans u5))), grid_of (us := [a1, a2, a3, a4]) upd_same rfl fun j u hu => ?_⟩
  match j, hu with
  | 0, hu => cases hu; rw [u5 _ _ (u4 _ _ (u3 _ _ (u2 _ _ upd_same)))]; rw [← row_nat r1, l1]; rfl
  | 1, hu => cases hu; rw [u5 _ _ (u4 _ _ (u3 _ _ upd_same))]; rw [← row_nat r2, l2]; rfl
  | 2, hu => cases hu; rw [u5 _ _ (u4 _ _ upd_same)]; rw [← row_nat r3, l3]; rfl
  | 3, hu => cases hu; rw [u5 _ _ upd_same]; rw [← row_nat r4, l4]; rfl
  | j + 4, hu => cases hu
theorem disp3 {H : Hp} {a1 a2 a3 l : Addr} {r1 r2 r3 : List Nat} (l1 : r1.length = 3) (l2 : r2.length = 3) (l3 : r3.length = 3) (n1 : H a1 = none) (n2 : upd H a1 (.lst (intsN r1)) a2 = none) (n3 : upd (upd H a1 (.lst (intsN r1))) a2 (.lst (intsN r2)) a3 = none)
    (nl : upd (upd (upd H a1 (.lst (intsN r1))) a2 (.lst (intsN r2))) a3 (.lst (intsN r3)) l = none) :
    ∃ H', H' = upd (upd (upd (upd H a1 (.lst (intsN r1))) a2 (.lst (intsN r2))) a3 (.lst (intsN r3))) l (.lst [.ref a1, .ref a2, .ref a3]) ∧ Same H H' ∧ Grid K H' l 3 (fnT [r1, r2, r3]) := by
  have u1 := same_upd (o := .lst (intsN r1)) n1
  have u2 := same_upd (o := .lst (intsN r2)) n2
  have u3 := same_upd (o := .lst (intsN r3)) n3
  have u5 := same_upd (o := .lst [.ref a1, .ref a2, .ref a3]) nl
  refine ⟨_, rfl, u1.trans (u2.trans (u3.trans u5)), grid_of (us := [a1, a2, a3]) upd_same rfl fun j u hu => ?_⟩
  match j, hu with
  | 0, hu => cases hu; rw [u5 _ _ (u3 _ _ (u2 _ _ upd_same))]; rw [← row_nat r1, l1]; rfl
  | 1, hu => cases hu; rw [u5 _ _ (u3 _ _ upd_same)]; rw [← row_nat r2, l2]; rfl
  | 2, hu => cases hu; rw [u5 _ _ upd_same]; rw [← row_nat r3, l3]; rfl
  | j + 3, hu => cases hu
theorem tabs_kp {H H' : Hp} {b P : Addr} {q : Str} {xs : List V} (h : LamX.TabS H P q) (hb : H b = some (.lst xs)) (k : Kp b H H') : LamX.TabS H' P q := by
  obtain ⟨ps, e, t, a⟩ := h
  refine ⟨ps, k _ _ (ne_of e hb fun z => by cases z) e, t, fun pos cv hc => ?_⟩
  obtain ⟨c, ec, hco⟩ := a pos cv hc
  exact ⟨c, ec, k _ _ (ne_of hco hb fun z => by unfold LamX.CodeO at z; cases z) hco⟩
theorem ord_of {n : Nat} {ys : List V} (h : ys ∈ mixF (rgV 0 n)) : ∃ σ ∈ mixF (List.range n), ys = σ.map fun i => V.int ((i : Nat) : Int) := by
  have e : rgV 0 n = (List.range n).map fun i => V.int ((i : Nat) : Int) := by
    unfold rgV
    rw [Int.sub_zero, Int.toNat_natCast]
    exact List.map_congr_left fun i _ => by rw [Int.zero_add]
  rw [e, mixF_map _ n _ List.length_range] at h
  obtain ⟨σ, h1, h2⟩ := List.mem_map.mp h
  exact ⟨σ, h1, h2.symm⟩
/-- where x stands in an order -/
theorem ord_at {n x : Nat} {σ : List Nat} (h : σ ∈ mixF (List.range n)) (hx : x < n) : σ.idxOf x < n ∧ σ[σ.idxOf x]? = some x ∧ ∀ m, m < σ.idxOf x → ∀ z, σ[m]? = some z → z ≠ x := by
  have p := mixF_perm _ _ _ rfl h
  have hl : σ.length = n := by rw [p.length_eq, List.length_range]
  have hm : x ∈ σ := p.mem_iff.mpr (List.mem_range.mpr hx)
  have hi := List.idxOf_lt_length_of_mem hm
  refine ⟨by omega, ?_, fun m hmx z hz e => ?_⟩
  · rw [List.getElem?_eq_getElem hi, List.getElem_idxOf hi]
  · subst e
    have := List.not_of_lt_findIdx (p := (· == z)) hmx
    rw [List.getElem?_eq_some_iff] at hz
    obtain ⟨_, hz⟩ := hz
    rw [hz] at this
    simp at this
theorem ord_get {n j : Nat} {σ : List Nat} (h : σ ∈ mixF (List.range n)) (hj : j < n) : σ[j]? = some (σ.getD j 0) := by
  have p := mixF_perm _ _ _ rfl h
  have hl : σ.length = n := by rw [p.length_eq, List.length_range]
  rw [List.getD_eq_getElem?_getD, List.getElem?_eq_getElem (by omega)]
  rfl
theorem tabs_lt {tb : Tab} (h : tb ∈ tabs) : Lt tb.n (fnT tb.s) ∧ Lt tb.n (fnT tb.t) := by
  have e : (tabs.all fun tb => ltB tb.n (fnT tb.s) && ltB tb.n (fnT tb.t)) = true := by decide +kernel
  have := List.all_eq_true.mp e tb h
  rw [Bool.and_eq_true] at this
  exact ⟨lt_of this.1, lt_of this.2⟩
theorem eq_nat {x y : Nat} : eqV (V.int (x : Int)) (V.int (y : Int)) = decide (x = y) := by
  show (((x : Int)) == ((y : Int))) = _
  rw [Bool.eq_iff_iff, beq_iff_eq, decide_eq_true_eq]
  omega
theorem ord_ix {K : PySem.W.Frag} {H : Hp} {O : Addr} {n x : Nat} {σ : List Nat} {Q : VK} (h : σ ∈ mixF (List.range n)) (hx : x < n) (eO : H O = some (.lst (σ.map fun i => V.int ((i : Nat) : Int)))) (q : Q (.int ((σ.idxOf x : Nat) : Int)) H) : rIndex K (.ref O) [.int (x : Int)] H Q := by
  obtain ⟨h1, h2, h3⟩ := ord_at h hx
  refine ⟨O, _, _, σ.idxOf x, .int (x : Int), rfl, rfl, SqL.of eO, rfl, ?_, ?_, ?_, fun m z' hm hz => ?_, q⟩
  · rw [List.all_map]
    exact List.all_eq_true.mpr fun _ _ => rfl
  · rw [List.getElem?_map, h2]
    rfl
  · rw [eq_nat]
    exact decide_eq_true rfl
  · rw [List.getElem?_map] at hz
    cases e : σ[m]? with
    | none => rw [e] at hz; cases hz
    | some z =>
      rw [e] at hz
      cases hz
      rw [eq_nat]
      exact decide_eq_false (h3 m hm z e)
theorem made_same {C : Addr} {H : Hp} {x dx : Addr} (hx : H x = none) (hdx : H dx = none) : Same H (upd (upd H dx (.own x)) x (.ins C dx [])) := fun b o e => by
  rw [upd_ne (ne_of_none e hx), upd_ne (ne_of_none e hdx)]
  exact e
theorem made_kp {C : Addr} {H H' : Hp} {x dx : Addr} (hx : H x = none) (hdx : H dx = none) (k : Kp x (upd (upd H dx (.own x)) x (.ins C dx [])) H') : Same H H' := fun b o e => k b o (ne_of_none e hx) (made_same hx hdx b o e)
theorem Grid.ext {K : PySem.W.Frag} {H H' : Hp} {a : Addr} {n : Nat} {f : Nat → Nat → Nat} (G : Grid K H a n f) (e : LamX.ExtN H H') : Grid K H' a n f := by
  obtain ⟨r, h1, h2⟩ := G.at_
  exact ⟨r, e _ _ h1 (fun ps z => by cases z), fun x hx => e _ _ (h2 x hx) (fun ps z => by cases z)⟩
theorem bg_ext {H H' : Hp} {b c : Addr} (h : Bg H b c) (e : LamX.ExtN H H') : Bg H' b c := by
  obtain ⟨ns, i, r, m, g⟩ := h
  exact ⟨ns, i, r, m, e _ _ g.hb (fun ps z => by cases z), e _ _ g.hc (fun ps z => by cases z), g.len, g.i0, g.r0, g.m0, g.m1⟩
theorem tabs_n {tb : Tab} (h : tb ∈ tabs) : 2 ≤ tb.n ∧ tb.n ≤ 6 := by
  simp only [tabs, List.mem_cons, List.not_mem_nil, or_false] at h
  rcases h with rfl | rfl | rfl | rfl | rfl | rfl | rfl <;> decide
/-- a written table with its rule -/
def TabR (K : PySem.W.Frag) (H : Hp) (T : Addr) (tb : Tab) : Prop := ∃ s p, H T = some (.tup [.ref s, .ref p, .str tb.rule]) ∧ Grid K H s tb.n (fnT tb.s) ∧ Grid K H p tb.n (fnT tb.t)
theorem TabR.same {H H' : Hp} {T : Addr} {tb : Tab} (h : TabR K H T tb) (k : Same H H') : TabR K H' T tb := by
  obtain ⟨s, p, h1, h2, h3⟩ := h
  exact ⟨s, p, k _ _ h1, h2.same k, h3.same k⟩
theorem TabR.kb {H H' : Hp} {T b c : Addr} {tb : Tab} (h : TabR K H T tb) (B : Bg H b c) (k : Kp b H H') : TabR K H' T tb := by
  obtain ⟨s, p, h1, h2, h3⟩ := h
  obtain ⟨ns, i, r, m, g⟩ := id B
  exact ⟨s, p, k _ _ (ne_of h1 g.hb (by intro q; cases q)) h1, h2.kb B k, h3.kb B k⟩
theorem TabR.ext {H H' : Hp} {T : Addr} {tb : Tab} (h : TabR K H T tb) (e : LamX.ExtN H H') : TabR K H' T tb := by
  obtain ⟨s, p, h1, h2, h3⟩ := h
  exact ⟨s, p, e _ _ h1 (fun ps z => by cases z), h2.ext e, h3.ext e⟩
theorem ok_law {f c Pt : Addr} {C1 C2 C3 oc kV doc pm ct : Value} {an od : Option Addr} {osl : Array (Option Value)}
    (lk : K.lookup f = some ⟨oc, od, .func (PySem.W.fnOf "law" "law" (defArgs s_law) (defBody s_law) (defScope s_law) .none kV doc pm an (.ref c) ct), osl⟩) (hcd : PySem.W.codeIn K (.ref c) "law" = true)
    (TB : LamX.TabB base mg c Pt) (m1 : mg "RingError" = some C1) (m2 : mg "Missing" = some C2) (m3 : mg "NothingLeft" = some C3) (hm0 : PySem.W.exmAny K (.ref CE) [C1, C2, C3] = some true)
    (xf : XfC K CE) (noC : PySem.W.findIn K (.ref CE) "code" = some none) (noG : PySem.W.findIn K (.ref CE) "rule" = some none)
    (B : Blt mg) (cl_ : Cls K C) (MK_Table : HasCX P w K mg base 8 "Table" C ["self", "plus", "times"] ["plus", "times"] (spTabInit K C CE))
    (PR_ones : HasPr P w K mg base 1 C "ones" (spNum C "_ones")) (PR_swaps : HasPr P w K mg base 1 C "swaps" (spNum C "_swaps")) (PR_squares : HasPr P w K mg base 1 C "squares" (spNum C "_squares"))
    (G_l_bag : Has P w K mg base 1 "_law_bag" ["_law_script"] (spBag K)) (G_l_mixed : Has P w K mg base 2 "_law_mixed" ["_law_bag_here", "_law_some"] (spMixed K))
    (G_l_same : Has P w K mg base 4 "_law_same" ["_law_found", "_law_due"] (spSame 4)) (G_l_field : HasP P w K mg base 1 "_law_field" ["_law_e"] (spField K)) (F_got : Fn K mg "_law_got" s_l_got ["_law_ask"]) :
    FnOk P w K mg base CX0 14 f (PySem.W.fnOf "law" "law" (defArgs s_law) (defBody s_law) (defScope s_law) .none kV doc pm an (.ref c) ct) ["_law_script"] (spLaw K Pt) := by
  refine fn_of lk hcd sc_law (fun vs H Q E h => ?_) (fun A outer s H vs Q E hr h => ?_)
  · obtain ⟨a, t, rfl, _⟩ := h
    rfl
  obtain ⟨a, ns, rfl, hS, hl, hP, q⟩ := h
  have hcode : (cxOf CX0 P w K mg base N_law "law" (defScope s_law) f (.ref c) A outer s H E).nox.env.code = .ref c := rfl
  have GV : ∀ (q : Str) (g : Addr) (cdv : Value), LamX.GivesTo (cxOf CX0 P w K mg base N_law "law" (defScope s_law) f (.ref c) A outer s H E).nox N_l_got "_law_got" (defScope s_l_got) g cdv (defBody s_l_got) "_law_ask" q (TGot K [C1, C2, C3]) :=
    fun q g cdv => got_gives (k := 3) (hr.mono (by decide)) G_l_field m1 m2 m3
  have main : ∃ t, PSs (cxOf CX0 P w K mg base N_law "law" (defScope s_law) f (.ref c) A outer s H E).nox (defBody s_law) t ∧ t { nx := fun _ H' => Q .non H', rt := Q } (L2.start N_law [.ref a]) H := by
    refine ⟨_, (pss_cons (ps_set (i := 1) sc_law.nd rfl (Or.inl rfl) (pe_own G_l_bag (hr.mono (by decide)) (by rfl) (pa_cons (pv 0) pa_nil)))
      (pss_cons (ps_asg (pe_tup (pa_cons (pe_lst (pa_cons (pe_lst (pa_cons pe_int (pa_cons pe_int (pa_cons pe_int (pa_cons pe_int pa_nil))))) (pa_cons (pe_lst (pa_cons pe_int (pa_cons pe_int (pa_cons pe_int (pa_cons pe_int pa_nil))))) (pa_cons (pe_lst (pa_cons pe_int (pa_cons pe_int (pa_cons pe_int (pa_cons pe_int pa_nil))))) (pa_cons (pe_lst (pa_cons pe_int (pa_cons pe_int (pa_cons pe_int (pa_cons pe_int pa_nil))))) pa_nil))))) (pa_cons (pe_lst (pa_cons (pe_lst (pa_cons pe_int (pa_cons pe_int (pa_cons pe_int (pa_cons pe_int pa_nil))))) (pa_cons (pe_lst (pa_cons pe_int (pa_cons pe_int (pa_cons pe_int (pa_cons pe_int pa_nil))))) (pa_cons (pe_lst (pa_cons pe_int (pa_cons pe_int (pa_cons pe_int (pa_cons pe_int pa_nil))))) (pa_cons (pe_lst (pa_cons pe_int (pa_cons pe_int (pa_cons pe_int (pa_cons pe_int pa_nil))))) pa_nil))))) pa_nil))) (pg_tup rfl (pgs_cons (pg_name (i := 2) sc_law.nd rfl (Or.inl rfl)) (pgs_cons (pg_name (i := 3) sc_law.nd rfl (Or.inr rfl)) pgs_nil))))
      (pss_cons (ps_setLc (i := 4) (own := [("_law_x", 6)]) (g := gName 6) (tt := tYes) (by rfl) sc_law.nd rfl rfl (sw_true rfl rfl rfl (by decide +kernel)) (pi_range1 (by rfl) B.range (pa_cons pe_int pa_nil)) (blkOk_by (own := [("_law_x", 6)]) (N := N_law) (sc := defScope s_law) (by decide +kernel)) (fun _ _ _ _ _ => (pg_name (i := 6) sc_law.nd rfl (Or.inr rfl))) (fun _ _ _ _ _ => pts_nil) (fun _ _ _ _ _ => (pe_lc (own := [("_law_y", 5)]) (g := gName 5) (tt := tYes) (by rfl) sc_law.nd (pi_range1 (by rfl) B.range (pa_cons pe_int pa_nil)) (blkOk_by (own := [("_law_y", 5)]) (N := N_law) (by rfl)) (fun _ _ _ _ _ => (pg_name (i := 5) sc_law.nd rfl (Or.inl rfl))) (fun _ _ _ _ _ => pts_nil) (fun _ _ _ _ _ => (pe_ix (LcN.ix_listK K rfl) (pe_ix (LcN.ix_listK K rfl) (pv 3) (pv 5) (fun _ _ => rfl)) (pv 6) (fun _ _ => rfl))))))
      (pss_cons (ps_setLc (i := 7) (own := [("_law_x", 6)]) (g := gName 6) (tt := tYes) (by rfl) sc_law.nd rfl rfl (sw_true rfl rfl rfl (by decide +kernel)) (pi_range1 (by rfl) B.range (pa_cons pe_int pa_nil)) (blkOk_by (own := [("_law_x", 6)]) (N := N_law) (sc := defScope s_law) (by decide +kernel)) (fun _ _ _ _ _ => (pg_name (i := 6) sc_law.nd rfl (Or.inr rfl))) (fun _ _ _ _ _ => pts_nil) (fun _ _ _ _ _ => (pe_lc (own := [("_law_y", 5)]) (g := gName 5) (tt := tYes) (by rfl) sc_law.nd (pi_range1 (by rfl) B.range (pa_cons pe_int pa_nil)) (blkOk_by (own := [("_law_y", 5)]) (N := N_law) (by rfl)) (fun _ _ _ _ _ => (pg_name (i := 5) sc_law.nd rfl (Or.inl rfl))) (fun _ _ _ _ _ => pts_nil) (fun _ _ _ _ _ => (pe_op op_add (pe_op op_mod (pe_callTy call_int1 (by rfl) B.int bb_int (pa_cons (pe_op op_add (pe_op op_mod (pe_callTy call_int1 (by rfl) B.int bb_int (pa_cons (pv 6) pa_nil)) pe_int) (pe_ifExp (pt_cmpR op_lt (pv 6) pe_int (nomark _)) (pe_op op_mod (pe_callTy call_int1 (by rfl) B.int bb_int (pa_cons (pv 5) pa_nil)) pe_int) (pe_op op_sub pe_int (pe_op op_mod (pe_callTy call_int1 (by rfl) B.int bb_int (pa_cons (pv 5) pa_nil)) pe_int)))) pa_nil)) pe_int) (pe_op op_mul pe_int (pe_callTy call_int1 (by rfl) B.int bb_int (pa_cons (pe_cmpR op_ne (pe_cmpR op_lt (pv 6) pe_int (nomark _)) (pe_cmpR op_lt (pv 5) pe_int (nomark _)) (nomark _)) pa_nil))))))))
      (pss_cons (ps_set (i := 8) sc_law.nd rfl (Or.inl rfl) (pe_lst (pa_cons (pe_tup (pa_cons (pe_lst (pa_cons (pe_lst (pa_cons pe_int (pa_cons pe_int (pa_cons pe_int pa_nil)))) (pa_cons (pe_lst (pa_cons pe_int (pa_cons pe_int (pa_cons pe_int pa_nil)))) (pa_cons (pe_lst (pa_cons pe_int (pa_cons pe_int (pa_cons pe_int pa_nil)))) pa_nil)))) (pa_cons (pe_lst (pa_cons (pe_lst (pa_cons pe_int (pa_cons pe_int (pa_cons pe_int pa_nil)))) (pa_cons (pe_lst (pa_cons pe_int (pa_cons pe_int (pa_cons pe_int pa_nil)))) (pa_cons (pe_lst (pa_cons pe_int (pa_cons pe_int (pa_cons pe_int pa_nil)))) pa_nil)))) (pa_cons pe_str pa_nil)))) (pa_cons (pe_tup (pa_cons (pv 2) (pa_cons (pv 3) (pa_cons pe_str pa_nil)))) (pa_cons (pe_tup (pa_cons (pv 2) (pa_cons (pv 4) (pa_cons pe_str pa_nil)))) (pa_cons (pe_tup (pa_cons (pv 7) (pa_cons (pe_lc (own := [("_law_k", 9)]) (g := gName 9) (tt := tYes) (by rfl) sc_law.nd (pi_range1 (by rfl) B.range (pa_cons pe_int pa_nil)) (blkOk_by (own := [("_law_k", 9)]) (N := N_law) (sc := defScope s_law) (by decide +kernel)) (fun _ _ _ _ _ => (pg_name (i := 9) sc_law.nd rfl (Or.inl rfl))) (fun _ _ _ _ _ => pts_nil) (fun _ _ _ _ _ => (pe_op op_rep (pe_lst (pa_cons pe_int pa_nil)) pe_int))) (pa_cons pe_str pa_nil)))) (pa_cons (pe_tup (pa_cons (pv 2) (pa_cons (pv 2) (pa_cons pe_str pa_nil)))) (pa_cons (pe_tup (pa_cons (pv 2) (pa_cons (pe_lc (own := [("_law_k", 9)]) (g := gName 9) (tt := tYes) (by rfl) sc_law.nd (pi_range1 (by rfl) B.range (pa_cons pe_int pa_nil)) (blkOk_by (own := [("_law_k", 9)]) (N := N_law) (sc := defScope s_law) (by decide +kernel)) (fun _ _ _ _ _ => (pg_name (i := 9) sc_law.nd rfl (Or.inl rfl))) (fun _ _ _ _ _ => pts_nil) (fun _ _ _ _ _ => (pe_op op_rep (pe_lst (pa_cons pe_int pa_nil)) pe_int))) (pa_cons pe_str pa_nil)))) (pa_cons (pe_tup (pa_cons (pv 2) (pa_cons (pe_lst (pa_cons (pe_lst (pa_cons pe_int (pa_cons pe_int (pa_cons pe_int (pa_cons pe_int pa_nil))))) (pa_cons (pe_lst (pa_cons pe_int (pa_cons pe_int (pa_cons pe_int (pa_cons pe_int pa_nil))))) (pa_cons (pe_lst (pa_cons pe_int (pa_cons pe_int (pa_cons pe_int (pa_cons pe_int pa_nil))))) (pa_cons (pe_lst (pa_cons pe_int (pa_cons pe_int (pa_cons pe_int (pa_cons pe_int pa_nil))))) pa_nil))))) (pa_cons pe_str pa_nil)))) pa_nil)))))))))
      (pss_cons (ps_for PassesOwn.never rfl (pi_list (pe_own G_l_mixed (hr.mono (by decide)) (by rfl) (pa_cons (pv 1) (pa_cons (pv 8) pa_nil)))) (pg_tup rfl (pgs_cons (pg_name (i := 10) sc_law.nd rfl (Or.inl rfl)) (pgs_cons (pg_name (i := 11) sc_law.nd rfl (Or.inl rfl)) (pgs_cons (pg_name (i := 12) sc_law.nd rfl (Or.inl rfl)) pgs_nil))))
        (pss_cons (ps_asg (pe_tup (pa_cons (pe_callB call_len (by rfl) B.len bb_len (pa_cons (pv 10) pa_nil)) (pa_cons (pe_own G_l_mixed (hr.mono (by decide)) (by rfl) (pa_cons (pv 1) (pa_cons (pe_listRg rfl (by rfl) B.list (prg_1 (by rfl) B.range (pe_callB call_len (by rfl) B.len bb_len (pa_cons (pv 10) pa_nil)))) pa_nil))) pa_nil))) (pg_tup rfl (pgs_cons (pg_name (i := 13) sc_law.nd rfl (Or.inr rfl)) (pgs_cons (pg_name (i := 14) sc_law.nd rfl (Or.inr rfl)) pgs_nil))))
      (pss_cons (ps_set (i := 15) sc_law.nd rfl (Or.inr rfl) (pe_lc (own := [("_law_table", 16)]) (g := gName 16) (tt := tYes) (by rfl) sc_law.nd (pi_list (pe_lst (pa_cons (pv 10) (pa_cons (pv 11) pa_nil)))) (blkOk_by (own := [("_law_table", 16)]) (N := N_law) (sc := defScope s_law) (by decide +kernel)) (fun _ _ _ _ _ => (pg_name (i := 16) sc_law.nd rfl (Or.inr rfl))) (fun _ _ _ _ _ => pts_nil) (fun _ _ _ _ _ => (pe_lc (own := [("_law_x", 6)]) (g := gName 6) (tt := tYes) (by rfl) sc_law.nd (pi_range1 (by rfl) B.range (pa_cons (pv 13) pa_nil)) (blkOk_by (own := [("_law_x", 6)]) (N := N_law) (by rfl)) (fun _ _ _ _ _ => (pg_name (i := 6) sc_law.nd rfl (Or.inr rfl))) (fun _ _ _ _ _ => pts_nil) (fun _ _ _ _ _ => (pe_lc (own := [("_law_y", 5)]) (g := gName 5) (tt := tYes) (by rfl) sc_law.nd (pi_range1 (by rfl) B.range (pa_cons (pv 13) pa_nil)) (blkOk_by (own := [("_law_y", 5)]) (N := N_law) (by rfl)) (fun _ _ _ _ _ => (pg_name (i := 5) sc_law.nd rfl (Or.inl rfl))) (fun _ _ _ _ _ => pts_nil) (fun _ _ _ _ _ => (pe_ix (LcN.ix_listK K rfl) (pv 14) (pe_ix (LcN.ix_listK K rfl) (pe_ix (LcN.ix_listK K rfl) (pv 16) (pe_bmK K rfl PySem.F.plainAttrs_list PySem.F.slot_list_index PySem.F.type_list_index (mt_indexK K rfl) (pv 14) (pa_cons (pv 6) pa_nil)) (fun _ _ => rfl)) (pe_bmK K rfl PySem.F.plainAttrs_list PySem.F.slot_list_index PySem.F.type_list_index (mt_indexK K rfl) (pv 14) (pa_cons (pv 5) pa_nil)) (fun _ _ => rfl)) (fun _ _ => rfl)))))))))
      (pss_one (ps_for PassesOwn.never rfl (pi_range1 (by rfl) B.range (pa_cons pe_int pa_nil)) (pg_name (i := 17) sc_law.nd rfl (Or.inl rfl))
        (pss_cons (ps_set (i := 18) sc_law.nd rfl (Or.inl rfl) (pe_got F_got (GV _) TB hcode (hr.mono (by decide)) (by rfl) (LamX.lamS_by (by rfl)) (by rfl) (fun _ _ _ _ _ => rfl) (fun A outer s H E f c' hr' => pe_lst (pa_cons (pe_pr cl_ PR_ones (hr'.mono (by decide)) (pe_mkE MK_Table (takes_of rfl rfl rfl rfl) hr' (by rfl) (pa_cons (pe_ix (LcN.ix_listK K rfl) (pv 15) pe_int (fun _ _ => rfl)) (pa_cons (pe_ix (LcN.ix_listK K rfl) (pv 15) pe_int (fun _ _ => rfl)) pa_nil))) rfl) (pa_cons (pe_pr cl_ PR_swaps (hr'.mono (by decide)) (pe_mkKE MK_Table (takes_of rfl rfl rfl rfl) hr' (by rfl) (pk_cons (pe_ix (LcN.ix_listK K rfl) (pv 15) pe_int (fun _ _ => rfl)) (pk_cons (pe_ix (LcN.ix_listK K rfl) (pv 15) pe_int (fun _ _ => rfl)) pk_nil))) rfl) (pa_cons (pe_pr cl_ PR_squares (hr'.mono (by decide)) (pe_mkE MK_Table (takes_of rfl rfl rfl rfl) hr' (by rfl) (pa_cons (pe_ix (LcN.ix_listK K rfl) (pv 15) pe_int (fun _ _ => rfl)) (pa_cons (pe_ix (LcN.ix_listK K rfl) (pv 15) pe_int (fun _ _ => rfl)) pa_nil))) rfl) pa_nil))))))
      (pss_one (ps_if (pt_not (pt_val (pe_own G_l_same (hr.mono (by decide)) (by rfl) (pa_cons (pv 18) (pa_cons (pe_ifExp (pt_cmpR op_ne (pv 12) pe_str (nomark _)) (pe_tup (pa_cons pe_str (pa_cons (pv 12) pa_nil))) (pe_tup (pa_cons pe_str (pa_cons (pe_lst (pa_cons pe_int (pa_cons pe_int (pa_cons pe_int pa_nil)))) pa_nil)))) pa_nil)))))
        (pss_one (ps_ret pe_bl))
        pss_nil))))))))
      (pss_one (ps_ret pe_bl)))))))), ?_⟩
    refine ⟨_, rfl, a, ns, rfl, hS, hl, fun b cc H0 s0 nb B0 => ?_⟩
    obtain ⟨lq, hlq⟩ : ∃ lq : Str, lq = (cxOf CX0 P w K mg base N_law "law" (defScope s_law) f (.ref c) A outer s H E).nox.env.qual ++ "<lambda>" := ⟨_, rfl⟩
    have T0 : LamX.TabS H0 Pt lq := (LamX.TabS.nil hP).ext s0
    refine ⟨by show 4 ≤ sizeLine; decide, fun a1 n1 => ⟨by show 4 ≤ sizeLine; decide, fun a2 n2 => ⟨by show 4 ≤ sizeLine; decide, fun a3 n3 => ⟨by show 4 ≤ sizeLine; decide, fun a4 n4 => ⟨by show 4 ≤ sizeLine; decide, fun kl nkl => ?_⟩⟩⟩⟩⟩
    obtain ⟨H1, hH1, s1, G1⟩ := disp4 (K := K) (r1 := [0, 1, 2, 3]) (r2 := [1, 0, 3, 2]) (r3 := [2, 3, 0, 1]) (r4 := [3, 2, 1, 0]) rfl rfl rfl rfl n1 n2 n3 n4 nkl
    change tCons _ _ _ (upd (upd (upd (upd (upd H0 a1 (.lst (intsN [0, 1, 2, 3]))) a2 (.lst (intsN [1, 0, 3, 2]))) a3 (.lst (intsN [2, 3, 0, 1]))) a4 (.lst (intsN [3, 2, 1, 0]))) kl (.lst [.ref a1, .ref a2, .ref a3, .ref a4])) _
    rw [← hH1]
    clear hH1 n1 n2 n3 n4 nkl a1 a2 a3 a4
    refine ⟨by show 4 ≤ sizeLine; decide, fun a1 n1 => ⟨by show 4 ≤ sizeLine; decide, fun a2 n2 => ⟨by show 4 ≤ sizeLine; decide, fun a3 n3 => ⟨by show 4 ≤ sizeLine; decide, fun a4 n4 => ⟨by show 4 ≤ sizeLine; decide, fun mp nmp => ?_⟩⟩⟩⟩⟩
    obtain ⟨H2, hH2, s2, G2⟩ := disp4 (K := K) (r1 := [0, 3, 0, 3]) (r2 := [0, 2, 1, 3]) (r3 := [0, 1, 2, 3]) (r4 := [0, 0, 3, 3]) rfl rfl rfl rfl n1 n2 n3 n4 nmp
    change tNil _ (upd (upd (upd (upd (upd H1 a1 (.lst (intsN [0, 3, 0, 3]))) a2 (.lst (intsN [0, 2, 1, 3]))) a3 (.lst (intsN [0, 1, 2, 3]))) a4 (.lst (intsN [0, 0, 3, 3]))) mp (.lst [.ref a1, .ref a2, .ref a3, .ref a4])) _
    rw [← hH2]
    clear hH2 n1 n2 n3 n4 nmp a1 a2 a3 a4
    refine ⟨by show 2 ≤ sizeLine; decide, fun tp ntp => ⟨tp, _, rfl, SqT.of upd_same, rfl, _, _, rfl, _, _, rfl, rfl, ?_⟩⟩
    have s3 := same_upd (o := .tup [.ref kl, .ref mp]) ntp
    generalize upd H2 tp (.tup [.ref kl, .ref mp]) = H3 at s3 ⊢
    have Gk3 := (G1.same s2).same s3
    have Gm3 := G2.same s3
    obtain ⟨rm, gm1, gm2⟩ := id Gm3.at_
    -- the turned products
    refine ⟨4, rfl, by decide, by decide, fun D4 hD4 => ?_⟩
    refine lc_it (walk_range (n := 4)) (fun i H' => Same H3 H' ∧ ∃ us : List Addr, H' D4 = some (.lst (us.map V.ref)) ∧ us.length = i ∧ ∀ j u, us[j]? = some u → H' u = some (.lst ((List.range 4).map fun y => V.int (((fnT backT) j y : Nat) : Int)))) ⟨same_upd hD4, [], upd_same, rfl, fun j u e => by simp at e⟩ (fun _ _ _ _ => True.intro) ?_ ?_
    · rintro i v Ha Hb hi ⟨sa, us, ea, lu, hu⟩ ⟨rfl, hv⟩
      obtain rfl : v = V.int (i : Int) := hv.trans (rng0 i)
      have hi : i < 4 := hi
      refine ⟨rfl, tYes_ok ⟨4, rfl, by decide, by decide, fun D2 hD2 => ?_⟩⟩
      refine lc_it (walk_range (n := 4)) (fun k H' => H' = upd Hb D2 (.lst ((List.range k).map fun y => V.int (((fnT backT) i y : Nat) : Int)))) rfl (fun _ _ _ _ => True.intro) ?_ ?_
      · rintro k v Hc Hd hk rfl ⟨rfl, hv⟩
        obtain rfl : v = V.int (k : Int) := hv.trans (rng0 k)
        have hk : k < 4 := hk
        have sd : Same H3 (upd Hb D2 (.lst ((List.range k).map fun y => V.int (((fnT backT) i y : Nat) : Int)))) := sa.trans (same_upd hD2)
        have pushOk : ((List.range k).map fun y => V.int (((fnT backT) i y : Nat) : Int)).length < sizeLine := by
          rw [List.length_map, List.length_range]
          exact LcN.small100 (by omega)
        have pushEq : ∀ z : Int, z = (((fnT backT) i k : Nat) : Int) → upd (upd Hb D2 (.lst ((List.range k).map fun y => V.int (((fnT backT) i y : Nat) : Int)))) D2 (.lst (((List.range k).map fun y => V.int (((fnT backT) i y : Nat) : Int)) ++ [V.int z])) = upd Hb D2 (.lst ((List.range (k + 1)).map fun y => V.int (((fnT backT) i y : Nat) : Int))) := fun z hz => by
          rw [upd_upd, LcN.map_succ, hz]
        exact ⟨rfl, tYes_ok ⟨_, rfl, _, rfl, mp, _, _, _, rfl, rfl, SqL.of (sd _ _ gm1), at_range hk, _, rfl, rm k, _, _, _, rfl, rfl, SqL.of (sd _ _ (gm2 k hk)), at_range hi, _, upd_same, pushOk, pushEq _ (by rw [back_eq hi hk]; rfl)⟩⟩
      · rintro Hc rfl
        have s2 := same_upd (o := .lst ((List.range 4).map fun y => V.int (((fnT backT) i y : Nat) : Int))) hD2
        have e2 := s2 _ _ ea
        have n2 : D2 ≠ D4 := (ne_of_none ea hD2).symm
        refine ⟨_, e2, ?_, fun x o hx => ?_, us ++ [D2], ?_, by simp [lu], fun j u e => ?_⟩
        · rw [List.length_map, lu]
          exact LcN.small100 (by omega)
        · rw [upd_ne (ne_of_none hx hD4)]
          exact s2 _ _ (sa _ _ hx)
        · rw [upd_same]
          simp
        · by_cases hj : j < us.length
          · rw [List.getElem?_append_left hj] at e
            have h0 := hu j u e
            have hne : u ≠ D4 := ne_lists (us := us) (g := (fnT backT) j) (n := 4) (by omega) h0 ea (by omega)
            rw [upd_ne hne]
            exact s2 _ _ h0
          · have : j = us.length := by
              have := (List.getElem?_eq_some_iff.mp e).1
              simp at this
              omega
            subst this
            rw [List.getElem?_append_right (Nat.le_refl _), Nat.sub_self] at e
            have e : D2 = u := by simpa using e
            subst e
            rw [upd_ne n2, lu]
            exact upd_same
    rintro H4 ⟨s4, us, ea4, lu, hu⟩
    have G4 : Grid K H4 D4 4 (fnT backT) := grid_of ea4 lu hu
    clear us lu hu ea4
    -- the turns of a triangle
    refine ⟨6, rfl, by decide, by decide, fun D5 hD5 => ?_⟩
    refine lc_it (walk_range (n := 6)) (fun i H' => Same H4 H' ∧ ∃ us : List Addr, H' D5 = some (.lst (us.map V.ref)) ∧ us.length = i ∧ ∀ j u, us[j]? = some u → H' u = some (.lst ((List.range 6).map fun y => V.int (((fnT turnsT) j y : Nat) : Int)))) ⟨same_upd hD5, [], upd_same, rfl, fun j u e => by simp at e⟩ (fun _ _ _ _ => True.intro) ?_ ?_
    · rintro i v Ha Hb hi ⟨sa, us, ea, lu, hu⟩ ⟨rfl, hv⟩
      obtain rfl : v = V.int (i : Int) := hv.trans (rng0 i)
      have hi : i < 6 := hi
      refine ⟨rfl, tYes_ok ⟨6, rfl, by decide, by decide, fun D2 hD2 => ?_⟩⟩
      refine lc_it (walk_range (n := 6)) (fun k H' => H' = upd Hb D2 (.lst ((List.range k).map fun y => V.int (((fnT turnsT) i y : Nat) : Int)))) rfl (fun _ _ _ _ => True.intro) ?_ ?_
      · rintro k v Hc Hd hk rfl ⟨rfl, hv⟩
        obtain rfl : v = V.int (k : Int) := hv.trans (rng0 k)
        have hk : k < 6 := hk
        have sd : Same H4 (upd Hb D2 (.lst ((List.range k).map fun y => V.int (((fnT turnsT) i y : Nat) : Int)))) := sa.trans (same_upd hD2)
        have pushOk : ((List.range k).map fun y => V.int (((fnT turnsT) i y : Nat) : Int)).length < sizeLine := by
          rw [List.length_map, List.length_range]
          exact LcN.small100 (by omega)
        have pushEq : ∀ z : Int, z = (((fnT turnsT) i k : Nat) : Int) → upd (upd Hb D2 (.lst ((List.range k).map fun y => V.int (((fnT turnsT) i y : Nat) : Int)))) D2 (.lst (((List.range k).map fun y => V.int (((fnT turnsT) i y : Nat) : Int)) ++ [V.int z])) = upd Hb D2 (.lst ((List.range (k + 1)).map fun y => V.int (((fnT turnsT) i y : Nat) : Int))) := fun z hz => by
          rw [upd_upd, LcN.map_succ, hz]
        refine ⟨rfl, tYes_ok ?_⟩
        have h03 : (0 : Int) < 3 := by decide
        refine ⟨_, rfl, .inl ⟨_, rfl, _, _, rfl, rfl, h03, ?_⟩⟩
        by_cases hx : i < 3
        · refine ⟨_, rfl, _, _, rfl, rfl, _, rfl, ite_of (decide_eq_true (by omega)) ?_⟩
          refine ⟨_, rfl, .inl ⟨_, rfl, _, _, rfl, rfl, h03, _, _, rfl, rfl, .inl ⟨_, rfl, _, _, rfl, rfl, h03, ?_⟩⟩⟩
          refine ⟨_, rfl, _, _, rfl, rfl, _, rfl, _, _, rfl, rfl, ⟨rfl, .inr ⟨_, rfl, _, _, rfl, rfl, .inl ⟨by decide, by decide⟩, _, _, rfl, rfl, _, upd_same, pushOk, pushEq _ ?_⟩⟩⟩
          exact turns_1 i hx k hk
        · refine ⟨_, rfl, _, _, rfl, rfl, _, rfl, ite_no (by simp; omega) ?_⟩
          refine ⟨_, rfl, .inl ⟨_, rfl, _, _, rfl, rfl, h03, _, _, rfl, rfl, _, _, rfl, rfl, .inl ⟨_, rfl, _, _, rfl, rfl, h03, ?_⟩⟩⟩
          refine ⟨_, rfl, _, _, rfl, rfl, _, rfl, _, _, rfl, rfl, ⟨rfl, .inr ⟨_, rfl, _, _, rfl, rfl, .inl ⟨by decide, by decide⟩, _, _, rfl, rfl, _, upd_same, pushOk, pushEq _ ?_⟩⟩⟩
          exact turns_2 i hi k hk (by omega)
      · rintro Hc rfl
        have s2 := same_upd (o := .lst ((List.range 6).map fun y => V.int (((fnT turnsT) i y : Nat) : Int))) hD2
        have e2 := s2 _ _ ea
        have n2 : D2 ≠ D5 := (ne_of_none ea hD2).symm
        refine ⟨_, e2, ?_, fun x o hx => ?_, us ++ [D2], ?_, by simp [lu], fun j u e => ?_⟩
        · rw [List.length_map, lu]
          exact LcN.small100 (by omega)
        · rw [upd_ne (ne_of_none hx hD5)]
          exact s2 _ _ (sa _ _ hx)
        · rw [upd_same]
          simp
        · by_cases hj : j < us.length
          · rw [List.getElem?_append_left hj] at e
            have h0 := hu j u e
            have hne : u ≠ D5 := ne_lists (us := us) (g := (fnT turnsT) j) (n := 6) (by omega) h0 ea (by omega)
            rw [upd_ne hne]
            exact s2 _ _ h0
          · have : j = us.length := by
              have := (List.getElem?_eq_some_iff.mp e).1
              simp at this
              omega
            subst this
            rw [List.getElem?_append_right (Nat.le_refl _), Nat.sub_self] at e
            have e : D2 = u := by simpa using e
            subst e
            rw [upd_ne n2, lu]
            exact upd_same
    rintro H5 ⟨s5, us, ea5, lu, hu⟩
    have G5 : Grid K H5 D5 6 (fnT turnsT) := grid_of ea5 lu hu
    clear us lu hu ea5
    -- the rows
    have Gk5 := (Gk3.same s4).same s5
    have Gm5 := (Gm3.same s4).same s5
    have Gb5 := G4.same s5
    clear Gk3 Gm3 G4 gm1 gm2
    refine ⟨by show 3 ≤ sizeLine; decide, fun d60 nd60 => ⟨by show 3 ≤ sizeLine; decide, fun d61 nd61 => ⟨by show 3 ≤ sizeLine; decide, fun d62 nd62 => ⟨by show 3 ≤ sizeLine; decide, fun L6 nL6 => ?_⟩⟩⟩⟩
    obtain ⟨H6, hH6, s6, G6⟩ := disp3 (K := K) (r1 := [0, 1, 2]) (r2 := [1, 0, 0]) (r3 := [2, 0, 0]) rfl rfl rfl nd60 nd61 nd62 nL6
    change tCons _ _ _ (upd (upd (upd (upd H5 d60 (.lst (intsN [0, 1, 2]))) d61 (.lst (intsN [1, 0, 0]))) d62 (.lst (intsN [2, 0, 0]))) L6 (.lst [.ref d60, .ref d61, .ref d62])) _
    rw [← hH6]
    clear hH6 nd60 nd61 nd62 nL6 d60 d61 d62
    refine ⟨by show 3 ≤ sizeLine; decide, fun d70 nd70 => ⟨by show 3 ≤ sizeLine; decide, fun d71 nd71 => ⟨by show 3 ≤ sizeLine; decide, fun d72 nd72 => ⟨by show 3 ≤ sizeLine; decide, fun L7 nL7 => ?_⟩⟩⟩⟩
    obtain ⟨H7, hH7, s7, G7⟩ := disp3 (K := K) (r1 := [0, 0, 0]) (r2 := [0, 1, 2]) (r3 := [0, 2, 1]) rfl rfl rfl nd70 nd71 nd72 nL7
    change tCons _ _ _ (upd (upd (upd (upd H6 d70 (.lst (intsN [0, 0, 0]))) d71 (.lst (intsN [0, 1, 2]))) d72 (.lst (intsN [0, 2, 1]))) L7 (.lst [.ref d70, .ref d71, .ref d72])) _
    rw [← hH7]
    clear hH7 nd70 nd71 nd72 nL7 d70 d71 d72
    refine ⟨by show 3 ≤ sizeLine; decide, fun T1 nT1 => ⟨_, rfl, _, rfl, by show 3 ≤ sizeLine; decide, fun T2 nT2 => ⟨_, rfl, _, rfl, by show 3 ≤ sizeLine; decide, fun T3 nT3 => ⟨_, rfl, ?_⟩⟩⟩⟩
    have u1 := same_upd (o := .tup [.ref L6, .ref L7, .str "plus"]) nT1
    have u2 := same_upd (o := .tup [.ref kl, .ref mp, .str "spread"]) nT2
    have u3 := same_upd (o := .tup [.ref kl, .ref D4, .str "spread"]) nT3
    have R1 : TabR K _ T1 ⟨3, [[0, 1, 2], [1, 0, 0], [2, 0, 0]], [[0, 0, 0], [0, 1, 2], [0, 2, 1]], "plus"⟩ := ⟨L6, L7, (u2.trans u3) _ _ upd_same, (G6.same s7).same (u1.trans (u2.trans u3)), G7.same (u1.trans (u2.trans u3))⟩
    have s57 := s6.trans s7
    have R2 : TabR K _ T2 ⟨4, kleinT, mapsT, "spread"⟩ := ⟨kl, mp, u3 _ _ upd_same, Gk5.same (s57.trans (u1.trans (u2.trans u3))), Gm5.same (s57.trans (u1.trans (u2.trans u3)))⟩
    have R3 : TabR K _ T3 ⟨4, kleinT, backT, "spread"⟩ := ⟨kl, D4, upd_same, Gk5.same (s57.trans (u1.trans (u2.trans u3))), Gb5.same (s57.trans (u1.trans (u2.trans u3)))⟩
    have s58 := s57.trans (u1.trans (u2.trans u3))
    generalize upd (upd (upd H7 T1 (.tup [.ref L6, .ref L7, .str "plus"])) T2 (.tup [.ref kl, .ref mp, .str "spread"])) T3 (.tup [.ref kl, .ref D4, .str "spread"]) = H8 at R1 R2 R3 s58 ⊢
    clear u1 u2 u3 nT1 nT2 nT3
    refine ⟨6, rfl, by decide, by decide, fun D9 hD9 => ?_⟩
    refine lc_it (walk_range (n := 6)) (fun i H' => Same H8 H' ∧ ∃ us : List Addr, H' D9 = some (.lst (us.map V.ref)) ∧ us.length = i ∧ ∀ j u, us[j]? = some u → H' u = some (.lst ((List.range 6).map fun y => V.int ((fnT (List.replicate 6 (List.replicate 6 0)) j y : Nat) : Int)))) ⟨same_upd hD9, [], upd_same, rfl, fun j u e => by simp at e⟩ (fun _ _ _ _ => True.intro) ?_ ?_
    · rintro i v Ha Hb hi ⟨sa, us, ea, lu, hu⟩ ⟨rfl, hv⟩
      have hi : i < 6 := hi
      have row0 : some (HO.lst (List.replicate (6 : Int).toNat [V.int 0]).flatten) = some (.lst ((List.range 6).map fun y => V.int ((fnT (List.replicate 6 (List.replicate 6 0)) i y : Nat) : Int))) := by
        match i, hi with
        | 0, _ => rfl
        | 1, _ => rfl
        | 2, _ => rfl
        | 3, _ => rfl
        | 4, _ => rfl
        | 5, _ => rfl
      refine ⟨rfl, tYes_ok ⟨by show 1 ≤ sizeLine; decide, fun z hz => ⟨z, (6 : Int), _, rfl, rfl, upd_same, by decide, by decide, by show 1 * 6 ≤ sizeLine; decide, fun D2 hD2 => ?_⟩⟩⟩
      have s1 := same_upd (o := .lst [.int 0]) hz
      have s2 := s1.trans (same_upd (o := .lst (List.replicate (6 : Int).toNat [V.int 0]).flatten) hD2)
      have e2 := s2 _ _ ea
      have n2 : D2 ≠ D9 := (ne_of_none (s1 _ _ ea) hD2).symm
      refine ⟨_, e2, ?_, fun x o hx => ?_, us ++ [D2], ?_, by simp [lu], fun j u e => ?_⟩
      · rw [List.length_map, lu]
        exact LcN.small100 (by omega)
      · rw [upd_ne (ne_of_none hx hD9)]
        exact s2 _ _ (sa _ _ hx)
      · rw [upd_same]
        simp
      · by_cases hj : j < us.length
        · rw [List.getElem?_append_left hj] at e
          have h0 := hu j u e
          have hne : u ≠ D9 := ne_lists (us := us) (g := fnT (List.replicate 6 (List.replicate 6 0)) j) (n := 6) (by omega) h0 ea (by omega)
          rw [upd_ne hne]
          exact s2 _ _ h0
        · have : j = us.length := by
            have := (List.getElem?_eq_some_iff.mp e).1
            simp at this
            omega
          subst this
          rw [List.getElem?_append_right (Nat.le_refl _), Nat.sub_self] at e
          have e : D2 = u := by simpa using e
          subst e
          rw [upd_ne n2, lu, upd_same]
          exact row0
    rintro H9 ⟨s9, us, ea9, lu, hu⟩
    have G9 : Grid K H9 D9 6 (fnT (List.replicate 6 (List.replicate 6 0))) := grid_of ea9 lu hu
    clear us lu hu ea9
    refine ⟨by show 3 ≤ sizeLine; decide, fun T4 nT4 => ⟨_, rfl, _, rfl, by show 3 ≤ sizeLine; decide, fun T5 nT5 => ⟨_, rfl, ?_⟩⟩⟩
    have u4 := same_upd (o := .tup [.ref D5, .ref D9, .str "plus"]) nT4
    have u5 := same_upd (o := .tup [.ref kl, .ref kl, .str "one"]) nT5
    have s59 := s58.trans (s9.trans (u4.trans u5))
    have s89 := s9.trans (u4.trans u5)
    have R4 : TabR K _ T4 ⟨6, turnsT, List.replicate 6 (List.replicate 6 0), "plus"⟩ := ⟨D5, D9, u5 _ _ upd_same, G5.same s59, G9.same (u4.trans u5)⟩
    have R5 : TabR K _ T5 ⟨4, kleinT, kleinT, "one"⟩ := ⟨kl, kl, upd_same, Gk5.same s59, Gk5.same s59⟩
    have R1' := R1.same s89
    have R2' := R2.same s89
    have R3' := R3.same s89
    generalize upd (upd H9 T4 (.tup [.ref D5, .ref D9, .str "plus"])) T5 (.tup [.ref kl, .ref kl, .str "one"]) = H10 at R1' R2' R3' R4 R5 s59 ⊢
    clear u4 u5 nT4 nT5 s89 R1 R2 R3 G5 G9 s58 s9
    refine ⟨4, rfl, by decide, by decide, fun D11 hD11 => ?_⟩
    refine lc_it (walk_range (n := 4)) (fun i H' => Same H10 H' ∧ ∃ us : List Addr, H' D11 = some (.lst (us.map V.ref)) ∧ us.length = i ∧ ∀ j u, us[j]? = some u → H' u = some (.lst ((List.range 4).map fun y => V.int ((fnT (List.replicate 4 (List.replicate 4 0)) j y : Nat) : Int)))) ⟨same_upd hD11, [], upd_same, rfl, fun j u e => by simp at e⟩ (fun _ _ _ _ => True.intro) ?_ ?_
    · rintro i v Ha Hb hi ⟨sa, us, ea, lu, hu⟩ ⟨rfl, hv⟩
      have hi : i < 4 := hi
      have row0 : some (HO.lst (List.replicate (4 : Int).toNat [V.int 0]).flatten) = some (.lst ((List.range 4).map fun y => V.int ((fnT (List.replicate 4 (List.replicate 4 0)) i y : Nat) : Int))) := by
        match i, hi with
        | 0, _ => rfl
        | 1, _ => rfl
        | 2, _ => rfl
        | 3, _ => rfl
      refine ⟨rfl, tYes_ok ⟨by show 1 ≤ sizeLine; decide, fun z hz => ⟨z, (4 : Int), _, rfl, rfl, upd_same, by decide, by decide, by show 1 * 4 ≤ sizeLine; decide, fun D2 hD2 => ?_⟩⟩⟩
      have s1 := same_upd (o := .lst [.int 0]) hz
      have s2 := s1.trans (same_upd (o := .lst (List.replicate (4 : Int).toNat [V.int 0]).flatten) hD2)
      have e2 := s2 _ _ ea
      have n2 : D2 ≠ D11 := (ne_of_none (s1 _ _ ea) hD2).symm
      refine ⟨_, e2, ?_, fun x o hx => ?_, us ++ [D2], ?_, by simp [lu], fun j u e => ?_⟩
      · rw [List.length_map, lu]
        exact LcN.small100 (by omega)
      · rw [upd_ne (ne_of_none hx hD11)]
        exact s2 _ _ (sa _ _ hx)
      · rw [upd_same]
        simp
      · by_cases hj : j < us.length
        · rw [List.getElem?_append_left hj] at e
          have h0 := hu j u e
          have hne : u ≠ D11 := ne_lists (us := us) (g := fnT (List.replicate 4 (List.replicate 4 0)) j) (n := 4) (by omega) h0 ea (by omega)
          rw [upd_ne hne]
          exact s2 _ _ h0
        · have : j = us.length := by
            have := (List.getElem?_eq_some_iff.mp e).1
            simp at this
            omega
          subst this
          rw [List.getElem?_append_right (Nat.le_refl _), Nat.sub_self] at e
          have e : D2 = u := by simpa using e
          subst e
          rw [upd_ne n2, lu, upd_same]
          exact row0
    rintro H11 ⟨s11, us, ea11, lu, hu⟩
    have G11 : Grid K H11 D11 4 (fnT (List.replicate 4 (List.replicate 4 0))) := grid_of ea11 lu hu
    clear us lu hu ea11
    refine ⟨by show 3 ≤ sizeLine; decide, fun T6 nT6 => ⟨_, rfl, ?_⟩⟩
    have u6 := same_upd (o := .tup [.ref kl, .ref D11, .str "one"]) nT6
    have s511 := s59.trans (s11.trans u6)
    have s1011 := s11.trans u6
    have R6 : TabR K _ T6 ⟨4, kleinT, List.replicate 4 (List.replicate 4 0), "one"⟩ := ⟨kl, D11, upd_same, Gk5.same s511, G11.same u6⟩
    have R1 := R1'.same s1011
    have R2 := R2'.same s1011
    have R3 := R3'.same s1011
    have R4' := R4.same s1011
    have R5' := R5.same s1011
    generalize upd H11 T6 (.tup [.ref kl, .ref D11, .str "one"]) = H12 at R1 R2 R3 R4' R5' R6 s511 ⊢
    clear u6 nT6 s1011 R1' R2' R3' R4 R5 G11 s59 s11
    refine ⟨by show 4 ≤ sizeLine; decide, fun d130 nd130 => ⟨by show 4 ≤ sizeLine; decide, fun d131 nd131 => ⟨by show 4 ≤ sizeLine; decide, fun d132 nd132 => ⟨by show 4 ≤ sizeLine; decide, fun d133 nd133 => ⟨by show 4 ≤ sizeLine; decide, fun L13 nL13 => ?_⟩⟩⟩⟩⟩
    obtain ⟨H13, hH13, s13, G13⟩ := disp4 (K := K) (r1 := [0, 0, 0, 0]) (r2 := [0, 1, 2, 3]) (r3 := [0, 2, 3, 1]) (r4 := [0, 3, 1, 2]) rfl rfl rfl rfl nd130 nd131 nd132 nd133 nL13
    change tCons _ _ _ (upd (upd (upd (upd (upd H12 d130 (.lst (intsN [0, 0, 0, 0]))) d131 (.lst (intsN [0, 1, 2, 3]))) d132 (.lst (intsN [0, 2, 3, 1]))) d133 (.lst (intsN [0, 3, 1, 2]))) L13 (.lst [.ref d130, .ref d131, .ref d132, .ref d133])) _
    rw [← hH13]
    clear hH13 nd130 nd131 nd132 nd133 nL13 d130 d131 d132 d133
    refine ⟨by show 3 ≤ sizeLine; decide, fun T7 nT7 => ⟨by show 7 ≤ sizeLine; decide, fun R nR => ?_⟩⟩
    have u7 := same_upd (o := .tup [.ref kl, .ref L13, .str ""]) nT7
    have u8 := same_upd (o := .lst [.ref T1, .ref T2, .ref T3, .ref T4, .ref T5, .ref T6, .ref T7]) nR
    have s1213 := s13.trans (u7.trans u8)
    have s513 := s511.trans s1213
    have R7 : TabR K _ T7 ⟨4, kleinT, fieldT, ""⟩ := ⟨kl, L13, u8 _ _ upd_same, Gk5.same s513, G13.same (u7.trans u8)⟩
    have eR : upd (upd H13 T7 (.tup [.ref kl, .ref L13, .str ""])) R (.lst [.ref T1, .ref T2, .ref T3, .ref T4, .ref T5, .ref T6, .ref T7]) R = some (.lst ([T1, T2, T3, T4, T5, T6, T7].map V.ref)) := upd_same
    have all : ∀ T ∈ [T1, T2, T3, T4, T5, T6, T7], ∃ tb ∈ tabs, TabR K (upd (upd H13 T7 (.tup [.ref kl, .ref L13, .str ""])) R (.lst [.ref T1, .ref T2, .ref T3, .ref T4, .ref T5, .ref T6, .ref T7])) T tb := fun T hT => by
      simp only [List.mem_cons, List.not_mem_nil, or_false] at hT
      rcases hT with rfl | rfl | rfl | rfl | rfl | rfl | rfl
      · exact ⟨_, .head _, R1.same s1213⟩
      · exact ⟨_, .tail _ (.head _), R2.same s1213⟩
      · exact ⟨_, .tail _ (.tail _ (.head _)), R3.same s1213⟩
      · exact ⟨_, .tail _ (.tail _ (.tail _ (.head _))), R4'.same s1213⟩
      · exact ⟨_, .tail _ (.tail _ (.tail _ (.tail _ (.head _)))), R5'.same s1213⟩
      · exact ⟨_, .tail _ (.tail _ (.tail _ (.tail _ (.tail _ (.head _))))), R6.same s1213⟩
      · exact ⟨_, .tail _ (.tail _ (.tail _ (.tail _ (.tail _ (.tail _ (.head _)))))), R7⟩
    generalize hT7 : [T1, T2, T3, T4, T5, T6, T7] = Ts at eR all
    have s014 := ((((s1.trans s2).trans s3).trans s4).trans s5).trans s513
    have lTs : Ts.length = 7 := by rw [← hT7]; rfl
    generalize upd (upd H13 T7 (.tup [.ref kl, .ref L13, .str ""])) R (.lst [.ref T1, .ref T2, .ref T3, .ref T4, .ref T5, .ref T6, .ref T7]) = H14 at eR all s014 ⊢
    have B14 := B0.same s014
    have T14 := T0.ext s014
    clear u7 u8 nT7 nR s1213 s513 R1 R2 R3 R4' R5' R6 R7 G13 s511 s13 hT7 Gk5 Gm5 Gb5 s1 s2 s3 s4 s5 s6 s7 G1 G2 G6 G7 s57 s014
    refine ⟨_, rfl, _, rfl, b, cc, R, Ts.map V.ref, rfl, B14, eR, refs_ne_b eR B14, by rw [List.length_map, lTs]; decide, fun H15 Dm ys k15 B15 nDm nDmb eDm hmix => ?_⟩
    have T15 : LamX.TabS H15 Pt lq := by
      obtain ⟨r, e⟩ := B14.sel
      exact tabs_kp T14 e k15
    have hperm := mixF_perm _ _ _ rfl hmix
    have all15 : ∀ T ∈ Ts, ∃ tb ∈ tabs, TabR K H15 T tb := fun T hT => by
      obtain ⟨tb, h1, h2⟩ := all T hT
      exact ⟨tb, h1, h2.kb B14 k15⟩
    clear all k15 eR B14 T14
    refine ⟨Dm, rfl, ⟨_, SqL.of eDm⟩, for_list (xs := ys) (fun i σ H' => ∃ (y10 y11 y12 y13 y14 y15 y17 y18 : Option V), σ = [some (.ref a), some (.ref b), some (.ref kl), some (.ref mp), some (.ref D4), none, none, some (.ref D5), some (.ref R), none, y10, y11, y12, y13, y14, y15, none, y17, y18] ∧ Bg H' b cc ∧ LamX.TabS H' Pt lq ∧ H' Dm = some (.lst ys) ∧ ∀ T ∈ Ts, ∃ tb ∈ tabs, TabR K H' T tb)
      ⟨_, _, _, _, _, _, _, _, rfl, B15, T15, eDm, all15⟩ (fun i σ H' _ e => by obtain ⟨_, _, _, _, _, _, _, _, _, _, _, e, _⟩ := e; exact SqL.of e) ?_ (fun σ H' _ => q _)⟩
    rintro i v σ H16 hv ⟨y10, y11, y12, y13, y14, y15, y17, y18, rfl, B16, T16, eDm16, all16⟩
    obtain ⟨T, hT, rfl⟩ : ∃ T ∈ Ts, v = V.ref T := by
      obtain ⟨T, hT, e⟩ := List.mem_map.mp (hperm.mem_iff.mp (List.mem_of_getElem? hv))
      exact ⟨T, hT, e.symm⟩
    obtain ⟨tb, htb, s1, p1, e1, gs, gp⟩ := all16 T hT
    obtain ⟨hn2, hn6⟩ := tabs_n htb
    refine ⟨T, _, rfl, SqT.of e1, rfl, _, _, rfl, _, _, rfl, _, _, rfl, rfl, ?_⟩
    obtain ⟨rs, gs1, gs2⟩ := id gs.at_
    refine ⟨_, rfl, .ref s1, tb.n, rfl, .inl ⟨_, SqL.of gs1, by simp⟩, ?_⟩
    refine ⟨_, rfl, _, rfl, .ref s1, tb.n, rfl, .inl ⟨_, SqL.of gs1, by simp⟩, (tb.n : Int), rfl, RgOk.of_le (by decide) (by omega) (by decide) (by omega), fun q1 hq1 => ?_⟩
    have sq := same_upd (o := .lst (rgV 0 tb.n)) hq1
    refine ⟨b, cc, q1, rgV 0 tb.n, rfl, B16.same sq, upd_same, B16.ne_new hq1, by rw [rgV_length]; omega, fun H17 O ys2 k17 B17 nO nOb eO hm2 => ?_⟩
    refine ⟨by show 2 ≤ sizeLine; decide, fun tp2 ntp2 => ⟨tp2, _, rfl, SqT.of upd_same, rfl, _, _, rfl, _, _, rfl, rfl, ?_⟩⟩
    obtain ⟨σo, hσ, rfl⟩ := ord_of hm2
    have st := same_upd (o := .tup [.int (tb.n : Nat), .ref O]) ntp2
    have k1618 := ((Kp.of (b := b) sq).trans k17).trans (Kp.of st)
    generalize upd H17 tp2 (.tup [.int (tb.n : Nat), .ref O]) = H18 at st k1618 ⊢
    have B18 := B17.same st
    have T18 : LamX.TabS H18 Pt lq := by
      obtain ⟨r, e⟩ := B16.sel
      exact tabs_kp T16 e k1618
    have Gs := gs.kb B16 k1618
    have Gp := gp.kb B16 k1618
    have eO18 := st _ _ eO
    have eDm18 := k1618 _ _ nDmb eDm16
    have all18 : ∀ T ∈ Ts, ∃ tb ∈ tabs, TabR K H18 T tb := fun T hT => by
      obtain ⟨tb, h1, h2⟩ := all16 T hT
      exact ⟨tb, h1, h2.kb B16 k1618⟩
    clear eO sq hm2 hq1 ntp2 gs gp gs1 gs2 e1 T16 k17 k1618 st B17 B16 all16 eDm16
    -- the relabelled tables
    have hck : chk tb σo = true := List.all_eq_true.mp (List.all_eq_true.mp chk_all tb htb) σo hσ
    refine ⟨_, rfl, _, rfl, by show 2 ≤ sizeLine; decide, fun l nl => ⟨l, rfl, ⟨_, SqL.of upd_same⟩, fun D19 hD19 => ?_⟩⟩
    have sl := same_upd (o := .lst [.ref s1, .ref p1]) nl
    have el : upd H18 l (.lst [.ref s1, .ref p1]) l = some (.lst [.ref s1, .ref p1]) := upd_same
    generalize upd H18 l (.lst [.ref s1, .ref p1]) = Hl at sl el hD19 ⊢
    have eOl := sl _ _ eO18
    refine lc_it (walk_list (xs := [V.ref s1, .ref p1])) (fun i H' => Same Hl H' ∧ ∃ us : List Addr, H' D19 = some (.lst (us.map V.ref)) ∧ us.length = i ∧ ∀ j u, us[j]? = some u → Grid K H' u tb.n (relab σo (if j = 0 then tb.s else tb.t)) ∧ u ≠ D19) ⟨same_upd hD19, [], upd_same, rfl, fun j u e => by simp at e⟩ (fun i H' _ e => SqL.of (e.1 _ _ el)) ?_ ?_
    · rintro io vo Hx Hy hio ⟨sy, usx, ex, lux, hux⟩ ⟨rfl, hvo⟩
      obtain ⟨g, L, rfl, hL, Gg, hLt⟩ : ∃ (g : Addr) (L : Tb), vo = V.ref g ∧ L = (if io = 0 then tb.s else tb.t) ∧ Grid K Hy g tb.n (fnT L) ∧ Lt tb.n (fnT L) := by
        obtain ⟨t1, t2⟩ := tabs_lt htb
        match io, hvo with
        | 0, hvo => cases hvo; exact ⟨s1, tb.s, rfl, rfl, (Gs.same sl).same sy, t1⟩
        | 1, hvo => cases hvo; exact ⟨p1, tb.t, rfl, rfl, (Gp.same sl).same sy, t2⟩
      obtain ⟨rg, gg1, gg2⟩ := id Gg.at_
      have hio2 : io < 2 := hio
      refine ⟨rfl, tYes_ok ⟨_, rfl, (tb.n : Int), rfl, by omega, by omega, fun D20 hD20 => ?_⟩⟩
      refine lc_it (walk_range (n := tb.n)) (fun i H' => Same Hy H' ∧ ∃ us : List Addr, H' D20 = some (.lst (us.map V.ref)) ∧ us.length = i ∧ ∀ j u, us[j]? = some u → H' u = some (.lst ((List.range tb.n).map fun y => V.int (((relab σo L) j y : Nat) : Int)))) ⟨same_upd hD20, [], upd_same, rfl, fun j u e => by simp at e⟩ (fun _ _ _ _ => True.intro) ?_ ?_
      · rintro i v Ha Hb hi ⟨sa, us, ea, lu, hu⟩ ⟨rfl, hv⟩
        obtain rfl : v = V.int (i : Int) := hv.trans (rng0 i)
        have hi : i < tb.n := hi
        refine ⟨rfl, tYes_ok ⟨_, rfl, (tb.n : Int), rfl, by omega, by omega, fun D2 hD2 => ?_⟩⟩
        refine lc_it (walk_range (n := tb.n)) (fun k H' => H' = upd Hb D2 (.lst ((List.range k).map fun y => V.int (((relab σo L) i y : Nat) : Int)))) rfl (fun _ _ _ _ => True.intro) ?_ ?_
        · rintro k v Hc Hd hk rfl ⟨rfl, hv⟩
          obtain rfl : v = V.int (k : Int) := hv.trans (rng0 k)
          have hk : k < tb.n := hk
          have sd : Same Hy (upd Hb D2 (.lst ((List.range k).map fun y => V.int (((relab σo L) i y : Nat) : Int)))) := sa.trans (same_upd hD2)
          have pushOk : ((List.range k).map fun y => V.int (((relab σo L) i y : Nat) : Int)).length < sizeLine := by
            rw [List.length_map, List.length_range]
            exact LcN.small100 (by omega)
          have pushEq : ∀ z : Int, z = (((relab σo L) i k : Nat) : Int) → upd (upd Hb D2 (.lst ((List.range k).map fun y => V.int (((relab σo L) i y : Nat) : Int)))) D2 (.lst (((List.range k).map fun y => V.int (((relab σo L) i y : Nat) : Int)) ++ [V.int z])) = upd Hb D2 (.lst ((List.range (k + 1)).map fun y => V.int (((relab σo L) i y : Nat) : Int))) := fun z hz => by
            rw [upd_upd, LcN.map_succ, hz]
          have sE := sy.trans sd
          refine ⟨rfl, tYes_ok ⟨_, rfl, _, rfl, _, rfl, .inl ⟨rfl, _, SqL.of (sE _ _ eOl)⟩, _, rfl, ?_⟩⟩
          unfold tNil
          dsimp only
          refine ord_ix hσ hi (sE _ _ eOl) ?_
          refine ⟨g, _, _, _, rfl, rfl, SqL.of (sd _ _ gg1), at_range (ord_at hσ hi).1, _, rfl, .inl ⟨rfl, _, SqL.of (sE _ _ eOl)⟩, _, rfl, ?_⟩
          dsimp only
          refine ord_ix hσ hk (sE _ _ eOl) ?_
          exact ⟨rg (σo.idxOf i), _, _, _, rfl, rfl, SqL.of (sd _ _ (gg2 _ (ord_at hσ hi).1)), at_range (ord_at hσ hk).1, O, _, _, _, rfl, rfl, SqL.of (sE _ _ eOl), atI_nat (j := fnT L (σo.idxOf i) (σo.idxOf k)) (by rw [List.getElem?_map, ord_get hσ (hLt _ _ (ord_at hσ hi).1 (ord_at hσ hk).1)]; rfl), _, upd_same, pushOk, pushEq _ rfl⟩
        · rintro Hc rfl
          have s2 := same_upd (o := .lst ((List.range tb.n).map fun y => V.int (((relab σo L) i y : Nat) : Int))) hD2
          have e2 := s2 _ _ ea
          have n2 : D2 ≠ D20 := (ne_of_none ea hD2).symm
          refine ⟨_, e2, ?_, fun x o hx => ?_, us ++ [D2], ?_, by simp [lu], fun j u e => ?_⟩
          · rw [List.length_map, lu]
            exact LcN.small100 (by omega)
          · rw [upd_ne (ne_of_none hx hD20)]
            exact s2 _ _ (sa _ _ hx)
          · rw [upd_same]
            simp
          · by_cases hj : j < us.length
            · rw [List.getElem?_append_left hj] at e
              have h0 := hu j u e
              have hne : u ≠ D20 := ne_lists (us := us) (g := (relab σo L) j) (n := tb.n) (by omega) h0 ea (by omega)
              rw [upd_ne hne]
              exact s2 _ _ h0
            · have : j = us.length := by
                have := (List.getElem?_eq_some_iff.mp e).1
                simp at this
                omega
              subst this
              rw [List.getElem?_append_right (Nat.le_refl _), Nat.sub_self] at e
              have e : D2 = u := by simpa using e
              subst e
              rw [upd_ne n2, lu]
              exact upd_same
      rintro H20 ⟨s20, us, ea20, lu, hu⟩
      have G20 : Grid K H20 D20 tb.n (relab σo L) := grid_of ea20 lu hu
      clear us lu hu ea20
      have e3 := s20 _ _ ex
      have n20 : D20 ≠ D19 := (ne_of_none ex hD20).symm
      have rowsNe : ∀ {u : Addr} {f : Nat → Nat → Nat}, Grid K H20 u tb.n f → u ≠ D19 → Grid K (upd H20 D19 (.lst (usx.map V.ref ++ [.ref D20]))) u tb.n f := fun {u f} G hne => by
        obtain ⟨r, h1, h2⟩ := G.at_
        refine ⟨r, by rw [upd_ne hne]; exact h1, fun x hx => ?_⟩
        rw [upd_ne]
        · exact h2 x hx
        · refine ne_of (h2 x hx) e3 fun e => ?_
          match usx, tb.n, hx, e with
          | [], n + 1, _, e => rw [List.range_succ_eq_map] at e; cases e
          | _ :: _, n + 1, _, e => rw [List.range_succ_eq_map] at e; cases e
      refine ⟨_, e3, ?_, fun x o hx => ?_, usx ++ [D20], ?_, by simp [lux], fun j u e => ?_⟩
      · rw [List.length_map, lux]
        exact LcN.small100 (by omega)
      · rw [upd_ne (ne_of_none hx hD19)]
        exact s20 _ _ (sy _ _ hx)
      · rw [upd_same]
        simp
      · by_cases hj : j < usx.length
        · rw [List.getElem?_append_left hj] at e
          obtain ⟨h0, hne⟩ := hux j u e
          exact ⟨rowsNe (h0.same s20) hne, hne⟩
        · have : j = usx.length := by
            have := (List.getElem?_eq_some_iff.mp e).1
            simp at this
            omega
          subst this
          rw [List.getElem?_append_right (Nat.le_refl _), Nat.sub_self] at e
          have e : D20 = u := by simpa using e
          subst e
          rw [lux, ← hL]
          exact ⟨rowsNe G20 n20, n20⟩
    rintro H21 ⟨s21, us, e21, lu, hu⟩
    have lu : us.length = 2 := lu
    match us, lu, e21, hu with
    | [tA, tB], _, e21, hu =>
    have GA : Grid K H21 tA tb.n (relab σo tb.s) := (hu 0 tA rfl).1
    have GB : Grid K H21 tB tb.n (relab σo tb.t) := (hu 1 tB rfl).1
    have B21 := (B18.same sl).same s21
    have T21 := (T18.ext sl).ext s21
    have eDm21 := s21 _ _ (sl _ _ eDm18)
    have all21 : ∀ T ∈ Ts, ∃ tb ∈ tabs, TabR K H21 T tb := fun T hT => by
      obtain ⟨tb, h1, h2⟩ := all18 T hT
      exact ⟨tb, h1, (h2.same sl).same s21⟩
    clear hu B18 T18 Gs Gp sl s21 el eOl eO18 hD19 nl eDm18 all18
    unfold chk at hck
    rw [Bool.and_eq_true, Bool.and_eq_true] at hck
    obtain ⟨⟨hl1, hl2⟩, hck⟩ := hck
    have lA := lt_of hl1
    have lB := lt_of hl2
    refine ⟨2, rfl, by decide, by decide, for_range (n := 2) (fun j σ H' => ∃ (y17 y18 : Option V), σ = [some (.ref a), some (.ref b), some (.ref kl), some (.ref mp), some (.ref D4), none, none, some (.ref D5), some (.ref R), none, some (.ref s1), some (.ref p1), some (.str tb.rule), some (.int (tb.n : Nat)), some (.ref O), some (.ref D19), none, y17, y18] ∧ LamX.ExtN H21 H' ∧ LamX.TabS H' Pt lq)
      ⟨_, _, rfl, LamX.ExtN.refl _, T21⟩ ?_ ?_⟩
    rotate_left
    · rintro σ H22 ⟨y17, y18, rfl, x22, T22⟩
      exact ⟨_, _, _, _, _, _, _, _, rfl, bg_ext B21 x22, T22, x22 _ _ eDm21 (fun ps z => by cases z), fun T hT => by
        obtain ⟨tb, h1, h2⟩ := all21 T hT
        exact ⟨tb, h1, h2.ext x22⟩⟩
    rintro j σ Hq hj ⟨y17, y18, rfl, xq, Tq⟩
    refine ⟨fun p hp => by rw [List.mem_singleton.mp hp, ← hlq]; exact Tq, fun H22 eN T22 => ?_⟩
    have T22' : LamX.TabS H22 Pt lq := by
      rw [hlq]
      exact T22 _ List.mem_cons_self
    clear T22
    have x22 := xq.trans eN
    have e22 := x22 _ _ e21 (fun ps z => by cases z)
    have GA22 := GA.ext x22
    have GB22 := GB.ext x22
    refine ⟨_, rfl, D19, _, _, _, rfl, rfl, SqL.of (e22), atI_nat (j := 0) rfl, _, rfl, D19, _, _, _, rfl, rfl, SqL.of (e22), atI_nat (j := 1) rfl, fun x dx nx ndx ne => ?_⟩
    have hm1 := made_same (C := C) nx ndx
    by_cases hrule : tb.rule = ""
    · rw [if_pos hrule] at hck
      obtain ⟨o, z, e, G, v1, v2, v3⟩ := good_of hck
      refine ⟨x, dx, tA, tB, tb.n, relab σo tb.s, relab σo tb.t, rfl, upd_same, GA22.same hm1, lA, GB22.same hm1, lB, hn2, by omega, .inr ⟨o, z, e, G, fun H23 fs1 k23 hx1 f1 f2 f3 => ⟨rfl, ?_⟩⟩⟩
      have s23 : Same H22 H23 := made_kp nx ndx k23
      refine ⟨x, dx, fs1, rfl, hx1, x, dx, fs1, _, rfl, hx1, f1, ?_⟩
      refine ⟨_, rfl, D19, _, _, _, rfl, rfl, SqL.of (s23 _ _ e22), atI_nat (j := 0) rfl, _, rfl, D19, _, _, _, rfl, rfl, SqL.of (s23 _ _ e22), atI_nat (j := 1) rfl, rfl, rfl, fun x2 dx2 nx2 ndx2 ne2 => ?_⟩
      have hm2 := made_same (C := C) nx2 ndx2
      refine ⟨x2, dx2, tA, tB, tb.n, relab σo tb.s, relab σo tb.t, rfl, upd_same, (GA22.same s23).same hm2, lA, (GB22.same s23).same hm2, lB, hn2, by omega, .inr ⟨o, z, e, G, fun H24 fs2 k24 hx2 g1 g2 g3 => ⟨rfl, ?_⟩⟩⟩
      have s24 : Same H22 H24 := s23.trans (made_kp nx2 ndx2 k24)
      refine ⟨x2, dx2, fs2, rfl, hx2, x2, dx2, fs2, _, rfl, hx2, g2, ?_⟩
      refine ⟨_, rfl, D19, _, _, _, rfl, rfl, SqL.of (s24 _ _ e22), atI_nat (j := 0) rfl, _, rfl, D19, _, _, _, rfl, rfl, SqL.of (s24 _ _ e22), atI_nat (j := 1) rfl, fun x3 dx3 nx3 ndx3 ne3 => ?_⟩
      have hm3 := made_same (C := C) nx3 ndx3
      refine ⟨x3, dx3, tA, tB, tb.n, relab σo tb.s, relab σo tb.t, rfl, upd_same, (GA22.same s24).same hm3, lA, (GB22.same s24).same hm3, lB, hn2, by omega, .inr ⟨o, z, e, G, fun H25 fs3 k25 hx3 h1 h2 h3 => ⟨rfl, ?_⟩⟩⟩
      have s25 : Same H22 H25 := s24.trans (made_kp nx3 ndx3 k25)
      refine ⟨x3, dx3, fs3, rfl, hx3, x3, dx3, fs3, _, rfl, hx3, h3, ?_⟩
      rw [v1, v2, v3]
      refine ⟨by show 3 ≤ sizeLine; decide, fun l3 nl3 => ⟨by show 2 ≤ sizeLine; decide, fun p3 np3 => ?_⟩⟩
      have u1 := same_upd (o := .lst [.int ((2 : Nat) : Int), .int ((1 : Nat) : Int), .int ((2 : Nat) : Int)]) nl3
      have u2 := same_upd (o := .tup [.str "", .ref l3]) np3
      refine ⟨_, rfl, _, rfl, ⟨rfl, ?_⟩⟩
      refine ⟨_, rfl, ite_no (by rw [hrule]; decide) ⟨by show 3 ≤ sizeLine; decide, fun l4 nl4 => ⟨by show 2 ≤ sizeLine; decide, fun p4 np4 => ?_⟩⟩⟩
      have u3 := same_upd (o := .lst [.int 2, .int 1, .int 2]) nl4
      have u4 := same_upd (o := .tup [.str "", .ref l4]) np4
      refine ⟨.ref p3, .ref p4, rfl, Eqd.tup (u4 _ _ (u3 _ _ upd_same)) upd_same (by show 2 ≤ 1000; decide) (.cons (Eqd.leaf True.intro) (.cons (Eqd.lst (u4 _ _ (u3 _ _ (u2 _ _ upd_same))) (u4 _ _ upd_same) (by show 3 ≤ 1000; decide) (.cons (Eqd.leaf True.intro) (.cons (Eqd.leaf True.intro) (.cons (Eqd.leaf True.intro) .nil)))) .nil)), fun H26 s26 => ⟨_, rfl, iteF ?_⟩⟩
      have sF := s25.trans (u1.trans (u2.trans (u3.trans (u4.trans s26))))
      exact ⟨_, _, rfl, x22.trans (LamX.ExtN.of sF), T22'.ext sF⟩
    · rw [if_neg hrule] at hck
      have ck := of_decide_eq_true hck
      refine ⟨x, dx, tA, tB, tb.n, relab σo tb.s, relab σo tb.t, rfl, upd_same, GA22.same hm1, lA, GB22.same hm1, lB, hn2, by omega, .inl ⟨tb.rule, ck, fun H23 d s23 hd => ⟨hm0, "InvalidTable", .str tb.rule, ⟨CE, d, _, "rule", rfl, xf, rfl, upd_same, noC, rfl, by decide +kernel, noG, rfl⟩, fun H24 p s24 hp => ?_⟩⟩⟩
      refine ⟨_, rfl, _, rfl, ⟨rfl, _, rfl, ite_of (by rw [Bool.not_eq_true', decide_eq_false_iff_not]; intro z; injection z with z; exact hrule z) ⟨_, rfl, by show 2 ≤ sizeLine; decide, fun p2 np2 => ?_⟩⟩⟩
      have y1 := same_upd (o := .tup [.str "InvalidTable", .str tb.rule]) hp
      have y2 := same_upd (o := .tup [.str "InvalidTable", .str tb.rule]) np2
      refine ⟨.ref p, .ref p2, rfl, Eqd.tup (y2 _ _ upd_same) upd_same (by show 2 ≤ 1000; decide) (.cons (Eqd.leaf True.intro) (.cons (Eqd.leaf True.intro) .nil)), fun H26 s26 => ⟨_, rfl, iteF ?_⟩⟩
      have sF := hm1.trans (s23.trans ((same_upd hd).trans (s24.trans (y1.trans (y2.trans s26)))))
      exact ⟨_, _, rfl, x22.trans (LamX.ExtN.of sF), T22'.ext sF⟩
  obtain ⟨t, ht, hq⟩ := main
  exact ⟨t, ht.nox, hq⟩
end
end My
namespace My
open PySem PySem.Spec PyProof.Rows L2
theorem all_mk {l : PySem.W.OpenLaw} {w : World} {K : PySem.W.Frag} {h : Heap} {mg : Str → Option Value} {fa : Addr} (X : K.In h) (G : h.Ns mainGlobals mg) (hfa : mg "law" = some (.ref fa))
    {f1 : Addr} {od1 an1 : Option Addr} {sl1 : Array (Option Value)} {oc1 kV1 dc1 pm1 cd1 ct1 : Value} {f2 : Addr} {od2 an2 : Option Addr} {sl2 : Array (Option Value)} {oc2 kV2 dc2 pm2 cd2 ct2 : Value} {f3 : Addr} {od3 an3 : Option Addr} {sl3 : Array (Option Value)} {oc3 kV3 dc3 pm3 cd3 ct3 : Value} {f4 : Addr} {od4 an4 : Option Addr} {sl4 : Array (Option Value)} {oc4 kV4 dc4 pm4 cd4 ct4 : Value} {f5 : Addr} {od5 an5 : Option Addr} {sl5 : Array (Option Value)} {oc5 kV5 dc5 pm5 cd5 ct5 : Value} {f6 : Addr} {od6 an6 : Option Addr} {sl6 : Array (Option Value)} {oc6 kV6 dc6 pm6 cd6 ct6 : Value} {f7 : Addr} {od7 an7 : Option Addr} {sl7 : Array (Option Value)} {oc7 kV7 dc7 pm7 cd7 ct7 : Value} {f8 : Addr} {od8 an8 : Option Addr} {sl8 : Array (Option Value)} {oc8 kV8 dc8 pm8 cd8 ct8 : Value} {f9 : Addr} {od9 an9 : Option Addr} {sl9 : Array (Option Value)} {oc9 kV9 dc9 pm9 cd9 ct9 : Value} {f10 : Addr} {od10 an10 : Option Addr} {sl10 : Array (Option Value)} {oc10 kV10 dc10 pm10 cd10 ct10 : Value} {f11 : Addr} {od11 an11 : Option Addr} {sl11 : Array (Option Value)} {oc11 kV11 dc11 pm11 cd11 ct11 : Value} {f12 : Addr} {od12 an12 : Option Addr} {sl12 : Array (Option Value)} {oc12 kV12 dc12 pm12 cd12 ct12 : Value} {f13 : Addr} {od13 an13 : Option Addr} {sl13 : Array (Option Value)} {oc13 kV13 dc13 pm13 cd13 ct13 : Value} {f14 : Addr} {od14 an14 : Option Addr} {sl14 : Array (Option Value)} {oc14 kV14 dc14 pm14 cd14 ct14 : Value} {f15 : Addr} {od15 an15 : Option Addr} {sl15 : Array (Option Value)} {oc15 kV15 dc15 pm15 cd15 ct15 : Value} {f16 : Addr} {od16 an16 : Option Addr} {sl16 : Array (Option Value)} {oc16 kV16 dc16 pm16 cd16 ct16 : Value} {f17 : Addr} {od17 an17 : Option Addr} {sl17 : Array (Option Value)} {oc17 kV17 dc17 pm17 cd17 ct17 : Value} {f18 : Addr} {od18 an18 : Option Addr} {sl18 : Array (Option Value)} {oc18 kV18 dc18 pm18 cd18 ct18 : Value} {f19 : Addr} {od19 an19 : Option Addr} {sl19 : Array (Option Value)} {oc19 kV19 dc19 pm19 cd19 ct19 : Value} {f20 : Addr} {od20 an20 : Option Addr} {sl20 : Array (Option Value)} {oc20 kV20 dc20 pm20 cd20 ct20 : Value} {f21 : Addr} {od21 an21 : Option Addr} {sl21 : Array (Option Value)} {oc21 kV21 dc21 pm21 cd21 ct21 : Value} {f22 : Addr} {od22 an22 : Option Addr} {sl22 : Array (Option Value)} {oc22 kV22 dc22 pm22 cd22 ct22 : Value} {u_LEAST_THINGS : Tok} {u_MOST_TABLE : Tok} {C_InvalidTable f_InvalidTable x_InvalidTable d_InvalidTable N_InvalidTable : Addr} {nm_InvalidTable qn_InvalidTable ql_InvalidTable ms_InvalidTable fl_InvalidTable : Str} {bs_InvalidTable bm_InvalidTable sub_InvalidTable : List Value} {sn_InvalidTable : List Str} {ab_InvalidTable : Bool} {col_InvalidTable : Option Bool} {dd_InvalidTable od_InvalidTable an_InvalidTable cdd_InvalidTable cld_InvalidTable : Option Addr} {v0_InvalidTable v1_InvalidTable v2_InvalidTable v3_InvalidTable v5_InvalidTable : Option Value} {oc_InvalidTable dc_InvalidTable pm_InvalidTable ct_InvalidTable ccl_InvalidTable cl_InvalidTable : Value} {os_InvalidTable ccs_InvalidTable csl_InvalidTable : Array (Option Value)} {vs_InvalidTable : Array Value} {tf_InvalidTable : Tok} {n1_InvalidTable n2_InvalidTable : Nat} {p1_InvalidTable p2_InvalidTable a1_InvalidTable a2_InvalidTable a3_InvalidTable a4_InvalidTable a5_InvalidTable a6_InvalidTable b1_InvalidTable b2_InvalidTable b3_InvalidTable b4_InvalidTable c1_InvalidTable c2_InvalidTable c3_InvalidTable c4_InvalidTable : Pos} {C_Ring : Addr} {f_Ring_ones : Addr} {od_Ring_ones an_Ring_ones : Option Addr} {sl_Ring_ones : Array (Option Value)} {oc_Ring_ones dc_Ring_ones pm_Ring_ones cd_Ring_ones ct_Ring_ones : Value} {kV_Ring_ones : Value} {p_Ring_ones : Addr} {rs_Ring_ones : List Value} {f_Ring_swaps : Addr} {od_Ring_swaps an_Ring_swaps : Option Addr} {sl_Ring_swaps : Array (Option Value)} {oc_Ring_swaps dc_Ring_swaps pm_Ring_swaps cd_Ring_swaps ct_Ring_swaps : Value} {kV_Ring_swaps : Value} {p_Ring_swaps : Addr} {rs_Ring_swaps : List Value} {f_Ring_squares : Addr} {od_Ring_squares an_Ring_squares : Option Addr} {sl_Ring_squares : Array (Option Value)} {oc_Ring_squares dc_Ring_squares pm_Ring_squares cd_Ring_squares ct_Ring_squares : Value} {kV_Ring_squares : Value} {p_Ring_squares : Addr} {rs_Ring_squares : List Value} {f_Ring_init : Addr} {od_Ring_init an_Ring_init : Option Addr} {sl_Ring_init : Array (Option Value)} {oc_Ring_init dc_Ring_init pm_Ring_init cd_Ring_init ct_Ring_init : Value} {kV_Ring_init : Value} {C_Table : Addr} {f_Table__plus : Addr} {od_Table__plus an_Table__plus : Option Addr} {sl_Table__plus : Array (Option Value)} {oc_Table__plus dc_Table__plus pm_Table__plus cd_Table__plus ct_Table__plus : Value} {kV_Table__plus : Value} {f_Table__order : Addr} {od_Table__order an_Table__order : Option Addr} {sl_Table__order : Array (Option Value)} {oc_Table__order dc_Table__order pm_Table__order cd_Table__order ct_Table__order : Value} {kV_Table__order : Value} {f_Table__times : Addr} {od_Table__times an_Table__times : Option Addr} {sl_Table__times : Array (Option Value)} {oc_Table__times dc_Table__times pm_Table__times cd_Table__times ct_Table__times : Value} {kV_Table__times : Value} {f_Table__difference_order : Addr} {od_Table__difference_order an_Table__difference_order : Option Addr} {sl_Table__difference_order : Array (Option Value)} {oc_Table__difference_order dc_Table__difference_order pm_Table__difference_order cd_Table__difference_order ct_Table__difference_order : Value} {kV_Table__difference_order : Value} {f_Table__share : Addr} {od_Table__share an_Table__share : Option Addr} {sl_Table__share : Array (Option Value)} {oc_Table__share dc_Table__share pm_Table__share cd_Table__share ct_Table__share : Value} {kV_Table__share : Value} {f_Table__numbers : Addr} {od_Table__numbers an_Table__numbers : Option Addr} {sl_Table__numbers : Array (Option Value)} {oc_Table__numbers dc_Table__numbers pm_Table__numbers cd_Table__numbers ct_Table__numbers : Value} {kV_Table__numbers : Value} {g_RingError : Value} {g_Missing : Value} {g_NothingLeft : Value}
    {cL PL fT ccT cdT : Addr} {ocT kVT docT pmT ctT clT cclT : Value} {odT anT cldT cddT : Option Addr} {oslT cslT ccsT : Array (Option Value)} {vsT : Array Value} {flT : Str} {tfT : Tok} {eL : Value} {ddL : Option Addr} {vsL : Array Value} {slL : Array (Option Value)}
    (z_super : PySem.W.nsIn K mainGlobals "super" = some none) (opq : PySem.W.nsIn K PySem.cStatics "thirdparty.any" = some none) (topSuper : (l.prog.main.scope.names.lookup ("super" : Str)).isSome = false)
    (a1 : PySem.W.nsIn K mainGlobals "_wall" = some (some (.ref f1))) (l1 : K.lookup f1 = some ⟨oc1, od1, .func (PySem.W.fnOf "_wall" "_wall" (defArgs s__wall) (defBody s__wall) (defScope s__wall) .none kV1 dc1 pm1 an1 cd1 ct1), sl1⟩) (c1 : PySem.W.codeIn K cd1 "_wall" = true) (k1 : PySem.W.keepIn K (.ref f1) = true)
    (a2 : PySem.W.nsIn K mainGlobals "is_int" = some (some (.ref f2))) (l2 : K.lookup f2 = some ⟨oc2, od2, .func (PySem.W.fnOf "is_int" "is_int" (defArgs s_is_int) (defBody s_is_int) (defScope s_is_int) .none kV2 dc2 pm2 an2 cd2 ct2), sl2⟩) (c2 : PySem.W.codeIn K cd2 "is_int" = true) (k2 : PySem.W.keepIn K (.ref f2) = true)
    (a3 : PySem.W.nsIn K mainGlobals "is_between" = some (some (.ref f3))) (l3 : K.lookup f3 = some ⟨oc3, od3, .func (PySem.W.fnOf "is_between" "is_between" (defArgs s_is_between) (defBody s_is_between) (defScope s_is_between) .none kV3 dc3 pm3 an3 cd3 ct3), sl3⟩) (c3 : PySem.W.codeIn K cd3 "is_between" = true) (k3 : PySem.W.keepIn K (.ref f3) = true)
    (a4 : PySem.W.nsIn K mainGlobals "multiple" = some (some (.ref f4))) (l4 : K.lookup f4 = some ⟨oc4, od4, .func (PySem.W.fnOf "multiple" "multiple" (defArgs s_multiple) (defBody s_multiple) (defScope s_multiple) .none kV4 dc4 pm4 an4 cd4 ct4), sl4⟩) (c4 : PySem.W.codeIn K cd4 "multiple" = true) (k4 : PySem.W.keepIn K (.ref f4) = true)
    (a5 : PySem.W.nsIn K mainGlobals "inverse_modulo" = some (some (.ref f5))) (l5 : K.lookup f5 = some ⟨oc5, od5, .func (PySem.W.fnOf "inverse_modulo" "inverse_modulo" (defArgs s_inverse_modulo) (defBody s_inverse_modulo) (defScope s_inverse_modulo) .none kV5 dc5 pm5 an5 cd5 ct5), sl5⟩) (c5 : PySem.W.codeIn K cd5 "inverse_modulo" = true) (k5 : PySem.W.keepIn K (.ref f5) = true)
    (a6 : PySem.W.nsIn K mainGlobals "depth_over" = some (some (.ref f6))) (l6 : K.lookup f6 = some ⟨oc6, od6, .func (PySem.W.fnOf "depth_over" "depth_over" (defArgs s_depth_over) (defBody s_depth_over) (defScope s_depth_over) .none kV6 dc6 pm6 an6 cd6 ct6), sl6⟩) (c6 : PySem.W.codeIn K cd6 "depth_over" = true) (k6 : PySem.W.keepIn K (.ref f6) = true)
    (a7 : PySem.W.nsIn K mainGlobals "is_table" = some (some (.ref f7))) (l7 : K.lookup f7 = some ⟨oc7, od7, .func (PySem.W.fnOf "is_table" "is_table" (defArgs s_is_table) (defBody s_is_table) (defScope s_is_table) .none kV7 dc7 pm7 an7 cd7 ct7), sl7⟩) (c7 : PySem.W.codeIn K cd7 "is_table" = true) (k7 : PySem.W.keepIn K (.ref f7) = true)
    (a8 : PySem.W.nsIn K mainGlobals "is_row" = some (some (.ref f8))) (l8 : K.lookup f8 = some ⟨oc8, od8, .func (PySem.W.fnOf "is_row" "is_row" (defArgs s_is_row) (defBody s_is_row) (defScope s_is_row) .none kV8 dc8 pm8 an8 cd8 ct8), sl8⟩) (c8 : PySem.W.codeIn K cd8 "is_row" = true) (k8 : PySem.W.keepIn K (.ref f8) = true)
    (a9 : PySem.W.nsIn K mainGlobals "has_form" = some (some (.ref f9))) (l9 : K.lookup f9 = some ⟨oc9, od9, .func (PySem.W.fnOf "has_form" "has_form" (defArgs s_has_form) (defBody s_has_form) (defScope s_has_form) .none kV9 dc9 pm9 an9 cd9 ct9), sl9⟩) (c9 : PySem.W.codeIn K cd9 "has_form" = true) (k9 : PySem.W.keepIn K (.ref f9) = true)
    (a10 : PySem.W.nsIn K mainGlobals "is_commutative" = some (some (.ref f10))) (l10 : K.lookup f10 = some ⟨oc10, od10, .func (PySem.W.fnOf "is_commutative" "is_commutative" (defArgs s_is_commutative) (defBody s_is_commutative) (defScope s_is_commutative) .none kV10 dc10 pm10 an10 cd10 ct10), sl10⟩) (c10 : PySem.W.codeIn K cd10 "is_commutative" = true) (k10 : PySem.W.keepIn K (.ref f10) = true)
    (a11 : PySem.W.nsIn K mainGlobals "is_associative" = some (some (.ref f11))) (l11 : K.lookup f11 = some ⟨oc11, od11, .func (PySem.W.fnOf "is_associative" "is_associative" (defArgs s_is_associative) (defBody s_is_associative) (defScope s_is_associative) .none kV11 dc11 pm11 an11 cd11 ct11), sl11⟩) (c11 : PySem.W.codeIn K cd11 "is_associative" = true) (k11 : PySem.W.keepIn K (.ref f11) = true)
    (a12 : PySem.W.nsIn K mainGlobals "neutral" = some (some (.ref f12))) (l12 : K.lookup f12 = some ⟨oc12, od12, .func (PySem.W.fnOf "neutral" "neutral" (defArgs s_neutral) (defBody s_neutral) (defScope s_neutral) .none kV12 dc12 pm12 an12 cd12 ct12), sl12⟩) (c12 : PySem.W.codeIn K cd12 "neutral" = true) (k12 : PySem.W.keepIn K (.ref f12) = true)
    (a13 : PySem.W.nsIn K mainGlobals "spreads" = some (some (.ref f13))) (l13 : K.lookup f13 = some ⟨oc13, od13, .func (PySem.W.fnOf "spreads" "spreads" (defArgs s_spreads) (defBody s_spreads) (defScope s_spreads) .none kV13 dc13 pm13 an13 cd13 ct13), sl13⟩) (c13 : PySem.W.codeIn K cd13 "spreads" = true) (k13 : PySem.W.keepIn K (.ref f13) = true)
    (a14 : PySem.W.nsIn K mainGlobals "is_sum" = some (some (.ref f14))) (l14 : K.lookup f14 = some ⟨oc14, od14, .func (PySem.W.fnOf "is_sum" "is_sum" (defArgs s_is_sum) (defBody s_is_sum) (defScope s_is_sum) .none kV14 dc14 pm14 an14 cd14 ct14), sl14⟩) (c14 : PySem.W.codeIn K cd14 "is_sum" = true) (k14 : PySem.W.keepIn K (.ref f14) = true)
    (a15 : PySem.W.nsIn K mainGlobals "check_rules" = some (some (.ref f15))) (l15 : K.lookup f15 = some ⟨oc15, od15, .func (PySem.W.fnOf "check_rules" "check_rules" (defArgs s_check_rules) (defBody s_check_rules) (defScope s_check_rules) .none kV15 dc15 pm15 an15 cd15 ct15), sl15⟩) (c15 : PySem.W.codeIn K cd15 "check_rules" = true) (k15 : PySem.W.keepIn K (.ref f15) = true)
    (a16 : PySem.W.nsIn K mainGlobals "_law_bag" = some (some (.ref f16))) (l16 : K.lookup f16 = some ⟨oc16, od16, .func (PySem.W.fnOf "_law_bag" "_law_bag" (defArgs s_l_bag) (defBody s_l_bag) (defScope s_l_bag) .none kV16 dc16 pm16 an16 cd16 ct16), sl16⟩) (c16 : PySem.W.codeIn K cd16 "_law_bag" = true) (k16 : PySem.W.keepIn K (.ref f16) = true)
    (a17 : PySem.W.nsIn K mainGlobals "_law_draw" = some (some (.ref f17))) (l17 : K.lookup f17 = some ⟨oc17, od17, .func (PySem.W.fnOf "_law_draw" "_law_draw" (defArgs s_l_draw) (defBody s_l_draw) (defScope s_l_draw) .none kV17 dc17 pm17 an17 cd17 ct17), sl17⟩) (c17 : PySem.W.codeIn K cd17 "_law_draw" = true) (k17 : PySem.W.keepIn K (.ref f17) = true)
    (a18 : PySem.W.nsIn K mainGlobals "_law_mixed" = some (some (.ref f18))) (l18 : K.lookup f18 = some ⟨oc18, od18, .func (PySem.W.fnOf "_law_mixed" "_law_mixed" (defArgs s_l_mixed) (defBody s_l_mixed) (defScope s_l_mixed) .none kV18 dc18 pm18 an18 cd18 ct18), sl18⟩) (c18 : PySem.W.codeIn K cd18 "_law_mixed" = true) (k18 : PySem.W.keepIn K (.ref f18) = true)
    (a19 : PySem.W.nsIn K mainGlobals "_law_same" = some (some (.ref f19))) (l19 : K.lookup f19 = some ⟨oc19, od19, .func (PySem.W.fnOf "_law_same" "_law_same" (defArgs s_l_same) (defBody s_l_same) (defScope s_l_same) .none kV19 dc19 pm19 an19 cd19 ct19), sl19⟩) (c19 : PySem.W.codeIn K cd19 "_law_same" = true) (k19 : PySem.W.keepIn K (.ref f19) = true)
    (a20 : PySem.W.nsIn K mainGlobals "_law_field" = some (some (.ref f20))) (l20 : K.lookup f20 = some ⟨oc20, od20, .func (PySem.W.fnOf "_law_field" "_law_field" (defArgs s_l_field) (defBody s_l_field) (defScope s_l_field) .none kV20 dc20 pm20 an20 cd20 ct20), sl20⟩) (c20 : PySem.W.codeIn K cd20 "_law_field" = true) (k20 : PySem.W.keepIn K (.ref f20) = true)
    (a21 : PySem.W.nsIn K mainGlobals "_law_got" = some (some (.ref f21))) (l21 : K.lookup f21 = some ⟨oc21, od21, .func (PySem.W.fnOf "_law_got" "_law_got" (defArgs s_l_got) (defBody s_l_got) (defScope s_l_got) .none kV21 dc21 pm21 an21 cd21 ct21), sl21⟩) (c21 : PySem.W.codeIn K cd21 "_law_got" = true) (k21 : PySem.W.keepIn K (.ref f21) = true)
    (a22 : PySem.W.nsIn K mainGlobals "law" = some (some (.ref f22))) (l22 : K.lookup f22 = some ⟨oc22, od22, .func (PySem.W.fnOf "law" "law" (defArgs s_law) (defBody s_law) (defScope s_law) .none kV22 dc22 pm22 an22 cd22 ct22), sl22⟩) (c22 : PySem.W.codeIn K cd22 "law" = true) (k22 : PySem.W.keepIn K (.ref f22) = true)
    (z_IndexError : PySem.W.nsIn K mainGlobals "IndexError" = some none)
    (z_LookupError : PySem.W.nsIn K mainGlobals "LookupError" = some none)
    (z_ValueError : PySem.W.nsIn K mainGlobals "ValueError" = some none)
    (z_abs : PySem.W.nsIn K mainGlobals "abs" = some none)
    (z_all : PySem.W.nsIn K mainGlobals "all" = some none)
    (z_bool : PySem.W.nsIn K mainGlobals "bool" = some none)
    (z_int : PySem.W.nsIn K mainGlobals "int" = some none)
    (z_isinstance : PySem.W.nsIn K mainGlobals "isinstance" = some none)
    (z_len : PySem.W.nsIn K mainGlobals "len" = some none)
    (z_list : PySem.W.nsIn K mainGlobals "list" = some none)
    (z_max : PySem.W.nsIn K mainGlobals "max" = some none)
    (z_range : PySem.W.nsIn K mainGlobals "range" = some none)
    (z_str : PySem.W.nsIn K mainGlobals "str" = some none)
    (z_tuple : PySem.W.nsIn K mainGlobals "tuple" = some none)
    (z_zip : PySem.W.nsIn K mainGlobals "zip" = some none)
    (m_lcm : PySem.W.nsIn K mainGlobals "lcm" = some (some (.builtin "math.lcm")))
    (m_LEAST_THINGS : PySem.W.nsIn K mainGlobals "LEAST_THINGS" = some (some (.int 2 u_LEAST_THINGS)))
    (m_MOST_TABLE : PySem.W.nsIn K mainGlobals "MOST_TABLE" = some (some (.int 16 u_MOST_TABLE)))
    (ea_InvalidTable : PySem.W.nsIn K mainGlobals "InvalidTable" = some (some (.ref C_InvalidTable)))
    (eb_InvalidTable : K.lookup C_InvalidTable = some (excClassObj nm_InvalidTable qn_InvalidTable C_InvalidTable N_InvalidTable bs_InvalidTable bm_InvalidTable true sn_InvalidTable sub_InvalidTable ab_InvalidTable col_InvalidTable dd_InvalidTable v0_InvalidTable v1_InvalidTable v2_InvalidTable v3_InvalidTable v5_InvalidTable "ValueError.__new__"))
    (ec_InvalidTable : PySem.HandSPX.refsVE bm_InvalidTable = true)
    (ed_InvalidTable : PySem.W.alongIn K "__init__" bm_InvalidTable = some (some (.builtin "ValueError.__init__")))
    (ee_InvalidTable : PySem.W.findIn K (.ref C_InvalidTable) "__setattr__" = some (some (.builtin "object.__setattr__")))
    (ef_InvalidTable : PySem.W.findIn K (.ref C_InvalidTable) "__getattribute__" = some (some (.builtin "BaseException.__getattribute__")))
    (eg_InvalidTable : PySem.W.findIn K (.ref C_InvalidTable) "__getattr__" = some none)
    (eh_InvalidTable : PySem.W.findIn K (.ref C_InvalidTable) "rule" = some none)
    (ei_InvalidTable : PySem.W.findIn K (.ref C_InvalidTable) "code" = some none)
    (ej_InvalidTable : PySem.W.findIn K (.ref C_InvalidTable) "__init__" = some (some (.ref f_InvalidTable)))
    (ek_InvalidTable : PySem.W.typeIn K (.ref f_InvalidTable) = some (.type "function"))
    (el_InvalidTable : PySem.W.keepIn K (.ref C_InvalidTable) = true)
    (em_InvalidTable : PySem.W.subIn K (.ref C_InvalidTable) (.type "BaseException") = some true)
    (en_InvalidTable : PySem.W.subIn K (.ref C_InvalidTable) (.type "ValueError") = some true)
    (eo_InvalidTable : PySem.W.mroIn K C_InvalidTable (.ref C_InvalidTable) = some true)
    (ep_InvalidTable : PySem.W.typeIn K (.ref C_InvalidTable) = some (.type "type"))
    (eq_InvalidTable : PySem.W.hasDictIn K C_InvalidTable = true)
    (er_InvalidTable : K.lookup f_InvalidTable = some ⟨oc_InvalidTable, od_InvalidTable, .func (PySem.W.ksFn "__init__" ql_InvalidTable (PySem.ErrX.eArgs "rule" p1_InvalidTable p2_InvalidTable) (PySem.ErrX.eBody "rule" ms_InvalidTable "InvalidTable" n1_InvalidTable n2_InvalidTable a1_InvalidTable a2_InvalidTable a3_InvalidTable a4_InvalidTable a5_InvalidTable a6_InvalidTable b1_InvalidTable b2_InvalidTable b3_InvalidTable b4_InvalidTable c1_InvalidTable c2_InvalidTable c3_InvalidTable c4_InvalidTable) (PySem.ErrX.eScope "rule") .none .none dc_InvalidTable pm_InvalidTable an_InvalidTable (.ref d_InvalidTable) ct_InvalidTable x_InvalidTable), os_InvalidTable⟩)
    (es_InvalidTable : PySem.W.codeIn K (.ref d_InvalidTable) ql_InvalidTable = true)
    (et_InvalidTable : K.lookup x_InvalidTable = some ⟨cl_InvalidTable, cld_InvalidTable, .cell (some (.ref C_InvalidTable)), csl_InvalidTable⟩)
    (eu_InvalidTable : K.lookup d_InvalidTable = some ⟨ccl_InvalidTable, cdd_InvalidTable, .fields vs_InvalidTable, ccs_InvalidTable⟩)
    (ev_InvalidTable : vs_InvalidTable[2]? = some (.str fl_InvalidTable tf_InvalidTable))
    (ex_InvalidTable : PySem.ErrX.InitEval ms_InvalidTable n1_InvalidTable a1_InvalidTable a2_InvalidTable a3_InvalidTable a4_InvalidTable a5_InvalidTable)
    (ew_InvalidTable : ((l.prog.main.file : Str) == fl_InvalidTable) = true)
    (cg_Ring : PySem.W.nsIn K mainGlobals "Ring" = some (some (.ref C_Ring)))
    (c1_Ring : PySem.W.plainGet K C_Ring Str.empty = true)
    (c2_Ring : PySem.W.hasDictIn K C_Ring = true)
    (c3_Ring : PySem.W.plainOver K C_Ring = true)
    (c4_Ring : PySem.W.findIn K (.ref C_Ring) "__setattr__" = some (some (.builtin "object.__setattr__")))
    (c5_Ring : PySem.W.readsIn K C_Ring (.type "type") = true)
    (c6_Ring : PySem.W.specialIn K (.ref C_Ring) "__getattribute__" = some (some (.builtin "type.__getattribute__")))
    (ia_Ring : PySem.W.findIn K (.ref C_Ring) "__class__" = some (some (.builtin "object.__class__")))
    (ib_Ring : PySem.W.specialIn K (.builtin "object.__class__") "__get__" = some (some (.builtin "getset_descriptor.__get__")))
    (ic_Ring : PySem.W.takesIn K (.builtin "object.__class__") = some true)
    (id_Ring : PySem.W.mroIn K C_Ring (.type "object") = some true)
    (pa_Ring_ones : PySem.W.findIn K (.ref C_Ring) "ones" = some (some (.ref p_Ring_ones)))
    (pb_Ring_ones : PySem.W.specialIn K (.ref p_Ring_ones) "__get__" = some (some (.builtin "property.__get__")))
    (pc_Ring_ones : PySem.W.takesIn K (.ref p_Ring_ones) = some true)
    (pd_Ring_ones : PySem.W.recIn K p_Ring_ones "property" = some (.ref f_Ring_ones :: rs_Ring_ones))
    (l_Ring_ones : K.lookup f_Ring_ones = some ⟨oc_Ring_ones, od_Ring_ones, .func (PySem.W.fnOf "ones" "Ring.ones" (defArgs s_Ring_ones) (defBody s_Ring_ones) (defScope s_Ring_ones) .none kV_Ring_ones dc_Ring_ones pm_Ring_ones an_Ring_ones cd_Ring_ones ct_Ring_ones), sl_Ring_ones⟩)
    (c_Ring_ones : PySem.W.codeIn K cd_Ring_ones "Ring.ones" = true)
    (k_Ring_ones : PySem.W.keepIn K (.ref f_Ring_ones) = true)
    (pa_Ring_swaps : PySem.W.findIn K (.ref C_Ring) "swaps" = some (some (.ref p_Ring_swaps)))
    (pb_Ring_swaps : PySem.W.specialIn K (.ref p_Ring_swaps) "__get__" = some (some (.builtin "property.__get__")))
    (pc_Ring_swaps : PySem.W.takesIn K (.ref p_Ring_swaps) = some true)
    (pd_Ring_swaps : PySem.W.recIn K p_Ring_swaps "property" = some (.ref f_Ring_swaps :: rs_Ring_swaps))
    (l_Ring_swaps : K.lookup f_Ring_swaps = some ⟨oc_Ring_swaps, od_Ring_swaps, .func (PySem.W.fnOf "swaps" "Ring.swaps" (defArgs s_Ring_swaps) (defBody s_Ring_swaps) (defScope s_Ring_swaps) .none kV_Ring_swaps dc_Ring_swaps pm_Ring_swaps an_Ring_swaps cd_Ring_swaps ct_Ring_swaps), sl_Ring_swaps⟩)
    (c_Ring_swaps : PySem.W.codeIn K cd_Ring_swaps "Ring.swaps" = true)
    (k_Ring_swaps : PySem.W.keepIn K (.ref f_Ring_swaps) = true)
    (pa_Ring_squares : PySem.W.findIn K (.ref C_Ring) "squares" = some (some (.ref p_Ring_squares)))
    (pb_Ring_squares : PySem.W.specialIn K (.ref p_Ring_squares) "__get__" = some (some (.builtin "property.__get__")))
    (pc_Ring_squares : PySem.W.takesIn K (.ref p_Ring_squares) = some true)
    (pd_Ring_squares : PySem.W.recIn K p_Ring_squares "property" = some (.ref f_Ring_squares :: rs_Ring_squares))
    (l_Ring_squares : K.lookup f_Ring_squares = some ⟨oc_Ring_squares, od_Ring_squares, .func (PySem.W.fnOf "squares" "Ring.squares" (defArgs s_Ring_squares) (defBody s_Ring_squares) (defScope s_Ring_squares) .none kV_Ring_squares dc_Ring_squares pm_Ring_squares an_Ring_squares cd_Ring_squares ct_Ring_squares), sl_Ring_squares⟩)
    (c_Ring_squares : PySem.W.codeIn K cd_Ring_squares "Ring.squares" = true)
    (k_Ring_squares : PySem.W.keepIn K (.ref f_Ring_squares) = true)
    (ma_Ring_init : PySem.W.findIn K (.ref C_Ring) "__init__" = some (some (.ref f_Ring_init)))
    (mb_Ring_init : PySem.W.isFn K (.ref f_Ring_init) = true)
    (l_Ring_init : K.lookup f_Ring_init = some ⟨oc_Ring_init, od_Ring_init, .func (PySem.W.fnOf "__init__" "Ring.__init__" (defArgs s_Ring_init) (defBody s_Ring_init) (defScope s_Ring_init) .none kV_Ring_init dc_Ring_init pm_Ring_init an_Ring_init cd_Ring_init ct_Ring_init), sl_Ring_init⟩)
    (c_Ring_init : PySem.W.codeIn K cd_Ring_init "Ring.__init__" = true)
    (k_Ring_init : PySem.W.keepIn K (.ref f_Ring_init) = true)
    (cg_Table : PySem.W.nsIn K mainGlobals "Table" = some (some (.ref C_Table)))
    (c1_Table : PySem.W.plainGet K C_Table Str.empty = true)
    (c2_Table : PySem.W.hasDictIn K C_Table = true)
    (c3_Table : PySem.W.plainOver K C_Table = true)
    (c4_Table : PySem.W.findIn K (.ref C_Table) "__setattr__" = some (some (.builtin "object.__setattr__")))
    (c5_Table : PySem.W.readsIn K C_Table (.type "type") = true)
    (c6_Table : PySem.W.specialIn K (.ref C_Table) "__getattribute__" = some (some (.builtin "type.__getattribute__")))
    (ia_Table : PySem.W.findIn K (.ref C_Table) "__class__" = some (some (.builtin "object.__class__")))
    (ib_Table : PySem.W.specialIn K (.builtin "object.__class__") "__get__" = some (some (.builtin "getset_descriptor.__get__")))
    (ic_Table : PySem.W.takesIn K (.builtin "object.__class__") = some true)
    (id_Table : PySem.W.mroIn K C_Table (.type "object") = some true)
    (no_Table__sums : PySem.W.findIn K (.ref C_Table) "_sums" = some none)
    (no_Table__zero_place : PySem.W.findIn K (.ref C_Table) "_zero_place" = some none)
    (no_Table__orders : PySem.W.findIn K (.ref C_Table) "_orders" = some none)
    (no_Table__products : PySem.W.findIn K (.ref C_Table) "_products" = some none)
    (no_Table__one_place : PySem.W.findIn K (.ref C_Table) "_one_place" = some none)
    (no_Table__parts : PySem.W.findIn K (.ref C_Table) "_parts" = some none)
    (no_Table__ones : PySem.W.findIn K (.ref C_Table) "_ones" = some none)
    (no_Table__swaps : PySem.W.findIn K (.ref C_Table) "_swaps" = some none)
    (no_Table__squares : PySem.W.findIn K (.ref C_Table) "_squares" = some none)
    (no_Table__bases : PySem.W.findIn K (.ref C_Table) "_bases" = some none)
    (no_Table__depth : PySem.W.findIn K (.ref C_Table) "_depth" = some none)
    (no_Table__zero : PySem.W.findIn K (.ref C_Table) "_zero" = some none)
    (no_Table__one : PySem.W.findIn K (.ref C_Table) "_one" = some none)
    (ff0_Table : PySem.W.findIn K (.ref C_Table) "ones" = some (some (.ref p_Ring_ones)))
    (ff1_Table : PySem.W.findIn K (.ref C_Table) "swaps" = some (some (.ref p_Ring_swaps)))
    (ff2_Table : PySem.W.findIn K (.ref C_Table) "squares" = some (some (.ref p_Ring_squares)))
    (ma_Table__plus : PySem.W.findIn K (.ref C_Table) "_plus" = some (some (.ref f_Table__plus)))
    (mb_Table__plus : PySem.W.isFn K (.ref f_Table__plus) = true)
    (l_Table__plus : K.lookup f_Table__plus = some ⟨oc_Table__plus, od_Table__plus, .func (PySem.W.fnOf "_plus" "Table._plus" (defArgs s_Table__plus) (defBody s_Table__plus) (defScope s_Table__plus) .none kV_Table__plus dc_Table__plus pm_Table__plus an_Table__plus cd_Table__plus ct_Table__plus), sl_Table__plus⟩)
    (c_Table__plus : PySem.W.codeIn K cd_Table__plus "Table._plus" = true)
    (k_Table__plus : PySem.W.keepIn K (.ref f_Table__plus) = true)
    (ma_Table__order : PySem.W.findIn K (.ref C_Table) "_order" = some (some (.ref f_Table__order)))
    (mb_Table__order : PySem.W.isFn K (.ref f_Table__order) = true)
    (l_Table__order : K.lookup f_Table__order = some ⟨oc_Table__order, od_Table__order, .func (PySem.W.fnOf "_order" "Table._order" (defArgs s_Table__order) (defBody s_Table__order) (defScope s_Table__order) .none kV_Table__order dc_Table__order pm_Table__order an_Table__order cd_Table__order ct_Table__order), sl_Table__order⟩)
    (c_Table__order : PySem.W.codeIn K cd_Table__order "Table._order" = true)
    (k_Table__order : PySem.W.keepIn K (.ref f_Table__order) = true)
    (ma_Table__times : PySem.W.findIn K (.ref C_Table) "_times" = some (some (.ref f_Table__times)))
    (mb_Table__times : PySem.W.isFn K (.ref f_Table__times) = true)
    (l_Table__times : K.lookup f_Table__times = some ⟨oc_Table__times, od_Table__times, .func (PySem.W.fnOf "_times" "Table._times" (defArgs s_Table__times) (defBody s_Table__times) (defScope s_Table__times) .none kV_Table__times dc_Table__times pm_Table__times an_Table__times cd_Table__times ct_Table__times), sl_Table__times⟩)
    (c_Table__times : PySem.W.codeIn K cd_Table__times "Table._times" = true)
    (k_Table__times : PySem.W.keepIn K (.ref f_Table__times) = true)
    (ma_Table__difference_order : PySem.W.findIn K (.ref C_Table) "_difference_order" = some (some (.ref f_Table__difference_order)))
    (mb_Table__difference_order : PySem.W.isFn K (.ref f_Table__difference_order) = true)
    (l_Table__difference_order : K.lookup f_Table__difference_order = some ⟨oc_Table__difference_order, od_Table__difference_order, .func (PySem.W.fnOf "_difference_order" "Table._difference_order" (defArgs s_Table__difference_order) (defBody s_Table__difference_order) (defScope s_Table__difference_order) .none kV_Table__difference_order dc_Table__difference_order pm_Table__difference_order an_Table__difference_order cd_Table__difference_order ct_Table__difference_order), sl_Table__difference_order⟩)
    (c_Table__difference_order : PySem.W.codeIn K cd_Table__difference_order "Table._difference_order" = true)
    (k_Table__difference_order : PySem.W.keepIn K (.ref f_Table__difference_order) = true)
    (ma_Table__share : PySem.W.findIn K (.ref C_Table) "_share" = some (some (.ref f_Table__share)))
    (mb_Table__share : PySem.W.isFn K (.ref f_Table__share) = true)
    (l_Table__share : K.lookup f_Table__share = some ⟨oc_Table__share, od_Table__share, .func (PySem.W.fnOf "_share" "Table._share" (defArgs s_Table__share) (defBody s_Table__share) (defScope s_Table__share) .none kV_Table__share dc_Table__share pm_Table__share an_Table__share cd_Table__share ct_Table__share), sl_Table__share⟩)
    (c_Table__share : PySem.W.codeIn K cd_Table__share "Table._share" = true)
    (k_Table__share : PySem.W.keepIn K (.ref f_Table__share) = true)
    (ma_Table__numbers : PySem.W.findIn K (.ref C_Table) "_numbers" = some (some (.ref f_Table__numbers)))
    (mb_Table__numbers : PySem.W.isFn K (.ref f_Table__numbers) = true)
    (l_Table__numbers : K.lookup f_Table__numbers = some ⟨oc_Table__numbers, od_Table__numbers, .func (PySem.W.fnOf "_numbers" "Table._numbers" (defArgs s_Table__numbers) (defBody s_Table__numbers) (defScope s_Table__numbers) .none kV_Table__numbers dc_Table__numbers pm_Table__numbers an_Table__numbers cd_Table__numbers ct_Table__numbers), sl_Table__numbers⟩)
    (c_Table__numbers : PySem.W.codeIn K cd_Table__numbers "Table._numbers" = true)
    (k_Table__numbers : PySem.W.keepIn K (.ref f_Table__numbers) = true)
    (m_RingError : PySem.W.nsIn K mainGlobals "RingError" = some (some g_RingError))
    (m_Missing : PySem.W.nsIn K mainGlobals "Missing" = some (some g_Missing))
    (m_NothingLeft : PySem.W.nsIn K mainGlobals "NothingLeft" = some (some g_NothingLeft))
    (lcd : cd22 = .ref cL) (lC : K.lookup cL = some ⟨eL, ddL, .fields vsL, slL⟩) (lT : vsL[11]? = some (.ref PL)) (lP : h.get? PL = some { cls := .none, data := .fields #[] }) (lN : K.lookup PL = none) (lH : PySem.W.codeHdIn K cL PL = true) (hm : PySem.W.exmAny K (.ref C_InvalidTable) [g_RingError, g_Missing, g_NothingLeft] = some true)
    (ta : PySem.W.findIn K (.ref C_Table) "__init__" = some (some (.ref fT))) (tb : PySem.W.isFn K (.ref fT) = true) (tm : PySem.W.makesIn K C_Table = true) (tk : PySem.W.keepIn K (.ref C_Table) = true)
    (tl : K.lookup fT = some ⟨ocT, odT, .func (PySem.W.ksFn "__init__" "Table.__init__" (defArgs s_Table_init) (defBody s_Table_init) (defScope s_Table_init) .none kVT docT pmT anT (.ref cdT) ctT ccT), oslT⟩) (tc : PySem.W.codeIn K (.ref cdT) "Table.__init__" = true)
    (tx : K.lookup ccT = some ⟨clT, cldT, .cell (some (.ref C_Table)), cslT⟩) (tu : K.lookup cdT = some ⟨cclT, cddT, .fields vsT, ccsT⟩) (tv : vsT[2]? = some (.str flT tfT)) (tw : ((l.prog.main.file : Str) == flT) = true)
    (s1 : (PySem.W.clsIn K C_Table).isSome = true) (s2 : PySem.W.mroIn K C_Table (.ref C_Table) = some true) (s3 : PySem.W.ks_superIn K C_Table C_Table "__init__" = some (some (.ref f_Ring_init))) (s4 : PySem.W.typeIn K (.ref f_Ring_init) = some (.type "function")) (s5 : PySem.W.fnIn K f_Ring_init = true) :
    LamX.LawAtS l w K CX0 14 63 "_law_script" mg fa h := by
  have F__wall := fun_mk (st := s__wall) l1 c1 k1
  have b__wall := F__wall.binds (ps := ["k"]) fun _ _ _ _ _ _ us hl => match us, hl with | [_], _ => rfl
  have A__wall : Fn K mg "_wall" s__wall ["k"] := ⟨_, _, F__wall, PySem.W.mg_of X G a1, b__wall⟩
  have F_is_int := fun_mk (st := s_is_int) l2 c2 k2
  have b_is_int := F_is_int.binds (ps := ["value"]) fun _ _ _ _ _ _ us hl => match us, hl with | [_], _ => rfl
  have A_is_int : Fn K mg "is_int" s_is_int ["value"] := ⟨_, _, F_is_int, PySem.W.mg_of X G a2, b_is_int⟩
  have F_is_between := fun_mk (st := s_is_between) l3 c3 k3
  have b_is_between := F_is_between.binds (ps := ["value", "least", "most"]) fun _ _ _ _ _ _ us hl => match us, hl with | [_, _, _], _ => rfl
  have A_is_between : Fn K mg "is_between" s_is_between ["value", "least", "most"] := ⟨_, _, F_is_between, PySem.W.mg_of X G a3, b_is_between⟩
  have F_multiple := fun_mk (st := s_multiple) l4 c4 k4
  have mgf_multiple : mg "multiple" = some (.ref f4) := PySem.W.mg_of X G a4
  have F_inverse_modulo := fun_mk (st := s_inverse_modulo) l5 c5 k5
  have b_inverse_modulo := F_inverse_modulo.binds (ps := ["number", "modulus"]) fun _ _ _ _ _ _ us hl => match us, hl with | [_, _], _ => rfl
  have A_inverse_modulo : Fn K mg "inverse_modulo" s_inverse_modulo ["number", "modulus"] := ⟨_, _, F_inverse_modulo, PySem.W.mg_of X G a5, b_inverse_modulo⟩
  have F_depth_over := fun_mk (st := s_depth_over) l6 c6 k6
  have b_depth_over := F_depth_over.binds (ps := ["bases"]) fun _ _ _ _ _ _ us hl => match us, hl with | [_], _ => rfl
  have A_depth_over : Fn K mg "depth_over" s_depth_over ["bases"] := ⟨_, _, F_depth_over, PySem.W.mg_of X G a6, b_depth_over⟩
  have F_is_table := fun_mk (st := s_is_table) l7 c7 k7
  have b_is_table := F_is_table.binds (ps := ["value", "size"]) fun _ _ _ _ _ _ us hl => match us, hl with | [_, _], _ => rfl
  have A_is_table : Fn K mg "is_table" s_is_table ["value", "size"] := ⟨_, _, F_is_table, PySem.W.mg_of X G a7, b_is_table⟩
  have F_is_row := fun_mk (st := s_is_row) l8 c8 k8
  have b_is_row := F_is_row.binds (ps := ["value", "size"]) fun _ _ _ _ _ _ us hl => match us, hl with | [_, _], _ => rfl
  have A_is_row : Fn K mg "is_row" s_is_row ["value", "size"] := ⟨_, _, F_is_row, PySem.W.mg_of X G a8, b_is_row⟩
  have F_has_form := fun_mk (st := s_has_form) l9 c9 k9
  have b_has_form := F_has_form.binds (ps := ["plus", "times"]) fun _ _ _ _ _ _ us hl => match us, hl with | [_, _], _ => rfl
  have A_has_form : Fn K mg "has_form" s_has_form ["plus", "times"] := ⟨_, _, F_has_form, PySem.W.mg_of X G a9, b_has_form⟩
  have F_is_commutative := fun_mk (st := s_is_commutative) l10 c10 k10
  have b_is_commutative := F_is_commutative.binds (ps := ["rows"]) fun _ _ _ _ _ _ us hl => match us, hl with | [_], _ => rfl
  have A_is_commutative : Fn K mg "is_commutative" s_is_commutative ["rows"] := ⟨_, _, F_is_commutative, PySem.W.mg_of X G a10, b_is_commutative⟩
  have F_is_associative := fun_mk (st := s_is_associative) l11 c11 k11
  have b_is_associative := F_is_associative.binds (ps := ["rows"]) fun _ _ _ _ _ _ us hl => match us, hl with | [_], _ => rfl
  have A_is_associative : Fn K mg "is_associative" s_is_associative ["rows"] := ⟨_, _, F_is_associative, PySem.W.mg_of X G a11, b_is_associative⟩
  have F_neutral := fun_mk (st := s_neutral) l12 c12 k12
  have b_neutral := F_neutral.binds (ps := ["rows"]) fun _ _ _ _ _ _ us hl => match us, hl with | [_], _ => rfl
  have A_neutral : Fn K mg "neutral" s_neutral ["rows"] := ⟨_, _, F_neutral, PySem.W.mg_of X G a12, b_neutral⟩
  have F_spreads := fun_mk (st := s_spreads) l13 c13 k13
  have b_spreads := F_spreads.binds (ps := ["plus", "times"]) fun _ _ _ _ _ _ us hl => match us, hl with | [_, _], _ => rfl
  have A_spreads : Fn K mg "spreads" s_spreads ["plus", "times"] := ⟨_, _, F_spreads, PySem.W.mg_of X G a13, b_spreads⟩
  have F_is_sum := fun_mk (st := s_is_sum) l14 c14 k14
  have b_is_sum := F_is_sum.binds (ps := ["plus"]) fun _ _ _ _ _ _ us hl => match us, hl with | [_], _ => rfl
  have A_is_sum : Fn K mg "is_sum" s_is_sum ["plus"] := ⟨_, _, F_is_sum, PySem.W.mg_of X G a14, b_is_sum⟩
  have F_check_rules := fun_mk (st := s_check_rules) l15 c15 k15
  have b_check_rules := F_check_rules.binds (ps := ["plus", "times"]) fun _ _ _ _ _ _ us hl => match us, hl with | [_, _], _ => rfl
  have A_check_rules : Fn K mg "check_rules" s_check_rules ["plus", "times"] := ⟨_, _, F_check_rules, PySem.W.mg_of X G a15, b_check_rules⟩
  have F_l_bag := fun_mk (st := s_l_bag) l16 c16 k16
  have b_l_bag := F_l_bag.binds (ps := ["_law_script"]) fun _ _ _ _ _ _ us hl => match us, hl with | [_], _ => rfl
  have A_l_bag : Fn K mg "_law_bag" s_l_bag ["_law_script"] := ⟨_, _, F_l_bag, PySem.W.mg_of X G a16, b_l_bag⟩
  have F_l_draw := fun_mk (st := s_l_draw) l17 c17 k17
  have b_l_draw := F_l_draw.binds (ps := ["_law_bag_here", "_law_many"]) fun _ _ _ _ _ _ us hl => match us, hl with | [_, _], _ => rfl
  have A_l_draw : Fn K mg "_law_draw" s_l_draw ["_law_bag_here", "_law_many"] := ⟨_, _, F_l_draw, PySem.W.mg_of X G a17, b_l_draw⟩
  have F_l_mixed := fun_mk (st := s_l_mixed) l18 c18 k18
  have b_l_mixed := F_l_mixed.binds (ps := ["_law_bag_here", "_law_some"]) fun _ _ _ _ _ _ us hl => match us, hl with | [_, _], _ => rfl
  have A_l_mixed : Fn K mg "_law_mixed" s_l_mixed ["_law_bag_here", "_law_some"] := ⟨_, _, F_l_mixed, PySem.W.mg_of X G a18, b_l_mixed⟩
  have F_l_same := fun_mk (st := s_l_same) l19 c19 k19
  have b_l_same := F_l_same.binds (ps := ["_law_found", "_law_due"]) fun _ _ _ _ _ _ us hl => match us, hl with | [_, _], _ => rfl
  have A_l_same : Fn K mg "_law_same" s_l_same ["_law_found", "_law_due"] := ⟨_, _, F_l_same, PySem.W.mg_of X G a19, b_l_same⟩
  have F_l_field := fun_mk (st := s_l_field) l20 c20 k20
  have b_l_field := F_l_field.binds (ps := ["_law_e"]) fun _ _ _ _ _ _ us hl => match us, hl with | [_], _ => rfl
  have A_l_field : Fn K mg "_law_field" s_l_field ["_law_e"] := ⟨_, _, F_l_field, PySem.W.mg_of X G a20, b_l_field⟩
  have F_l_got := fun_mk (st := s_l_got) l21 c21 k21
  have b_l_got := F_l_got.binds (ps := ["_law_ask"]) fun _ _ _ _ _ _ us hl => match us, hl with | [_], _ => rfl
  have A_l_got : Fn K mg "_law_got" s_l_got ["_law_ask"] := ⟨_, _, F_l_got, PySem.W.mg_of X G a21, b_l_got⟩
  have F_law := fun_mk (st := s_law) l22 c22 k22
  have b_law := F_law.binds (ps := ["_law_script"]) fun _ _ _ _ _ _ us hl => match us, hl with | [_], _ => rfl
  have A_law : Fn K mg "law" s_law ["_law_script"] := ⟨_, _, F_law, PySem.W.mg_of X G a22, b_law⟩
  have B : Blt mg := ⟨PySem.W.mg_none_of X G z_IndexError, PySem.W.mg_none_of X G z_LookupError, PySem.W.mg_none_of X G z_ValueError, PySem.W.mg_none_of X G z_abs, PySem.W.mg_none_of X G z_all, PySem.W.mg_none_of X G z_bool, PySem.W.mg_none_of X G z_int, PySem.W.mg_none_of X G z_isinstance, PySem.W.mg_none_of X G z_len, PySem.W.mg_none_of X G z_list, PySem.W.mg_none_of X G z_max, PySem.W.mg_none_of X G z_range, PySem.W.mg_none_of X G z_str, PySem.W.mg_none_of X G z_tuple, PySem.W.mg_none_of X G z_zip⟩
  have E_InvalidTable : PySem.ErrX.ErrTxt l.prog K mg "InvalidTable" "rule" "InvalidTable" C_InvalidTable f_InvalidTable x_InvalidTable d_InvalidTable := ⟨PySem.W.mg_of X G ea_InvalidTable, PySem.W.mg_none_of X G z_super, ⟨_, _, _, _, _, _, _, _, _, _, _, _, _, _, _, eb_InvalidTable, ec_InvalidTable, ed_InvalidTable⟩, ee_InvalidTable, ef_InvalidTable, eg_InvalidTable, eh_InvalidTable, ei_InvalidTable, ej_InvalidTable, ek_InvalidTable, el_InvalidTable, em_InvalidTable, en_InvalidTable, eo_InvalidTable, ep_InvalidTable, eq_InvalidTable, opq, ⟨_, _, _, et_InvalidTable⟩, ⟨_, _, _, _, _, _, eu_InvalidTable, ev_InvalidTable, ew_InvalidTable⟩, topSuper, ⟨_, _, _, _, _, _, _, _, _, _, _, _, _, _, _, _, _, _, _, _, _, _, _, _, _, _, _, er_InvalidTable, es_InvalidTable, fun s a b => .of_eq rfl, ex_InvalidTable⟩, by decide, by decide, by decide, by decide, by decide⟩
  have xf_InvalidTable : XfC K C_InvalidTable := ⟨ef_InvalidTable, eg_InvalidTable, em_InvalidTable, eq_InvalidTable⟩
  have gC_Ring : mg "Ring" = some (.ref C_Ring) := PySem.W.mg_of X G cg_Ring
  have cl_Ring : Cls K C_Ring := ⟨c1_Ring, c2_Ring, c3_Ring, c4_Ring⟩
  have rd_Ring : ClX.CRead K C_Ring (.type "type") := ⟨c5_Ring, c6_Ring⟩
  have F_Ring_ones := fun_mk (st := s_Ring_ones) l_Ring_ones c_Ring_ones k_Ring_ones
  have b_Ring_ones := F_Ring_ones.binds (ps := ["self"]) fun _ _ _ _ _ _ us hl => match us, hl with | [_], _ => rfl
  have po_Ring_ones : PropOf K C_Ring "ones" p_Ring_ones f_Ring_ones := ⟨pa_Ring_ones, pb_Ring_ones, pc_Ring_ones, ⟨_, pd_Ring_ones⟩⟩
  have F_Ring_swaps := fun_mk (st := s_Ring_swaps) l_Ring_swaps c_Ring_swaps k_Ring_swaps
  have b_Ring_swaps := F_Ring_swaps.binds (ps := ["self"]) fun _ _ _ _ _ _ us hl => match us, hl with | [_], _ => rfl
  have po_Ring_swaps : PropOf K C_Ring "swaps" p_Ring_swaps f_Ring_swaps := ⟨pa_Ring_swaps, pb_Ring_swaps, pc_Ring_swaps, ⟨_, pd_Ring_swaps⟩⟩
  have F_Ring_squares := fun_mk (st := s_Ring_squares) l_Ring_squares c_Ring_squares k_Ring_squares
  have b_Ring_squares := F_Ring_squares.binds (ps := ["self"]) fun _ _ _ _ _ _ us hl => match us, hl with | [_], _ => rfl
  have po_Ring_squares : PropOf K C_Ring "squares" p_Ring_squares f_Ring_squares := ⟨pa_Ring_squares, pb_Ring_squares, pc_Ring_squares, ⟨_, pd_Ring_squares⟩⟩
  have F_Ring_init := fun_mk (st := s_Ring_init) l_Ring_init c_Ring_init k_Ring_init
  have b_Ring_init := F_Ring_init.binds (ps := ["self", "parts", "numbers", "bases"]) fun _ _ _ _ _ _ us hl => match us, hl with | [_, _, _, _], _ => rfl
  have me_Ring_init : Meth K C_Ring "__init__" f_Ring_init := ⟨ma_Ring_init, mb_Ring_init, k_Ring_init⟩
  have gC_Table : mg "Table" = some (.ref C_Table) := PySem.W.mg_of X G cg_Table
  have cl_Table : Cls K C_Table := ⟨c1_Table, c2_Table, c3_Table, c4_Table⟩
  have rd_Table : ClX.CRead K C_Table (.type "type") := ⟨c5_Table, c6_Table⟩
  have F_Table__plus := fun_mk (st := s_Table__plus) l_Table__plus c_Table__plus k_Table__plus
  have b_Table__plus := F_Table__plus.binds (ps := ["self", "x", "y"]) fun _ _ _ _ _ _ us hl => match us, hl with | [_, _, _], _ => rfl
  have me_Table__plus : Meth K C_Table "_plus" f_Table__plus := ⟨ma_Table__plus, mb_Table__plus, k_Table__plus⟩
  have F_Table__order := fun_mk (st := s_Table__order) l_Table__order c_Table__order k_Table__order
  have b_Table__order := F_Table__order.binds (ps := ["self", "x"]) fun _ _ _ _ _ _ us hl => match us, hl with | [_, _], _ => rfl
  have me_Table__order : Meth K C_Table "_order" f_Table__order := ⟨ma_Table__order, mb_Table__order, k_Table__order⟩
  have F_Table__times := fun_mk (st := s_Table__times) l_Table__times c_Table__times k_Table__times
  have b_Table__times := F_Table__times.binds (ps := ["self", "k", "x"]) fun _ _ _ _ _ _ us hl => match us, hl with | [_, _, _], _ => rfl
  have me_Table__times : Meth K C_Table "_times" f_Table__times := ⟨ma_Table__times, mb_Table__times, k_Table__times⟩
  have F_Table__difference_order := fun_mk (st := s_Table__difference_order) l_Table__difference_order c_Table__difference_order k_Table__difference_order
  have b_Table__difference_order := F_Table__difference_order.binds (ps := ["self", "x", "y"]) fun _ _ _ _ _ _ us hl => match us, hl with | [_, _, _], _ => rfl
  have me_Table__difference_order : Meth K C_Table "_difference_order" f_Table__difference_order := ⟨ma_Table__difference_order, mb_Table__difference_order, k_Table__difference_order⟩
  have F_Table__share := fun_mk (st := s_Table__share) l_Table__share c_Table__share k_Table__share
  have b_Table__share := F_Table__share.binds (ps := ["self", "p", "q"]) fun _ _ _ _ _ _ us hl => match us, hl with | [_, _, _], _ => rfl
  have me_Table__share : Meth K C_Table "_share" f_Table__share := ⟨ma_Table__share, mb_Table__share, k_Table__share⟩
  have F_Table__numbers := fun_mk (st := s_Table__numbers) l_Table__numbers c_Table__numbers k_Table__numbers
  have b_Table__numbers := F_Table__numbers.binds (ps := ["self"]) fun _ _ _ _ _ _ us hl => match us, hl with | [_], _ => rfl
  have me_Table__numbers : Meth K C_Table "_numbers" f_Table__numbers := ⟨ma_Table__numbers, mb_Table__numbers, k_Table__numbers⟩
  have T2 : TxT mg := ⟨⟨_, PySem.W.mg_of X G m_LEAST_THINGS⟩, ⟨_, PySem.W.mg_of X G m_MOST_TABLE⟩⟩
  have TL : TxtL mg := ⟨PySem.W.mg_of X G m_lcm⟩
  have e := hfa.symm.trans (PySem.W.mg_of X G a22)
  cases e
  have CT : ClsT K C_Table := ⟨cl_Table, no_Table__sums, no_Table__zero_place, no_Table__orders, no_Table__products, no_Table__one_place⟩
  have CR : ClsR K C_Table := ⟨no_Table__parts, no_Table__ones, no_Table__swaps, no_Table__squares, no_Table__bases, no_Table__depth, no_Table__zero, no_Table__one⟩
  have SF : PySem.SupX.SupFn l.prog K fT _ "__init__" "Table.__init__" s_Table_init ccT cdT C_Table := ⟨⟨_, _, _, _, _, _, _, _, _, _, _, _, _, _, _, _, _, rfl, tl, tc, tx, tu, tv, tw⟩, topSuper⟩
  have hms : mg "super" = none := PySem.W.mg_none_of X G z_super
  have AB : PySem.SupX.Above K C_Table C_Table f_Ring_init := ⟨s1, s2, s3, s4, s5, opq⟩
  refine ⟨PySem.W.fnOf "law" "law" (defArgs s_law) (defBody s_law) (defScope s_law) .none kV22 dc22 pm22 an22 cd22 ct22, [(cL, PL)], spLaw K PL, fun p hp => ?_, fun p hp => ?_, fun p hp => ?_, fun s v => .of_eq rfl, fun H a ns hl _ hT hS => ⟨a, ns, rfl, hS, hl, hT _ List.mem_cons_self, fun _ => rfl⟩, fun base _ _ hB => ?_⟩
  · rw [List.mem_singleton.mp hp]
    exact lP
  · rw [List.mem_singleton.mp hp]
    exact lN
  · rw [List.mem_singleton.mp hp]
    exact PySem.W.codeHd_of_K X lH
  subst lcd
  have G1 := ok_draw (P := l.prog) (w := w) (base := base) A_l_draw B
  have G3 := ok_is_int (P := l.prog) (w := w) (base := base) A_is_int B
  have G4 := ok_is_between A_is_between G3
  have GC := ok_comm (P := l.prog) (w := w) (base := base) A_is_commutative B
  have GA := ok_assoc (P := l.prog) (w := w) (base := base) A_is_associative B
  have GN := ok_neutral (P := l.prog) (w := w) (base := base) A_neutral B
  have GF := ok_has_form A_has_form B T2 (ok_is_table A_is_table B (ok_is_row A_is_row B G4))
  have CK := ok_check A_check_rules E_InvalidTable GF (ok_is_sum A_is_sum B GN GC GA) GA GN (ok_spreads A_spreads B)
  have MP := ok_plus (P := l.prog) (w := w) (mg := mg) (base := base) ⟨_, _, F_Table__plus, me_Table__plus, b_Table__plus⟩ CT
  have MO := ok_order (P := l.prog) (w := w) (mg := mg) (base := base) ⟨_, _, F_Table__order, me_Table__order, b_Table__order⟩ CT
  have MT := ok_times (P := l.prog) (w := w) (mg := mg) (base := base) ⟨_, _, F_Table__times, me_Table__times, b_Table__times⟩ B CT
  have MD := ok_diff ⟨_, _, F_Table__difference_order, me_Table__difference_order, b_Table__difference_order⟩ CT MP MT
  have MS := ok_share1 ⟨_, _, F_Table__share, me_Table__share, b_Table__share⟩ CT no_Table__one_place MT (ok_inv1 A_inverse_modulo)
  have RI := ok_ring_init F_Ring_init CT CR (ok_depth0 A_depth_over B) MS
  have RI2 : L2.FnR l.prog w K mg base (L2.CX l.prog w) 3 f_Ring_init (spRingInit C_Table) := (RI.raw b_Ring_init .nil).imp fun vs H Q E h => by rw [List.append_nil]; exact h
  have MU := ok_multiple (P := l.prog) (w := w) (base := base) ⟨_, _, F_multiple, mgf_multiple⟩ TL
  have MN := ok_numbers ⟨_, _, F_Table__numbers, me_Table__numbers, b_Table__numbers⟩ B CT MD MU
  have TI := ok_table_init SF hms AB RI2 B CT CK GN MO MN
  have MK : HasCX l.prog w K mg base 8 "Table" C_Table ["self", "plus", "times"] ["plus", "times"] (spTabInit K C_Table C_InvalidTable) := ⟨_, _, ⟨tm, ta, tb, tk⟩, TI, gC_Table, (tab_binds SF).1, (tab_binds SF).2⟩
  have P1 := ok_ones (P := l.prog) (w := w) (mg := mg) (base := base) cl_Table CR F_Ring_ones ⟨ff0_Table, pb_Ring_ones, pc_Ring_ones, ⟨_, pd_Ring_ones⟩⟩ b_Ring_ones
  have P2 := ok_swaps (P := l.prog) (w := w) (mg := mg) (base := base) cl_Table CR F_Ring_swaps ⟨ff1_Table, pb_Ring_swaps, pc_Ring_swaps, ⟨_, pd_Ring_swaps⟩⟩ b_Ring_swaps
  have P3 := ok_squares (P := l.prog) (w := w) (mg := mg) (base := base) cl_Table CR F_Ring_squares ⟨ff2_Table, pb_Ring_squares, pc_Ring_squares, ⟨_, pd_Ring_squares⟩⟩ b_Ring_squares
  exact ok_law l22 c22 (hB _ List.mem_cons_self) (PySem.W.mg_of X G m_RingError) (PySem.W.mg_of X G m_Missing) (PySem.W.mg_of X G m_NothingLeft) hm xf_InvalidTable ei_InvalidTable eh_InvalidTable B cl_Table MK P1 P2 P3
    (ok_bag A_l_bag B) (ok_l_mixed A_l_mixed B G1) (all_same A_l_same B 4) (ok_field A_l_field) A_l_got
end My
open PySem PySem.W PyProof.Rows
set_option maxRecDepth 100000 in
set_option maxHeartbeats 0 in
theorem PySem.Challenge.cw_numbertypes_k98_tables_that_are_no_rings_holds : PySem.Challenge.rw_numbertypes_k98_tables_that_are_no_rings.Holds := by
  w_on; o_law; k_head; (case hw => w_witness2)
  k_fill
  refine LamX.walk_ofTs (l := PySem.Challenge.rw_numbertypes_k98_tables_that_are_no_rings) (n := 63) (k := 14) (x := "_law_script") (CX := fun _ => L2.CX0) rfl (by decide) rfl ⟨rfl, by decide, by decide⟩ (fun w h Y => PySem.W.km_in_of Y) ?F (fun _ _ _ _ _ h => h)
  case F =>
    intro w mg fa h Y KX G hmg
    refine' My.all_mk KX G hmg ?z_super ?opq ?topSuper ?a1 ?l1 ?c1 ?k1 ?a2 ?l2 ?c2 ?k2 ?a3 ?l3 ?c3 ?k3 ?a4 ?l4 ?c4 ?k4 ?a5 ?l5 ?c5 ?k5 ?a6 ?l6 ?c6 ?k6 ?a7 ?l7 ?c7 ?k7 ?a8 ?l8 ?c8 ?k8 ?a9 ?l9 ?c9 ?k9 ?a10 ?l10 ?c10 ?k10 ?a11 ?l11 ?c11 ?k11 ?a12 ?l12 ?c12 ?k12 ?a13 ?l13 ?c13 ?k13 ?a14 ?l14 ?c14 ?k14 ?a15 ?l15 ?c15 ?k15 ?a16 ?l16 ?c16 ?k16 ?a17 ?l17 ?c17 ?k17 ?a18 ?l18 ?c18 ?k18 ?a19 ?l19 ?c19 ?k19 ?a20 ?l20 ?c20 ?k20 ?a21 ?l21 ?c21 ?k21 ?a22 ?l22 ?c22 ?k22 ?z_IndexError ?z_LookupError ?z_ValueError ?z_abs ?z_all ?z_bool ?z_int ?z_isinstance ?z_len ?z_list ?z_max ?z_range ?z_str ?z_tuple ?z_zip ?m_lcm ?m_LEAST_THINGS ?m_MOST_TABLE ?ea_InvalidTable ?eb_InvalidTable ?ec_InvalidTable ?ed_InvalidTable ?ee_InvalidTable ?ef_InvalidTable ?eg_InvalidTable ?eh_InvalidTable ?ei_InvalidTable ?ej_InvalidTable ?ek_InvalidTable ?el_InvalidTable ?em_InvalidTable ?en_InvalidTable ?eo_InvalidTable ?ep_InvalidTable ?eq_InvalidTable ?er_InvalidTable ?es_InvalidTable ?et_InvalidTable ?eu_InvalidTable ?ev_InvalidTable ?ex_InvalidTable ?ew_InvalidTable ?cg_Ring ?c1_Ring ?c2_Ring ?c3_Ring ?c4_Ring ?c5_Ring ?c6_Ring ?ia_Ring ?ib_Ring ?ic_Ring ?id_Ring ?pa_Ring_ones ?pb_Ring_ones ?pc_Ring_ones ?pd_Ring_ones ?l_Ring_ones ?c_Ring_ones ?k_Ring_ones ?pa_Ring_swaps ?pb_Ring_swaps ?pc_Ring_swaps ?pd_Ring_swaps ?l_Ring_swaps ?c_Ring_swaps ?k_Ring_swaps ?pa_Ring_squares ?pb_Ring_squares ?pc_Ring_squares ?pd_Ring_squares ?l_Ring_squares ?c_Ring_squares ?k_Ring_squares ?ma_Ring_init ?mb_Ring_init ?l_Ring_init ?c_Ring_init ?k_Ring_init ?cg_Table ?c1_Table ?c2_Table ?c3_Table ?c4_Table ?c5_Table ?c6_Table ?ia_Table ?ib_Table ?ic_Table ?id_Table ?no_Table__sums ?no_Table__zero_place ?no_Table__orders ?no_Table__products ?no_Table__one_place ?no_Table__parts ?no_Table__ones ?no_Table__swaps ?no_Table__squares ?no_Table__bases ?no_Table__depth ?no_Table__zero ?no_Table__one ?ff0_Table ?ff1_Table ?ff2_Table ?ma_Table__plus ?mb_Table__plus ?l_Table__plus ?c_Table__plus ?k_Table__plus ?ma_Table__order ?mb_Table__order ?l_Table__order ?c_Table__order ?k_Table__order ?ma_Table__times ?mb_Table__times ?l_Table__times ?c_Table__times ?k_Table__times ?ma_Table__difference_order ?mb_Table__difference_order ?l_Table__difference_order ?c_Table__difference_order ?k_Table__difference_order ?ma_Table__share ?mb_Table__share ?l_Table__share ?c_Table__share ?k_Table__share ?ma_Table__numbers ?mb_Table__numbers ?l_Table__numbers ?c_Table__numbers ?k_Table__numbers ?m_RingError ?m_Missing ?m_NothingLeft ?lcd ?lC ?lT ?lP ?lN ?lH ?hm ?ta ?tb ?tm ?tk ?tl ?tc ?tx ?tu ?tv ?tw ?s1 ?s2 ?s3 ?s4 ?s5
    (case z_super => k_is)
    (case opq => k_is)
    (case a1 => k_is)
    (case l1 => k_is)
    (case c1 => k_is)
    (case k1 => k_is)
    (case a2 => k_is)
    (case l2 => k_is)
    (case c2 => k_is)
    (case k2 => k_is)
    (case a3 => k_is)
    (case l3 => k_is)
    (case c3 => k_is)
    (case k3 => k_is)
    (case a4 => k_is)
    (case l4 => k_is)
    (case c4 => k_is)
    (case k4 => k_is)
    (case a5 => k_is)
    (case l5 => k_is)
    (case c5 => k_is)
    (case k5 => k_is)
    (case a6 => k_is)
    (case l6 => k_is)
    (case c6 => k_is)
    (case k6 => k_is)
    (case a7 => k_is)
    (case l7 => k_is)
    (case c7 => k_is)
    (case k7 => k_is)
    (case a8 => k_is)
    (case l8 => k_is)
    (case c8 => k_is)
    (case k8 => k_is)
    (case a9 => k_is)
    (case l9 => k_is)
    (case c9 => k_is)
    (case k9 => k_is)
    (case a10 => k_is)
    (case l10 => k_is)
    (case c10 => k_is)
    (case k10 => k_is)
    (case a11 => k_is)
    (case l11 => k_is)
    (case c11 => k_is)
    (case k11 => k_is)
    (case a12 => k_is)
    (case l12 => k_is)
    (case c12 => k_is)
    (case k12 => k_is)
    (case a13 => k_is)
    (case l13 => k_is)
    (case c13 => k_is)
    (case k13 => k_is)
    (case a14 => k_is)
    (case l14 => k_is)
    (case c14 => k_is)
    (case k14 => k_is)
    (case a15 => k_is)
    (case l15 => k_is)
    (case c15 => k_is)
    (case k15 => k_is)
    (case a16 => k_is)
    (case l16 => k_is)
    (case c16 => k_is)
    (case k16 => k_is)
    (case a17 => k_is)
    (case l17 => k_is)
    (case c17 => k_is)
    (case k17 => k_is)
    (case a18 => k_is)
    (case l18 => k_is)
    (case c18 => k_is)
    (case k18 => k_is)
    (case a19 => k_is)
    (case l19 => k_is)
    (case c19 => k_is)
    (case k19 => k_is)
    (case a20 => k_is)
    (case l20 => k_is)
    (case c20 => k_is)
    (case k20 => k_is)
    (case a21 => k_is)
    (case l21 => k_is)
    (case c21 => k_is)
    (case k21 => k_is)
    (case a22 => k_is)
    (case l22 => k_is)
    (case c22 => k_is)
    (case k22 => k_is)
    (case z_IndexError => k_is)
    (case z_LookupError => k_is)
    (case z_ValueError => k_is)
    (case z_abs => k_is)
    (case z_all => k_is)
    (case z_bool => k_is)
    (case z_int => k_is)
    (case z_isinstance => k_is)
    (case z_len => k_is)
    (case z_list => k_is)
    (case z_max => k_is)
    (case z_range => k_is)
    (case z_str => k_is)
    (case z_tuple => k_is)
    (case z_zip => k_is)
    (case m_lcm => k_is)
    (case m_LEAST_THINGS => k_is)
    (case m_MOST_TABLE => k_is)
    (case m_RingError => k_is)
    (case m_Missing => k_is)
    (case m_NothingLeft => k_is)
    (case topSuper => kernel_rfl)
    (case ea_InvalidTable => k_is)
    (case eb_InvalidTable => k_is)
    (case ec_InvalidTable => first | rfl | kernel_rfl)
    (case ed_InvalidTable => kernel_rfl)
    (case ee_InvalidTable => k_is)
    (case ef_InvalidTable => k_is)
    (case eg_InvalidTable => k_is)
    (case eh_InvalidTable => k_is)
    (case ei_InvalidTable => k_is)
    (case ej_InvalidTable => k_is)
    (case ek_InvalidTable => k_is)
    (case el_InvalidTable => k_is)
    (case em_InvalidTable => k_is)
    (case en_InvalidTable => k_is)
    (case eo_InvalidTable => k_is)
    (case ep_InvalidTable => k_is)
    (case eq_InvalidTable => k_is)
    (case er_InvalidTable => k_is)
    (case es_InvalidTable => k_is)
    (case et_InvalidTable => k_is)
    (case eu_InvalidTable => k_is)
    (case ev_InvalidTable => rfl)
    (case ex_InvalidTable => exact ⟨_, fun env => rfl⟩)
    (case ew_InvalidTable => kernel_rfl)
    (case cg_Ring => k_is)
    (case c1_Ring => k_is)
    (case c2_Ring => k_is)
    (case c3_Ring => k_is)
    (case c4_Ring => k_is)
    (case c5_Ring => k_is)
    (case c6_Ring => k_is)
    (case ia_Ring => k_is)
    (case ib_Ring => k_is)
    (case ic_Ring => k_is)
    (case id_Ring => k_is)
    (case pa_Ring_ones => k_is)
    (case pb_Ring_ones => k_is)
    (case pc_Ring_ones => k_is)
    (case pd_Ring_ones => k_is)
    (case l_Ring_ones => k_is)
    (case c_Ring_ones => k_is)
    (case k_Ring_ones => k_is)
    (case pa_Ring_swaps => k_is)
    (case pb_Ring_swaps => k_is)
    (case pc_Ring_swaps => k_is)
    (case pd_Ring_swaps => k_is)
    (case l_Ring_swaps => k_is)
    (case c_Ring_swaps => k_is)
    (case k_Ring_swaps => k_is)
    (case pa_Ring_squares => k_is)
    (case pb_Ring_squares => k_is)
    (case pc_Ring_squares => k_is)
    (case pd_Ring_squares => k_is)
    (case l_Ring_squares => k_is)
    (case c_Ring_squares => k_is)
    (case k_Ring_squares => k_is)
    (case ma_Ring_init => k_is)
    (case mb_Ring_init => k_is)
    (case l_Ring_init => k_is)
    (case c_Ring_init => k_is)
    (case k_Ring_init => k_is)
    (case cg_Table => k_is)
    (case c1_Table => k_is)
    (case c2_Table => k_is)
    (case c3_Table => k_is)
    (case c4_Table => k_is)
    (case c5_Table => k_is)
    (case c6_Table => k_is)
    (case ia_Table => k_is)
    (case ib_Table => k_is)
    (case ic_Table => k_is)
    (case id_Table => k_is)
    (case no_Table__sums => k_is)
    (case no_Table__zero_place => k_is)
    (case no_Table__orders => k_is)
    (case no_Table__products => k_is)
    (case no_Table__one_place => k_is)
    (case no_Table__parts => k_is)
    (case no_Table__ones => k_is)
    (case no_Table__swaps => k_is)
    (case no_Table__squares => k_is)
    (case no_Table__bases => k_is)
    (case no_Table__depth => k_is)
    (case no_Table__zero => k_is)
    (case no_Table__one => k_is)
    (case ff0_Table => k_is)
    (case ff1_Table => k_is)
    (case ff2_Table => k_is)
    (case ma_Table__plus => k_is)
    (case mb_Table__plus => k_is)
    (case l_Table__plus => k_is)
    (case c_Table__plus => k_is)
    (case k_Table__plus => k_is)
    (case ma_Table__order => k_is)
    (case mb_Table__order => k_is)
    (case l_Table__order => k_is)
    (case c_Table__order => k_is)
    (case k_Table__order => k_is)
    (case ma_Table__times => k_is)
    (case mb_Table__times => k_is)
    (case l_Table__times => k_is)
    (case c_Table__times => k_is)
    (case k_Table__times => k_is)
    (case ma_Table__difference_order => k_is)
    (case mb_Table__difference_order => k_is)
    (case l_Table__difference_order => k_is)
    (case c_Table__difference_order => k_is)
    (case k_Table__difference_order => k_is)
    (case ma_Table__share => k_is)
    (case mb_Table__share => k_is)
    (case l_Table__share => k_is)
    (case c_Table__share => k_is)
    (case k_Table__share => k_is)
    (case ma_Table__numbers => k_is)
    (case mb_Table__numbers => k_is)
    (case l_Table__numbers => k_is)
    (case c_Table__numbers => k_is)
    (case k_Table__numbers => k_is)
    (case lcd => rfl)
    (case lC => k_is)
    (case lT => rfl)
    (case lP => exact PySem.W.km_tabs_of Y _ List.mem_cons_self)
    (case lN => kernel_rfl)
    (case lH => kernel_rfl)
    (case hm => kernel_rfl)
    (case ta => k_is)
    (case tb => k_is)
    (case tm => k_is)
    (case tk => k_is)
    (case tl => k_is)
    (case tc => k_is)
    (case tx => k_is)
    (case tu => k_is)
    (case tv => rfl)
    (case tw => kernel_rfl)
    (case s1 => first | kernel_rfl | k_is)
    (case s2 => first | kernel_rfl | k_is)
    (case s3 => first | k_is | kernel_rfl)
    (case s4 => first | k_is | kernel_rfl)
    (case s5 => first | k_is | kernel_rfl)
