
import PyProof.Rows.All
import Wide.All
import OpenK.AllK
import Wide.FinOn
import HandS.ForMost
import HandS.IsInst
import HandS.Walk
import HandS.Wide
import HandS.Codes
import HandS.Gcd
import HandS.Zip
import KE.OsRunLaw
import HandS.ForExc
import HandS.ExcInit
import HandS.ExcSuper
import HandS.ExcField
import HandS.Lambda
import HandS.HotCalls
import HandS.TryMany
import HandS.EndTab
import HandS.ClsMeth
import HandS.Star
import HandS.Property
import HandS.Defaults
import HandS.MakeKw
import HandS.MakeKwOnly
import HandS.OwnEq
import HandS.FStr
import HandS.Text
import HandS.EndOwn
import HandS.Deep
import KE.KExcSuper
import KE.KSuper
import KE.KTryMore
import PySem.Challenge.RW_numbertypes_k46_realms_refused_and_inver
set_option Elab.async false
set_option linter.all false
set_option maxRecDepth 100000
set_option maxHeartbeats 4000000
namespace My
open PySem PySem.Spec PyProof.Rows L2
/-! ### the text by places -/
def topS (i : Nat) : Stmt := PySem.Challenge.pw_numbertypes_k46_realms_refused_and_inver.main.body.getD i (.Pass ⟨0, 0, 0, 0⟩)
abbrev s__wall : Stmt := topS 1
abbrev N__wall : List Str := ["k"]
theorem sc__wall : FnScope N__wall ["k"] (defScope s__wall) := ⟨rfl, rfl, rfl, by decide +kernel, rfl, by decide +kernel, by decide +kernel⟩
abbrev s_is_int : Stmt := topS 11
abbrev N_is_int : List Str := ["value"]
theorem sc_is_int : FnScope N_is_int ["value"] (defScope s_is_int) := ⟨rfl, rfl, rfl, by decide +kernel, rfl, by decide +kernel, by decide +kernel⟩
abbrev s_is_between : Stmt := topS 12
abbrev N_is_between : List Str := ["value", "least", "most"]
theorem sc_is_between : FnScope N_is_between ["value", "least", "most"] (defScope s_is_between) := ⟨rfl, rfl, rfl, by decide +kernel, rfl, by decide +kernel, by decide +kernel⟩
abbrev s_common : Stmt := topS 13
abbrev N_common : List Str := ["numbers", "result", "number"]
theorem sc_common : FnScope N_common ["numbers"] (defScope s_common) := ⟨rfl, rfl, rfl, by decide +kernel, rfl, by decide +kernel, by decide +kernel⟩
abbrev s_multiple : Stmt := topS 14
abbrev N_multiple : List Str := ["numbers", "result", "number"]
theorem sc_multiple : FnScope N_multiple ["numbers"] (defScope s_multiple) := ⟨rfl, rfl, rfl, by decide +kernel, rfl, by decide +kernel, by decide +kernel⟩
abbrev s_divides : Stmt := topS 15
abbrev N_divides : List Str := ["one", "other"]
theorem sc_divides : FnScope N_divides ["one", "other"] (defScope s_divides) := ⟨rfl, rfl, rfl, by decide +kernel, rfl, by decide +kernel, by decide +kernel⟩
abbrev s_stripped : Stmt := topS 16
abbrev N_stripped : List Str := ["number", "base", "rest", "part"]
theorem sc_stripped : FnScope N_stripped ["number", "base"] (defScope s_stripped) := ⟨rfl, rfl, rfl, by decide +kernel, rfl, by decide +kernel, by decide +kernel⟩
abbrev s_radical : Stmt := topS 17
abbrev N_radical : List Str := ["number", "result", "rest", "prime"]
theorem sc_radical : FnScope N_radical ["number"] (defScope s_radical) := ⟨rfl, rfl, rfl, by decide +kernel, rfl, by decide +kernel, by decide +kernel⟩
abbrev s_written : Stmt := topS 18
abbrev N_written : List Str := ["number", "powers"]
theorem sc_written : FnScope N_written ["number"] (defScope s_written) := ⟨rfl, rfl, rfl, by decide +kernel, rfl, by decide +kernel, by decide +kernel⟩
abbrev s_written_below : Stmt := topS 19
abbrev N_written_below : List Str := ["number", "powers", "lower", "high", "low"]
theorem sc_written_below : FnScope N_written_below ["number", "powers"] (defScope s_written_below) := ⟨rfl, rfl, rfl, by decide +kernel, rfl, by decide +kernel, by decide +kernel⟩
abbrev s_depth_over : Stmt := topS 22
abbrev N_depth_over : List Str := ["bases", "base"]
theorem sc_depth_over : FnScope N_depth_over ["bases"] (defScope s_depth_over) := ⟨rfl, rfl, rfl, by decide +kernel, rfl, by decide +kernel, by decide +kernel⟩
abbrev s_normal_numbers : Stmt := topS 24
abbrev N_normal_numbers : List Str := ["inverse", "ones", "swaps", "squares", "rests", "number"]
theorem sc_normal_numbers : FnScope N_normal_numbers ["inverse", "ones", "swaps", "squares"] (defScope s_normal_numbers) := ⟨rfl, rfl, rfl, by decide +kernel, rfl, by decide +kernel, by decide +kernel⟩
abbrev s_realm_with : Stmt := topS 25
abbrev N_realm_with : List Str := ["inverse", "ones", "swaps", "squares", "made"]
theorem sc_realm_with : FnScope N_realm_with ["inverse", "ones", "swaps", "squares"] (defScope s_realm_with) := ⟨rfl, rfl, rfl, by decide +kernel, rfl, by decide +kernel, by decide +kernel⟩
abbrev s_listed : Stmt := topS 27
abbrev N_listed : List Str := ["numbers", "number"]
theorem sc_listed : FnScope N_listed ["numbers"] (defScope s_listed) := ⟨rfl, rfl, rfl, by decide +kernel, rfl, by decide +kernel, by decide +kernel⟩
abbrev s_joined_inverse : Stmt := topS 28
abbrev N_joined_inverse : List Str := ["one", "other"]
theorem sc_joined_inverse : FnScope N_joined_inverse ["one", "other"] (defScope s_joined_inverse) := ⟨rfl, rfl, rfl, by decide +kernel, rfl, by decide +kernel, by decide +kernel⟩
abbrev s_l_bag : Stmt := topS 30
abbrev N_l_bag : List Str := ["_law_script", "_law_cells"]
theorem sc_l_bag : FnScope N_l_bag ["_law_script"] (defScope s_l_bag) := ⟨rfl, rfl, rfl, by decide +kernel, rfl, by decide +kernel, by decide +kernel⟩
abbrev s_l_draw : Stmt := topS 31
abbrev N_l_draw : List Str := ["_law_bag_here", "_law_many", "_law_cell", "_law_got_here"]
theorem sc_l_draw : FnScope N_l_draw ["_law_bag_here", "_law_many"] (defScope s_l_draw) := ⟨rfl, rfl, rfl, by decide +kernel, rfl, by decide +kernel, by decide +kernel⟩
abbrev s_l_pick : Stmt := topS 32
abbrev N_l_pick : List Str := ["_law_bag_here", "_law_some"]
theorem sc_l_pick : FnScope N_l_pick ["_law_bag_here", "_law_some"] (defScope s_l_pick) := ⟨rfl, rfl, rfl, by decide +kernel, rfl, by decide +kernel, by decide +kernel⟩
abbrev s_l_same : Stmt := topS 33
abbrev N_l_same : List Str := ["_law_found", "_law_due", "_law_a", "_law_b"]
theorem sc_l_same : FnScope N_l_same ["_law_found", "_law_due"] (defScope s_l_same) := ⟨rfl, rfl, rfl, by decide +kernel, rfl, by decide +kernel, by decide +kernel⟩
abbrev s_l_field : Stmt := topS 34
abbrev N_l_field : List Str := ["_law_e"]
theorem sc_l_field : FnScope N_l_field ["_law_e"] (defScope s_l_field) := ⟨rfl, rfl, rfl, by decide +kernel, rfl, by decide +kernel, by decide +kernel⟩
abbrev s_l_got : Stmt := topS 35
abbrev N_l_got : List Str := ["_law_ask", "_law_e"]
theorem sc_l_got : FnScope N_l_got ["_law_ask"] (defScope s_l_got) := ⟨rfl, rfl, rfl, by decide +kernel, rfl, by decide +kernel, by decide +kernel⟩
abbrev s_l_all : Stmt := topS 36
abbrev N_l_all : List Str := ["_law_asks", "_law_ask"]
theorem sc_l_all : FnScope N_l_all ["_law_asks"] (defScope s_l_all) := ⟨rfl, rfl, rfl, by decide +kernel, rfl, by decide +kernel, by decide +kernel⟩
abbrev s_l_gcd : Stmt := topS 37
abbrev N_l_gcd : List Str := ["_law_a", "_law_b", "_law_left_z", "_law_right_z"]
theorem sc_l_gcd : FnScope N_l_gcd ["_law_a", "_law_b"] (defScope s_l_gcd) := ⟨rfl, rfl, rfl, by decide +kernel, rfl, by decide +kernel, by decide +kernel⟩
abbrev s_l_strip : Stmt := topS 38
abbrev N_l_strip : List Str := ["_law_number", "_law_base", "_law_found"]
theorem sc_l_strip : FnScope N_l_strip ["_law_number", "_law_base"] (defScope s_l_strip) := ⟨rfl, rfl, rfl, by decide +kernel, rfl, by decide +kernel, by decide +kernel⟩
abbrev s_l_radical : Stmt := topS 39
abbrev N_l_radical : List Str := ["_law_number", "_law_k", "_law_j"]
theorem sc_l_radical : FnScope N_l_radical ["_law_number"] (defScope s_l_radical) := ⟨rfl, rfl, rfl, by decide +kernel, rfl, by decide +kernel, by decide +kernel⟩
abbrev s_l_product : Stmt := topS 40
abbrev N_l_product : List Str := ["_law_numbers", "_law_found", "_law_number"]
theorem sc_l_product : FnScope N_l_product ["_law_numbers"] (defScope s_l_product) := ⟨rfl, rfl, rfl, by decide +kernel, rfl, by decide +kernel, by decide +kernel⟩
abbrev s_l_settled : Stmt := topS 41
abbrev N_l_settled : List Str := ["_law_d", "_law_o", "_law_s", "_law_t", "_law_first", "_law_third"]
theorem sc_l_settled : FnScope N_l_settled ["_law_d", "_law_o", "_law_s", "_law_t"] (defScope s_l_settled) := ⟨rfl, rfl, rfl, by decide +kernel, rfl, by decide +kernel, by decide +kernel⟩
abbrev s_l_told : Stmt := topS 42
abbrev N_l_told : List Str := ["_law_realm_here"]
theorem sc_l_told : FnScope N_l_told ["_law_realm_here"] (defScope s_l_told) := ⟨rfl, rfl, rfl, by decide +kernel, rfl, by decide +kernel, by decide +kernel⟩
abbrev s_l_realm : Stmt := topS 43
abbrev N_l_realm : List Str := ["_law_numbers"]
theorem sc_l_realm : FnScope N_l_realm ["_law_numbers"] (defScope s_l_realm) := ⟨rfl, rfl, rfl, by decide +kernel, rfl, by decide +kernel, by decide +kernel⟩
abbrev s_l_drawn_realm : Stmt := topS 44
abbrev N_l_drawn_realm : List Str := ["_law_bag_here", "_law_d", "_law_part", "_law_more"]
theorem sc_l_drawn_realm : FnScope N_l_drawn_realm ["_law_bag_here"] (defScope s_l_drawn_realm) := ⟨rfl, rfl, rfl, by decide +kernel, rfl, by decide +kernel, by decide +kernel⟩
abbrev s_l_settle : Stmt := topS 45
abbrev N_l_settle : List Str := ["_law_numbers"]
theorem sc_l_settle : FnScope N_l_settle ["_law_numbers"] (defScope s_l_settle) := ⟨rfl, rfl, rfl, by decide +kernel, rfl, by decide +kernel, by decide +kernel⟩
abbrev s_law : Stmt := topS 46
abbrev N_law : List Str := ["_law_script", "_law_bag_here", "_law_odd", "_law_more", "_law_asks", "_law_turn", "_law_numbers", "_law_realm_here", "_law_d", "_law_o", "_law_s", "_law_t", "_law_q", "_law_due"]
theorem sc_law : FnScope N_law ["_law_script"] (defScope s_law) := ⟨rfl, rfl, rfl, by decide +kernel, rfl, by decide +kernel, by decide +kernel⟩
abbrev s_InvalidNumber_init : Stmt := inClass (topS 5) 0
abbrev s_InvalidThing_init : Stmt := inClass (topS 6) 0
abbrev s_TooMany_init : Stmt := inClass (topS 7) 0
abbrev s_NothingLeft_init : Stmt := inClass (topS 8) 0
abbrev s_Ring_init : Stmt := inClass (topS 21) 2
abbrev s_Ring_ones : Stmt := inClass (topS 21) 3
abbrev s_Ring_swaps : Stmt := inClass (topS 21) 4
abbrev s_Ring_squares : Stmt := inClass (topS 21) 5
abbrev s_Ring_depth : Stmt := inClass (topS 21) 6
abbrev s_Ring_text : Stmt := inClass (topS 21) 7
abbrev s_Ring_has_inverse : Stmt := inClass (topS 21) 8
abbrev s_Ring_size : Stmt := inClass (topS 21) 9
abbrev s_Ring_is_thing : Stmt := inClass (topS 21) 10
abbrev s_Ring_zero : Stmt := inClass (topS 21) 11
abbrev s_Ring_one : Stmt := inClass (topS 21) 12
abbrev s_Ring_plus : Stmt := inClass (topS 21) 13
abbrev s_Ring_minus : Stmt := inClass (topS 21) 14
abbrev s_Ring_product : Stmt := inClass (topS 21) 15
abbrev s_Ring_negative : Stmt := inClass (topS 21) 16
abbrev s_Ring_times : Stmt := inClass (topS 21) 17
abbrev s_Ring_share : Stmt := inClass (topS 21) 18
abbrev s_Ring_square_breaker : Stmt := inClass (topS 21) 19
abbrev s_Ring_swap_breaker : Stmt := inClass (topS 21) 20
abbrev s_Ring_things : Stmt := inClass (topS 21) 21
abbrev s_Ring_eq : Stmt := inClass (topS 21) 22
abbrev s_Ring_repr : Stmt := inClass (topS 21) 23
abbrev s_Ring__check : Stmt := inClass (topS 21) 24
abbrev s_Ring__minus : Stmt := inClass (topS 21) 25
abbrev s_Ring__scaled : Stmt := inClass (topS 21) 26
abbrev s_Ring__swap_samples : Stmt := inClass (topS 21) 27
abbrev s_Realm_init : Stmt := inClass (topS 26) 0
abbrev s_Realm_everywhere : Stmt := inClass (topS 26) 1
abbrev s_Realm_commuting : Stmt := inClass (topS 26) 2
abbrev s_Realm_nowhere : Stmt := inClass (topS 26) 3
abbrev s_Realm_inverse : Stmt := inClass (topS 26) 4
abbrev s_Realm_ones : Stmt := inClass (topS 26) 5
abbrev s_Realm_swaps : Stmt := inClass (topS 26) 6
abbrev s_Realm_squares : Stmt := inClass (topS 26) 7
abbrev s_Realm_within : Stmt := inClass (topS 26) 8
abbrev s_Realm_has_inverse : Stmt := inClass (topS 26) 9
abbrev s_Realm_sample : Stmt := inClass (topS 26) 10
abbrev s_Realm_contains : Stmt := inClass (topS 26) 11
abbrev s_Realm_and : Stmt := inClass (topS 26) 12
abbrev s_Realm_or : Stmt := inClass (topS 26) 13
abbrev s_Realm_bool : Stmt := inClass (topS 26) 14
abbrev s_Realm_eq : Stmt := inClass (topS 26) 15
abbrev s_Realm_repr : Stmt := inClass (topS 26) 16
abbrev N_Realm_init : List Str := ["self", "inverse", "ones", "swaps", "squares", "primes", "number"]
theorem sc_Realm_init : FnScope N_Realm_init ["self", "inverse", "ones", "swaps", "squares"] (defScope s_Realm_init) := ⟨rfl, rfl, rfl, by decide +kernel, rfl, by decide +kernel, by decide +kernel⟩
abbrev N_Realm_everywhere : List Str := []
theorem sc_Realm_everywhere : FnScope N_Realm_everywhere [] (defScope s_Realm_everywhere) := ⟨rfl, rfl, rfl, by decide +kernel, rfl, by decide +kernel, by decide +kernel⟩
abbrev N_Realm_commuting : List Str := []
theorem sc_Realm_commuting : FnScope N_Realm_commuting [] (defScope s_Realm_commuting) := ⟨rfl, rfl, rfl, by decide +kernel, rfl, by decide +kernel, by decide +kernel⟩
abbrev N_Realm_nowhere : List Str := []
theorem sc_Realm_nowhere : FnScope N_Realm_nowhere [] (defScope s_Realm_nowhere) := ⟨rfl, rfl, rfl, by decide +kernel, rfl, by decide +kernel, by decide +kernel⟩
abbrev N_Realm_inverse : List Str := ["self"]
theorem sc_Realm_inverse : FnScope N_Realm_inverse ["self"] (defScope s_Realm_inverse) := ⟨rfl, rfl, rfl, by decide +kernel, rfl, by decide +kernel, by decide +kernel⟩
abbrev N_Realm_ones : List Str := ["self"]
theorem sc_Realm_ones : FnScope N_Realm_ones ["self"] (defScope s_Realm_ones) := ⟨rfl, rfl, rfl, by decide +kernel, rfl, by decide +kernel, by decide +kernel⟩
abbrev N_Realm_swaps : List Str := ["self"]
theorem sc_Realm_swaps : FnScope N_Realm_swaps ["self"] (defScope s_Realm_swaps) := ⟨rfl, rfl, rfl, by decide +kernel, rfl, by decide +kernel, by decide +kernel⟩
abbrev N_Realm_squares : List Str := ["self"]
theorem sc_Realm_squares : FnScope N_Realm_squares ["self"] (defScope s_Realm_squares) := ⟨rfl, rfl, rfl, by decide +kernel, rfl, by decide +kernel, by decide +kernel⟩
abbrev N_Realm_within : List Str := ["self", "other"]
theorem sc_Realm_within : FnScope N_Realm_within ["self", "other"] (defScope s_Realm_within) := ⟨rfl, rfl, rfl, by decide +kernel, rfl, by decide +kernel, by decide +kernel⟩
abbrev N_Realm_has_inverse : List Str := ["self", "q"]
theorem sc_Realm_has_inverse : FnScope N_Realm_has_inverse ["self", "q"] (defScope s_Realm_has_inverse) := ⟨rfl, rfl, rfl, by decide +kernel, rfl, by decide +kernel, by decide +kernel⟩
abbrev N_Realm_sample : List Str := ["self"]
theorem sc_Realm_sample : FnScope N_Realm_sample ["self"] (defScope s_Realm_sample) := ⟨rfl, rfl, rfl, by decide +kernel, rfl, by decide +kernel, by decide +kernel⟩
abbrev N_Realm_contains : List Str := ["self", "x"]
theorem sc_Realm_contains : FnScope N_Realm_contains ["self", "x"] (defScope s_Realm_contains) := ⟨rfl, rfl, rfl, by decide +kernel, rfl, by decide +kernel, by decide +kernel⟩
abbrev N_Realm_and : List Str := ["self", "other"]
theorem sc_Realm_and : FnScope N_Realm_and ["self", "other"] (defScope s_Realm_and) := ⟨rfl, rfl, rfl, by decide +kernel, rfl, by decide +kernel, by decide +kernel⟩
abbrev N_Realm_or : List Str := ["self", "other"]
theorem sc_Realm_or : FnScope N_Realm_or ["self", "other"] (defScope s_Realm_or) := ⟨rfl, rfl, rfl, by decide +kernel, rfl, by decide +kernel, by decide +kernel⟩
abbrev N_Realm_bool : List Str := ["self"]
theorem sc_Realm_bool : FnScope N_Realm_bool ["self"] (defScope s_Realm_bool) := ⟨rfl, rfl, rfl, by decide +kernel, rfl, by decide +kernel, by decide +kernel⟩
abbrev N_Realm_eq : List Str := ["self", "other"]
theorem sc_Realm_eq : FnScope N_Realm_eq ["self", "other"] (defScope s_Realm_eq) := ⟨rfl, rfl, rfl, by decide +kernel, rfl, by decide +kernel, by decide +kernel⟩
abbrev N_Realm_repr : List Str := ["self"]
theorem sc_Realm_repr : FnScope N_Realm_repr ["self"] (defScope s_Realm_repr) := ⟨rfl, rfl, rfl, by decide +kernel, rfl, by decide +kernel, by decide +kernel⟩
structure Blt (mg : Str → Option Value) : Prop where
  IndexError : mg "IndexError" = none
  LookupError : mg "LookupError" = none
  ValueError : mg "ValueError" = none
  abs : mg "abs" = none
  all : mg "all" = none
  bool : mg "bool" = none
  divmod : mg "divmod" = none
  int : mg "int" = none
  isinstance : mg "isinstance" = none
  len : mg "len" = none
  list : mg "list" = none
  max : mg "max" = none
  range : mg "range" = none
  str : mg "str" = none
  tuple : mg "tuple" = none
  zip : mg "zip" = none
theorem bb_IndexError : bootBuiltins "IndexError" = some (.type "IndexError") := by decide +kernel
theorem bb_LookupError : bootBuiltins "LookupError" = some (.type "LookupError") := by decide +kernel
theorem bb_ValueError : bootBuiltins "ValueError" = some (.type "ValueError") := by decide +kernel
theorem bb_abs : bootBuiltins "abs" = some (.builtin "abs") := by decide +kernel
theorem bb_all : bootBuiltins "all" = some (.builtin "all") := by decide +kernel
theorem bb_bool : bootBuiltins "bool" = some (.type "bool") := by decide +kernel
theorem bb_divmod : bootBuiltins "divmod" = some (.builtin "divmod") := by decide +kernel
theorem bb_int : bootBuiltins "int" = some (.type "int") := by decide +kernel
theorem bb_isinstance : bootBuiltins "isinstance" = some (.builtin "isinstance") := by decide +kernel
theorem bb_len : bootBuiltins "len" = some (.builtin "len") := by decide +kernel
theorem bb_list : bootBuiltins "list" = some (.type "list") := by decide +kernel
theorem bb_max : bootBuiltins "max" = some (.builtin "max") := by decide +kernel
theorem bb_range : bootBuiltins "range" = some (.type "range") := by decide +kernel
theorem bb_str : bootBuiltins "str" = some (.type "str") := by decide +kernel
theorem bb_tuple : bootBuiltins "tuple" = some (.type "tuple") := by decide +kernel
theorem bb_zip : bootBuiltins "zip" = some (.type "zip") := by decide +kernel
/-! ### an own def by its name -/
structure Has (P : Program) (w : World) (K : PySem.W.Frag) (mg : Str → Option Value) (base : Heap) (k : Nat) (x : Str) (ps : List Str) (sp : Sp) : Prop where
  ex : ∃ (f : Addr) (fd : FuncData), FnOk P w K mg base CX0 k f fd ps sp ∧ mg x = some (.ref f) ∧ PySem.W.keepIn K (.ref f) = true ∧ Binds K fd ps []
structure Fn (K : PySem.W.Frag) (mg : Str → Option Value) (x : Str) (st : Stmt) (ps : List Str) : Prop where
  ex : ∃ (f : Addr) (fd : FuncData), Fun K x x st f fd ∧ mg x = some (.ref f) ∧ Binds K fd ps []
section
variable {X : Cx} {k : Nat} {x : Str} {ps : List Str} {sp : Sp} {p pos : Pos} {e : Expr} {es : List Expr} {t : TA}
theorem pe_own (h : Has X.prog X.w X.K X.mg X.base k x ps sp) (hr : Room k X.A) (hg : Gl X x) (ha : PA X (e :: es) t) (hdb : (x == ("__debug__" : Str)) = false := by decide)
    (he : starEach (e :: es) X.env = (false, eval e X.env) :: starEach es X.env := by rfl) (hpl : (backTo pos (starEach es X.env)).any (·.1) = false := by rfl) : PE X (.Call (.Name x p) (e :: es) [] pos) (tCall sp [] E0 t) := by
  obtain ⟨f, fd, F, m, kp, b⟩ := h.ex
  exact pe_call F hr hg m kp b .nil pass0 ha hdb he hpl
theorem pe_own0 (h : Has X.prog X.w X.K X.mg X.base k x ps sp) (hr : Room k X.A) (hg : Gl X x) (hdb : (x == ("__debug__" : Str)) = false := by decide) : PE X (.Call (.Name x p) [] [] pos) (tCall sp [] E0 tNil) := by
  obtain ⟨f, fd, F, m, kp, b⟩ := h.ex
  exact pe_call0 F hr hg m kp b .nil pass0 hdb
theorem pe_gstr {z : Str} (h : ∃ u, X.mg x = some (.str z u)) (hg : Gl X x) (hdb : (x == ("__debug__" : Str)) = false := by decide) : PE X (.Name x pos) (tC (.str z)) := by
  obtain ⟨u, h⟩ := h
  exact pe_glob hg h ⟨_, rfl⟩ hdb
theorem pe_gint {z : Int} (h : ∃ u, X.mg x = some (.int z u)) (hg : Gl X x) (hdb : (x == ("__debug__" : Str)) = false := by decide) : PE X (.Name x pos) (tC (.int z)) := by
  obtain ⟨u, h⟩ := h
  exact pe_glob hg h ⟨_, rfl⟩ hdb
theorem pe_gref {a : Addr} (h : X.mg x = some (.ref a)) (hg : Gl X x) (hdb : (x == ("__debug__" : Str)) = false := by decide) : PE X (.Name x pos) (tC (.ref a)) := pe_glob hg h rfl hdb
end
section
variable {P : Program} {w : World} {K : PySem.W.Frag} {mg : Str → Option Value} {base : Heap}
theorem Fn.has {x : Str} {st : Stmt} {N ps : List Str} {k : Nat} {sp : Sp} (F : Fn K mg x st ps) (S : FnScope N ps (defScope st)) (len : ∀ vs H Q E, sp vs H Q E → vs.length = ps.length)
    (hbody : ∀ (f : Addr) (cdv : Value) (A : Around) (outer : List Env) (s : Shared) (H : Hp) (vs : List V) (Q : VK) (E : XK), Room k (A.deeper (envOfC x (defScope st) s.heap.objs.size f cdv)) → sp vs H Q E →
      ∃ t, PSs (cxOf CX0 P w K mg base N x (defScope st) f cdv A outer s H E).nox (defBody st) t ∧ t { nx := fun _ H' => Q .non H', rt := Q } (start N vs) H) : Has P w K mg base (k + 1) x ps sp := by
  obtain ⟨f, fd, F, m, b⟩ := F.ex
  exact ⟨f, fd, F.ok S len (hbody f), m, F.kp, b⟩
end
/-! ### heaps -/
theorem same_upd {H : Hp} {p : Addr} {o : HO} (h : H p = none) : Same H (upd H p o) := fun b x e => by
  rw [upd_ne (ne_of_none e h)]
  exact e
/-- all that was tracked is as it was, but for b -/
def Kp (b : Addr) (H H' : Hp) : Prop := ∀ a o, a ≠ b → H a = some o → H' a = some o
theorem Kp.refl (b : Addr) (H : Hp) : Kp b H H := fun _ _ _ h => h
theorem Kp.trans {b : Addr} {H H1 H2 : Hp} (x : Kp b H H1) (y : Kp b H1 H2) : Kp b H H2 := fun a o n h => y a o n (x a o n h)
theorem Kp.of {b : Addr} {H H' : Hp} (s : Same H H') : Kp b H H' := fun a o _ h => s a o h
theorem Kp.upd {b : Addr} {H : Hp} {o : HO} : Kp b H (upd H b o) := fun a u n h => by rw [upd_ne n]; exact h
/-! ### the bag -/
structure BgAt (H : Hp) (b c : Addr) (ns : List Int) (i r m : Int) : Prop where
  hb : H b = some (.lst [.ref c, .int i, .int r, .int m])
  hc : H c = some (.lst (ns.map V.int))
  len : ns.length ≤ 63
  i0 : 0 ≤ i
  r0 : 0 ≤ r
  m0 : 0 ≤ m
  m1 : m < 2147483648
def Bg (H : Hp) (b c : Addr) : Prop := ∃ ns i r m, BgAt H b c ns i r m
theorem bg_ne {H : Hp} {b c : Addr} {x : V} {r : List V} {ns : List Int} {a : Addr} (hb : H b = some (.lst (.ref a :: r))) (hc : H c = some (.lst (ns.map V.int))) : c ≠ b := by
  refine ne_of hc hb fun e => ?_
  cases ns with
  | nil => cases e
  | cons n t => cases e
theorem BgAt.ne {H : Hp} {b c : Addr} {ns : List Int} {i r m : Int} (h : BgAt H b c ns i r m) : c ≠ b := bg_ne (x := .non) h.hb h.hc
theorem BgAt.put {H : Hp} {b c : Addr} {ns : List Int} {i r m i' r' m' : Int} (h : BgAt H b c ns i r m) (i0 : 0 ≤ i') (r0 : 0 ≤ r') (m0 : 0 ≤ m') (m1 : m' < 2147483648) :
    BgAt (upd H b (.lst [.ref c, .int i', .int r', .int m'])) b c ns i' r' m' := ⟨upd_same, by rw [upd_ne h.ne]; exact h.hc, h.len, i0, r0, m0, m1⟩
theorem Bg.same {H H' : Hp} {b c : Addr} (h : Bg H b c) (s : Same H H') : Bg H' b c := by
  obtain ⟨ns, i, r, m, h⟩ := h
  exact ⟨ns, i, r, m, s _ _ h.hb, s _ _ h.hc, h.len, h.i0, h.r0, h.m0, h.m1⟩
theorem Bg.kp {H H' : Hp} {b c d : Addr} (h : Bg H b c) (hd : d ≠ b) (hc : d ≠ c) (s : Kp d H H') : Bg H' b c := by
  obtain ⟨ns, i, r, m, h⟩ := h
  exact ⟨ns, i, r, m, s _ _ hd.symm h.hb, s _ _ hc.symm h.hc, h.len, h.i0, h.r0, h.m0, h.m1⟩
theorem cut63 {xs : List V} (h : xs.length ≤ 63) : cutV xs none (some 63) = xs := by
  unfold cutV
  rw [HT.sIx_none, show HT.sIx xs.length xs.length (some 63) = min 63 xs.length from HT.sIx_nat xs.length xs.length 63, List.drop_zero, Nat.sub_zero]
  exact List.take_of_length_le (by omega)
theorem at_ofG {α : Type} {xs : List α} {z : Int} {j : Nat} {v : α} (e : z = (j : Int)) (h : xs[j]? = some v) : atI xs z = some v := by
  rw [e]
  exact atI_nat h
def spBag (K : PySem.W.Frag) : Sp := fun vs H Q _ => ∃ (a : Addr) (ns : List Int), vs = [.ref a] ∧ SqL K H a (ns.map V.int) ∧ ns.length ≤ 63 ∧ ∀ (b c : Addr) (H' : Hp), Same H H' → H b = none → Bg H' b c → Q (.ref b) H'
def spDraw : Sp := fun vs H Q _ => ∃ (b c : Addr) (many : Int), vs = [.ref b, .int many] ∧ Bg H b c ∧ 1 ≤ many ∧ many < 2 ^ 200 ∧ ∀ (v : Int) (H' : Hp), 0 ≤ v → v < many → Kp b H H' → Bg H' b c → Q (.int v) H'
section
variable {P : Program} {w : World} {K : PySem.W.Frag} {mg : Str → Option Value} {base : Heap}
theorem ok_bag (F : Fn K mg "_law_bag" s_l_bag ["_law_script"]) (B : Blt mg) : Has P w K mg base 1 "_law_bag" ["_law_script"] (spBag K) := by
  refine F.has sc_l_bag (fun vs H Q E h => ?_) (fun f cdv A outer s H vs Q E hr h => ?_)
  · obtain ⟨a, ns, rfl, _⟩ := h
    rfl
  obtain ⟨a, ns, rfl, hS, hl, q⟩ := h
  refine ⟨_, (pss_cons (ps_set (i := 1) sc_l_bag.nd rfl (Or.inl rfl) (pe_callTy call_list_of (by rfl) B.list bb_list (pa_cons (pe_slice sl_list (pv 0) po_none (po_some pe_int)) pa_nil)))
      (pss_one (ps_ret (pe_lst (pa_cons (pv 1) (pa_cons pe_int (pa_cons pe_int (pa_cons (pe_op op_add pe_int (pe_op op_mul pe_int (pe_callB call_len (by rfl) B.len bb_len (pa_cons (pv 1) pa_nil)))) pa_nil)))))))), ?_⟩
  have hl' : (ns.map V.int).length ≤ 63 := by rw [List.length_map]; exact hl
  refine ⟨_, rfl, 63, rfl, a, _, rfl, hS, fun p hp => ?_⟩
  rw [cut63 hl']
  refine ⟨p, _, rfl, .inl (SqL.of upd_same), fun c hc => ?_⟩
  have sm : Same H (upd (upd H p (.lst (ns.map V.int))) c (.lst (ns.map V.int))) := (same_upd hp).trans (same_upd hc)
  refine ⟨_, rfl, _, rfl, .ref c, _, rfl, .inl ⟨_, SqL.of upd_same, rfl⟩, _, _, rfl, rfl, .inl ⟨by decide, by decide⟩, _, _, rfl, rfl, (by show 4 ≤ sizeLine; decide), fun b hb => ?_⟩
  refine q b c _ (sm.trans (same_upd hb)) (sm.free hb) ⟨ns, 0, 0, _, upd_same, ?_, hl, Int.le_refl _, Int.le_refl _, ?_, ?_⟩
  · rw [upd_ne (ne_of_none upd_same hb)]
    exact upd_same
  · omega
  · rw [List.length_map]
    omega
theorem div200 {y z : Int} (h : 1 ≤ z) (h2 : z < 2 ^ 200) : CDivW y z := by
  refine wide_div (b := 200) (by omega) ?_ (by decide) (by decide)
  omega
theorem ok_draw (F : Fn K mg "_law_draw" s_l_draw ["_law_bag_here", "_law_many"]) (B : Blt mg) : Has P w K mg base 1 "_law_draw" ["_law_bag_here", "_law_many"] spDraw := by
  refine F.has sc_l_draw (fun vs H Q E h => ?_) (fun f cdv A outer s H vs Q E hr h => ?_)
  · obtain ⟨a, c, ns, rfl, _⟩ := h
    rfl
  obtain ⟨b, c, many, rfl, hB, h1, h2, q⟩ := h
  refine ⟨_, (C8.pss_cut (ps_if (PW.pt (pw_and (pt_cmpR op_eq (pe_ix ix_list (pv 0) pe_int (fun _ _ => rfl)) pe_int (nomark _)) (pw_and1 (pt_cmpR op_lt (pe_ix ix_list (pv 0) pe_int (fun _ _ => rfl)) (pe_callB call_len (by rfl) B.len bb_len (pa_cons (pe_ix ix_list (pv 0) pe_int (fun _ _ => rfl)) pa_nil)) (nomark _)))))
        (pss_cons (ps_set (i := 2) sc_l_draw.nd rfl (Or.inl rfl) (pe_ix ix_list (pe_ix ix_list (pv 0) pe_int (fun _ _ => rfl)) (pe_ix ix_list (pv 0) pe_int (fun _ _ => rfl)) (fun _ _ => rfl)))
      (pss_cons (ps_asg (pe_op op_add (pe_ix ix_list (pv 0) pe_int (fun _ _ => rfl)) pe_int) (pg_sub (pv 0) pe_int set_list))
      (pss_one (ps_if (pt_cmpR op_ge (pe_callB call_abs (by rfl) B.abs bb_abs (pa_cons (pv 2) pa_nil)) (pe_op op_pow pe_int pe_int) (nomark _))
        (pss_one (ps_asg (pe_callB call_abs (by rfl) B.abs bb_abs (pa_cons (pv 2) pa_nil)) (pg_sub (pv 0) pe_int set_list)))
        (pss_one (ps_asg (pe_op op_mod (pe_callTy call_int1 (by rfl) B.int bb_int (pa_cons (pe_op op_add (pe_op op_add (pe_op op_mul (pe_ix ix_list (pv 0) pe_int (fun _ _ => rfl)) pe_int) (pe_op op_mul (pe_op op_mod (pe_callTy call_int1 (by rfl) B.int bb_int (pa_cons (pv 2) pa_nil)) pe_int) pe_int)) pe_int) pa_nil)) pe_int) (pg_sub (pv 0) pe_int set_list)))))))
        pss_nil)
      (pss_cons (ps_if (pt_cmpR op_gt (pe_ix ix_list (pv 0) pe_int (fun _ _ => rfl)) pe_int (nomark _))
        (pss_cons (ps_set (i := 3) sc_l_draw.nd rfl (Or.inl rfl) (pe_op op_mod (pe_callTy call_int1 (by rfl) B.int bb_int (pa_cons (pe_ix ix_list (pv 0) pe_int (fun _ _ => rfl)) pa_nil)) (pv 1)))
      (pss_cons (ps_asg (pe_op op_fdivW (pe_ix ix_list (pv 0) pe_int (fun _ _ => rfl)) (pv 1)) (pg_sub (pv 0) pe_int set_list))
      (pss_one (ps_ret (pv 3)))))
        pss_nil)
      (pss_cons (ps_asg (pe_op op_mod (pe_callTy call_int1 (by rfl) B.int bb_int (pa_cons (pe_op op_add (pe_op op_add (pe_op op_mul (pe_op op_mul (pe_ix ix_list (pv 0) pe_int (fun _ _ => rfl)) (pe_ix ix_list (pv 0) pe_int (fun _ _ => rfl))) pe_int) (pe_op op_mul (pe_ix ix_list (pv 0) pe_int (fun _ _ => rfl)) pe_int)) pe_int) pa_nil)) pe_int) (pg_sub (pv 0) pe_int set_list))
      (pss_one (ps_ret (pe_op op_mod (pe_callTy call_int1 (by rfl) B.int bb_int (pa_cons (pe_op op_fdiv (pe_ix ix_list (pv 0) pe_int (fun _ _ => rfl)) pe_int) pa_nil)) (pv 1))))))), ?_⟩
  refine ⟨fun σ' H' => ∃ y, σ' = [some (.ref b), some (.int many), y, none] ∧ Kp b H H' ∧ Bg H' b c, ?_, ?_⟩
  · obtain ⟨ns, i, r, m, g⟩ := hB
    refine ⟨_, rfl, b, _, 2, _, rfl, rfl, SqL.of g.hb, atI_nat (j := 2) rfl, rfl, _, rfl, ite2 (fun e => ?_) (fun e => ?_)⟩
    · refine ⟨_, rfl, b, _, 1, _, rfl, rfl, SqL.of g.hb, atI_nat (j := 1) rfl, _, rfl, b, _, 0, _, rfl, rfl, SqL.of g.hb, atI_nat (j := 0) rfl, .ref c, _, rfl, .inl ⟨_, SqL.of g.hc, rfl⟩, _, _, rfl, rfl, _, rfl, ite2 (fun e2 => ?_) (fun e2 => ?_)⟩
      · have hi : i < ((ns.map V.int).length : Int) := of_decide_eq_true e2
        rw [List.length_map] at hi
        have i0 := g.i0
        obtain ⟨x, hx⟩ : ∃ x : Int, atI (ns.map V.int) i = some (.int x) := by
          have hk : i.toNat < ns.length := by omega
          have ek : i = ((i.toNat : Nat) : Int) := by omega
          exact ⟨ns[i.toNat], at_of ek (by rw [List.getElem?_map]; simp [hk])⟩
        refine ⟨_, rfl, b, _, 0, _, rfl, rfl, SqL.of g.hb, atI_nat (j := 0) rfl, _, rfl, b, _, 1, _, rfl, rfl, SqL.of g.hb, atI_nat (j := 1) rfl, c, _, i, .int x, rfl, rfl, SqL.of g.hc, hx, ?_⟩
        refine ⟨_, rfl, b, _, 1, _, rfl, rfl, SqL.of g.hb, atI_nat (j := 1) rfl, _, _, rfl, rfl, _, rfl, b, _, 1, 1, rfl, rfl, g.hb, rfl, ?_⟩
        have g1 := g.put (i' := i + 1) (r' := r) (m' := m) (by omega) g.r0 g.m0 g.m1
        refine ⟨_, rfl, x, rfl, _, _, rfl, rfl, ⟨by decide, by decide, by decide⟩, _, _, rfl, rfl, _, rfl, ite2 (fun e3 => ?_) (fun e3 => ?_)⟩
        · refine ⟨_, rfl, x, rfl, _, rfl, b, _, 2, 2, rfl, rfl, g1.hb, rfl, ?_⟩
          refine ⟨_, rfl, Kp.upd.trans Kp.upd, ns, i + 1, _, m, g1.put g1.i0 ?_ g1.m0 g1.m1⟩
          split <;> omega
        · refine ⟨_, rfl, b, _, 3, _, rfl, rfl, SqL.of g1.hb, atI_nat (j := 3) rfl, _, _, rfl, rfl, .inr ⟨by decide, by decide⟩, _, rfl, .inl ⟨_, rfl, _, _, rfl, rfl, (show (0 : Int) < 1000171 by decide), _, _, rfl, rfl, .inr ⟨by decide, by decide⟩, _, _, rfl, rfl, _, _, rfl, rfl, .inl ⟨_, rfl, _, _, rfl, rfl, (show (0 : Int) < 2147483563 by decide), _, rfl, b, _, 3, 3, rfl, rfl, g1.hb, rfl, ?_⟩⟩⟩
          refine ⟨_, rfl, Kp.upd.trans Kp.upd, ns, i + 1, r, _, g1.put g1.i0 g1.r0 (Int.emod_nonneg _ (by decide)) ?_⟩
          have z := Int.emod_lt_of_pos (m * 41177 + x % 1000171 * 907 + 59) (show (0 : Int) < 2147483563 by decide)
          omega
      · exact ⟨_, rfl, Kp.refl _ _, ns, i, r, m, g⟩
    · exact ⟨_, rfl, Kp.refl _ _, ns, i, r, m, g⟩
  · rintro σ' H' ⟨y, rfl, kp, ns, i, r, m, g⟩
    refine ⟨_, rfl, b, _, 2, _, rfl, rfl, SqL.of g.hb, atI_nat (j := 2) rfl, _, _, rfl, rfl, _, rfl, ite2 (fun e => ?_) (fun e => ?_)⟩
    · have hm : 0 < many := by omega
      refine ⟨_, rfl, b, _, 2, _, rfl, rfl, SqL.of g.hb, atI_nat (j := 2) rfl, .inl ⟨_, rfl, _, rfl, _, _, rfl, rfl, hm, ?_⟩⟩
      refine ⟨_, rfl, b, _, 2, _, rfl, rfl, SqL.of g.hb, atI_nat (j := 2) rfl, _, rfl, _, _, rfl, rfl, div200 h1 h2, _, rfl, b, _, 2, 2, rfl, rfl, g.hb, rfl, ?_⟩
      have g1 := g.put (i' := i) (r' := r / many) (m' := m) g.i0 (Int.ediv_nonneg g.r0 (by omega)) g.m0 g.m1
      refine ⟨_, rfl, q _ _ (Int.emod_nonneg _ (by omega)) (Int.emod_lt_of_pos _ hm) (kp.trans Kp.upd) ⟨ns, i, _, m, g1⟩⟩
    · refine ⟨_, rfl, b, _, 3, _, rfl, rfl, SqL.of g.hb, atI_nat (j := 3) rfl, _, rfl, b, _, 3, _, rfl, rfl, SqL.of g.hb, atI_nat (j := 3) rfl, _, _, rfl, rfl, ?_, ?_⟩
      · have h3 := g.m0
        have h4 := g.m1
        exact .inl ⟨by omega, by omega⟩
      · refine ⟨_, _, rfl, rfl, .inr ⟨by decide, by decide⟩, _, rfl, b, _, 3, _, rfl, rfl, SqL.of g.hb, atI_nat (j := 3) rfl, _, _, rfl, rfl, .inr ⟨by decide, by decide⟩, _, _, rfl, rfl, _, _, rfl, rfl, .inl ⟨_, rfl, _, _, rfl, rfl, (show (0 : Int) < 2147483579 by decide), _, rfl, b, _, 3, 3, rfl, rfl, g.hb, rfl, ?_⟩⟩
        have z := Int.emod_lt_of_pos (m * m * 3 + m * 30089 + 1700047) (show (0 : Int) < 2147483579 by decide)
        have g1 := g.put (i' := i) (r' := r) (m' := (m * m * 3 + m * 30089 + 1700047) % 2147483579) g.i0 g.r0 (Int.emod_nonneg _ (by decide)) (by omega)
        have hm : 0 < many := by omega
        refine ⟨_, rfl, b, _, 3, _, rfl, rfl, SqL.of g1.hb, atI_nat (j := 3) rfl, _, _, rfl, rfl, ⟨by decide, by decide⟩, .inl ⟨_, rfl, _, rfl, _, _, rfl, rfl, hm, ?_⟩⟩
        exact q _ _ (Int.emod_nonneg _ (by omega)) (Int.emod_lt_of_pos _ hm) (kp.trans Kp.upd) ⟨ns, i, r, _, g1⟩
/-- an item of some list or sign of some text, by a draw -/
def spPick (K : PySem.W.Frag) : Sp := fun vs H Q _ => ∃ (b c : Addr) (x : V), vs = [.ref b, x] ∧ Bg H b c ∧
  ((∃ (a : Addr) (xs : List V), x = .ref a ∧ a ≠ b ∧ H a = some (.lst xs) ∧ xs ≠ [] ∧ xs.length ≤ 1000 ∧ ∀ (v : V) (H' : Hp), v ∈ xs → Kp b H H' → Bg H' b c → Q v H') ∨
   (∃ z : Str, x = .str z ∧ 0 < z.cps.size ∧ z.cps.size ≤ 1000 ∧ ∀ (d : Nat) (H' : Hp), d ∈ z.cps.toList → Kp b H H' → Bg H' b c → Q (.str ⟨#[d]⟩) H'))
theorem ok_pick (F : Fn K mg "_law_pick" s_l_pick ["_law_bag_here", "_law_some"]) (B : Blt mg) (G_l_draw : Has P w K mg base 1 "_law_draw" ["_law_bag_here", "_law_many"] spDraw) : Has P w K mg base 2 "_law_pick" ["_law_bag_here", "_law_some"] (spPick K) := by
  refine F.has sc_l_pick (fun vs H Q E h => ?_) (fun f cdv A outer s H vs Q E hr h => ?_)
  · obtain ⟨a, c, ns, rfl, _⟩ := h
    rfl
  obtain ⟨b, c, x, rfl, hB, h⟩ := h
  refine ⟨_, (pss_one (ps_ret (pe_ix ix_seq (pv 1) (pe_own G_l_draw (hr.mono (by decide)) (by rfl) (pa_cons (pv 0) (pa_cons (pe_callB call_len (by rfl) B.len bb_len (pa_cons (pv 1) pa_nil)) pa_nil))) (fun _ _ => rfl)))), ?_⟩
  rcases h with ⟨a, xs, rfl, hab, ha, hne, hlen, q⟩ | ⟨z, rfl, h0, hlen, q⟩
  · have hpos : 0 < xs.length := List.length_pos_iff.mpr hne
    refine ⟨_, rfl, _, rfl, _, rfl, .ref a, xs.length, rfl, .inl ⟨xs, SqL.of ha, rfl⟩, b, c, _, rfl, hB, by omega, by omega, fun v H' v0 v1 kp hB' => ?_⟩
    have hk : v.toNat < xs.length := by omega
    refine .inl ⟨a, xs, v, xs[v.toNat], rfl, rfl, SqL.of (kp _ _ hab ha), at_of (show v = ((v.toNat : Nat) : Int) by omega) (List.getElem?_eq_getElem hk), ?_⟩
    exact q _ _ (List.getElem_mem hk) kp hB'
  · refine ⟨_, rfl, _, rfl, _, rfl, .str z, z.length, rfl, ⟨by show z.cps.size ≤ sizeLine; exact Nat.le_of_lt (small1000 hlen), rfl⟩, b, c, _, rfl, hB, by show (1 : Int) ≤ (z.cps.size : Int); omega, by show (z.cps.size : Int) < 2 ^ 200; omega, fun v H' v0 v1 kp hB' => ?_⟩
    have hk : v.toNat < z.cps.toList.length := by
      have v1' : v < (z.cps.size : Int) := v1
      rw [Array.length_toList]
      omega
    refine .inr (.inr ⟨z, v, z.cps.toList[v.toNat], rfl, rfl, by show z.cps.size ≤ sizeLine; exact Nat.le_of_lt (small1000 hlen), at_ofG (show v = ((v.toNat : Nat) : Int) by omega) (List.getElem?_eq_getElem hk), ?_⟩)
    exact q _ _ (List.getElem_mem hk) kp hB'
end
/-! ### the same data -/
def leafV : V → Prop
  | .non => True
  | .bl _ => True
  | .int _ => True
  | .str _ => True
  | _ => False
/-- two values that stand for the same data, so deep at most -/
def Eqd (H : Hp) : Nat → V → V → Prop
  | 0 => fun _ _ => False
  | n + 1 => fun x y => (x = y ∧ leafV x) ∨
    (∃ (a b : Addr) (xs ys : List V), x = .ref a ∧ y = .ref b ∧ H a = some (.lst xs) ∧ H b = some (.lst ys) ∧ xs.length ≤ 1000 ∧ Paired (Eqd H n) xs ys) ∨
    (∃ (a b : Addr) (xs ys : List V), x = .ref a ∧ y = .ref b ∧ H a = some (.tup xs) ∧ H b = some (.tup ys) ∧ xs.length ≤ 1000 ∧ Paired (Eqd H n) xs ys)
theorem Eqd.leaf {H : Hp} {n : Nat} {x : V} (h : leafV x) : Eqd H (n + 1) x x := .inl ⟨rfl, h⟩
theorem Eqd.lst {H : Hp} {n : Nat} {a b : Addr} {xs ys : List V} (ha : H a = some (.lst xs)) (hb : H b = some (.lst ys)) (hl : xs.length ≤ 1000) (h : Paired (Eqd H n) xs ys) : Eqd H (n + 1) (.ref a) (.ref b) := .inr (.inl ⟨a, b, xs, ys, rfl, rfl, ha, hb, hl, h⟩)
theorem Eqd.tup {H : Hp} {n : Nat} {a b : Addr} {xs ys : List V} (ha : H a = some (.tup xs)) (hb : H b = some (.tup ys)) (hl : xs.length ≤ 1000) (h : Paired (Eqd H n) xs ys) : Eqd H (n + 1) (.ref a) (.ref b) := .inr (.inr ⟨a, b, xs, ys, rfl, rfl, ha, hb, hl, h⟩)
theorem Eqd.mono {H H' : Hp} (s : Same H H') : ∀ {n : Nat} {x y : V}, Eqd H n x y → Eqd H' n x y
  | 0, _, _, h => h
  | n + 1, x, y, h => by
    rcases h with h | ⟨a, b, xs, ys, h1, h2, h3, h4, h5, h6⟩ | ⟨a, b, xs, ys, h1, h2, h3, h4, h5, h6⟩
    · exact .inl h
    · exact .inr (.inl ⟨a, b, xs, ys, h1, h2, s _ _ h3, s _ _ h4, h5, Paired.mapP h6 fun _ _ z => Eqd.mono s z⟩)
    · exact .inr (.inr ⟨a, b, xs, ys, h1, h2, s _ _ h3, s _ _ h4, h5, Paired.mapP h6 fun _ _ z => Eqd.mono s z⟩)
theorem Eqd.up {H : Hp} : ∀ {n : Nat} {x y : V}, Eqd H n x y → Eqd H (n + 1) x y
  | 0, _, _, h => h.elim
  | n + 1, x, y, h => by
    rcases h with h | ⟨a, b, xs, ys, h1, h2, h3, h4, h5, h6⟩ | ⟨a, b, xs, ys, h1, h2, h3, h4, h5, h6⟩
    · exact .inl h
    · exact .inr (.inl ⟨a, b, xs, ys, h1, h2, h3, h4, h5, Paired.mapP h6 fun _ _ z => Eqd.up z⟩)
    · exact .inr (.inr ⟨a, b, xs, ys, h1, h2, h3, h4, h5, Paired.mapP h6 fun _ _ z => Eqd.up z⟩)
theorem paired_get {F : V → V → Prop} : ∀ {xs ys : List V} {i : Nat} {x y : V}, Paired F xs ys → xs[i]? = some x → ys[i]? = some y → F x y
  | _, _, i, x, y, .nil, hx, _ => by simp at hx
  | _, _, 0, x, y, .cons r _, hx, hy => by
    cases hx
    cases hy
    exact r
  | _, _, i + 1, x, y, .cons _ t, hx, hy => paired_get t (i := i) (by simpa using hx) (by simpa using hy)
theorem paired_len {F : V → V → Prop} : ∀ {xs ys : List V}, Paired F xs ys → xs.length = ys.length
  | _, _, .nil => rfl
  | _, _, .cons _ t => congrArg (· + 1) (paired_len t)
theorem paired_refl {F : V → V → Prop} : ∀ {xs : List V}, (∀ x ∈ xs, F x x) → Paired F xs xs
  | [], _ => .nil
  | x :: r, h => .cons (h x List.mem_cons_self) (paired_refl fun y hy => h y (List.mem_cons_of_mem _ hy))
/-- isinstance(x, T), T a built-in class -/
theorem is_b {K : PySem.W.Frag} {H : Hp} {x : V} {t T : String} {b : Bool} {Q : VK} (ty : TyX K H x (.type t)) (k : kitB t T = some b) (h : Q (.bl b) H) : rIsi K [x, .ty T] H Q :=
  ⟨x, .ty T, .type t, .type T, b, rfl, .ty _, ty, kit_ty k, h⟩
theorem ite_of {c : Prop} [Decidable c] {A B : Prop} (hc : c) (h : A) : if c then A else B := by
  rw [if_pos hc]
  exact h
theorem ite_no {c : Prop} [Decidable c] {A B : Prop} (hc : ¬ c) (h : B) : if c then A else B := by
  rw [if_neg hc]
  exact h
theorem tYes_ok {σ : L2.St} {H : Hp} {A B : Hp → Prop} (h : A H) : tYes σ H (fun b H3 => if b = true then A H3 else B H3) := by
  show (if true = true then A H else B H)
  rw [if_pos rfl]
  exact h
theorem walk_zipT {K : PySem.W.Frag} {a b : Addr} {xs ys : List V} {n : Nat} (hn : n = min xs.length ys.length) : Walk (RZ.ItzT K a b) n (fun H => SqT K H a xs ∧ SqT K H b ys) (YPair (fun i => xs[i]?) (fun i => ys[i]?)) := by
  subst hn
  refine ⟨fun i _ hi q => ?_, fun _ q => ⟨xs, ys, q.1, q.2, by omega⟩, fun i H v H' _ q y => ?_⟩
  · have h1 : i < xs.length := by omega
    have h2 : i < ys.length := by omega
    exact ⟨xs, ys, xs[i], ys[i], q.1, q.2, by simp [h1], by simp [h2]⟩
  · obtain ⟨T, x, z, h1, h2, h3, h4, h5⟩ := y
    exact ⟨T, x, z, h1, h2, h3, h4 xs q.1, h5 ys q.2⟩
def spSame (n : Nat) : Sp := fun vs H Q _ => ∃ x y : V, vs = [x, y] ∧ Eqd H n x y ∧ ∀ H', Same H H' → Q (.bl true) H'
section
variable {P : Program} {w : World} {K : PySem.W.Frag} {mg : Str → Option Value} {base : Heap}
theorem ok_same {n : Nat} (F : Fn K mg "_law_same" s_l_same ["_law_found", "_law_due"]) (B : Blt mg) (G_l_same : Has P w K mg base n "_law_same" ["_law_found", "_law_due"] (spSame n)) :
    Has P w K mg base (n + 1) "_law_same" ["_law_found", "_law_due"] (spSame (n + 1)) := by
  refine F.has sc_l_same (fun vs H Q E h => ?_) (fun f cdv A outer s H vs Q E hr h => ?_)
  · obtain ⟨a, ns, rfl, _⟩ := h
    rfl
  obtain ⟨x, y, rfl, h, q⟩ := h
  refine ⟨_, (pss_cons (ps_if (pt_val (pe_callB call_isi (by rfl) B.isinstance bb_isinstance (pa_cons (pv 1) (pa_cons (pe_bltn (v := .ty "list") (by rfl) B.list bb_list rfl) pa_nil))))
        (pss_one (ps_ret (pe_and (pe_callB call_isi (by rfl) B.isinstance bb_isinstance (pa_cons (pv 0) (pa_cons (pe_bltn (v := .ty "list") (by rfl) B.list bb_list rfl) pa_nil))) (pe_and (pe_cmpR op_eq (pe_callB call_len (by rfl) B.len bb_len (pa_cons (pv 0) pa_nil)) (pe_callB call_len (by rfl) B.len bb_len (pa_cons (pv 1) pa_nil)) (nomark _)) (pe_one (pe_callB (cr_all rfl) (by rfl) B.all bb_all (pa_cons (pe_lc (own := [("_law_a", 2), ("_law_b", 3)]) (g := gTup K 2 (gCons (gName 2) (gCons (gName 3) gNil))) (tt := tYes) (by rfl) sc_l_same.nd (RZ.pi_zipA (by rfl) B.zip (pa_cons (pv 0) (pa_cons (pv 1) pa_nil))) (blkOk_by (own := [("_law_a", 2), ("_law_b", 3)]) (N := N_l_same) (sc := defScope s_l_same) (by decide +kernel)) (fun _ _ _ _ _ => (pg_tup rfl (pgs_cons (pg_name (i := 2) sc_l_same.nd rfl (Or.inl rfl)) (pgs_cons (pg_name (i := 3) sc_l_same.nd rfl (Or.inl rfl)) pgs_nil)))) (fun _ _ _ _ _ => pts_nil) (fun _ _ _ _ _ => (pe_own G_l_same hr (by rfl) (pa_cons (pv 2) (pa_cons (pv 3) pa_nil))))) pa_nil)))))))
        pss_nil)
      (pss_cons (ps_if (pt_val (pe_callB call_isi (by rfl) B.isinstance bb_isinstance (pa_cons (pv 1) (pa_cons (pe_bltn (v := .ty "tuple") (by rfl) B.tuple bb_tuple rfl) pa_nil))))
        (pss_one (ps_ret (pe_and (pe_callB call_isi (by rfl) B.isinstance bb_isinstance (pa_cons (pv 0) (pa_cons (pe_bltn (v := .ty "tuple") (by rfl) B.tuple bb_tuple rfl) pa_nil))) (pe_and (pe_cmpR op_eq (pe_callB call_len (by rfl) B.len bb_len (pa_cons (pv 0) pa_nil)) (pe_callB call_len (by rfl) B.len bb_len (pa_cons (pv 1) pa_nil)) (nomark _)) (pe_one (pe_callB (cr_all rfl) (by rfl) B.all bb_all (pa_cons (pe_lc (own := [("_law_a", 2), ("_law_b", 3)]) (g := gTup K 2 (gCons (gName 2) (gCons (gName 3) gNil))) (tt := tYes) (by rfl) sc_l_same.nd (RZ.pi_zipA (by rfl) B.zip (pa_cons (pv 0) (pa_cons (pv 1) pa_nil))) (blkOk_by (own := [("_law_a", 2), ("_law_b", 3)]) (N := N_l_same) (sc := defScope s_l_same) (by decide +kernel)) (fun _ _ _ _ _ => (pg_tup rfl (pgs_cons (pg_name (i := 2) sc_l_same.nd rfl (Or.inl rfl)) (pgs_cons (pg_name (i := 3) sc_l_same.nd rfl (Or.inl rfl)) pgs_nil)))) (fun _ _ _ _ _ => pts_nil) (fun _ _ _ _ _ => (pe_own G_l_same hr (by rfl) (pa_cons (pv 2) (pa_cons (pv 3) pa_nil))))) pa_nil)))))))
        pss_nil)
      (pss_cons (ps_if (PW.pt (pw_or (pt_cmp (pc_isN (pv 1))) (pw_or1 (pt_cmp (pc_isN (pv 0))))))
        (pss_one (ps_ret (pe_and (pe_cmp (pc_isN (pv 1))) (pe_one (pe_cmp (pc_isN (pv 0)))))))
        pss_nil)
      (pss_cons (ps_if (PW.pt (pw_or (pt_val (pe_callB call_isi (by rfl) B.isinstance bb_isinstance (pa_cons (pv 1) (pa_cons (pe_bltn (v := .ty "bool") (by rfl) B.bool bb_bool rfl) pa_nil)))) (pw_or1 (pt_val (pe_callB call_isi (by rfl) B.isinstance bb_isinstance (pa_cons (pv 0) (pa_cons (pe_bltn (v := .ty "bool") (by rfl) B.bool bb_bool rfl) pa_nil)))))))
        (pss_one (ps_ret (pe_and (pe_callB call_isi (by rfl) B.isinstance bb_isinstance (pa_cons (pv 1) (pa_cons (pe_bltn (v := .ty "bool") (by rfl) B.bool bb_bool rfl) pa_nil))) (pe_and (pe_callB call_isi (by rfl) B.isinstance bb_isinstance (pa_cons (pv 0) (pa_cons (pe_bltn (v := .ty "bool") (by rfl) B.bool bb_bool rfl) pa_nil))) (pe_one (pe_cmpR op_eq (pv 0) (pv 1) (nomark _)))))))
        pss_nil)
      (pss_cons (ps_if (pt_val (pe_callB call_isi (by rfl) B.isinstance bb_isinstance (pa_cons (pv 1) (pa_cons (pe_bltn (v := .ty "int") (by rfl) B.int bb_int rfl) pa_nil))))
        (pss_one (ps_ret (pe_and (pe_callB call_isi (by rfl) B.isinstance bb_isinstance (pa_cons (pv 0) (pa_cons (pe_bltn (v := .ty "int") (by rfl) B.int bb_int rfl) pa_nil))) (pe_one (pe_cmpR op_eq (pv 0) (pv 1) (nomark _))))))
        pss_nil)
      (pss_one (ps_ret (pe_and (pe_callB call_isi (by rfl) B.isinstance bb_isinstance (pa_cons (pv 0) (pa_cons (pe_bltn (v := .ty "str") (by rfl) B.str bb_str rfl) pa_nil))) (pe_and (pe_callB call_isi (by rfl) B.isinstance bb_isinstance (pa_cons (pv 1) (pa_cons (pe_bltn (v := .ty "str") (by rfl) B.str bb_str rfl) pa_nil))) (pe_one (pe_cmpR op_eq (pv 0) (pv 1) (nomark _)))))))))))), ?_⟩
  rcases h with ⟨rfl, hx⟩ | ⟨a, b, xs, ys, rfl, rfl, ha, hb, hl, hp⟩ | ⟨a, b, xs, ys, rfl, rfl, ha, hb, hl, hp⟩
  · cases x with
    | non =>
      refine ⟨_, rfl, _, .ty "list", .type "NoneType", .type "list", false, rfl, .ty _, .base .non, kit_ty (by decide +kernel), _, rfl, iteF ?_⟩
      refine ⟨_, rfl, _, .ty "tuple", .type "NoneType", .type "tuple", false, rfl, .ty _, .base .non, kit_ty (by decide +kernel), _, rfl, iteF ?_⟩
      refine ⟨_, rfl, _, rfl, ite_of (decide_eq_true rfl) ?_⟩
      refine ⟨_, rfl, _, rfl, ite_of (decide_eq_true rfl) ⟨_, rfl, ?_⟩⟩
      exact q _ (Same.refl _)
    | bl x =>
      refine ⟨_, rfl, _, .ty "list", .type "bool", .type "list", false, rfl, .ty _, .base (.bl _), kit_ty (by decide +kernel), _, rfl, iteF ?_⟩
      refine ⟨_, rfl, _, .ty "tuple", .type "bool", .type "tuple", false, rfl, .ty _, .base (.bl _), kit_ty (by decide +kernel), _, rfl, iteF ?_⟩
      refine ⟨_, rfl, _, rfl, ite_no (by simp) ⟨_, rfl, _, rfl, ite_no (by simp) ?_⟩⟩
      refine ⟨_, rfl, _, .ty "bool", .type "bool", .type "bool", true, rfl, .ty _, .base (.bl _), kit_ty (by decide +kernel), _, rfl, iteT ?_⟩
      refine ⟨_, rfl, _, .ty "bool", .type "bool", .type "bool", true, rfl, .ty _, .base (.bl _), kit_ty (by decide +kernel), _, rfl, iteT ⟨_, rfl, _, .ty "bool", .type "bool", .type "bool", true, rfl, .ty _, .base (.bl _), kit_ty (by decide +kernel), _, rfl, iteT ⟨_, rfl, _, rfl, rfl, ?_⟩⟩⟩
      rw [decide_eq_true rfl]
      exact q _ (Same.refl _)
    | int x =>
      refine ⟨_, rfl, _, .ty "list", .type "int", .type "list", false, rfl, .ty _, .base (.int _), kit_ty (by decide +kernel), _, rfl, iteF ?_⟩
      refine ⟨_, rfl, _, .ty "tuple", .type "int", .type "tuple", false, rfl, .ty _, .base (.int _), kit_ty (by decide +kernel), _, rfl, iteF ?_⟩
      refine ⟨_, rfl, _, rfl, ite_no (by simp) ⟨_, rfl, _, rfl, ite_no (by simp) ?_⟩⟩
      refine ⟨_, rfl, _, .ty "bool", .type "int", .type "bool", false, rfl, .ty _, .base (.int _), kit_ty (by decide +kernel), _, rfl, iteF ⟨_, rfl, _, .ty "bool", .type "int", .type "bool", false, rfl, .ty _, .base (.int _), kit_ty (by decide +kernel), _, rfl, iteF ?_⟩⟩
      refine ⟨_, rfl, _, .ty "int", .type "int", .type "int", true, rfl, .ty _, .base (.int _), kit_ty (by decide +kernel), _, rfl, iteT ?_⟩
      refine ⟨_, rfl, _, .ty "int", .type "int", .type "int", true, rfl, .ty _, .base (.int _), kit_ty (by decide +kernel), _, rfl, iteT ⟨_, rfl, _, rfl, rfl, ?_⟩⟩
      rw [decide_eq_true rfl]
      exact q _ (Same.refl _)
    | str x =>
      refine ⟨_, rfl, _, .ty "list", .type "str", .type "list", false, rfl, .ty _, .base (.str _), kit_ty (by decide +kernel), _, rfl, iteF ?_⟩
      refine ⟨_, rfl, _, .ty "tuple", .type "str", .type "tuple", false, rfl, .ty _, .base (.str _), kit_ty (by decide +kernel), _, rfl, iteF ?_⟩
      refine ⟨_, rfl, _, rfl, ite_no (by simp) ⟨_, rfl, _, rfl, ite_no (by simp) ?_⟩⟩
      refine ⟨_, rfl, _, .ty "bool", .type "str", .type "bool", false, rfl, .ty _, .base (.str _), kit_ty (by decide +kernel), _, rfl, iteF ⟨_, rfl, _, .ty "bool", .type "str", .type "bool", false, rfl, .ty _, .base (.str _), kit_ty (by decide +kernel), _, rfl, iteF ?_⟩⟩
      refine ⟨_, rfl, _, .ty "int", .type "str", .type "int", false, rfl, .ty _, .base (.str _), kit_ty (by decide +kernel), _, rfl, iteF ?_⟩
      refine ⟨_, rfl, _, .ty "str", .type "str", .type "str", true, rfl, .ty _, .base (.str _), kit_ty (by decide +kernel), _, rfl, iteT ⟨_, rfl, _, .ty "str", .type "str", .type "str", true, rfl, .ty _, .base (.str _), kit_ty (by decide +kernel), _, rfl, iteT ⟨_, rfl, _, rfl, rfl, ?_⟩⟩⟩
      rw [decide_eq_true rfl]
      exact q _ (Same.refl _)
    | byt x => exact hx.elim
    | flt x => exact hx.elim
    | ref x => exact hx.elim
    | ty x => exact hx.elim
  · have hlen := paired_len hp
    refine ⟨_, rfl, _, .ty "list", .type "list", .type "list", true, rfl, .ty _, .base (.lst hb), kit_ty (by decide +kernel), _, rfl, iteT ?_⟩
    refine ⟨_, rfl, _, .ty "list", .type "list", .type "list", true, rfl, .ty _, .base (.lst ha), kit_ty (by decide +kernel), _, rfl, iteT ?_⟩
    refine ⟨_, rfl, .ref a, _, rfl, .inl ⟨xs, SqL.of ha, rfl⟩, _, rfl, .ref b, _, rfl, .inl ⟨ys, SqL.of hb, rfl⟩, rfl, _, rfl, ite_of (decide_eq_true (by rw [hlen])) ?_⟩
    refine ⟨_, rfl, _, rfl, a, b, xs, ys, rfl, .inl ⟨SqL.of ha, SqL.of hb, fun D hD => lc_it (walk_zip (K := K) (n := xs.length) (by omega)) (fun i H' => Same H H' ∧ H' D = some (.lst (List.replicate i (.bl true))))
      ⟨same_upd hD, upd_same⟩ (fun i H1 hi p => ⟨SqL.of (p.1 _ _ ha), SqL.of (p.1 _ _ hb)⟩) ?_ ?_⟩⟩
    · rintro i v H1 H2 hi ⟨s1, e1⟩ ⟨T, u, z, rfl, hT, rfl, hu, hz⟩
      refine ⟨T, [u, z], rfl, SqT.of upd_same, rfl, u, [z], rfl, z, [], rfl, rfl, rfl, tYes_ok ?_⟩
      refine ⟨_, rfl, _, rfl, u, z, rfl, (paired_get hp hu hz).mono (s1.trans (same_upd hT)), fun H3 s3 => ?_⟩
      refine ⟨_, s3 _ _ ((same_upd hT) _ _ e1), by rw [List.length_replicate]; exact small1000 (by omega), fun c o hc => ?_, ?_⟩
      · rw [upd_ne (ne_of_none hc hD)]
        exact s3 _ _ (same_upd hT _ _ (s1 _ _ hc))
      · rw [upd_same, List.replicate_succ']
    · rintro H1 ⟨s1, e1⟩
      refine ⟨D, List.replicate xs.length true, rfl, SqL.of (by rw [e1, List.map_replicate]), ?_⟩
      rw [show (List.replicate xs.length true).all id = true by simp]
      exact q _ s1
  · have hlen := paired_len hp
    refine ⟨_, rfl, _, .ty "list", .type "tuple", .type "list", false, rfl, .ty _, .base (.tup hb), kit_ty (by decide +kernel), _, rfl, iteF ?_⟩
    refine ⟨_, rfl, _, .ty "tuple", .type "tuple", .type "tuple", true, rfl, .ty _, .base (.tup hb), kit_ty (by decide +kernel), _, rfl, iteT ?_⟩
    refine ⟨_, rfl, _, .ty "tuple", .type "tuple", .type "tuple", true, rfl, .ty _, .base (.tup ha), kit_ty (by decide +kernel), _, rfl, iteT ?_⟩
    refine ⟨_, rfl, .ref a, _, rfl, .inr ⟨xs, SqT.of ha, rfl⟩, _, rfl, .ref b, _, rfl, .inr ⟨ys, SqT.of hb, rfl⟩, rfl, _, rfl, ite_of (decide_eq_true (by rw [hlen])) ?_⟩
    refine ⟨_, rfl, _, rfl, a, b, xs, ys, rfl, .inr ⟨SqT.of ha, SqT.of hb, fun D hD => lc_it (walk_zipT (K := K) (n := xs.length) (by omega)) (fun i H' => Same H H' ∧ H' D = some (.lst (List.replicate i (.bl true))))
      ⟨same_upd hD, upd_same⟩ (fun i H1 hi p => ⟨SqT.of (p.1 _ _ ha), SqT.of (p.1 _ _ hb)⟩) ?_ ?_⟩⟩
    · rintro i v H1 H2 hi ⟨s1, e1⟩ ⟨T, u, z, rfl, hT, rfl, hu, hz⟩
      refine ⟨T, [u, z], rfl, SqT.of upd_same, rfl, u, [z], rfl, z, [], rfl, rfl, rfl, tYes_ok ?_⟩
      refine ⟨_, rfl, _, rfl, u, z, rfl, (paired_get hp hu hz).mono (s1.trans (same_upd hT)), fun H3 s3 => ?_⟩
      refine ⟨_, s3 _ _ ((same_upd hT) _ _ e1), by rw [List.length_replicate]; exact small1000 (by omega), fun c o hc => ?_, ?_⟩
      · rw [upd_ne (ne_of_none hc hD)]
        exact s3 _ _ (same_upd hT _ _ (s1 _ _ hc))
      · rw [upd_same, List.replicate_succ']
    · rintro H1 ⟨s1, e1⟩
      refine ⟨D, List.replicate xs.length true, rfl, SqL.of (by rw [e1, List.map_replicate]), ?_⟩
      rw [show (List.replicate xs.length true).all id = true by simp]
      exact q _ s1
end
theorem no_same {P : Program} {w : World} {K : PySem.W.Frag} {mg : Str → Option Value} {base : Heap} {f : Addr} {fd : FuncData} {ps : List Str} {sp : Sp} (no : ∀ vs H Q E, ¬ sp vs H Q E) : FnOk P w K mg base CX0 0 f fd ps sp :=
  ⟨fun vs H Q E h => absurd h (no vs H Q E), fun A outer s H args us vs Q E _ _ _ _ h => absurd h (no vs H Q E)⟩
section
variable {P : Program} {w : World} {K : PySem.W.Frag} {mg : Str → Option Value} {base : Heap}
theorem all_same (F : Fn K mg "_law_same" s_l_same ["_law_found", "_law_due"]) (B : Blt mg) : ∀ n : Nat, Has P w K mg base n "_law_same" ["_law_found", "_law_due"] (spSame n)
  | 0 => by
    obtain ⟨f, fd, F, m, b⟩ := F.ex
    exact ⟨f, fd, no_same fun vs H Q E h => by obtain ⟨x, y, _, h, _⟩ := h; exact h, m, F.kp, b⟩
  | n + 1 => ok_same F B (all_same F B n)
end
/-! ### odd values -/
inductive OddV (H : Hp) (b : Addr) : V → Prop
  | non : OddV H b .non
  | bl (x : Bool) : OddV H b (.bl x)
  | s0 : OddV H b (.str "")
  | s1 : OddV H b (.str "A")
  | s2 : OddV H b (.str "in")
  | s3 : OddV H b (.str "a b")
  | s4 : OddV H b (.str "7")
  | t0 {p : Addr} : p ≠ b → H p = some (.tup []) → OddV H b (.ref p)
  | t1 {p : Addr} : p ≠ b → H p = some (.tup [.int 1]) → OddV H b (.ref p)
  | l0 {p : Addr} : p ≠ b → H p = some (.lst []) → OddV H b (.ref p)
  | l1 {p : Addr} : p ≠ b → H p = some (.lst [.str "a"]) → OddV H b (.ref p)
theorem OddV.kp {H H' : Hp} {b : Addr} {v : V} (h : OddV H b v) (k : Kp b H H') : OddV H' b v := by
  cases h with
  | non => exact .non
  | bl x => exact .bl x
  | s0 => exact .s0
  | s1 => exact .s1
  | s2 => exact .s2
  | s3 => exact .s3
  | s4 => exact .s4
  | t0 n h => exact .t0 n (k _ _ n h)
  | t1 n h => exact .t1 n (k _ _ n h)
  | l0 n h => exact .l0 n (k _ _ n h)
  | l1 n h => exact .l1 n (k _ _ n h)
def spOdd : Sp := fun vs H Q _ => ∃ b c : Addr, vs = [.ref b] ∧ Bg H b c ∧ ∀ (v : V) (H' : Hp), Kp b H H' → Bg H' b c → OddV H' b v → Q v H'
def spGcd : Sp := fun vs H Q _ => ∃ a b : Int, vs = [.int a, .int b] ∧ Q (.int ((Nat.gcd a.natAbs b.natAbs : Nat) : Int)) H
theorem abs_cast (i : Int) : (if i < 0 then -i else i) = ((i.natAbs : Nat) : Int) := by split <;> omega
theorem Bg.sel {H : Hp} {b c : Addr} (h : Bg H b c) : ∃ r : List V, H b = some (.lst (.ref c :: r)) := by
  obtain ⟨ns, i, r, m, g⟩ := h
  exact ⟨_, g.hb⟩
theorem Bg.ne_new {H : Hp} {b c p : Addr} (h : Bg H b c) (hp : H p = none) : p ≠ b := by
  obtain ⟨_, e⟩ := h.sel
  exact (ne_of_none e hp).symm
theorem Bg.ne_new2 {H : Hp} {b c p : Addr} (h : Bg H b c) (hp : H p = none) : p ≠ c := by
  obtain ⟨ns, i, r, m, g⟩ := h
  exact (ne_of_none g.hc hp).symm
section
variable {P : Program} {w : World} {K : PySem.W.Frag} {mg : Str → Option Value} {base : Heap}
theorem ok_gcd (F : Fn K mg "_law_gcd" s_l_gcd ["_law_a", "_law_b"]) (B : Blt mg) : Has P w K mg base 1 "_law_gcd" ["_law_a", "_law_b"] spGcd := by
  refine F.has sc_l_gcd (fun vs H Q E h => ?_) (fun f cdv A outer s H vs Q E hr h => ?_)
  · obtain ⟨a, b, rfl, _⟩ := h
    rfl
  obtain ⟨a, b, rfl, q⟩ := h
  refine ⟨_, (pss_cons (ps_par (i := 2) (j := 3) rfl sc_l_gcd.nd rfl rfl (by decide) rfl rfl (pa_cons (pe_callB call_abs (by rfl) B.abs bb_abs (pa_cons (pv 0) pa_nil)) (pa_cons (pe_callB call_abs (by rfl) B.abs bb_abs (pa_cons (pv 1) pa_nil)) pa_nil)) rfl)
      (pss_cons (ps_while PassesOwn.never (pt_cmpR op_gt (pv 3) pe_int (nomark _))
        (pss_one (ps_par (i := 2) (j := 3) rfl sc_l_gcd.nd rfl rfl (by decide) rfl rfl (pa_cons (pv 3) (pa_cons (pe_op op_mod (pe_callTy call_int1 (by rfl) B.int bb_int (pa_cons (pv 2) pa_nil)) (pv 3)) pa_nil)) rfl)))
      (pss_one (ps_ret (pv 2))))), ?_⟩
  refine ⟨_, rfl, a, rfl, _, rfl, b, rfl, _, _, rfl, ?_⟩
  rw [abs_cast, abs_cast]
  refine while_by (fun σ H' => ∃ l r : Nat, σ = [some (.int a), some (.int b), some (.int (l : Int)), some (.int (r : Int))] ∧ Nat.gcd l r = Nat.gcd a.natAbs b.natAbs ∧ H' = H)
    (fun σ _ => match σ with | [_, _, _, some (.int r)] => r.toNat | _ => 0) ⟨_, _, rfl, rfl, rfl⟩ ?_ ?_
  · rintro σ H' ⟨l, r, rfl, e, rfl⟩
    refine ⟨_, rfl, _, _, rfl, rfl, _, rfl, ite2 (fun c => ?_) (fun c => ?_)⟩
    · have hc : (0 : Int) < (r : Int) := of_decide_eq_true c
      have hc' : 0 < r := by omega
      refine ⟨_, rfl, _, rfl, .inl ⟨_, rfl, _, rfl, _, _, rfl, rfl, hc, _, _, rfl, ?_⟩⟩
      refine ⟨⟨r, l % r, rfl, ?_, rfl⟩, ?_⟩
      · rw [← e, Nat.gcd_comm r (l % r), ← Nat.gcd_rec, Nat.gcd_comm]
      · show ((l : Int) % (r : Int)).toNat < (r : Int).toNat
        have := Int.emod_lt_of_pos (l : Int) hc
        have := Int.emod_nonneg (l : Int) (show (r : Int) ≠ 0 by omega)
        omega
    · have hc : ¬ (0 : Int) < (r : Int) := of_decide_eq_false (Bool.eq_false_iff.mpr c)
      have r0 : r = 0 := by omega
      subst r0
      refine ⟨_, rfl, ?_⟩
      rw [Nat.gcd_zero_right] at e
      rw [e]
      exact q
  · rintro σ H' Q1 Q2 hq ⟨v, e, i, j, e1, e2, k, e3, z⟩
    exact ⟨v, e, i, j, e1, e2, k, e3, hq _ _ z⟩
end
/-! ### kinds of values -/
inductive Typ (H : Hp) : V → String → Prop
  | non : Typ H .non "NoneType"
  | bl (x : Bool) : Typ H (.bl x) "bool"
  | int (i : Int) : Typ H (.int i) "int"
  | str (z : Str) : Typ H (.str z) "str"
  | lst {a : Addr} {xs : List V} : H a = some (.lst xs) → Typ H (.ref a) "list"
  | tup {a : Addr} {xs : List V} : H a = some (.tup xs) → Typ H (.ref a) "tuple"
theorem Typ.tyx {K : PySem.W.Frag} {H : Hp} {x : V} {t : String} (h : Typ H x t) : TyX K H x (.type t) := by
  cases h with
  | non => exact .base .non
  | bl x => exact .base (.bl x)
  | int i => exact .base (.int i)
  | str z => exact .base (.str z)
  | lst h => exact .base (.lst h)
  | tup h => exact .base (.tup h)
theorem Typ.same {H H' : Hp} {x : V} {t : String} (h : Typ H x t) (s : Same H H') : Typ H' x t := by
  cases h with
  | non => exact .non
  | bl x => exact .bl x
  | int i => exact .int i
  | str z => exact .str z
  | lst h => exact .lst (s _ _ h)
  | tup h => exact .tup (s _ _ h)
theorem OddV.typ {H : Hp} {b : Addr} {v : V} (h : OddV H b v) : ∃ t, Typ H v t ∧ t ≠ "int" := by
  cases h with
  | non => exact ⟨_, .non, by decide⟩
  | bl x => exact ⟨_, .bl x, by decide⟩
  | s0 => exact ⟨_, .str _, by decide⟩
  | s1 => exact ⟨_, .str _, by decide⟩
  | s2 => exact ⟨_, .str _, by decide⟩
  | s3 => exact ⟨_, .str _, by decide⟩
  | s4 => exact ⟨_, .str _, by decide⟩
  | t0 n h => exact ⟨_, .tup h, by decide⟩
  | t1 n h => exact ⟨_, .tup h, by decide⟩
  | l0 n h => exact ⟨_, .lst h, by decide⟩
  | l1 n h => exact ⟨_, .lst h, by decide⟩
def isIntV : V → Bool
  | .int _ => true
  | _ => false
end My
/-! an own error whose __init__ says super().__init__(a text) and stores what it got and its code -/
namespace PySem
namespace ErrX
open PySem.W PySem.Calls PyProof.Rows PySem.HandSPX
/-- the statements of such an __init__: the field is called f, the code is q -/
def eArgs (f : Str) (p1 p2 : Pos) : Arguments := { posonlyargs := [], args := [{ arg := "self", annotation := none, pos := p1 }, { arg := f, annotation := none, pos := p2 }], vararg := none, kwonlyargs := [], kw_defaults := [], kwarg := none, defaults := [] }
def eBody (f msg q : Str) (k1 k2 : Nat) (a1 a2 a3 a4 a5 a6 b1 b2 b3 b4 c1 c2 c3 c4 : Pos) : List Stmt :=
  [.Expr (.Call (.Attribute (.Call (.Name "super" a1) [] [] a2) "__init__" a3) [.Constant (.str msg) k1 a4] [] a5) a6,
   .Assign [.Attribute (.Name "self" b1) f b2] (.Name f b3) b4,
   .Assign [.Attribute (.Name "self" c1) "code" c2] (.Constant (.str q) k2 c3) c4]
def eScope (f : Str) : Scope := { kind := .function, names := [(PySem.Str.ofString "self", .local), (f, .local), (PySem.Str.ofString "__class__", .free), (PySem.Str.ofString "super", .globalImplicit)], isGenerator := false, isCoroutine := false, more := [] }
/-- how the first statement's call is evaluated -/
def InitEval (msg : Str) (k1 : Nat) (a1 a2 a3 a4 a5 : Pos) : Prop := ∃ pl : Sem Bool, ∀ env : Env,
  eval (.Call (.Attribute (.Call (.Name "super" a1) [] [] a2) "__init__" a3) [.Constant (.str msg) k1 a4] [] a5) env = (do
    let ov ← attributeBase (.Call (.Name "super" a1) [] [] a2) "__init__" env (eval (.Call (.Name "super" a1) [] [] a2) env)
    standAt a3.atName
    let (g, first) ← holding [ov] (getMethod ov "__init__" pl)
    callWith a5 g first (backTo a5 (starEach [.Constant (.str msg) k1 a4] env)) [])
/-- what the written part says of the class at C, of its __init__ at fI, of the cell cc that holds the class, of the code object cd -/
structure ErrTxt (prog : Program) (K : Frag) (mg : Str → Option Value) (nm f q : Str) (C fI cc cd : Addr) : Prop where
  gC : mg nm = some (.ref C)
  gS : mg "super" = none
  cls : ∃ nm' q' N bs bm sn sub ab col dd k0 k1 k2 k3 k5, K.lookup C = some (excClassObj nm' q' C N bs bm true sn sub ab col dd k0 k1 k2 k3 k5 "ValueError.__new__") ∧ refsVE bm = true ∧ alongIn K "__init__" bm = some (some (.builtin "ValueError.__init__"))
  sa : findIn K (.ref C) "__setattr__" = some (some (.builtin "object.__setattr__"))
  ga : findIn K (.ref C) "__getattribute__" = some (some (.builtin "BaseException.__getattribute__"))
  gg : findIn K (.ref C) "__getattr__" = some none
  noF : findIn K (.ref C) f = some none
  noC : findIn K (.ref C) "code" = some none
  iC : findIn K (.ref C) "__init__" = some (some (.ref fI))
  tC : typeIn K (.ref fI) = some (.type "function")
  kC : keepIn K (.ref C) = true
  exC : subIn K (.ref C) (.type "BaseException") = some true
  veC : subIn K (.ref C) (.type "ValueError") = some true
  slf : mroIn K C (.ref C) = some true
  tyC : typeIn K (.ref C) = some (.type "type")
  hdC : hasDictIn K C = true
  opq : nsIn K cStatics "thirdparty.any" = some none
  cell : ∃ cl cld csl, K.lookup cc = some ⟨cl, cld, .cell (some (.ref C)), csl⟩
  code : ∃ ccl cdd vs ccs file tf, K.lookup cd = some ⟨ccl, cdd, .fields vs, ccs⟩ ∧ vs[2]? = some (.str file tf) ∧ ((prog.main.file : Str) == file) = true
  top : (prog.main.scope.names.lookup ("super" : Str)).isSome = false
  fn : ∃ (oc : Value) (od : Option Addr) (doc pm : Value) (an : Option Addr) (ct : Value) (osl : Array (Option Value)) (qual msg : Str) (k1 k2 : Nat) (p1 p2 a1 a2 a3 a4 a5 a6 b1 b2 b3 b4 c1 c2 c3 c4 : Pos),
    K.lookup fI = some ⟨oc, od, .func (ksFn "__init__" qual (eArgs f p1 p2) (eBody f msg q k1 k2 a1 a2 a3 a4 a5 a6 b1 b2 b3 b4 c1 c2 c3 c4) (eScope f) .none .none doc pm an (.ref cd) ct cc), osl⟩ ∧ codeIn K (.ref cd) qual = true ∧
    (∀ (s : Shared) (a b : Value), BindsTo s (ksFn "__init__" qual (eArgs f p1 p2) (eBody f msg q k1 k2 a1 a2 a3 a4 a5 a6 b1 b2 b3 b4 c1 c2 c3 c4) (eScope f) .none .none doc pm an (.ref cd) ct cc) ⟨[a, b], []⟩ [("self", a), (f, b)]) ∧ InitEval msg k1 a1 a2 a3 a4 a5
  nf : f ≠ "self" ∧ f ≠ "code" ∧ f ≠ "super" ∧ f ≠ "__class__" ∧ f ≠ "__debug__"
theorem kept_x {K : Frag} {h h' : Heap} {x : Addr} (X : K.In h) (hx : K.lookup x = none) (k : ∀ b o, b ≠ x → h.get? b = some o → h'.get? b = some o) : K.In h' := fun a o e =>
  k a o (fun z => by rw [z, hx] at e; cases e) (X a o e)
/-- what it leaves of a fresh exception at x -/
structure Made (h h' : Heap) (x C dx t1 : Addr) (f q : Str) (v : Value) : Prop where
  keep : ∀ b o, b ≠ x → h.get? b = some o → h'.get? b = some o
  obj : h'.get? x = some { cls := .ref C, dict := some dx, data := .fields #[.ref t1, .none, .none, .none, .bool false, .none] }
  dbig : h.objs.size ≤ dx
  dne : dx ≠ x
  ns : ∃ tk, h'.Ns1 dx (fun y => if y = "code" then some (.str q tk) else if y = f then some v else none)
section
variable {prog : Program} {w : World} {M : Model} {A : Around} {E : Value → Shared → Prop} {R : Result → Shared → Prop} {s : Shared} {K : Frag} {mg : Str → Option Value} {nm f q : Str} {C fI cc cd : Addr}
/-- the bound built-in __init__, called with one value -/
theorem mw_call {hp : Heap} {g : Array GenState} {d : Drawn} {t : Nat} {os : OsState} {u e t0 : Addr} {rest : List Value} {Q : Value → Shared → Prop} {nm' q' : Str} {N : Addr} {bs bm : List Value} {hdct : Bool} {sn : List Str} {sub : List Value} {ab : Bool} {col : Option Bool} {dd : Option Addr} {k0 k1 k2 k3 k5 : Option Value}
    (hC : hp.get? C = some (excClassObj nm' q' C N bs bm hdct sn sub ab col dd k0 k1 k2 k3 k5 "ValueError.__new__")) (he : hp.get? e = some (excO C t0)) (hu : hp.get? u = some (kxs_mw "ValueError.__init__" e)) (hrest : rest.length ≤ sizeLine)
    (hq : ∀ h' t1, (∀ b o, b ≠ e → hp.get? b = some o → h'.get? b = some o) → h'.get? e = some (excO C t1) → Q .none ⟨h', g, d, t, os⟩) :
    wpAny (model prog w) A (call (.ref u) rest) Q E ⟨hp, g, d, t, os⟩ := by
  refine wpAny_call (codeAny_of_tree ?_)
  show wpAny _ A.in1 (callAny (.ref u) ⟨rest, []⟩) _ _ _
  unfold callAny
  refine wpAny_bind (wpAny_load hu ?_)
  refine KFB.if_so rfl ?_
  refine wpAny_bind (ESX.check_bound F.excBase_ValueError hC he rfl ?_)
  refine wpAny_bind (wpAny_pure (wpAny_pure ⟨Code.quiet_builtin _ (by decide +kernel), codeAny_builtin F.excBase_ValueError.initEntry ?_⟩))
  rw [Around.under_plainId F.excBase_ValueError.init.plain _]
  wp_walk
  refine hq _ hp.objs.size (fun b o hb ho => ?_) ?_
  · rw [Heap.get?_update_other _ _ (Ne.symm hb)]
    exact Heap.get?_push_of_some _ ho
  · rw [Heap.get?_update_self _ (Heap.get?_push_of_some _ he) rfl]
    rfl
theorem err_init (T : ErrTxt prog K mg nm f q C fI cc cd) {x t0 : Addr} {v : Value} (X : K.In s.heap) (hG : s.heap.Ns mainGlobals mg) (hB : ∃ mb, s.heap.Ns builtinsNs mb ∧ mb "super" = some (.type "super")) (hlim : s.heap.NoLimit) (hx : s.heap.get? x = some (excO C t0)) (hnx : K.lookup x = none) (hroom : A.depth < recursionLimit)
    (hq : ∀ h' tk dx t1, Made s.heap h' x C dx t1 f q v → R (.ok (.ret .none)) { s with heap := h', toks := tk }) :
    codeAny (model prog w) A (.call (.ref fI) ⟨[.ref x, v], []⟩) R s := by
  obtain ⟨oc, od, doc, pm, an, ct, osl, qual, msg, k1, k2, p1, p2, a1, a2, a3, a4, a5, a6, b1, b2, b3, b4, c1, c2, c3, c4, ho, hcd, hbind, pl, hev⟩ := T.fn
  obtain ⟨nm', q', N, bs, bm, sn, sub, ab, col, dd, k0, k1', k2', k3, k5, hC, hbm, hal⟩ := T.cls
  obtain ⟨cl, cld, csl, hcell⟩ := T.cell
  obtain ⟨ccl, cdd, vs, ccs, file, tf, hcode, hvs, hfile⟩ := T.code
  obtain ⟨n1, n2, n3, n4, n5⟩ := T.nf
  have lk : (eScope f).names.lookup f = some .local := by
    show List.lookup f [(PySem.Str.ofString "self", NameKind.local), (f, .local), (PySem.Str.ofString "__class__", .free), (PySem.Str.ofString "super", .globalImplicit)] = some .local
    have e : (f == PySem.Str.ofString "self") = false := by simpa using n1
    simp only [List.lookup, e, beq_self_eq_true]
  refine ks_codeAny_call_defAt (binds := [("self", .ref x), (f, v)]) hroom (X _ _ ho) rfl hlim (codeRec_of X hcd) rfl (hbind _ _ _) ?_ ?_ (fun h₁ hns hk => ?_) rfl rfl rfl
  · intro y hy
    simp only [eScope, List.mem_cons, List.not_mem_nil, or_false] at hy
    rcases hy with rfl | rfl | rfl | rfl <;> (intro z; cases z)
  · intro y hy
    simp only [List.mem_cons, List.not_mem_nil, or_false] at hy
    rcases hy with rfl | rfl
    · rfl
    · exact lk
  have z1 : (PySem.Str.ofString "super" == f) = false := by simpa using n3.symm
  have z2 : (PySem.Str.ofString "__class__" == f) = false := by simpa using n4.symm
  have z3 : (PySem.Str.ofString "self" == f) = false := by simpa using n1.symm
  have z4 : (f == PySem.Str.ofString "self") = false := by simpa using n1
  have lkS : (eScope f).names.lookup ("super" : Str) = some .globalImplicit := by
    simp only [eScope, List.lookup, z1, show (PySem.Str.ofString "super" == PySem.Str.ofString "self") = false by decide +kernel, show (PySem.Str.ofString "super" == PySem.Str.ofString "__class__") = false by decide +kernel, beq_self_eq_true]
  have lkC : (eScope f).names.lookup ("__class__" : Str) = some .free := by
    simp only [eScope, List.lookup, z2, show (PySem.Str.ofString "__class__" == PySem.Str.ofString "self") = false by decide +kernel, beq_self_eq_true]
  have lkX : (eScope f).names.lookup ("self" : Str) = some .local := by
    simp only [eScope, List.lookup, beq_self_eq_true]
  have mS : List.lookup (PySem.Str.ofString "self") ([(PySem.Str.ofString "self", Value.ref x), (f, v)] : List (Str × Value)).reverse = some (.ref x) := by
    show List.lookup (PySem.Str.ofString "self") [(f, v), (PySem.Str.ofString "self", Value.ref x)] = _
    simp only [List.lookup, z3, beq_self_eq_true]
  have mF : List.lookup f ([(PySem.Str.ofString "self", Value.ref x), (f, v)] : List (Str × Value)).reverse = some v := by
    show List.lookup f [(f, v), (PySem.Str.ofString "self", Value.ref x)] = _
    simp only [List.lookup, beq_self_eq_true]
  refine ks_wpAt_execs_cons (ks_wpAt_Expr_any (ks_wpAt_MethodCall (pl := pl) ?_ (hev _)))
  have X₁ : K.In h₁ := X.keeps hk
  have hx₁ := hk _ _ hx
  refine ks_wpAt_super_base (of := ⟨oc, od, _, osl⟩) (oc := ⟨ccl, cdd, .fields vs, ccs⟩) lkS lkC rfl rfl (X₁ _ _ ho) rfl rfl rfl (X₁ _ _ hcode) rfl hvs hfile T.top ?_
  obtain ⟨mb, hmb, hsb⟩ := hB
  refine ks_loadName_global rfl lkS (loadGlobal_builtin (hG.keeps hk) T.gS (hmb.keeps hk) hsb ⟨rfl, ?_⟩)
  refine wpAny_loadName_free rfl lkC rfl ⟨_, X₁ _ _ hcell, rfl⟩ ?_
  refine wpAny_loadName_local rfl lkX hns mS ?_
  refine ks_wpAny_isType_cls (X₁ _ _ hC) rfl ⟨rfl, ?_⟩
  refine ks_wpAny_call_super (X₁ _ _ hC) rfl hx₁ rfl (fun c e => by cases e) (looks_mroIn X₁ T.slf) (fun h₂ hso k₂ => ?_)
  have X₂ : K.In h₂ := X₁.keeps k₂
  have hx₂ := k₂ _ _ hx₁
  have I₂ : InstAt h₂ x (excO C t0) C none := ⟨hx₂, rfl, rfl, trivial⟩
  have nxC : x ≠ C := fun z => by rw [z, hC] at hnx; cases hnx
  have hcl : clsIn K C = some { name := nm', bases := bs, mro := .ref C :: bm, ns := N, qualname := q', hasDict := true, slotNames := sn, subclasses := sub, abstract := ab, collection := col, hasDel := false } := by unfold clsIn; rw [hC] <;> rfl
  refine kxs_getMethod kxs_ValueError hso (looks_opaque X₂ T.opq) ((looks_clsIn X₂ hcl).andThen .now) (ESX.drop_own C bm) X₂ hal (I₂.type.andThen (looks_subIn X₂ T.veC)) nxC rfl ?_
  have hu : (h₂.push (kxs_mw "ValueError.__init__" x)).get? h₂.objs.size = some (kxs_mw "ValueError.__init__" x) := Heap.get?_push_at rfl rfl
  have k₃ : ∀ b o, h₂.get? b = some o → (h₂.push (kxs_mw "ValueError.__init__" x)).get? b = some o := fun b o e => Heap.get?_push_of_some _ e
  refine kxs_callWith (i := "ValueError.__init__") (x := x) rfl (evalArgs_plain ?_)
  refine Calls.spliced_cons (Calls.Constant_str (k := k1) (pos := a4) (Calls.spliced_nil ⟨hu, ?_⟩))
  have X₃ : K.In (h₂.push (kxs_mw "ValueError.__init__" x)) := X₂.keeps k₃
  refine mw_call (X₃ _ _ hC) (k₃ _ _ hx₂) hu (by show 1 ≤ sizeLine; decide) (fun h₄ t1 k₄ hx₄ => ?_)
  have keep₄ : ∀ b o, b ≠ x → s.heap.get? b = some o → h₄.get? b = some o := fun b o nb e => k₄ b o nb (k₃ b o (k₂ b o (hk b o e)))
  have X₄ : K.In h₄ := kept_x X hnx keep₄
  have hxL : s.heap.objs.size ≠ x := Nat.ne_of_gt (Heap.lt_size hx)
  obtain ⟨oL, es, ep, hL, rL⟩ := id hns
  have hns₄ : h₄.Ns s.heap.objs.size fun y => List.lookup y ([(PySem.Str.ofString "self", Value.ref x), (f, v)] : List (Str × Value)).reverse := ⟨oL, es, ep, k₄ _ _ hxL (k₃ _ _ (k₂ _ _ hL)), rL⟩
  have hLt : s.heap.objs.size < h₄.objs.size := Heap.lt_size (k₄ _ _ hxL (k₃ _ _ (k₂ _ _ hL)))
  -- self.f = f
  refine wpAt_of_wpAny (wpAny_execs_cons (plainObj_wpAny_Assign_Attribute ?_))
  refine ESX.ldL hns₄ mF (ESX.ldL hns₄ mS ?_ rfl lkX (by decide +kernel)) rfl lk (by simpa using n5)
  refine set_plain X₄ (ox := excO C t1) (od := none) ⟨hx₄, rfl, rfl, trivial⟩ T.sa ?_
  refine exc_osa X₄ hx₄ hcl (show refsVE (.ref C :: bm) = true from hbm) rfl T.noF (fun h₅ tk₅ dx k₅ dn dne hx₅ hn₅ => ?_)
  have keep₅ : ∀ b o, b ≠ x → s.heap.get? b = some o → h₅.get? b = some o := fun b o nb e => k₅ b o nb (keep₄ b o nb e)
  have X₅ : K.In h₅ := kept_x X hnx keep₅
  have hns₅ : h₅.Ns s.heap.objs.size fun y => List.lookup y ([(PySem.Str.ofString "self", Value.ref x), (f, v)] : List (Str × Value)).reverse := ⟨oL, es, ep, k₅ _ _ hxL (k₄ _ _ hxL (k₃ _ _ (k₂ _ _ hL))), rL⟩
  -- self.code = q
  refine wpAny_execs_cons (plainObj_wpAny_Assign_Attribute ?_)
  refine Calls.Constant_str (k := k2) (pos := c3) (ESX.ldL hns₅ mS ?_ rfl lkX (by decide +kernel))
  obtain ⟨oD, eD, pD, hD, rD⟩ := id hn₅
  refine set_plain X₅ (ox := { cls := .ref C, dict := some dx, data := .fields #[.ref t1, .none, .none, .none, .bool false, .none] }) (od := some oD) ⟨hx₅, rfl, rfl, hD⟩ T.sa ?_
  have hw : Within (fun y => if y = f then some v else none) [f] := fun y hy => by
    by_cases e : y = f
    · rw [e]
      exact List.mem_singleton.mpr rfl
    · exact absurd (show (if y = f then some v else none) = none from if_neg e) hy
  refine OEX.osa_old X₅ hx₅ hn₅ hw (by show 1 ≤ 1000; decide) hcl (show refsVE (.ref C :: bm) = true from hbm) rfl T.noC (fun h₆ tk₆ k₆ hn₆ => ?_)
  refine wpAny_execs_nil (hq h₆ tk₆ dx t1 ⟨fun b o nb e => ?_, k₆ _ _ dne.symm hx₅, Nat.le_trans (Nat.le_of_lt hLt) dn, dne, _, hn₆⟩)
  have nbd : b ≠ dx := Nat.ne_of_lt (Nat.lt_of_lt_of_le (Heap.lt_size e) (Nat.le_trans (Nat.le_of_lt hLt) dn))
  exact k₆ b o nbd (keep₅ b o nb e)
/-- a made error -/
structure Own (h h' : Heap) (e C d : Addr) (f q : Str) (v : Value) : Prop where
  keep : ∀ b o, h.get? b = some o → h'.get? b = some o
  new : h.objs.size ≤ e
  obj : ∃ oe vs, h'.get? e = some oe ∧ oe.cls = .ref C ∧ oe.dict = some d ∧ oe.data = .fields vs ∧ vs[1]? = some .none
  dbig : h.objs.size ≤ d
  dne : d ≠ e
  ns : ∃ tk, h'.Ns1 d (fun y => if y = "code" then some (.str q tk) else if y = f then some v else none)
theorem err_made (T : ErrTxt prog K mg nm f q C fI cc cd) {v : Value} (X : K.In s.heap) (hG : s.heap.Ns mainGlobals mg) (hB : ∃ mb, s.heap.Ns builtinsNs mb ∧ mb "super" = some (.type "super")) (hlim : s.heap.NoLimit) (hroom : A.depth + 1 < recursionLimit)
    (hq : ∀ h' tk e d, Own s.heap h' e C d f q v → R (.ok (.ret (.ref e))) { s with heap := h', toks := tk }) :
    codeAny (model prog w) A (.call (.ref C) ⟨[v], []⟩) R s := by
  obtain ⟨nm', q', N, bs, bm, sn, sub, ab, col, dd, k0, k1', k2', k3, k5, hC, hbm, hal⟩ := T.cls
  obtain ⟨hp, g, dr, tk, os⟩ := s
  have k : ∀ b o, hp.get? b = some o → ((hp.push (kdv_tup [v])).push (excO C hp.objs.size)).get? b = some o := fun b o e => Heap.get?_push_of_some _ (Heap.get?_push_of_some _ e)
  have hget : ((hp.push (kdv_tup [v])).push (excO C hp.objs.size)).get? (hp.objs.size + 1) = some (excO C hp.objs.size) := by heap_get
  have hnx : K.lookup (hp.objs.size + 1) = none := by
    cases e : K.lookup (hp.objs.size + 1) with
    | none => rfl
    | some o =>
      have z : hp.get? (hp.objs.size + 1) = some o := X _ _ e
      exact absurd (Nat.lt_of_succ_lt (Heap.lt_size z)) (Nat.lt_irrefl _)
  obtain ⟨mb, hmb, hsb⟩ := hB
  refine call_own F.excBase_ValueError (fun X => refsVE_contains X bm hbm) (X _ _ hC) (looks_findIn X T.iC) (fun self => bind_fn X self T.tC) (by show 1 ≤ sizeLine; decide) ?_
  refine err_init (s := ⟨(hp.push (kdv_tup [v])).push (excO C hp.objs.size), g, dr, tk, os⟩) T (X.keeps k) (hG.keeps k) ⟨mb, hmb.keeps k, hsb⟩ (hlim.keeps k) hget hnx (show A.depth + 1 < recursionLimit from hroom) fun h' tk' dx t1 M => ?_
  have old : ∀ b o, hp.get? b = some o → h'.get? b = some o := fun b o e => M.keep b o (Nat.ne_of_lt (Nat.lt_succ_of_lt (Heap.lt_size e))) (k b o e)
  have z : hp.objs.size + 1 + 1 ≤ dx := by
    have dn := M.dbig
    rw [Heap.size_push, Heap.size_push] at dn
    exact dn
  exact ⟨rfl, hq h' tk' (hp.objs.size + 1) dx ⟨old, Nat.le_succ _, ⟨_, _, M.obj, rfl, rfl, rfl, rfl⟩, Nat.le_trans (Nat.le_trans (Nat.le_succ _) (Nat.le_succ _)) z, M.dne, M.ns⟩⟩
end
end ErrX
end PySem
namespace My
open PySem PySem.Spec PyProof.Rows L2
abbrev errD (f q : Str) (v : V) : List (Str × V) := [("code", .str q), (f, v)]
theorem relO_err {v : V} {v' : Value} {f q : Str} {tk : Tok} (r : RelV v v') (g : Str) : RelO (List.lookup g (errD f q v)) (if g = "code" then some (.str q tk) else if g = f then some v' else none) := by
  by_cases hc : g = "code"
  · rw [if_pos hc]
    have e : List.lookup g (errD f q v) = some (.str q) := by
      subst hc
      simp [errD, List.lookup]
    rw [e]
    exact ⟨_, rfl⟩
  · rw [if_neg hc]
    have e1 : (g == ("code" : Str)) = false := by simpa using hc
    by_cases hf : g = f
    · rw [if_pos hf]
      have e : List.lookup g (errD f q v) = some v := by
        subst hf
        simp [errD, List.lookup, e1]
      rw [e]
      exact r
    · rw [if_neg hf]
      have e2 : (g == f) = false := by simpa using hf
      have e : List.lookup g (errD f q v) = none := by simp [errD, List.lookup, e1, e2]
      rw [e]
      trivial
section
variable {X : Cx} {C fI cc cd : Addr} {nm f q : Str}
/-- X(e), the error made -/
def tMkErr (C : Addr) (f q : Str) (ta : TA) : L2.St → Hp → XK → Prop := fun σ H Q => ta σ H fun vs H1 => ∃ v, vs = [v] ∧ ∀ d, H1 d = none → Q (.ref C) (some d) (upd H1 d (.xd (errD f q v)))
theorem pmk_err {a : Expr} {ta : TA} {p pos : Pos} {k : Nat} (T : ErrX.ErrTxt X.prog X.K X.mg nm f q C fI cc cd) (hr : Room k X.A) (ha : PA X [a] ta) (hg : Gl X nm) (hd : (nm == ("__debug__" : Str)) = false := by decide)
    (he : starEach (a :: []) X.env = (false, eval a X.env) :: starEach [] X.env := by rfl) (hpl : (backTo pos (starEach [] X.env)).any (·.1) = false := by rfl) :
    PMk X (.Call (.Name nm p) [a] [] pos) (tMkErr C f q ta) := by
  intro pins s σ H Q I h
  refine wpAny_Call_Name_kw (ld_glob I hg T.gC ?_ hd)
  refine PySem.W.callWith_K (h₀ := X.base) I.ok.mod.kin T.kC (thn (ha.run pos pins s σ H _ I h) fun us s1 hh => ?_) he hpl
  obtain ⟨vs, H1, I1, r1, v, ev, q1⟩ := hh
  subst ev
  refine ⟨I1.kIn, ?_⟩
  cases r1 with
  | cons rv rn =>
    rename_i v' us'
    cases rn
    have hlim := I1.nolimit
    obtain ⟨mb, hb1, hb2⟩ := I1.mod.blt
    have hB : ∃ mb, s1.heap.Ns builtinsNs mb ∧ mb "super" = some (.type "super") := ⟨mb, hb1.keeps I1.bk, (hb2 _ (by decide +kernel)).trans (by decide +kernel)⟩
    refine wpAny_call (ErrX.err_made T I1.kIn (I1.mod.glob.keeps I1.bk) hB hlim (by have := hr.dp; omega) fun h' tk' e d M => ?_)
    obtain ⟨hp, g, dr, tok, os⟩ := s1
    obtain ⟨oe, fv, hoe, hc, hdct, hdat, h1⟩ := M.obj
    obtain ⟨tk0, hns⟩ := M.ns
    obtain ⟨G', g1, g2⟩ := restrict h' fun b => decide (b ≠ e)
    have gk : ∀ b, b ≠ e → G'.get? b = h'.get? b := fun b hb => g1 b (decide_eq_true hb)
    have ge : G'.get? e = none := g2 e (by simp)
    have old : ∀ b o, hp.get? b = some o → G'.get? b = some o := fun b o z => (gk b (Nat.ne_of_lt (Nat.lt_of_lt_of_le (Heap.lt_size z) M.new))).trans (M.keep b o z)
    have ob : ObjOk X.prog X.w (upd H1 d (.xd (errD f q v))) G' d (.xd (errD f q v)) := ⟨_, hns.at (fun o z => (gk d M.dne).trans z), fun y => relO_err rv y⟩
    have J : Inv X pins σ (upd H1 d (.xd (errD f q v))) ⟨G', g, dr, tk', os⟩ := I1.laid (t' := tk') old M.dbig ob
    refine ⟨e, oe, fv, ⟨G', g, dr, tk', os⟩, _, .ref C, some d, rfl, J, fun b o z => ?_, ge, hoe, ⟨hc, hdct⟩, hdat, h1, ?_, rfl, I1.bare, raises_own T.exC T.tyC, q1 d (I1.hok.fresh M.dbig)⟩
    · by_cases hb : b = e
      · have z' : G'.get? b = some o := z
        rw [hb, ge] at z'
        cases z'
      · exact (gk b hb).symm.trans z
    · rw [upd_ne (Ne.symm M.dne)]
      exact I1.hok.fresh M.new
end
end My
namespace My
open PySem PySem.Spec PyProof.Rows L2
/-! ### a field of a caught exception, wherever it is pinned -/
def tXg (K : PySem.W.Frag) (a : Addr) (cls : Value) (d : Option Addr) (n : Str) (te : TE) : TE := fun σ H Q => te σ H fun x H1 => x = .ref a ∧
  ∃ (C dd : Addr) (fs : List (Str × V)) (v : V), cls = .ref C ∧ XfC K C ∧ PySem.W.findIn K (.ref C) n = some none ∧ d = some dd ∧ H1 dd = some (.xd fs) ∧ fs.lookup n = some v ∧ Q v H1
section
variable {X : Cx} {a : Addr} {oe : Obj} {cls : Value} {d : Option Addr} {e : Expr} {te : TE} {pos : Pos} {n : Str}
theorem pe_xg {K : PySem.W.Frag} (hp : (a, oe) ∈ X.pn) (hz : Zc cls d oe) (hf : ∃ vs, oe.data = .fields vs) (he : PE X e te) (hK : X.K = K := by rfl) (hb : attributeBase e n X.env (eval e X.env) = eval e X.env := by rfl) : PE X (.Attribute e n pos) (tXg K a cls d n te) := by
  subst hK
  constructor
  intro pins s σ H Q I h
  apply attr_of hb
  apply thn (he.run pins s σ H _ I h)
  rintro u s1 ⟨x, H1, I1, rx, rfl, C, dd, fs, v, rfl, T, hno, rfl, ea, l, q⟩
  obtain rfl : u = Value.ref a := rx
  have pn := (I1.pin (a, oe) (List.mem_append_left _ hp)).1
  obtain ⟨vs, hd⟩ := hf
  obtain ⟨mA, hns, hr⟩ : ObjOk X.prog X.w H1 s1.heap dd (.xd fs) := I1.hok dd _ ea
  obtain ⟨od, ho, hl⟩ := lookIn_ns hns
  have rn := hr n
  rw [l] at rn
  obtain ⟨u, hu, ru⟩ := RelO.some_of (v := v) (o := mA n) rn
  have at_ : PySem.W.InstAt s1.heap a oe C (some od) := ⟨pn, hz.1, by unfold PySem.W.notCls; rw [hd] <;> rfl, by rw [hz.2]; exact ho⟩
  exact HandSPX.exc_get I1.kIn at_ T.ga T.gg T.exC (PySem.W.findObj_own T.hdC hno rfl (by rw [hl, hu])) (handed_of ru) ⟨v, H1, I1.tok _, ru, q⟩
end
/-! ### an own def, called where an exception is pinned -/
structure FnP (P : Program) (w : World) (K : PySem.W.Frag) (mg : Str → Option Value) (base : Heap) (k : Nat) (f : Addr) (fd : FuncData) (ps : List Str) (sp : Addr × Obj → Sp) : Prop where
  len : ∀ p vs H Q E, sp p vs H Q E → vs.length = ps.length
  run : ∀ (A : Around) (outer : List Env) (s : Shared) (H : Hp) (args : Args) (us : List Value) (vs : List V) (Q : VK) (p : Addr × Obj), L2H.RoomH k A → L2H.PinOk outer H s p → Env0 P w K mg base A outer s H → BindsTo s fd args (ps.zip us) → Vals vs us → sp p vs H Q E0 →
    codeAny (model P w) A (.call (.ref f) args) (CR CX0 outer P w H s Q E0) s
section
variable {P : Program} {w : World} {K : PySem.W.Frag} {mg : Str → Option Value} {base : Heap}
theorem Fun.pinned {x qual : Str} {st : Stmt} {f : Addr} {fd : FuncData} {N ps : List Str} {k : Nat} {sp : Addr × Obj → Sp} (F : Fun K x qual st f fd) (S : FnScope N ps (defScope st)) (len : ∀ p vs H Q E, sp p vs H Q E → vs.length = ps.length)
    (hbody : ∀ (cdv : Value) (A : Around) (outer : List Env) (s : Shared) (H : Hp) (vs : List V) (Q : VK) (p : Addr × Obj), L2H.RoomH k (A.deeper (envOfC qual (defScope st) s.heap.objs.size f cdv)) → sp p vs H Q E0 →
      ∃ t, PSs (L2H.cxH CX0 P w K mg base N qual (defScope st) f cdv A outer s H E0 p) (defBody st) t ∧ t { nx := fun _ H' => Q .non H', rt := Q } (L2.start N vs) H) : FnP P w K mg base (k + 1) f fd ps sp := by
  obtain ⟨oc, od, kV, doc, pm, an, cdv, ct, osl, rfl, lk, hcd⟩ := F.ex
  constructor
  · exact len
  intro A outer s H args us vs Q p hr hpin e0 hb r hsp
  have hl := len _ _ _ _ _ hsp
  have KX : K.In s.heap := e0.mod.kin.keeps fun b o e => (e0.bs b o e).1
  have lim : s.heap.NoLimit := e0.mod.nolimit.keeps fun b o e => (e0.bs b o e).1
  have kinds : ∀ y ∈ ps.zip us, (defScope st).names.lookup y.1 = some .local ∨ ((defScope st).names.lookup y.1 = some .cell ∧ ((cellsFrom (s.heap.objs.size + 1) (defScope st).names []).lookup y.1).isSome = true) := by
    rintro ⟨n, v⟩ hy
    cases S.par n (List.of_mem_zip hy).1 with
    | inl q => exact .inl q
    | inr q => exact .inr ⟨q, PySem.W.cellsFrom_some _ _ _ (.inl q)⟩
  apply codeAny_call_function hr.depth (KX _ _ lk) rfl S.co S.gen rfl (PySem.W.codeRec_of KX hcd)
  apply hb
  apply wpAny_newFunctionEnv_cells S.kind kinds
  rintro env rfl s1 x
  refine ⟨lim.keeps x.toInCall.keep, codeAny_func ?_⟩
  obtain ⟨t, ht, hq⟩ := hbody cdv A outer s H vs Q p (hr.deeper _) hsp
  have I := L2H.inv_startH (CX := CX0) (E := E0) (f := f) (cd := cdv) S hpin e0 hl r x
  apply wpAny_mono (ht.run [] s1 (L2.start N vs) H _ I hq)
  · intro fl s' hs
    cases fl with
    | ret u =>
      obtain ⟨v, σ', H', J, rv, q⟩ := hs
      exact ⟨v, H', J.os, J.bare, J.base, J.hok, rv, q⟩
    | next =>
      obtain ⟨σ', H', J, q⟩ := hs
      exact ⟨V.non, H', J.os, J.bare, J.base, J.hok, rfl, q⟩
    | brk =>
      obtain ⟨_, _, _, q⟩ := hs
      exact q.elim
    | cont =>
      obtain ⟨_, _, _, q⟩ := hs
      exact q.elim
  · exact fun e s' hs => hs
end
structure HasP (P : Program) (w : World) (K : PySem.W.Frag) (mg : Str → Option Value) (base : Heap) (k : Nat) (x : Str) (ps : List Str) (sp : Addr × Obj → Sp) : Prop where
  ex : ∃ (f : Addr) (fd : FuncData), FnP P w K mg base k f fd ps sp ∧ mg x = some (.ref f) ∧ PySem.W.keepIn K (.ref f) = true ∧ Binds K fd ps []
section
variable {X : Cx} {k : Nat} {x : Str} {ps : List Str} {sp : Addr × Obj → Sp} {p : Addr × Obj} {ps1 pos : Pos} {e : Expr} {es : List Expr} {t : TA}
theorem pe_ownP (h : HasP X.prog X.w X.K X.mg X.base k x ps sp) (hr : L2H.RoomH k X.A) (hp : p ∈ X.pn) {sp1 : Sp} (hs : ∀ vs H Q, sp1 vs H Q E0 → sp p vs H Q E0) (hg : Gl X x) (ha : PA X (e :: es) t) (hdb : (x == ("__debug__" : Str)) = false := by decide)
    (he : starEach (e :: es) X.env = (false, eval e X.env) :: starEach es X.env := by rfl) (hpl : (backTo pos (starEach es X.env)).any (·.1) = false := by rfl) : PE X (.Call (.Name x ps1) (e :: es) [] pos) (tCall sp1 [] E0 t) := by
  obtain ⟨f, fd, F, m, kp, hb⟩ := h.ex
  constructor
  intro pins s σ H Q I h
  apply wpAny_Call_Name_kw (ld_glob I hg m ?_ hdb)
  apply PySem.W.callWith_K (h₀ := X.base) I.ok.mod.kin kp _ he hpl
  apply thn (ha.run pos pins s σ H _ I h)
  rintro us s1 ⟨vs, H1, I1, r, q⟩
  rw [List.append_nil] at q
  replace q := hs _ _ _ q
  refine ⟨I1.kIn, ?_⟩
  have b := hb s1 us I1.kIn (by rw [List.append_nil, ← r.length]; exact F.len _ _ _ _ _ q)
  rw [List.append_nil] at b
  have P1 := I1.pin p (List.mem_append_left _ hp)
  have pok : L2H.PinOk X.stack H1 s1 p := ⟨P1.1, P1.2.1, fun hm => (List.mem_cons.mp (I1.stkSub p.1 hm)).elim P1.2.2.1 P1.2.2.2.1, P1.2.2.2.2⟩
  apply wpAny_call
  apply codeAny_mono (F.run X.A X.stack s1 H1 ⟨us, []⟩ us vs Q p hr pok I1.env0 b r q)
  intro r s' hq
  cases r with
  | error e => exact (show False from hq).elim
  | ok fl =>
    cases fl with
    | ret u => exact I1.after hq
    | next => exact False.elim hq
    | brk => exact False.elim hq
    | cont => exact False.elim hq
end
/-! ### except (x1, x2, x3) as n, one of which always fits -/
theorem fly_push {B h : Heap} {l : List Env} {e : Addr} {Z : Obj → Prop} (x : HandSPX.FlyingZ B l e Z h) (o : Obj) : HandSPX.FlyingZ B l e Z (h.push o) := by
  have k : ∀ b u, h.get? b = some u → (h.push o).get? b = some u := fun b u z => Heap.get?_push_of_some _ z
  obtain ⟨x1, x2, x3, oe, vs, T, oT, ts, y1, y2, y3, y4, y5, y6, y7, y8, y9⟩ := x
  exact ⟨fun b u z => k b u (x1 b u z), x2, Heap.FunFrames.of_keeps (fun b u z _ => ⟨u, k b u z, rfl⟩) x3, oe, vs, T, oT, ts, k _ _ y1, y2, y3, y4, y5, y6, k _ _ y7, y8, y9⟩
def endsOff (i : Nat) (D : Ends) : Ends := { nx := fun σ' H' => D.nx (σ'.set i none) H', rt := D.rt, bk := fun σ' H' => D.bk (σ'.set i none) H', ct := fun σ' H' => D.ct (σ'.set i none) H' }
/-- the wish for an exception that some of the classes cs takes -/
def wTup (K : PySem.W.Frag) (cs : List Value) (len i : Nat) (ts : Addr → Value → Option Addr → TS) (D : Ends) : WX := fun cls d σ H => PySem.W.exmAny K cls cs = some true ∧ ∀ a, H a = none → σ.length = len → ts a cls d (endsOff i D) (σ.set i (some (.ref a))) H
section
variable {X : Cx} {x1 x2 x3 n : Str} {c1 c2 c3 : Value} {i j : Nat} {body suite : List Stmt} {b₀ : Stmt} {p1 p2 p3 p4 pos pos' : Pos} {tb : WX → TS} {ts : Addr → Value → Option Addr → TS}
theorem ps_try_tup3 (hs : X.stack = X.env :: X.outer) (hf : X.env.frame = some X.env.locals) (hN : X.N.Nodup) (hi : X.N[i]? = some n) (hln : X.env.kindOf n = some .local) (n1 : Names X x1 c1) (n2 : Names X x2 c2) (n3 : Names X x3 c3)
    (hb : ∀ (W : WX) (pn : List (Addr × Obj)) (xe : Value → Shared → Prop), Takes (X.tr pn xe) W → PassesOwn (model X.prog X.w) X.A X.env xe → PSs (X.tr pn xe) body (tb W))
    (hsu : ∀ (a : Addr) (oe : Obj) (cls : Value) (d : Option Addr) (pn : List (Addr × Obj)), Zc cls d oe → (∃ vs, oe.data = .fields vs) → PSs (X.suite a ((a, oe) :: pn)) (b₀ :: suite) (ts a cls d)) :
    PS X (.Try body [.ExceptHandler (some (.Tuple [.Name x1 p1, .Name x2 p2, .Name x3 p3] j p4)) (some n) (b₀ :: suite) pos'] [] [] pos) (fun D σ H => tb (wTup X.K [c1, c2, c3] X.N.length i ts D) D σ H) := by
  constructor
  intro pins s σ H D I h
  have ok := I.ok
  have hfr : X.A.frames = some (X.env :: X.outer) := by rw [ok.frames, hs]
  apply wpAny_Try_except
  generalize hh : ExceptHandler.ExceptHandler (some (Expr.Tuple [.Name x1 p1, .Name x2 p2, .Name x3 p3] j p4)) (some n) (b₀ :: suite) pos' = hd
  have run := (hb (wTup X.K [c1, c2, c3] X.N.length i ts D) (X.pn ++ pins) (fun e s₁ => wpAny (model X.prog X.w) X.A (noteFrame e X.env) (fun _ s₂ => wpAny (model X.prog X.w) X.A (setFlight e none) (fun _ s₃ =>
    wpAny (model X.prog X.w) X.A (handleBy e X.env [hd]) (SP X pins D) X.xe s₃) X.xe s₂) X.xe s₁) ?tk PassesOwn.looking).run [] s σ H D (I.toTry _) h
  case tk =>
    rintro u s' ⟨a, B, sI, pins', σ', H', cls, d, rfl, J', nb, up, sky, na, os, ag, hm, hyes⟩
    have J : Inv X pins σ' H' sI := J'.ofTry ok
    have sky' : Sky B (X.env :: X.outer) a (Zc cls d) X.env.locals s'.heap := by rw [← hs]; exact sky
    show wpAny (model X.prog X.w) X.A (noteFrame (.ref a) X.env) _ _ _
    apply Sky.land Zc.steady hfr hf sky'
    intro h3 fl3 up3
    obtain ⟨oe3, vs3, he3, hz3, hd3⟩ := fl3.there
    have out : a ∉ frs (X.env :: X.outer) := fun hm => by
      obtain ⟨_, o', e', hnf⟩ := fl3.2.2.1.mem hm
      rw [he3] at e'
      cases e'
      exact hnf _ hd3
    have nL : a ≠ X.env.locals := fun z => out (List.mem_filterMap.mpr ⟨X.env, List.mem_cons_self, by rw [hf, z]⟩)
    have nF : a ∉ X.fs := fun hm => by
      obtain ⟨e, he, q⟩ := List.mem_filterMap.mp hm
      exact out (List.mem_filterMap.mpr ⟨e, List.mem_cons_of_mem _ he, q⟩)
    have J3 : Inv X pins σ' H' { s' with heap := h3 } := J.landed nb fl3.1 (up.trans up3) os ag
    have S3 := J3.suite he3 hd3 na nL nF
    subst hh
    refine wpAny_handleBy_cons (codeAny_handlers_test ?_) (by intro q; cases q)
    have nm : ∀ {x : Str} {c : Value} {p : Pos} {Q : Value → Shared → Prop} {E : Value → Shared → Prop}, Names X x c → Q c { s' with heap := h3 } → wpAny (model X.prog X.w) (X.A.mark (some (.ref a))) (eval (.Name x p) X.env) Q E { s' with heap := h3 } := by
      rintro x c p Q E ⟨hg, hdbg, hm | ⟨hm, hv, hnn⟩⟩ q
      · exact ld_glob (X := X.suite a ((a, oe3) :: (X.pn ++ pins))) S3 hg hm q hdbg
      · exact ld_blt (X := X.suite a ((a, oe3) :: (X.pn ++ pins))) S3 hg hm hv q hnn hdbg
    apply wpAny_Tuple
    refine wpAny_items_cons (nm n1 (wpAny_items_cons (nm n2 (wpAny_items_cons (nm n3 (wpAny_items_nil ⟨by show 3 ≤ sizeLine; decide, ?_⟩))))))
    have fl5 := fly_push fl3 { cls := .type "tuple", data := .seq [c1, c2, c3].toArray }
    have up5 : s'.heap.UpToSlots (h3.push { cls := .type "tuple", data := .seq [c1, c2, c3].toArray }) := up3.trans (Heap.UpToSlots.of_keeps fun b o e => Heap.get?_push_of_some _ e)
    have J5 : Inv X pins σ' H' { s' with heap := h3.push { cls := .type "tuple", data := .seq [c1, c2, c3].toArray } } := J.landed nb fl5.1 (up.trans up5) os ag
    have LT : PySem.W.Looks (model X.prog X.w) (h3.push { cls := .type "tuple", data := .seq [c1, c2, c3].toArray }) (typeOf (.ref a)) cls := fun A Q E s k q => wpAny_typeOf_ref (k _ _ (Heap.get?_push_of_some _ he3)) (by rw [hz3.1]; exact q)
    have LM := PySem.W.exm_tup3 (M := model X.prog X.w) (J5.kIn) LT (Heap.get?_push_size _ rfl) hm
    apply LM.here
    apply codeAny_handlers_suite_as
    apply HandSPX.lands_againZ fl5
    intro h4 fl4 up4
    have J4 : Inv X pins σ' H' { s' with heap := h4 } := J.landed nb fl4.1 ((up.trans up5).trans up4) os ag
    obtain ⟨oe4, vs4, he4, hz4, hd4⟩ := fl4.there
    have S4 := J4.suite he4 hd4 na nL nF
    refine store_ok (X := X.suite a ((a, oe4) :: (X.pn ++ pins))) (v := .ref a) S4 hN hi (.inl hln) rfl (fun s5 S5 => ?_) (.inr hln)
    apply wpAny_mono ((hsu a oe4 cls d (X.pn ++ pins) hz4 ⟨_, hd4⟩).run [] s5 _ H' _ S5 (hyes a na J.len))
    · have off : ∀ {σ6 : L2.St} {H6 : Hp} {s6 : Shared} {Q : Shared → Prop}, Inv (X.suite a ((a, oe4) :: (X.pn ++ pins))) [] σ6 H6 s6 → (∀ s7, Inv X pins (σ6.set i none) H6 s7 → Q s7) →
          wpAny (model X.prog X.w) X.A (do bindName X.env n .none; unbindBehindTheSuite X.env n pos') (fun _ s7 => Q s7) X.xe s6 := fun S6 hq => gone_ok (S6.unsuite ok) hN hi hln hq
      intro f s6 hsp
      cases f with
      | ret u =>
        obtain ⟨v6, σ6, H6, S6, r6, q6⟩ := hsp
        exact off S6 fun s7 J7 => ⟨_, _, _, J7, r6, q6⟩
      | next =>
        obtain ⟨σ6, H6, S6, q6⟩ := hsp
        exact off S6 fun s7 J7 => ⟨_, _, J7, q6⟩
      | brk =>
        obtain ⟨σ6, H6, S6, q6⟩ := hsp
        exact off S6 fun s7 J7 => ⟨_, _, J7, q6⟩
      | cont =>
        obtain ⟨σ6, H6, S6, q6⟩ := hsp
        exact off S6 fun s7 J7 => ⟨_, _, J7, q6⟩
    · exact fun _ _ z => z.elim
  refine wpAny_mono run (fun f s1 hsp => ?_) (fun e s1 he => he)
  cases f with
  | next =>
    obtain ⟨σ', H', J', q⟩ := hsp
    exact wpAny_execs_nil ⟨σ', H', J'.ofTry ok, q⟩
  | ret u =>
    obtain ⟨v, σ', H', J', r, q⟩ := hsp
    exact ⟨v, σ', H', J'.ofTry ok, r, q⟩
  | brk =>
    obtain ⟨σ', H', J', q⟩ := hsp
    exact ⟨σ', H', J'.ofTry ok, q⟩
  | cont =>
    obtain ⟨σ', H', J', q⟩ := hsp
    exact ⟨σ', H', J'.ofTry ok, q⟩
end
end My
namespace My
open PySem PySem.Spec PyProof.Rows L2
/-! ### which field an error's code tells -/
abbrev cGiven : List V := [.str "InvalidNumber", .str "InvalidThing", .str "InvalidRing", .str "InvalidName", .str "InvalidOrder", .str "WrongCount"]
abbrev cAt : List V := [.str "InvalidTerm", .str "InvalidLine", .str "InvalidProduct", .str "InvalidCommand", .str "DegreeTooHigh", .str "NotWhole", .str "NotStraight", .str "NoUnit"]
abbrev cNumber : List V := [.str "NoInverse", .str "Unsound", .str "InUse", .str "Broken", .str "UnknownNumber"]
abbrev cName : List V := [.str "Unused", .str "DuplicateName", .str "UnknownName"]
abbrev cMost : List V := [.str "TooMany", .str "TooGreat", .str "Full"]
def fieldName (q : Str) : Option Str :=
  if inV (.str q) cGiven then some "given" else if inV (.str q) cAt then some "at" else if inV (.str q) cNumber then some "number" else if inV (.str q) cName then some "name" else if inV (.str q) cMost then some "most" else none
/-- an error of an own class at C, its dict fs: its code, the field that the code tells -/
structure ErrAt (K : PySem.W.Frag) (cls : Value) (d : Option Addr) (H : Hp) (q : Str) (v : V) : Prop where
  ex : ∃ (C dd : Addr) (fs : List (Str × V)) (f : Str), cls = .ref C ∧ XfC K C ∧ d = some dd ∧ H dd = some (.xd fs) ∧ PySem.W.findIn K (.ref C) "code" = some none ∧ fs.lookup ("code" : Str) = some (V.str q) ∧
    fieldName q = some f ∧ PySem.W.findIn K (.ref C) f = some none ∧ fs.lookup f = some v
theorem ErrAt.same {K : PySem.W.Frag} {cls : Value} {d : Option Addr} {H H' : Hp} {q : Str} {v : V} (h : ErrAt K cls d H q v) (s : Same H H') : ErrAt K cls d H' q v := by
  obtain ⟨C, dd, fs, f, a, b, c, e, r⟩ := h.ex
  exact ⟨C, dd, fs, f, a, b, c, s _ _ e, r⟩
def spField (K : PySem.W.Frag) (p : Addr × Obj) : Sp := fun vs H Q _ => ∃ (cls : Value) (d : Option Addr) (q : Str) (v : V), vs = [.ref p.1] ∧ Zc cls d p.2 ∧ (∃ ws, p.2.data = .fields ws) ∧ ErrAt K cls d H q v ∧ ∀ H', Same H H' → Q v H'
section
variable {P : Program} {w : World} {K : PySem.W.Frag} {mg : Str → Option Value} {base : Heap}
theorem ok_field (F : Fn K mg "_law_field" s_l_field ["_law_e"]) : HasP P w K mg base 1 "_law_field" ["_law_e"] (spField K) := by
  obtain ⟨f, fd, F, m, b⟩ := F.ex
  refine ⟨f, fd, Fun.pinned F sc_l_field (fun p vs H Q E h => ?_) (fun cdv A outer s H vs Q p hr h => ?_), m, F.kp, b⟩
  · obtain ⟨cls, d, q, v, rfl, _⟩ := h
    rfl
  obtain ⟨cls, d, q, v, rfl, hz, hf, er, hq⟩ := h
  refine ⟨_, (pss_cons (ps_if (pt_cmpR op_in_seq (pe_xg (K := K) (List.mem_cons_self) hz hf (pv 0)) (pe_lst (pa_cons pe_str (pa_cons pe_str (pa_cons pe_str (pa_cons pe_str (pa_cons pe_str (pa_cons pe_str pa_nil))))))) rfl)
        (pss_one (ps_ret (pe_xg (K := K) (List.mem_cons_self) hz hf (pv 0))))
        pss_nil)
      (pss_cons (ps_if (pt_cmpR op_in_seq (pe_xg (K := K) (List.mem_cons_self) hz hf (pv 0)) (pe_lst (pa_cons pe_str (pa_cons pe_str (pa_cons pe_str (pa_cons pe_str (pa_cons pe_str (pa_cons pe_str (pa_cons pe_str (pa_cons pe_str pa_nil))))))))) rfl)
        (pss_one (ps_ret (pe_xg (K := K) (List.mem_cons_self) hz hf (pv 0))))
        pss_nil)
      (pss_cons (ps_if (pt_cmpR op_in_seq (pe_xg (K := K) (List.mem_cons_self) hz hf (pv 0)) (pe_lst (pa_cons pe_str (pa_cons pe_str (pa_cons pe_str (pa_cons pe_str (pa_cons pe_str pa_nil)))))) rfl)
        (pss_one (ps_ret (pe_xg (K := K) (List.mem_cons_self) hz hf (pv 0))))
        pss_nil)
      (pss_cons (ps_if (pt_cmpR op_in_seq (pe_xg (K := K) (List.mem_cons_self) hz hf (pv 0)) (pe_lst (pa_cons pe_str (pa_cons pe_str (pa_cons pe_str pa_nil)))) rfl)
        (pss_one (ps_ret (pe_xg (K := K) (List.mem_cons_self) hz hf (pv 0))))
        pss_nil)
      (pss_cons (ps_if (pt_cmpR op_in_seq (pe_xg (K := K) (List.mem_cons_self) hz hf (pv 0)) (pe_lst (pa_cons pe_str (pa_cons pe_str (pa_cons pe_str pa_nil)))) rfl)
        (pss_one (ps_ret (pe_xg (K := K) (List.mem_cons_self) hz hf (pv 0))))
        pss_nil)
      (pss_cons (ps_if (pt_cmpR op_eq (pe_xg (K := K) (List.mem_cons_self) hz hf (pv 0)) pe_str (nomark _))
        (pss_one (ps_ret (pe_tup (pa_cons (pe_xg (K := K) (List.mem_cons_self) hz hf (pv 0)) (pa_cons (pe_xg (K := K) (List.mem_cons_self) hz hf (pv 0)) pa_nil)))))
        pss_nil)
      (pss_cons (ps_if (pt_cmpR op_eq (pe_xg (K := K) (List.mem_cons_self) hz hf (pv 0)) pe_str (nomark _))
        (pss_one (ps_ret (pe_xg (K := K) (List.mem_cons_self) hz hf (pv 0))))
        pss_nil)
      (pss_cons (ps_if (pt_cmpR op_eq (pe_xg (K := K) (List.mem_cons_self) hz hf (pv 0)) pe_str (nomark _))
        (pss_one (ps_ret (pe_xg (K := K) (List.mem_cons_self) hz hf (pv 0))))
        pss_nil)
      (pss_one (ps_ret (pe_ifExp (pt_cmpR op_eq (pe_xg (K := K) (List.mem_cons_self) hz hf (pv 0)) pe_str (nomark _)) (pe_xg (K := K) (List.mem_cons_self) hz hf (pv 0)) pe_non))))))))))), ?_⟩
  obtain ⟨C, dd, fs, fn, rfl, T, rfl, hd, noC, lC, hfn, noF, lF⟩ := er.ex
  have step : ∀ {H' : Hp} {l : Addr} {o : HO}, H' dd = some (.xd fs) → H' l = none → upd H' l o dd = some (.xd fs) := fun e n => by rw [upd_ne (ne_of_none e n)]; exact e
  unfold fieldName at hfn
  refine ⟨_, rfl, rfl, C, dd, fs, _, rfl, T, noC, rfl, hd, lC, (by show 6 ≤ sizeLine; decide), fun l1 h1 => ⟨l1, cGiven, rfl, .inl (SqL.of upd_same), rfl, rfl, ?_⟩⟩
  have d1 := step (o := .lst cGiven) hd h1
  have m1 : Same H (upd H l1 (.lst cGiven)) := same_upd h1
  cases i1 : inV (.str q) cGiven with
  | true =>
    rw [i1] at hfn
    cases hfn
    exact ⟨_, rfl, iteT ⟨_, rfl, rfl, C, dd, fs, _, rfl, T, noF, rfl, d1, lF, hq _ m1⟩⟩
  | false =>
  rw [i1] at hfn
  refine ⟨_, rfl, iteF ?_⟩
  refine ⟨_, rfl, rfl, C, dd, fs, _, rfl, T, noC, rfl, d1, lC, (by show 8 ≤ sizeLine; decide), fun l2 h2 => ⟨l2, cAt, rfl, .inl (SqL.of upd_same), rfl, rfl, ?_⟩⟩
  have d2 := step (o := .lst cAt) d1 h2
  have m2 := m1.trans (same_upd (o := .lst cAt) h2)
  cases i2 : inV (.str q) cAt with
  | true =>
    rw [i2] at hfn
    cases hfn
    exact ⟨_, rfl, iteT ⟨_, rfl, rfl, C, dd, fs, _, rfl, T, noF, rfl, d2, lF, hq _ m2⟩⟩
  | false =>
  rw [i2] at hfn
  refine ⟨_, rfl, iteF ?_⟩
  refine ⟨_, rfl, rfl, C, dd, fs, _, rfl, T, noC, rfl, d2, lC, (by show 5 ≤ sizeLine; decide), fun l3 h3 => ⟨l3, cNumber, rfl, .inl (SqL.of upd_same), rfl, rfl, ?_⟩⟩
  have d3 := step (o := .lst cNumber) d2 h3
  have m3 := m2.trans (same_upd (o := .lst cNumber) h3)
  cases i3 : inV (.str q) cNumber with
  | true =>
    rw [i3] at hfn
    cases hfn
    exact ⟨_, rfl, iteT ⟨_, rfl, rfl, C, dd, fs, _, rfl, T, noF, rfl, d3, lF, hq _ m3⟩⟩
  | false =>
  rw [i3] at hfn
  refine ⟨_, rfl, iteF ?_⟩
  refine ⟨_, rfl, rfl, C, dd, fs, _, rfl, T, noC, rfl, d3, lC, (by show 3 ≤ sizeLine; decide), fun l4 h4 => ⟨l4, cName, rfl, .inl (SqL.of upd_same), rfl, rfl, ?_⟩⟩
  have d4 := step (o := .lst cName) d3 h4
  have m4 := m3.trans (same_upd (o := .lst cName) h4)
  cases i4 : inV (.str q) cName with
  | true =>
    rw [i4] at hfn
    cases hfn
    exact ⟨_, rfl, iteT ⟨_, rfl, rfl, C, dd, fs, _, rfl, T, noF, rfl, d4, lF, hq _ m4⟩⟩
  | false =>
  rw [i4] at hfn
  refine ⟨_, rfl, iteF ?_⟩
  refine ⟨_, rfl, rfl, C, dd, fs, _, rfl, T, noC, rfl, d4, lC, (by show 3 ≤ sizeLine; decide), fun l5 h5 => ⟨l5, cMost, rfl, .inl (SqL.of upd_same), rfl, rfl, ?_⟩⟩
  have d5 := step (o := .lst cMost) d4 h5
  have m5 := m4.trans (same_upd (o := .lst cMost) h5)
  cases i5 : inV (.str q) cMost with
  | true =>
    rw [i5] at hfn
    cases hfn
    exact ⟨_, rfl, iteT ⟨_, rfl, rfl, C, dd, fs, _, rfl, T, noF, rfl, d5, lF, hq _ m5⟩⟩
  | false =>
  rw [i5] at hfn
  cases hfn
end
/-! ### ask and tell: a value with no code, or an error's code and field -/
/-- what is wished of the exceptions that ask() lets out -/
def ErrWish (K : PySem.W.Frag) (cs : List Value) (Q : VK) : XK := fun cls d H => PySem.W.exmAny K cls cs = some true ∧ ∃ (q : Str) (v : V), ErrAt K cls d H q v ∧ ∀ H2 p, Same H H2 → H2 p = none → Q (.ref p) (upd H2 p (.tup [.str q, v]))
def spField1 (K : PySem.W.Frag) (a : Addr) (cls : Value) (d : Option Addr) : Sp := fun vs H Q _ => ∃ (q : Str) (v : V), vs = [.ref a] ∧ ErrAt K cls d H q v ∧ ∀ H', Same H H' → Q v H'
theorem pe_fld {Y : Cx} (K : PySem.W.Frag) {a : Addr} {oe : Obj} {cls : Value} {d : Option Addr} {ps1 pos : Pos} {e : Expr} {es : List Expr} {t : TA} (G : HasP Y.prog Y.w Y.K Y.mg Y.base 1 "_law_field" ["_law_e"] (spField Y.K)) (hr : L2H.RoomH 1 Y.A) (hp : (a, oe) ∈ Y.pn)
    (hz : Zc cls d oe) (hf : ∃ vs, oe.data = .fields vs) (hg : Gl Y "_law_field") (ha : PA Y (e :: es) t) (hK : Y.K = K := by rfl) (he : starEach (e :: es) Y.env = (false, eval e Y.env) :: starEach es Y.env := by rfl) (hpl : (backTo pos (starEach es Y.env)).any (·.1) = false := by rfl) :
    PE Y (.Call (.Name "_law_field" ps1) (e :: es) [] pos) (tCall (spField1 K a cls d) [] E0 t) := by
  subst hK
  exact pe_ownP G hr hp (fun vs H Q ⟨q, v, e, r⟩ => ⟨cls, d, q, v, e, hz, hf, r⟩) hg ha (by decide) he hpl
def TGot (K : PySem.W.Frag) (cs : List Value) : (XK → Hp → VK → Prop) → Hp → VK → Prop := fun tl H Q => tl (ErrWish K cs Q) H fun v H1 => 2 ≤ sizeLine ∧ ∀ p, H1 p = none → Q (.ref p) (upd H1 p (.tup [.str "", v]))
section
variable {X : Cx}
theorem got_gives {g : Addr} {cdg : Value} {q : Str} {C1 C2 C3 : Value} {k : Nat} (hr : Room (k + 2) X.A) (G_l_field : HasP X.prog X.w X.K X.mg X.base 1 "_law_field" ["_law_e"] (spField X.K)) (m1 : X.mg "RingError" = some C1) (m2 : X.mg "Missing" = some C2) (m3 : X.mg "NothingLeft" = some C3) :
    LamX.GivesTo X N_l_got "_law_got" (defScope s_l_got) g cdg (defBody s_l_got) "_law_ask" q (TGot X.K [C1, C2, C3]) := by
  intro f c' s H Q tl act hc h
  have hr1 : Room (k + 1) (X.A.deeper (envOfC "_law_got" (defScope s_l_got) s.heap.objs.size g cdg)) := hr.deeper _
  have hr2 : ∀ a : Addr, L2H.RoomH 1 ((X.A.deeper (envOfC "_law_got" (defScope s_l_got) s.heap.objs.size g cdg)).mark (some (.ref a))) := fun a => by
    have r := hr1.mono (Nat.succ_le_succ (Nat.zero_le k))
    exact ⟨r.dp, r.un⟩
  refine ⟨_, pss_one (ps_try_tup3 (X := (cxOf C8.CX0 X.prog X.w X.K X.mg X.base N_l_got "_law_got" (defScope s_l_got) g cdg X.A X.stack s H C8.E0).nox) (i := 1) (c1 := C1) (c2 := C2) (c3 := C3)
      (tb := fun W D σ H => ∃ Ech : XK, (∀ cls d σ' H', Ech cls d H' → W cls d σ' H') ∧ σ[0]? = some (some (.ref f)) ∧ H c' = some (LamX.CodeO c' q) ∧ tl Ech H (fun v H1 => 2 ≤ sizeLine ∧ ∀ p, H1 p = none → D.rt (.ref p) (upd H1 p (.tup [.str "", v]))))
      rfl rfl sc_l_got.nd rfl rfl ⟨rfl, by decide, .inl m1⟩ ⟨rfl, by decide, .inl m2⟩ ⟨rfl, by decide, .inl m3⟩ (fun W pn xe tk _ => ?_) (fun a oe cls d pn hz hf => pss_one (ps_ret (pe_tup (pa_cons (pe_xg (K := X.K) (List.mem_cons_self) hz hf (pv 1)) (pa_cons (pe_fld (Y := Cx.suite (cxOf C8.CX0 X.prog X.w X.K X.mg X.base N_l_got "_law_got" (defScope s_l_got) g cdg X.A X.stack s H C8.E0).nox a ((a, oe) :: pn)) X.K G_l_field (hr2 a) (List.mem_cons_self) hz hf rfl (pa_cons (pv 1) pa_nil)) pa_nil)))))), ?_⟩
  · constructor
    intro pins s' σ H' D I h'
    obtain ⟨Ech, hW, h1, h2, h3⟩ := h'
    have hp := fun p1 p2 => act W pn xe Ech p1 p2 tk hW
    exact (pss_one (ps_ret (pe_tup (pa_cons pe_str (pa_cons (hp _ _) pa_nil))))).run pins s' σ H' D I ⟨h1, h2, h3⟩
  · refine ⟨ErrWish X.K [C1, C2, C3] Q, fun cls d σ' H' ⟨hm, qq, v, er, hQ⟩ => ⟨hm, fun a na hl => ?_⟩, rfl, hc, h⟩
    obtain ⟨C, dd, fs, fn, rfl, T, rfl, hd, noC, lC, hfn, noF, lF⟩ := er.ex
    have hv : (σ'.set 1 (some (.ref a)))[1]? = some (some (V.ref a)) := List.getElem?_set_self (by rw [hl]; show 1 < N_l_got.length; decide)
    exact ⟨_, hv, rfl, C, dd, fs, _, rfl, T, noC, rfl, hd, lC, _, hv, qq, v, rfl, er, fun H2 s2 => ⟨by show 2 ≤ sizeLine; decide, fun p hp => hQ H2 p s2 hp⟩⟩
end
end My
namespace My
/-! ### what is left of n without b's primes -/
def IsStrip (n b r : Nat) : Prop := r ∣ n ∧ Nat.Coprime r b ∧ ∃ k, n ∣ r * b ^ k
theorem strip_dvd {n b r r' : Nat} (h : IsStrip n b r) (h' : IsStrip n b r') : r ∣ r' := by
  obtain ⟨a, c, _⟩ := h
  obtain ⟨_, _, k, d⟩ := h'
  exact (c.pow_right k).dvd_of_dvd_mul_right (Nat.dvd_trans a d)
theorem strip_one {n b r r' : Nat} (h : IsStrip n b r) (h' : IsStrip n b r') : r = r' := Nat.dvd_antisymm (strip_dvd h h') (strip_dvd h' h)
/-! ### primes -/
def isP (k : Nat) : Prop := 2 ≤ k ∧ ∀ j, 2 ≤ j → j < k → j * j ≤ k → ¬ j ∣ k
theorem isP.divs {k d : Nat} (h : isP k) (hd : d ∣ k) : d = 1 ∨ d = k := by
  obtain ⟨h2, h⟩ := h
  obtain ⟨e, he⟩ := hd
  have d0 : d ≠ 0 := fun z => by subst z; omega
  have e0 : e ≠ 0 := fun z => by subst z; omega
  by_cases d1 : d = 1
  · exact .inl d1
  by_cases e1 : e = 1
  · subst e1
    exact .inr (by omega)
  exfalso
  have hd2 : 2 ≤ d := by omega
  have he2 : 2 ≤ e := by omega
  have dk : d < k := by
    rw [he]
    calc d = d * 1 := (Nat.mul_one d).symm
      _ < d * e := Nat.mul_lt_mul_of_pos_left (by omega) (by omega)
  have ek : e < k := by
    rw [he]
    calc e = 1 * e := (Nat.one_mul e).symm
      _ < d * e := Nat.mul_lt_mul_of_pos_right (by omega) (by omega)
  rcases Nat.le_total d e with z | z
  · exact h d hd2 dk (by rw [he]; exact Nat.mul_le_mul_left d z) ⟨e, he⟩
  · exact h e he2 ek (by rw [he]; exact Nat.mul_le_mul_right e z) ⟨d, by rw [he, Nat.mul_comm]⟩
theorem isP.coprime {k n : Nat} (h : isP k) (hn : ¬ k ∣ n) : Nat.Coprime k n := by
  rcases h.divs (Nat.gcd_dvd_left k n) with z | z
  · exact z
  · exact absurd (by rw [← z]; exact Nat.gcd_dvd_right k n) hn
theorem isP.mul {k a b : Nat} (h : isP k) (hd : k ∣ a * b) : k ∣ a ∨ k ∣ b := by
  by_cases ha : k ∣ a
  · exact .inl ha
  · exact .inr ((h.coprime ha).dvd_of_dvd_mul_left hd)
theorem isP.pow {k b : Nat} (h : isP k) : ∀ {i : Nat}, k ∣ b ^ i → k ∣ b
  | 0, z => by
    rw [Nat.pow_zero] at z
    have := Nat.dvd_one.mp z
    have := h.1
    omega
  | i + 1, z => by
    rw [Nat.pow_succ] at z
    rcases h.mul z with z | z
    · exact h.pow z
    · exact z
theorem has_prime : ∀ (n : Nat), 2 ≤ n → ∃ q, isP q ∧ q ∣ n ∧ q ≤ n := by
  intro n
  induction n using Nat.strongRecOn with
  | _ n ih =>
    intro h2
    by_cases h : isP n
    · exact ⟨n, h, Nat.dvd_refl _, Nat.le_refl _⟩
    · have : ∃ j, 2 ≤ j ∧ j < n ∧ j ∣ n := by
        apply Classical.byContradiction
        intro no
        exact h ⟨h2, fun j a b _ d => no ⟨j, a, b, d⟩⟩
      obtain ⟨j, j2, jn, jd⟩ := this
      obtain ⟨q, q1, q2, q3⟩ := ih j jn j2
      exact ⟨q, q1, Nat.dvd_trans q2 jd, by omega⟩
open Classical in
/-- the product of the primes up to N that divide n -/
noncomputable def prodP (n : Nat) : Nat → Nat
  | 0 => 1
  | N + 1 => if isP (N + 1) ∧ (N + 1) ∣ n then prodP n N * (N + 1) else prodP n N
open Classical in
theorem prodP_succ (n N : Nat) : prodP n (N + 1) = if isP (N + 1) ∧ (N + 1) ∣ n then prodP n N * (N + 1) else prodP n N := rfl
theorem prodP_congr {n m : Nat} : ∀ N, (∀ k, isP k → k ≤ N → (k ∣ n ↔ k ∣ m)) → prodP n N = prodP m N
  | 0, _ => rfl
  | N + 1, h => by
    have ih := prodP_congr N fun k a b => h k a (by omega)
    unfold prodP
    by_cases c : isP (N + 1)
    · have e := h (N + 1) c (Nat.le_refl _)
      by_cases d : (N + 1) ∣ n
      · rw [if_pos ⟨c, d⟩, if_pos ⟨c, e.mp d⟩, ih]
      · rw [if_neg (fun z => d z.2), if_neg (fun z => d (e.mpr z.2)), ih]
    · rw [if_neg (fun z => c z.1), if_neg (fun z => c z.1), ih]
theorem prodP_none {n : Nat} : ∀ N, (∀ k, isP k → k ≤ N → ¬ k ∣ n) → prodP n N = 1
  | 0, _ => rfl
  | N + 1, h => by
    unfold prodP
    rw [if_neg fun z => h _ z.1 (Nat.le_refl _) z.2]
    exact prodP_none N fun k a b => h k a (by omega)
theorem prodP_pos {n : Nat} : ∀ N, 0 < prodP n N
  | 0 => Nat.one_pos
  | N + 1 => by
    unfold prodP
    split
    · exact Nat.mul_pos (prodP_pos N) (Nat.succ_pos N)
    · exact prodP_pos N
/-- more is the same: all divisors of n are at most n -/
theorem prodP_more {n : Nat} (h : 0 < n) : ∀ i, prodP n (n + i) = prodP n n
  | 0 => rfl
  | i + 1 => by
    show prodP n (n + i + 1) = _
    rw [prodP_succ, if_neg fun z => by have := Nat.le_of_dvd h z.2; omega]
    exact prodP_more h i
theorem prodP_at {n N : Nat} (h : 0 < n) (hN : n ≤ N) : prodP n N = prodP n n := by
  obtain ⟨i, rfl⟩ := Nat.le.dest hN
  exact prodP_more h i
noncomputable def radP (n : Nat) : Nat := prodP n n
/-- a prime divides the product exactly if it is one of them -/
theorem prodP_dvd {n k : Nat} (hk : isP k) : ∀ N, k ∣ prodP n N ↔ (k ≤ N ∧ k ∣ n)
  | 0 => by
    have := hk.1
    constructor
    · intro z
      have := Nat.dvd_one.mp (show k ∣ 1 from z)
      omega
    · rintro ⟨z, _⟩
      omega
  | N + 1 => by
    have ih := prodP_dvd (n := n) hk N
    unfold prodP
    by_cases c : isP (N + 1) ∧ (N + 1) ∣ n
    · rw [if_pos c]
      constructor
      · intro z
        rcases hk.mul z with z | z
        · have := ih.mp z
          exact ⟨by omega, this.2⟩
        · rcases c.1.divs z with z | z
          · have := hk.1; omega
          · rw [z]; exact ⟨Nat.le_refl _, c.2⟩
      · rintro ⟨z1, z2⟩
        by_cases e : k = N + 1
        · rw [e]; exact Nat.dvd_mul_left _ _
        · exact Nat.dvd_trans (ih.mpr ⟨by omega, z2⟩) (Nat.dvd_mul_right _ _)
    · rw [if_neg c, ih]
      constructor
      · rintro ⟨a, b⟩; exact ⟨by omega, b⟩
      · rintro ⟨a, b⟩
        refine ⟨?_, b⟩
        by_cases e : k = N + 1
        · subst e; exact absurd ⟨hk, b⟩ c
        · omega
theorem radP_pos (n : Nat) : 0 < radP n := prodP_pos n
theorem radP_prime {n k : Nat} (h : 0 < n) (hk : isP k) : k ∣ radP n ↔ k ∣ n := by
  unfold radP
  rw [prodP_dvd hk]
  exact ⟨fun z => z.2, fun z => ⟨Nat.le_of_dvd h z, z⟩⟩
theorem prodP_dvdn {n : Nat} (h : 0 < n) : ∀ N, prodP n N ∣ n ∧ ∀ k, isP k → N < k → k ∣ n → Nat.Coprime (prodP n N) k
  | 0 => ⟨Nat.one_dvd _, fun k _ _ _ => Nat.coprime_one_left _⟩
  | N + 1 => by
    obtain ⟨d, c⟩ := prodP_dvdn h N
    unfold prodP
    by_cases e : isP (N + 1) ∧ (N + 1) ∣ n
    · rw [if_pos e]
      have co := c (N + 1) e.1 (Nat.lt_succ_self _) e.2
      refine ⟨co.mul_dvd_of_dvd_of_dvd d e.2, fun k hk hl hn => ?_⟩
      have c1 := c k hk (by omega) hn
      have c2 : Nat.Coprime (N + 1) k := e.1.coprime fun z => by
        rcases hk.divs z with z | z
        · have := e.1.1; omega
        · omega
      exact Nat.Coprime.mul_left c1 c2
    · rw [if_neg e]
      exact ⟨d, fun k a b d' => c k a (by omega) d'⟩
theorem radP_dvd {n : Nat} (h : 0 < n) : radP n ∣ n := (prodP_dvdn h n).1
theorem radP_le {n : Nat} (h : 0 < n) : radP n ≤ n := Nat.le_of_dvd h (radP_dvd h)
theorem radP_radP {n : Nat} (h : 0 < n) : radP (radP n) = radP n := by
  have e1 : radP (radP n) = prodP (radP n) n := (prodP_at (radP_pos n) (radP_le h)).symm
  rw [e1]
  exact prodP_congr n fun k hk _ => radP_prime h hk
theorem radP_one : radP 1 = 1 := prodP_none 1 fun k hk _ z => by
  have := hk.1
  have := Nat.le_of_dvd (by decide) z
  omega
theorem radP_of_prime {n : Nat} (hn : isP n) : radP n = n := by
  have h2 := hn.1
  unfold radP
  obtain ⟨m, rfl⟩ : ∃ m, n = m + 1 := ⟨n - 1, by omega⟩
  unfold prodP
  rw [if_pos ⟨hn, Nat.dvd_refl _⟩, prodP_none m fun k hk hl z => by
    rcases hn.divs z with z | z
    · have := hk.1; omega
    · omega]
  omega
/-! ### the program's walk over the primes -/
structure RLoop (n res rest p : Nat) : Prop where
  p2 : 2 ≤ p
  r0 : 0 < rest
  le : rest ≤ n
  eq : res * radP rest = radP n
  no : ∀ k, isP k → k < p → ¬ k ∣ rest
theorem RLoop.start {n : Nat} (h : 0 < n) : RLoop n 1 n 2 := ⟨Nat.le_refl _, h, Nat.le_refl _, Nat.one_mul _, fun k hk hl => by have := hk.1; omega⟩
theorem RLoop.skip {n res rest p : Nat} (L : RLoop n res rest p) (h : ¬ p ∣ rest) : RLoop n res rest (p + 1) := ⟨by have := L.p2; omega, L.r0, L.le, L.eq, fun k hk hl => by
  by_cases e : k = p
  · rw [e]; exact h
  · exact L.no k hk (by omega)⟩
theorem RLoop.prime {n res rest p : Nat} (L : RLoop n res rest p) (h : p ∣ rest) : isP p := by
  refine ⟨L.p2, fun j j2 jp _ jd => ?_⟩
  obtain ⟨q, q1, q2, q3⟩ := has_prime j j2
  exact L.no q q1 (by omega) (Nat.dvd_trans q2 (Nat.dvd_trans jd h))
theorem IsStrip.primes {n b r k : Nat} (h : IsStrip n b r) (hk : isP k) : k ∣ r ↔ (k ∣ n ∧ ¬ k ∣ b) := by
  obtain ⟨d, c, i, e⟩ := h
  constructor
  · intro z
    refine ⟨Nat.dvd_trans z d, fun zb => ?_⟩
    have w : k ∣ Nat.gcd r b := Nat.dvd_gcd z zb
    rw [show Nat.gcd r b = 1 from c] at w
    have := Nat.dvd_one.mp w
    have := hk.1
    omega
  · rintro ⟨z1, z2⟩
    rcases hk.mul (Nat.dvd_trans z1 e) with z | z
    · exact z
    · exact absurd (hk.pow z) z2
theorem RLoop.take {n res rest p r : Nat} (L : RLoop n res rest p) (h : p ∣ rest) (hr : IsStrip rest p r) : RLoop n (res * p) r (p + 1) := by
  have hp := L.prime h
  have p0 : 0 < p := by have := L.p2; omega
  have r0 : 0 < r := Nat.pos_of_ne_zero fun z => by
    rw [z] at hr
    have := Nat.eq_zero_of_zero_dvd hr.1
    have := L.r0
    omega
  have rl : r ≤ rest := Nat.le_of_dvd L.r0 hr.1
  have pl : p ≤ rest := Nat.le_of_dvd L.r0 h
  have key : radP rest = p * radP r := by
    have e1 : radP r = prodP r rest := (prodP_at r0 rl).symm
    rw [e1]
    show prodP rest rest = _
    have low : ∀ i, i < p → prodP rest i = 1 ∧ prodP r i = 1 := fun i hi => ⟨prodP_none i fun k hk hl z => L.no k hk (by omega) z, prodP_none i fun k hk hl z => L.no k hk (by omega) (Nat.dvd_trans z hr.1)⟩
    have all : ∀ i, prodP rest (p + i) = p * prodP r (p + i) := by
      intro i
      induction i with
      | zero =>
        obtain ⟨m, rfl⟩ : ∃ m, p = m + 1 := ⟨p - 1, by omega⟩
        show prodP rest (m + 1) = (m + 1) * prodP r (m + 1)
        unfold prodP
        rw [if_pos ⟨hp, h⟩, if_neg fun z => ((hr.primes hp).mp z.2).2 (Nat.dvd_refl _), (low m (by omega)).1, (low m (by omega)).2]
        omega
      | succ i ih =>
        show prodP rest (p + i + 1) = p * prodP r (p + i + 1)
        unfold prodP
        by_cases c : isP (p + i + 1)
        · have e := hr.primes c
          have np : ¬ (p + i + 1) ∣ p := fun z => by have := Nat.le_of_dvd p0 z; omega
          by_cases d : (p + i + 1) ∣ rest
          · rw [if_pos ⟨c, d⟩, if_pos ⟨c, e.mpr ⟨d, np⟩⟩, ih, Nat.mul_assoc]
          · rw [if_neg (fun z => d z.2), if_neg (fun z => d (e.mp z.2).1), ih]
        · rw [if_neg (fun z => c z.1), if_neg (fun z => c z.1), ih]
    obtain ⟨i, e⟩ := Nat.le.dest pl
    have z := all i
    rw [e] at z
    exact z
  refine ⟨by have := L.p2; omega, r0, by have := L.le; omega, ?_, fun k hk hl z => ?_⟩
  · rw [Nat.mul_assoc, ← key]
    exact L.eq
  · by_cases e : k = p
    · subst e
      exact ((hr.primes hk).mp z).2 (Nat.dvd_refl _)
    · exact L.no k hk (by omega) (Nat.dvd_trans z hr.1)
theorem RLoop.done {n res rest p : Nat} (L : RLoop n res rest p) (h : rest < p * p) : res * rest = radP n := by
  rw [← L.eq]
  congr 1
  by_cases e : rest = 1
  · rw [e, radP_one]
  · have r2 : 2 ≤ rest := by have := L.r0; omega
    refine (radP_of_prime ⟨r2, fun j j2 jr jj jd => ?_⟩).symm
    obtain ⟨q, q1, q2, q3⟩ := has_prime j j2
    have qp : p ≤ q := Nat.le_of_not_lt fun z => L.no q q1 z (Nat.dvd_trans q2 jd)
    have : p * p ≤ j * j := Nat.mul_le_mul (by omega) (by omega)
    omega
/-! ### the law's list -/
def noDiv (k : Nat) : List Nat := (List.range' 2 (k - 2)).filter fun j => Nat.ble (j * j) k && Nat.beq (k % j) 0
def primesOf (n : Nat) : List Nat := (List.range' 2 (n - 1)).filter fun k => Nat.beq (n % k) 0 && (noDiv k).isEmpty
def radL (n : Nat) : Nat := (primesOf n).foldl (fun a b => a * b) 1
theorem noDiv_iff {k : Nat} (h : 2 ≤ k) : (noDiv k).isEmpty = true ↔ isP k := by
  unfold noDiv
  rw [List.isEmpty_iff, List.filter_eq_nil_iff]
  constructor
  · intro z
    refine ⟨h, fun j j2 jk jj jd => z j (List.mem_range'_1.mpr ⟨j2, by omega⟩) ?_⟩
    rw [Bool.and_eq_true]
    exact ⟨Nat.ble_eq.mpr jj, Nat.beq_eq.mpr (Nat.mod_eq_zero_of_dvd jd)⟩
  · rintro ⟨_, z⟩ j hj e
    rw [Bool.and_eq_true] at e
    have := List.mem_range'_1.mp hj
    exact z j this.1 (by omega) (Nat.le_of_ble_eq_true e.1) (Nat.dvd_of_mod_eq_zero (Nat.eq_of_beq_eq_true e.2))
theorem radL_upto (n : Nat) : ∀ N, ((List.range' 2 N).filter fun k => Nat.beq (n % k) 0 && (noDiv k).isEmpty).foldl (fun a b => a * b) 1 = prodP n (N + 1)
  | 0 => by
    show 1 = prodP n 1
    rw [prodP_succ, if_neg fun z => by have := z.1.1; omega]
    rfl
  | N + 1 => by
    rw [List.range'_concat, List.filter_append, List.foldl_append, radL_upto n N]
    show _ = prodP n (N + 1 + 1)
    have e2 : 2 + 1 * N = N + 1 + 1 := by omega
    rw [e2]
    rw [prodP_succ n (N + 1), List.filter_cons]
    by_cases c : (Nat.beq (n % (N + 1 + 1)) 0 && (noDiv (N + 1 + 1)).isEmpty) = true
    · rw [if_pos c]
      rw [Bool.and_eq_true] at c
      rw [if_pos ⟨(noDiv_iff (by omega)).mp c.2, Nat.dvd_of_mod_eq_zero (Nat.eq_of_beq_eq_true c.1)⟩]
      rfl
    · rw [if_neg c]
      rw [if_neg fun z => c (by
        rw [Bool.and_eq_true]
        exact ⟨Nat.beq_eq.mpr (Nat.mod_eq_zero_of_dvd z.2), (noDiv_iff (by omega)).mpr z.1⟩)]
      rfl
theorem radL_eq {n : Nat} (h : 0 < n) : radL n = radP n := by
  have z := radL_upto n (n - 1)
  rw [show n - 1 + 1 = n by omega] at z
  exact z
end My
namespace My
open PySem PySem.Spec PyProof.Rows L2
theorem un64 {k : Nat} {A : Around} (r : Room k A) : A.units + 64 < cLine := by
  have := r.un
  omega
theorem op_eqDK {X : Cx} (K : PySem.W.Frag) (hK : X.K = K) (hu : X.A.units + 64 < cLine) : OpR X (compareOp .Eq) (rEqD K) := by
  subst hK
  exact op_eqD hu
/-! ### lists of whole numbers as data -/
abbrev dNats (xs : List Nat) : List PyData := xs.map fun (x : Nat) => PyData.int x
abbrev vNats (xs : List Nat) : List V := xs.map fun (x : Nat) => V.int x
theorem dp_nats {K : PySem.W.Frag} {H : Hp} : ∀ xs : List Nat, DpAll K H (vNats xs) (dNats xs)
  | [] => .nil
  | x :: xs => .cons (.int _) (dp_nats xs)
theorem lay_nats : ∀ xs : List Nat, PyData.canLayAll0 (dNats xs) = true
  | [] => by simp [PyData.canLayAll0]
  | x :: xs => by
    have h := lay_nats xs
    simp only [dNats, List.map_cons, PyData.canLayAll0, PyData.canLay0, Bool.true_and]
    exact h
theorem depth_nats : ∀ xs : List Nat, PyData.depthAll (dNats xs) = 0
  | [] => by simp [PyData.depthAll]
  | x :: xs => by
    have h := depth_nats xs
    simp only [dNats, List.map_cons, PyData.depthAll, PyData.depth]
    rw [show PyData.depthAll (xs.map fun (x : Nat) => PyData.int x) = 0 from h]
    rfl
theorem shaped_nats (xs : List Nat) : SeqAt.shaped (.list (dNats xs)) = true := by
  have h1 := depth_nats xs
  show (PyData.canLay0 (.list (dNats xs)) && decide (PyData.depth (.list (dNats xs)) ≤ 64)) = true
  rw [Bool.and_eq_true]
  refine ⟨by simp only [PyData.canLay0]; exact lay_nats xs, decide_eq_true ?_⟩
  simp only [PyData.depth]
  omega
theorem eqv_empty (xs : List Nat) : PyData.eqv (.list (dNats xs)) (.list []) = xs.isEmpty := by
  cases xs with
  | nil => simp [PyData.eqv, PyData.eqvAll]
  | cons x xs => simp [PyData.eqv, PyData.eqvAll]
theorem range_snoc (a i : Nat) : List.range' a (i + 1) = List.range' a i ++ [a + i] := by
  rw [List.range'_concat]
  simp
theorem filt_snoc (p : Nat → Bool) (a i : Nat) : (List.range' a (i + 1)).filter p = (List.range' a i).filter p ++ (if p (a + i) = true then [a + i] else []) := by
  rw [range_snoc, List.filter_append]
  cases h : p (a + i) <;> simp [h]
theorem filt_len (p : Nat → Bool) (a i : Nat) : ((List.range' a i).filter p).length ≤ i := by
  refine Nat.le_trans (List.length_filter_le _ _) ?_
  rw [List.length_range']
  exact Nat.le_refl _
theorem small2000 {n : Nat} (h : n ≤ 2000) : n < sizeLine := Nat.lt_of_le_of_lt h (by decide)
theorem divN {y : Int} {p : Nat} (h : 0 < p) (h2 : p < 2 ^ 200) : CDivW y p := wide_div (b := 200) (by omega) (by rw [Int.natAbs_natCast]; exact h2) (by decide) (by decide)
theorem mulN {x y : Nat} (h : x < 2 ^ 200) (h2 : y < 2 ^ 200) : CMulW x y := wide_mul (a := 200) (b := 200) (by rw [Int.natAbs_natCast]; exact h) (by rw [Int.natAbs_natCast]; exact h2) (by decide) (by decide) (by decide)
structure PLoop (n b rest part : Nat) : Prop where
  pos : 0 < rest
  dv : rest ∣ n
  all : ∃ k, n ∣ rest * b ^ k
  pb : ∃ i, part ∣ b ^ i
  pr : part ∣ rest
  pp : 0 < part
  no : ∀ d, d ∣ rest → d ∣ b → Nat.Coprime d part → d = 1
theorem PLoop.start {n b : Nat} (h : 0 < n) : PLoop n b n (Nat.gcd n b) :=
  ⟨h, Nat.dvd_refl _, ⟨0, by simp⟩, ⟨1, by rw [Nat.pow_one]; exact Nat.gcd_dvd_right _ _⟩, Nat.gcd_dvd_left _ _, Nat.gcd_pos_of_pos_left _ h, fun d h1 h2 h3 => by
    have z := Nat.dvd_gcd h1 h2
    have w : d ∣ Nat.gcd d (Nat.gcd n b) := Nat.dvd_gcd (Nat.dvd_refl _) z
    rw [h3.gcd_eq_one] at w
    exact Nat.dvd_one.mp w⟩
theorem PLoop.step {n b rest part : Nat} (h : PLoop n b rest part) : PLoop n b (rest / part) (Nat.gcd (rest / part) (part * part)) := by
  obtain ⟨pos, dv, ⟨k, hk⟩, ⟨i, hi⟩, pr, pp, no⟩ := h
  have e : rest / part * part = rest := Nat.div_mul_cancel pr
  have q0 : 0 < rest / part := Nat.pos_of_ne_zero fun z => by
    rw [z, Nat.zero_mul] at e
    omega
  refine ⟨q0, Nat.dvd_trans (Nat.div_dvd_of_dvd pr) dv, ⟨i + k, Nat.dvd_trans hk ?_⟩, ⟨i + i, Nat.dvd_trans (Nat.gcd_dvd_right _ _) ?_⟩, Nat.gcd_dvd_left _ _, Nat.gcd_pos_of_pos_left _ q0, fun d h1 h2 h3 => no d (Nat.dvd_trans h1 (Nat.div_dvd_of_dvd pr)) h2 ?_⟩
  · have z : rest * b ^ k ∣ rest / part * (b ^ i * b ^ k) := by
      rw [← Nat.mul_assoc]
      refine Nat.mul_dvd_mul ?_ (Nat.dvd_refl _)
      have w : rest / part * part ∣ rest / part * b ^ i := Nat.mul_dvd_mul (Nat.dvd_refl _) hi
      rw [e] at w
      exact w
    rw [Nat.pow_add]
    exact z
  · rw [Nat.pow_add]
    exact Nat.mul_dvd_mul hi hi
  · have w : Nat.gcd d part ∣ Nat.gcd d (Nat.gcd (rest / part) (part * part)) :=
      Nat.dvd_gcd (Nat.gcd_dvd_left _ _) (Nat.dvd_gcd (Nat.dvd_trans (Nat.gcd_dvd_left _ _) h1) (Nat.dvd_trans (Nat.gcd_dvd_right _ _) (Nat.dvd_mul_right _ _)))
    rw [h3.gcd_eq_one] at w
    exact Nat.dvd_one.mp w
theorem PLoop.done {n b rest part : Nat} (h : PLoop n b rest part) (e : ¬ 1 < part) : IsStrip n b rest := by
  have p1 : part = 1 := by have := h.pp; omega
  subst p1
  refine ⟨h.dv, h.no _ (Nat.gcd_dvd_left _ _) (Nat.gcd_dvd_right _ _) (Nat.coprime_one_right _), h.all⟩
/-- the law's loop -/
structure LLoop (n b f : Nat) : Prop where
  pos : 0 < f
  dv : f ∣ n
  all : ∃ k, n ∣ f * b ^ k
theorem LLoop.start {n b : Nat} (h : 0 < n) : LLoop n b n := ⟨h, Nat.dvd_refl _, 0, by simp⟩
theorem LLoop.step {n b f : Nat} (h : LLoop n b f) : LLoop n b (f / Nat.gcd f b) := by
  obtain ⟨pos, dv, k, hk⟩ := h
  have e : f / Nat.gcd f b * Nat.gcd f b = f := Nat.div_mul_cancel (Nat.gcd_dvd_left _ _)
  have q0 : 0 < f / Nat.gcd f b := Nat.pos_of_ne_zero fun z => by
    rw [z, Nat.zero_mul] at e
    omega
  refine ⟨q0, Nat.dvd_trans (Nat.div_dvd_of_dvd (Nat.gcd_dvd_left _ _)) dv, k + 1, Nat.dvd_trans hk ?_⟩
  rw [Nat.pow_succ, Nat.mul_comm (b ^ k) b, ← Nat.mul_assoc]
  refine Nat.mul_dvd_mul ?_ (Nat.dvd_refl _)
  have w : f / Nat.gcd f b * Nat.gcd f b ∣ f / Nat.gcd f b * b := Nat.mul_dvd_mul (Nat.dvd_refl _) (Nat.gcd_dvd_right _ _)
  rw [e] at w
  exact w
theorem LLoop.done {n b f : Nat} (h : LLoop n b f) (e : ¬ 1 < Nat.gcd f b) : IsStrip n b f := by
  have p0 := Nat.gcd_pos_of_pos_left b h.pos
  exact ⟨h.dv, (show Nat.gcd f b = 1 by omega), h.all⟩
structure Txt (mg : Str → Option Value) : Prop where
  m_MOST_RADICAL : ∃ u, mg "MOST_RADICAL" = some (.int 1000000 u)
  m_gcd : mg "gcd" = some (.builtin "math.gcd")
def gcdI (a b : Int) : Int := ((Nat.gcd a.natAbs b.natAbs : Nat) : Int)
theorem gcdN (a b : Nat) : gcdI a b = ((Nat.gcd a b : Nat) : Int) := by unfold gcdI; rw [Int.natAbs_natCast, Int.natAbs_natCast]
def spIsInt : Sp := fun vs H Q _ => ∃ (x : V) (t : String), vs = [x] ∧ Typ H x t ∧ Q (.bl (isIntV x)) H
def spBetween : Sp := fun vs H Q _ => ∃ (x : V) (t : String) (lo hi : Int), vs = [x, .int lo, .int hi] ∧ Typ H x t ∧ Q (.bl (match x with | .int i => decide (lo ≤ i) && decide (i ≤ hi) | _ => false)) H
def spStripped : Sp := fun vs H Q _ => ∃ n b : Nat, vs = [.int n, .int b] ∧ n < 2 ^ 200 ∧ ∀ r : Nat, (n = 0 ∧ r = 0) ∨ (0 < n ∧ IsStrip n b r) → Q (.int r) H
def spProduct (K : PySem.W.Frag) : Sp := fun vs H Q _ => ∃ (a : Addr) (xs : List Nat), vs = [.ref a] ∧ SqL K H a (xs.map fun (x : Nat) => V.int x) ∧ (∀ x ∈ xs, x < 2 ^ 62) ∧ Q (.int (xs.foldl (fun a b => a * b) 1 : Nat)) H
def spRadL : Sp := fun vs H Q _ => ∃ n : Nat, vs = [.int n] ∧ 1 ≤ n ∧ n ≤ 2000 ∧ ∀ H', Same H H' → Q (.int (radL n : Nat)) H'
section
variable {P : Program} {w : World} {K : PySem.W.Frag} {mg : Str → Option Value} {base : Heap}
theorem ok_is_int (F : Fn K mg "is_int" s_is_int ["value"]) (B : Blt mg) : Has P w K mg base 1 "is_int" ["value"] spIsInt := by
  refine F.has sc_is_int (fun vs H Q E h => ?_) (fun f cdv A outer s H vs Q E hr h => ?_)
  · obtain ⟨a, t, rfl, _⟩ := h
    rfl
  obtain ⟨x, t, rfl, ht, q⟩ := h
  refine ⟨_, (pss_one (ps_ret (pe_and (pe_callB call_isi (by rfl) B.isinstance bb_isinstance (pa_cons (pv 0) (pa_cons (pe_bltn (v := .ty "int") (by rfl) B.int bb_int rfl) pa_nil))) (pe_one (pe_not (pe_callB call_isi (by rfl) B.isinstance bb_isinstance (pa_cons (pv 0) (pa_cons (pe_bltn (v := .ty "bool") (by rfl) B.bool bb_bool rfl) pa_nil)))))))), ?_⟩
  have ty := ht.tyx (K := K)
  cases ht with
  | non =>
    refine ⟨_, rfl, _, .ty "int", _, .type "int", false, rfl, .ty _, ty, kit_ty (by decide +kernel), _, rfl, iteF ?_⟩
    exact q
  | bl x =>
    refine ⟨_, rfl, _, .ty "int", _, .type "int", true, rfl, .ty _, ty, kit_ty (by decide +kernel), _, rfl, iteT ?_⟩
    refine ⟨_, rfl, _, .ty "bool", _, .type "bool", true, rfl, .ty _, ty, kit_ty (by decide +kernel), _, rfl, ?_⟩
    exact q
  | int i =>
    refine ⟨_, rfl, _, .ty "int", _, .type "int", true, rfl, .ty _, ty, kit_ty (by decide +kernel), _, rfl, iteT ?_⟩
    refine ⟨_, rfl, _, .ty "bool", _, .type "bool", false, rfl, .ty _, ty, kit_ty (by decide +kernel), _, rfl, ?_⟩
    exact q
  | str z =>
    refine ⟨_, rfl, _, .ty "int", _, .type "int", false, rfl, .ty _, ty, kit_ty (by decide +kernel), _, rfl, iteF ?_⟩
    exact q
  | lst h =>
    refine ⟨_, rfl, _, .ty "int", _, .type "int", false, rfl, .ty _, ty, kit_ty (by decide +kernel), _, rfl, iteF ?_⟩
    exact q
  | tup h =>
    refine ⟨_, rfl, _, .ty "int", _, .type "int", false, rfl, .ty _, ty, kit_ty (by decide +kernel), _, rfl, iteF ?_⟩
    exact q
theorem ok_is_between (F : Fn K mg "is_between" s_is_between ["value", "least", "most"]) (G_is_int : Has P w K mg base 1 "is_int" ["value"] spIsInt) : Has P w K mg base 2 "is_between" ["value", "least", "most"] spBetween := by
  refine F.has sc_is_between (fun vs H Q E h => ?_) (fun f cdv A outer s H vs Q E hr h => ?_)
  · obtain ⟨a, t, lo, hi, rfl, _⟩ := h
    rfl
  obtain ⟨x, t, lo, hi, rfl, ht, q⟩ := h
  refine ⟨_, (pss_one (ps_ret (pe_and (pe_own G_is_int (hr.mono (by decide)) (by rfl) (pa_cons (pv 0) pa_nil)) (pe_one (pe_chain op_le op_le (pv 1) (pv 0) (pv 2)))))), ?_⟩
  refine ⟨_, rfl, x, t, rfl, ht, ?_⟩
  cases ht with
  | int i =>
    refine ⟨_, rfl, iteT ⟨_, rfl, _, rfl, _, _, rfl, rfl, _, rfl, ?_⟩⟩
    have q' : Q (.bl (decide (lo ≤ i) && decide (i ≤ hi))) H := q
    by_cases h1 : lo ≤ i
    · refine ite_of (decide_eq_true h1) ⟨_, rfl, _, _, rfl, rfl, ?_⟩
      rw [decide_eq_true h1] at q'
      exact q'
    · refine ite_no (by simp [h1]) ?_
      rw [decide_eq_false h1] at q'
      exact q'
  | _ => exact ⟨_, rfl, iteF q⟩
theorem ok_stripped (F : Fn K mg "stripped" s_stripped ["number", "base"]) (T : Txt mg) : Has P w K mg base 1 "stripped" ["number", "base"] spStripped := by
  refine F.has sc_stripped (fun vs H Q E h => ?_) (fun f cdv A outer s H vs Q E hr h => ?_)
  · obtain ⟨a, t, rfl, _⟩ := h
    rfl
  obtain ⟨n, b, rfl, hn, q⟩ := h
  refine ⟨_, (pss_cons (ps_if (pt_cmpR op_eq (pv 0) pe_int (nomark _))
        (pss_one (ps_ret pe_int))
        pss_nil)
      (pss_cons (ps_set (i := 2) sc_stripped.nd rfl (Or.inl rfl) (pv 0))
      (pss_cons (ps_set (i := 3) sc_stripped.nd rfl (Or.inl rfl) (pe_callBfun cr_gcd (by rfl) T.m_gcd (pa_cons (pv 2) (pa_cons (pv 1) pa_nil))))
      (pss_cons (ps_while PassesOwn.never (pt_cmpR op_gt (pv 3) pe_int (nomark _))
        (pss_cons (ps_set (i := 2) sc_stripped.nd rfl (Or.inl rfl) (pe_op op_fdivW (pv 2) (pv 3)))
      (pss_one (ps_set (i := 3) sc_stripped.nd rfl (Or.inl rfl) (pe_callBfun cr_gcd (by rfl) T.m_gcd (pa_cons (pv 2) (pa_cons (pe_op op_mulW (pv 3) (pv 3)) pa_nil)))))))
      (pss_one (ps_ret (pv 2))))))), ?_⟩
  refine ⟨_, rfl, rfl, _, rfl, ?_⟩
  by_cases h0 : n = 0
  · subst h0
    exact ite_of (decide_eq_true rfl) (q 0 (.inl ⟨rfl, rfl⟩))
  · have n0 : 0 < n := Nat.pos_of_ne_zero h0
    refine ite_no (by simp [h0]) ⟨_, rfl, _, rfl, _, rfl, _, _, rfl, ?_⟩
    refine while_by (fun σ H' => ∃ l r : Nat, σ = [some (.int n), some (.int b), some (.int (l : Int)), some (.int (r : Int))] ∧ PLoop n b l r ∧ H' = H)
      (fun σ _ => match σ with | [_, _, some (.int l), _] => l.toNat | _ => 0) ⟨n, Nat.gcd n b, rfl, .start n0, rfl⟩ ?_ ?_
    · rintro σ H' ⟨l, r, rfl, L, rfl⟩
      refine ⟨_, rfl, _, _, rfl, rfl, _, rfl, ite2 (fun c => ?_) (fun c => ?_)⟩
      · have hc : 1 < r := by
          have : (1 : Int) < (r : Int) := of_decide_eq_true c
          omega
        have hl : l ≤ n := Nat.le_of_dvd n0 L.dv
        have hr' : r ≤ l := Nat.le_of_dvd L.pos L.pr
        refine ⟨_, rfl, _, rfl, _, _, rfl, rfl, divN (by omega) (by omega), ?_⟩
        refine ⟨_, rfl, _, rfl, _, rfl, _, _, rfl, rfl, mulN (by omega) (by omega), _, _, rfl, ?_⟩
        refine ⟨⟨l / r, Nat.gcd (l / r) (r * r), ?_, L.step, rfl⟩, ?_⟩
        · have e1 : (l : Int) / (r : Int) = ((l / r : Nat) : Int) := (Int.natCast_ediv l r).symm
          rw [← Int.natCast_ediv, ← Int.natCast_mul, Int.natAbs_natCast, Int.natAbs_natCast]
          show [some (V.int n), some (V.int b), some (V.int ((l : Int) / (r : Int))), some (V.int _)] = _
          rw [e1]
        · show ((l : Int) / (r : Int)).toNat < (l : Int).toNat
          rw [← Int.natCast_ediv, Int.toNat_natCast, Int.toNat_natCast]
          exact Nat.div_lt_self L.pos hc
      · have hc : ¬ 1 < r := by
          have : ¬ (1 : Int) < (r : Int) := of_decide_eq_false (Bool.eq_false_iff.mpr c)
          omega
        exact ⟨_, rfl, q l (.inr ⟨n0, L.done hc⟩)⟩
    · rintro σ H' Q1 Q2 hq ⟨v, e, i, j, e1, e2, k, e3, z⟩
      exact ⟨v, e, i, j, e1, e2, k, e3, hq _ _ z⟩
theorem ok_l_strip (F : Fn K mg "_law_strip" s_l_strip ["_law_number", "_law_base"]) (G_l_gcd : Has P w K mg base 1 "_law_gcd" ["_law_a", "_law_b"] spGcd) : Has P w K mg base 2 "_law_strip" ["_law_number", "_law_base"] spStripped := by
  refine F.has sc_l_strip (fun vs H Q E h => ?_) (fun f cdv A outer s H vs Q E hr h => ?_)
  · obtain ⟨a, t, rfl, _⟩ := h
    rfl
  obtain ⟨n, b, rfl, hn, q⟩ := h
  refine ⟨_, (pss_cons (ps_set (i := 2) sc_l_strip.nd rfl (Or.inl rfl) (pv 0))
      (pss_cons (ps_while PassesOwn.never (PW.pt (pw_and (pt_cmpR op_ne (pv 2) pe_int (nomark _)) (pw_and1 (pt_cmpR op_gt (pe_own G_l_gcd (hr.mono (by decide)) (by rfl) (pa_cons (pv 2) (pa_cons (pv 1) pa_nil))) pe_int (nomark _)))))
        (pss_one (ps_set (i := 2) sc_l_strip.nd rfl (Or.inl rfl) (pe_op op_fdivW (pv 2) (pe_own G_l_gcd (hr.mono (by decide)) (by rfl) (pa_cons (pv 2) (pa_cons (pv 1) pa_nil)))))))
      (pss_one (ps_ret (pv 2))))), ?_⟩
  refine ⟨_, rfl, ?_⟩
  refine while_by (fun σ H' => ∃ l : Nat, σ = [some (.int n), some (.int b), some (.int (l : Int))] ∧ ((n = 0 ∧ l = 0) ∨ (0 < n ∧ LLoop n b l)) ∧ H' = H)
      (fun σ _ => match σ with | [_, _, some (.int l)] => l.toNat | _ => 0) ⟨n, rfl, ?_, rfl⟩ ?_ ?_
  · by_cases h0 : n = 0
    · exact .inl ⟨h0, h0⟩
    · exact .inr ⟨Nat.pos_of_ne_zero h0, .start (Nat.pos_of_ne_zero h0)⟩
  · rintro σ H' ⟨l, rfl, L, rfl⟩
    refine ⟨_, rfl, rfl, _, rfl, ?_⟩
    rcases L with ⟨n0, l0⟩ | ⟨n0, L⟩
    · subst n0 l0
      exact ite_no (by simp) ⟨_, rfl, q 0 (.inl ⟨rfl, rfl⟩)⟩
    · have l0 := L.pos
      have hl : l ≤ n := Nat.le_of_dvd n0 L.dv
      refine ite_of (by simp; omega) ⟨_, rfl, _, rfl, _, _, rfl, _, _, rfl, rfl, _, rfl, ite2 (fun c => ?_) (fun c => ?_)⟩
      · have hc : 1 < Nat.gcd l b := by
          have : (1 : Int) < ((Nat.gcd (l : Int).natAbs (b : Int).natAbs : Nat) : Int) := of_decide_eq_true c
          rw [Int.natAbs_natCast, Int.natAbs_natCast] at this
          omega
        have hg : Nat.gcd l b ≤ l := Nat.le_of_dvd l0 (Nat.gcd_dvd_left _ _)
        refine ⟨_, rfl, _, rfl, _, rfl, _, _, rfl, _, _, rfl, rfl, (by rw [Int.natAbs_natCast, Int.natAbs_natCast]; exact divN (by omega) (by omega)), ?_⟩
        · have e1 : (l : Int) / ((Nat.gcd (l : Int).natAbs (b : Int).natAbs : Nat) : Int) = ((l / Nat.gcd l b : Nat) : Int) := by
            rw [Int.natAbs_natCast, Int.natAbs_natCast, Int.natCast_ediv]
          refine ⟨⟨l / Nat.gcd l b, ?_, .inr ⟨n0, L.step⟩, rfl⟩, ?_⟩
          · show [some (V.int n), some (V.int b), some (V.int ((l : Int) / ((Nat.gcd (l : Int).natAbs (b : Int).natAbs : Nat) : Int)))] = _
            rw [e1]
          · show ((l : Int) / ((Nat.gcd (l : Int).natAbs (b : Int).natAbs : Nat) : Int)).toNat < (l : Int).toNat
            rw [e1, Int.toNat_natCast, Int.toNat_natCast]
            exact Nat.div_lt_self l0 hc
      · have hc : ¬ 1 < Nat.gcd l b := by
          have : ¬ (1 : Int) < ((Nat.gcd (l : Int).natAbs (b : Int).natAbs : Nat) : Int) := of_decide_eq_false (Bool.eq_false_iff.mpr c)
          rw [Int.natAbs_natCast, Int.natAbs_natCast] at this
          omega
        exact ⟨_, rfl, q l (.inr ⟨n0, L.done hc⟩)⟩
  · rintro σ H' Q1 Q2 hq ⟨v, e, e1, b1, e2, z⟩
    refine ⟨v, e, e1, b1, e2, ?_⟩
    cases b1 with
    | true =>
      obtain ⟨x1, h1, x2, h2, a', b', h3, i, j, h4, h5, k, h6, z⟩ := (show _ from z)
      exact iteT ⟨x1, h1, x2, h2, a', b', h3, i, j, h4, h5, k, h6, hq _ _ z⟩
    | false => exact iteF (hq _ _ z)
theorem ok_l_product (F : Fn K mg "_law_product" s_l_product ["_law_numbers"]) : Has P w K mg base 1 "_law_product" ["_law_numbers"] (spProduct K) := by
  refine F.has sc_l_product (fun vs H Q E h => ?_) (fun f cdv A outer s H vs Q E hr h => ?_)
  · obtain ⟨a, t, rfl, _⟩ := h
    rfl
  obtain ⟨a, xs, rfl, hS, hb, q⟩ := h
  refine ⟨_, (pss_cons (ps_set (i := 1) sc_l_product.nd rfl (Or.inl rfl) pe_int)
      (pss_cons (ps_for PassesOwn.never rfl (pi_list (pv 0)) (pg_name (i := 2) sc_l_product.nd rfl (Or.inl rfl))
        (pss_one (ps_set (i := 1) sc_l_product.nd rfl (Or.inl rfl) (pe_op op_mul (pv 1) (pv 2)))))
      (pss_one (ps_ret (pv 1))))), ?_⟩
  refine ⟨_, rfl, a, rfl, ⟨_, hS⟩, for_list (fun i σ H' => ∃ y, σ = [some (.ref a), some (.int ((xs.take i).foldl (fun a b => a * b) 1 : Nat)), y] ∧ H' = H) ⟨none, rfl, rfl⟩ (fun i σ H' _ ⟨_, _, e⟩ => e ▸ hS) ?_ ?_⟩
  · rintro i x σ H' hx ⟨y, rfl, rfl⟩
    rw [List.getElem?_map] at hx
    cases hi : xs[i]? with
    | none => rw [hi] at hx; cases hx
    | some m =>
      rw [hi] at hx
      cases hx
      have hm := hb m (List.mem_of_getElem? hi)
      have e : ((xs.take i).foldl (fun a b => a * b) 1 : Nat) * m = (xs.take (i + 1)).foldl (fun a b => a * b) 1 := by
        rw [List.take_add_one, hi, List.foldl_append]
        rfl
      refine ⟨_, rfl, _, rfl, _, _, rfl, rfl, .inr ⟨by omega, by omega⟩, some (.int m), ?_, rfl⟩
      rw [← e]
      show [some (V.ref a), some (V.int (((xs.take i).foldl (fun a b => a * b) 1 : Nat) * (m : Int))), some (V.int m)] = _
      rw [Int.natCast_mul]
  · rintro σ H' ⟨y, rfl, rfl⟩
    rw [List.length_map, List.take_length]
    exact ⟨_, rfl, q⟩
theorem ok_l_radical (F : Fn K mg "_law_radical" s_l_radical ["_law_number"]) (B : Blt mg) (G_l_product : Has P w K mg base 1 "_law_product" ["_law_numbers"] (spProduct K)) : Has P w K mg base 2 "_law_radical" ["_law_number"] spRadL := by
  refine F.has sc_l_radical (fun vs H Q E h => ?_) (fun f cdv A outer s H vs Q E hr h => ?_)
  · obtain ⟨a, rfl, _⟩ := h
    rfl
  obtain ⟨n, rfl, h1, h2, q⟩ := h
  refine ⟨_, (pss_one (ps_ret (pe_own G_l_product (hr.mono (by decide)) (by rfl) (pa_cons (pe_lc (own := [("_law_k", 1)]) (g := gName 1) (by rfl) sc_l_radical.nd (pi_range2 (by rfl) B.range (pa_cons pe_int (pa_cons (pe_op op_add (pv 0) pe_int) pa_nil))) (blkOk_by (own := [("_law_k", 1)]) (N := N_l_radical) (sc := defScope s_l_radical) (by decide +kernel)) (fun _ _ _ _ _ => (pg_name (i := 1) sc_l_radical.nd rfl (Or.inr rfl))) (fun _ _ _ _ _ => (pts_one (PW.pt (pw_and (pt_cmpR op_eq (pe_op op_mod (pe_callTy call_int1 (by rfl) B.int bb_int (pa_cons (pv 0) pa_nil)) (pv 1)) pe_int (nomark _)) (pw_and1 (pt_cmpR (op_eqDK K rfl (un64 hr)) (pe_lc (own := [("_law_j", 2)]) (g := gName 2) (by rfl) sc_l_radical.nd (pi_range2 (by rfl) B.range (pa_cons pe_int (pa_cons (pv 1) pa_nil))) (blkOk_by (own := [("_law_j", 2)]) (N := N_l_radical) (by rfl)) (fun _ _ _ _ _ => (pg_name (i := 2) sc_l_radical.nd rfl (Or.inl rfl))) (fun _ _ _ _ _ => (pts_one (PW.pt (pw_and (pt_cmpR op_le (pe_op op_mul (pv 2) (pv 2)) (pv 1) (nomark _)) (pw_and1 (pt_cmpR op_eq (pe_op op_mod (pe_callTy call_int1 (by rfl) B.int bb_int (pa_cons (pv 1) pa_nil)) (pv 2)) pe_int (nomark _))))))) (fun _ _ _ _ _ => (pv 2))) (pe_lst pa_nil) (nomark _))))))) (fun _ _ _ _ _ => (pv 1))) pa_nil)))), ?_⟩
  refine ⟨_, rfl, _, _, rfl, rfl, 2, ((n : Int) + 1), rfl, ⟨by omega, by omega, by omega, by omega⟩, fun D hD => ?_⟩
  have en : ((n : Int) + 1 - 2).toNat = n - 1 := by omega
  rw [en]
  refine lc_it walk_range (fun i H' => Same H H' ∧ H' D = some (.lst (vNats ((List.range' 2 i).filter fun k => Nat.beq (n % k) 0 && (noDiv k).isEmpty)))) ⟨same_upd hD, upd_same⟩ (fun _ _ _ _ => True.intro) ?_ ?_
  · rintro i v H1 H2 hi ⟨s1, e1⟩ ⟨rfl, hv⟩
    have ek : (2 : Int) + (i : Int) = ((2 + i : Nat) : Int) := by omega
    have hv' : v = V.int ((2 + i : Nat) : Int) := hv.trans (congrArg V.int ek)
    subst hv'
    have kpos : (0 : Int) < ((2 + i : Nat) : Int) := by omega
    have drop : (Nat.beq (n % (2 + i)) 0 && (noDiv (2 + i)).isEmpty) = false → ∀ H3, Same H2 H3 → H3 D = H2 D → Same H H3 ∧ H3 D = some (.lst (vNats ((List.range' 2 (i + 1)).filter fun k => Nat.beq (n % k) 0 && (noDiv k).isEmpty))) := fun hp H3 s3 e3 => by
      refine ⟨s1.trans s3, e3.trans ?_⟩
      rw [filt_snoc, hp, if_neg (by decide), List.append_nil]
      exact e1
    refine ⟨rfl, _, rfl, .inl ⟨_, rfl, _, rfl, _, _, rfl, rfl, kpos, rfl, _, rfl, ?_⟩⟩
    by_cases hk : n % (2 + i) = 0
    · refine ite_of (decide_eq_true (by show V.int ((n : Int) % ((2 + i : Nat) : Int)) = V.int 0; rw [← Int.natCast_emod, hk]; rfl)) ?_
      refine ⟨_, rfl, 2, ((2 + i : Nat) : Int), rfl, ⟨by omega, by omega, by omega, by omega⟩, fun D2 hD2 => ?_⟩
      have en2 : (((2 + i : Nat) : Int) - 2).toNat = 2 + i - 2 := by omega
      rw [en2]
      refine lc_it walk_range (fun j H' => Same H2 H' ∧ H' D2 = some (.lst (vNats ((List.range' 2 j).filter fun j => Nat.ble (j * j) (2 + i) && Nat.beq ((2 + i) % j) 0)))) ⟨same_upd hD2, upd_same⟩ (fun _ _ _ _ => True.intro) ?_ ?_
      · rintro j v H3 H4 hj ⟨s3, e3⟩ ⟨rfl, hv⟩
        have ej : (2 : Int) + (j : Int) = ((2 + j : Nat) : Int) := by omega
        have hv' : v = V.int ((2 + j : Nat) : Int) := hv.trans (congrArg V.int ej)
        subst hv'
        have jpos : (0 : Int) < ((2 + j : Nat) : Int) := by omega
        have drop2 : (Nat.ble ((2 + j) * (2 + j)) (2 + i) && Nat.beq ((2 + i) % (2 + j)) 0) = false → Same H2 H4 ∧ H4 D2 = some (.lst (vNats ((List.range' 2 (j + 1)).filter fun j => Nat.ble (j * j) (2 + i) && Nat.beq ((2 + i) % j) 0))) := fun hp => by
          refine ⟨s3, ?_⟩
          rw [filt_snoc, hp, if_neg (by decide), List.append_nil]
          exact e3
        refine ⟨rfl, _, rfl, _, rfl, _, _, rfl, rfl, .inl ⟨by omega, by omega⟩, _, rfl, _, _, rfl, rfl, _, rfl, ?_⟩
        by_cases hc : (2 + j) * (2 + j) ≤ 2 + i
        · refine ite_of (decide_eq_true (by rw [← Int.natCast_mul]; exact Int.ofNat_le.mpr hc)) ⟨_, rfl, .inl ⟨_, rfl, _, rfl, _, _, rfl, rfl, jpos, rfl, _, rfl, ?_⟩⟩
          by_cases hm : (2 + i) % (2 + j) = 0
          · refine ite_of (decide_eq_true (by show V.int (((2 + i : Nat) : Int) % ((2 + j : Nat) : Int)) = V.int 0; rw [← Int.natCast_emod, hm]; rfl)) ?_
            refine ⟨_, rfl, _, e3, ?_, fun c o hc => ?_, ?_⟩
            · rw [List.length_map]
              exact small2000 (Nat.le_trans (filt_len _ _ _) (by omega))
            · rw [upd_ne (ne_of_none hc hD2)]
              exact s3 _ _ hc
            · rw [upd_same, filt_snoc, if_pos (by rw [Bool.and_eq_true]; exact ⟨Nat.ble_eq.mpr hc, Nat.beq_eq.mpr hm⟩)]
              simp
          · refine ite_no (fun z => hm ?_) (drop2 ?_)
            · have z' : V.int (((2 + i : Nat) : Int) % ((2 + j : Nat) : Int)) = V.int 0 := of_decide_eq_true z
              rw [← Int.natCast_emod] at z'
              injection z' with z'
              omega
            · rw [Bool.and_eq_false_iff]
              exact .inr (Bool.eq_false_iff.mpr fun z => hm (Nat.eq_of_beq_eq_true z))
        · refine ite_no (fun z => hc ?_) (iteF (drop2 ?_))
          · have z' := of_decide_eq_true z
            rw [← Int.natCast_mul] at z'
            exact Int.ofNat_le.mp z'
          · rw [Bool.and_eq_false_iff]
            exact .inl (Bool.eq_false_iff.mpr fun z => hc (Nat.le_of_ble_eq_true z))
      · rintro H5 ⟨s5, e5⟩
        refine ⟨by show 0 ≤ sizeLine; decide, fun l hl => ?_⟩
        have s6 : Same H5 (upd H5 l (.lst [])) := same_upd hl
        refine ⟨.list (dNats (noDiv (2 + i))), .list [], .lst (SqL.of (s6 _ _ e5)) (dp_nats _), .lst (SqL.of upd_same) .nil, shaped_nats _, shaped_nats [], _, rfl, ?_⟩
        rw [eqv_empty]
        cases hd : (noDiv (2 + i)).isEmpty with
        | true =>
          have sa := s5.trans s6
          refine iteT ⟨_, rfl, _, sa _ _ e1, ?_, fun c o hc => ?_, ?_⟩
          · rw [List.length_map]
            exact small2000 (Nat.le_trans (filt_len _ _ _) (by omega))
          · rw [upd_ne (ne_of_none hc hD)]
            exact sa _ _ (s1 _ _ hc)
          · rw [upd_same, filt_snoc, if_pos (by rw [hd, Bool.and_true]; exact Nat.beq_eq.mpr hk)]
            simp
        | false =>
          refine iteF (drop (by rw [hd, Bool.and_false]) _ (s5.trans s6) ?_)
          exact ((s5.trans s6) _ _ e1).trans e1.symm
    · refine ite_no (fun z => hk ?_) (iteF (drop ?_ _ (Same.refl _) rfl))
      · have z' : V.int ((n : Int) % ((2 + i : Nat) : Int)) = V.int 0 := of_decide_eq_true z
        rw [← Int.natCast_emod] at z'
        injection z' with z'
        omega
      · rw [Bool.and_eq_false_iff]
        exact .inl (Bool.eq_false_iff.mpr fun z => hk (Nat.eq_of_beq_eq_true z))
  · rintro H1 ⟨s1, e1⟩
    refine ⟨_, _, rfl, SqL.of e1, fun x hx => ?_, q _ s1⟩
    have z := List.mem_range'_1.mp (List.mem_filter.mp hx).1
    omega
end
end My
namespace My
open PySem PySem.Spec PyProof.Rows L2
/-! ### a def that may raise, by its name -/
structure HasX (P : Program) (w : World) (K : PySem.W.Frag) (mg : Str → Option Value) (base : Heap) (k : Nat) (x : Str) (ps : List Str) (sp : Sp) : Prop where
  ex : ∃ (f : Addr) (fd : FuncData), FnOk P w K mg base (L2.CX P w) k f fd ps sp ∧ mg x = some (.ref f) ∧ PySem.W.keepIn K (.ref f) = true ∧ Binds K fd ps []
section
variable {X : Cx} {k : Nat} {x : Str} {ps : List Str} {sp : Sp} {p pos : Pos} {e : Expr} {es : List Expr} {t : TA}
/-- called where it raises nothing -/
theorem pe_ownX (h : HasX X.prog X.w X.K X.mg X.base k x ps sp) (hr : Room k X.A) (hg : Gl X x) (ha : PA X (e :: es) t) (hdb : (x == ("__debug__" : Str)) = false := by decide)
    (he : starEach (e :: es) X.env = (false, eval e X.env) :: starEach es X.env := by rfl) (hpl : (backTo pos (starEach es X.env)).any (·.1) = false := by rfl) : PE X (.Call (.Name x p) (e :: es) [] pos) (tCall sp [] E0 t) := by
  obtain ⟨f, fd, F, m, kp, b⟩ := h.ex
  exact pe_call F hr hg m kp b .nil passL ha hdb he hpl
/-- called where what it raises is taken by E -/
theorem pe_ownE {E : XK} (h : HasX X.prog X.w X.K X.mg X.base k x ps sp) (tk : Takes X (fun cls d _ H => E cls d H)) (hr : Room k X.A) (hg : Gl X x) (ha : PA X (e :: es) t) (hdb : (x == ("__debug__" : Str)) = false := by decide)
    (he : starEach (e :: es) X.env = (false, eval e X.env) :: starEach es X.env := by rfl) (hpl : (backTo pos (starEach es X.env)).any (·.1) = false := by rfl) : PE X (.Call (.Name x p) (e :: es) [] pos) (tCall sp [] E t) := by
  obtain ⟨f, fd, F, m, kp, b⟩ := h.ex
  exact pe_call F hr hg m kp b .nil (passes_call tk fun _ _ _ _ h => h) ha hdb he hpl
end
/-- the answer, or the error of a value that is none or out of its bounds -/
def spRadical (CE : Addr) : Sp := fun vs H Q E => (∃ n : Nat, vs = [.int n] ∧ 1 ≤ n ∧ n ≤ 1000000 ∧ Q (.int (radL n : Nat)) H) ∨
  ∃ (x : V) (t : String), vs = [x] ∧ Typ H x t ∧ (∀ i : Int, x = .int i → ¬ (1 ≤ i ∧ i ≤ 1000000)) ∧ ∀ d, H d = none → E (.ref CE) (some d) (upd H d (.xd (errD "given" "InvalidNumber" x)))
/-! ### a def by its positional values -/
structure HasR (P : Program) (w : World) (K : PySem.W.Frag) (mg : Str → Option Value) (base : Heap) (k : Nat) (x : Str) (sp : Sp) : Prop where
  ex : ∃ f : Addr, FnR P w K mg base CX0 k f sp ∧ mg x = some (.ref f) ∧ PySem.W.keepIn K (.ref f) = true
section
variable {X : Cx} {k : Nat} {x : Str} {sp : Sp} {p pos : Pos} {e : Expr} {es : List Expr} {t : TA}
theorem pe_ownR (h : HasR X.prog X.w X.K X.mg X.base k x sp) (hr : Room k X.A) (hg : Gl X x) (ha : PA X (e :: es) t) (hdb : (x == ("__debug__" : Str)) = false := by decide)
    (he : starEach (e :: es) X.env = (false, eval e X.env) :: starEach es X.env := by rfl) (hpl : (backTo pos (starEach es X.env)).any (·.1) = false := by rfl) : PE X (.Call (.Name x p) (e :: es) [] pos) (fun σ H Q => t σ H fun vs H1 => sp vs H1 Q E0) := by
  obtain ⟨f, F, m, kp⟩ := h.ex
  constructor
  intro pins s σ H Q I h
  apply wpAny_Call_Name_kw (ld_glob I hg m ?_ hdb)
  apply PySem.W.callWith_K (h₀ := X.base) I.ok.mod.kin kp _ he hpl
  apply thn (ha.run pos pins s σ H _ I h)
  rintro us s1 ⟨vs, H1, I1, r, q⟩
  exact ⟨I1.kIn, wpAny_call (run_fnR F hr pass0 I1 r q)⟩
end
theorem fold_take {f : Int → Int → Int} {z m : Int} {ns : List Int} {i : Nat} (h : ns[i]? = some m) : (ns.take (i + 1)).foldl f z = f ((ns.take i).foldl f z) m := by
  rw [List.take_add_one, h, List.foldl_append]
  rfl
theorem at_ints {ns : List Int} {i : Nat} {x : V} (h : (ns.map V.int)[i]? = some x) : ∃ m, ns[i]? = some m ∧ x = .int m := by
  rw [List.getElem?_map] at h
  cases hi : ns[i]? with
  | none => rw [hi] at h; cases h
  | some m =>
    rw [hi] at h
    cases h
    exact ⟨m, rfl, rfl⟩
/-- common(a, b) -/
def spCommon2 : Sp := fun vs H Q _ => ∃ a b : Int, vs = [.int a, .int b] ∧ ∀ H', Same H H' → Q (.int (gcdI a b)) H'
section
variable {P : Program} {w : World} {K : PySem.W.Frag} {mg : Str → Option Value} {base : Heap}
theorem ok_radical {CE fI cc cd : Addr} (F : Fn K mg "radical" s_radical ["number"]) (T : Txt mg) (E_InvalidNumber : ErrX.ErrTxt P K mg "InvalidNumber" "given" "InvalidNumber" CE fI cc cd)
    (G_is_between : Has P w K mg base 2 "is_between" ["value", "least", "most"] spBetween) (G_stripped : Has P w K mg base 1 "stripped" ["number", "base"] spStripped) : HasX P w K mg base 3 "radical" ["number"] (spRadical CE) := by
  obtain ⟨f, fd, F, m, b⟩ := F.ex
  refine ⟨f, fd, F.okX sc_radical (fun vs H Q E h => ?_) (fun cdv A outer s H vs Q E hr h => ?_), m, F.kp, b⟩
  · rcases h with ⟨n, rfl, _⟩ | ⟨x, t, rfl, _⟩
    · rfl
    · rfl
  have TK : Takes (cxOf (L2.CX P w) P w K mg base N_radical "radical" (defScope s_radical) f cdv A outer s H E) (fun cls d _ H => E cls d H) := takes_of rfl rfl rfl rfl
  refine ⟨_, (pss_cons (ps_if (pt_not (pt_val (pe_own G_is_between (hr.mono (by decide)) (by rfl) (pa_cons (pv 0) (pa_cons pe_int (pa_cons (pe_gint T.m_MOST_RADICAL (by rfl)) pa_nil))))))
        (pss_one (ps_raise rfl TK (pmk_err E_InvalidNumber hr (pa_cons (pv 0) pa_nil) (by rfl))))
        pss_nil)
      (pss_cons (ps_set (i := 1) sc_radical.nd rfl (Or.inl rfl) pe_int)
      (pss_cons (ps_set (i := 2) sc_radical.nd rfl (Or.inl rfl) (pv 0))
      (pss_cons (ps_set (i := 3) sc_radical.nd rfl (Or.inl rfl) pe_int)
      (pss_cons (ps_while (passes_of rfl) (pt_cmpR op_le (pe_op op_mul (pv 3) (pv 3)) (pv 2) (nomark _))
        (pss_cons (ps_if (pt_cmpR op_eq (pe_op op_mod (pv 2) (pv 3)) pe_int (nomark _))
        (pss_cons (ps_set (i := 1) sc_radical.nd rfl (Or.inl rfl) (pe_op op_mul (pv 1) (pv 3)))
      (pss_one (ps_set (i := 2) sc_radical.nd rfl (Or.inl rfl) (pe_own G_stripped (hr.mono (by decide)) (by rfl) (pa_cons (pv 2) (pa_cons (pv 3) pa_nil))))))
        pss_nil)
      (pss_one (ps_aug (i := 3) sc_radical.nd rfl (Or.inl rfl) pe_int ip_add))))
      (pss_one (ps_ret (pe_op op_mul (pv 1) (pv 2))))))))), ?_⟩
  rcases h with ⟨n, rfl, h1, h2, q⟩ | ⟨x, t, rfl, ht, hn, q⟩
  · refine ⟨_, rfl, _, "int", 1, 1000000, rfl, .int _, ?_⟩
    have e : (decide ((1 : Int) ≤ (n : Int)) && decide ((n : Int) ≤ 1000000)) = true := by
      rw [Bool.and_eq_true]
      exact ⟨decide_eq_true (by omega), decide_eq_true (by omega)⟩
    refine ⟨true, by show V.bl (decide ((1 : Int) ≤ (n : Int)) && decide ((n : Int) ≤ 1000000)) = _; rw [e], iteF ?_⟩
    refine ⟨_, rfl, ?_⟩
    refine while_by (fun σ H' => ∃ res rest p : Nat, σ = [some (.int n), some (.int (res : Int)), some (.int (rest : Int)), some (.int (p : Int))] ∧ RLoop n res rest p ∧ p ≤ 1001 ∧ H' = H)
      (fun σ _ => match σ with | [_, _, _, some (.int p)] => 1003 - p.toNat | _ => 0) ⟨1, n, 2, rfl, .start h1, by decide, rfl⟩ ?_ ?_
    · rintro σ H' ⟨res, rest, p, rfl, L, hp, rfl⟩
      have r0 := L.r0
      have rn := L.le
      have p2 := L.p2
      refine ⟨_, rfl, _, rfl, _, _, rfl, rfl, .inl ⟨by omega, by omega⟩, _, rfl, _, _, rfl, rfl, _, rfl, ?_⟩
      by_cases hc : p * p ≤ rest
      · have hp1000 : p ≤ 1000 := Nat.le_of_not_lt fun z => by
          have := Nat.mul_le_mul z z
          omega
        refine ite_of (decide_eq_true (by rw [← Int.natCast_mul]; exact Int.ofNat_le.mpr hc)) ⟨_, rfl, _, rfl, _, _, rfl, rfl, (by omega), rfl, _, rfl, ?_⟩
        by_cases hm : rest % p = 0
        · have hd := Nat.dvd_of_mod_eq_zero hm
          refine ite_of (decide_eq_true (by show V.int ((rest : Int) % (p : Int)) = V.int 0; rw [← Int.natCast_emod, hm]; rfl)) ?_
          refine ⟨_, rfl, _, rfl, _, _, rfl, rfl, .inr ⟨by omega, by omega⟩, _, rfl, _, rfl, rest, p, rfl, by omega, fun r hr => ?_⟩
          rcases hr with ⟨z, _⟩ | ⟨_, hr⟩
          · omega
          refine ⟨_, rfl, _, _, rfl, rfl, ⟨res * p, r, p + 1, ?_, L.take hd hr, by omega, rfl⟩, ?_⟩
          · rw [Int.natCast_mul, Int.natCast_add]
            rfl
          · show 1003 - ((p : Int) + 1).toNat < 1003 - (p : Int).toNat
            omega
        · refine ite_no (fun z => hm ?_) ⟨_, rfl, _, _, rfl, rfl, ⟨res, rest, p + 1, ?_, L.skip fun z => hm (Nat.mod_eq_zero_of_dvd z), by omega, rfl⟩, ?_⟩
          · have z' : V.int ((rest : Int) % (p : Int)) = V.int 0 := of_decide_eq_true z
            rw [← Int.natCast_emod] at z'
            injection z' with z'
            omega
          · rw [Int.natCast_add]
            rfl
          · show 1003 - ((p : Int) + 1).toNat < 1003 - (p : Int).toNat
            omega
      · refine ite_no (fun z => hc ?_) ?_
        · have z' := of_decide_eq_true z
          rw [← Int.natCast_mul] at z'
          exact Int.ofNat_le.mp z'
        · have e := L.done (by omega)
          refine ⟨_, rfl, _, rfl, _, _, rfl, rfl, .inr ⟨by omega, by omega⟩, ?_⟩
          have e' : V.int ((res : Int) * (rest : Int)) = V.int ((radL n : Nat) : Int) := by
            rw [← Int.natCast_mul, e, ← radL_eq (by omega)]
          show Q (V.int ((res : Int) * (rest : Int))) H'
          rw [e']
          exact q
    · rintro σ H' Q1 Q2 hq ⟨v1, e1, v2, e2, i, j, e3, e4, c, v3, e5, i2, j2, e6, e7, k, e8, z⟩
      exact ⟨v1, e1, v2, e2, i, j, e3, e4, c, v3, e5, i2, j2, e6, e7, k, e8, hq _ _ z⟩
  · refine ⟨_, rfl, x, t, 1, 1000000, rfl, ht, ?_⟩
    refine ⟨false, ?_, iteT ⟨_, rfl, x, rfl, q⟩⟩
    cases x with
    | int i =>
      have := hn i rfl
      show V.bl (decide (1 ≤ i) && decide (i ≤ 1000000)) = _
      congr 1
      rw [Bool.and_eq_false_iff]
      by_cases h1 : 1 ≤ i
      · exact .inr (decide_eq_false fun z => this ⟨h1, z⟩)
      · exact .inl (decide_eq_false h1)
    | _ => rfl
theorem ok_common (F : ∃ (f : Addr) (fd : FuncData), Fun K "common" "common" s_common f fd ∧ mg "common" = some (.ref f)) (T : Txt mg) : HasR P w K mg base 1 "common" spCommon2 := by
  obtain ⟨f, fd, F, m⟩ := F
  have kp := F.kp
  obtain ⟨oc, od, kV, doc, pm, an, cdv, ct, osl, rfl, lk, hcd⟩ := F.ex
  have R := StX.fn_star (P := P) (w := w) (mg := mg) (base := base) (CX := CX0) (k := 0) (sp := fun vs H Q _ => ∃ (p : Addr) (ns : List Int), vs = [.ref p] ∧ H p = some (.tup (ns.map V.int)) ∧ Q (.int (ns.foldl gcdI 0)) H) (ps := []) (pv := "numbers") (N := N_common) lk hcd sc_common StX.cxUp_none (fun us rest hl => match us, rest, hl with | [], [], _ => rfl | [], _ :: _, _ => rfl) (fun A outer s H vs Q E hr h => by
    obtain ⟨p, ns, rfl, hp, q⟩ := h
    refine ⟨_, PSs.nox (pss_cons (ps_set (i := 1) sc_common.nd rfl (Or.inl rfl) pe_int)
      (pss_cons (ps_for PassesOwn.never rfl (pi_tup (pv 0)) (pg_name (i := 2) sc_common.nd rfl (Or.inl rfl))
        (pss_one (ps_set (i := 1) sc_common.nd rfl (Or.inl rfl) (pe_callBfun cr_gcd (by rfl) T.m_gcd (pa_cons (pv 1) (pa_cons (pv 2) pa_nil))))))
      (pss_one (ps_ret (pv 1))))), ?_⟩
    refine ⟨_, rfl, p, rfl, ⟨_, SqT.of hp⟩, for_tup (fun i σ H' => ∃ y, σ = [some (.ref p), some (.int ((ns.take i).foldl gcdI 0)), y] ∧ H' = H) ⟨none, rfl, rfl⟩ (fun i σ H' _ ⟨_, _, e⟩ => e ▸ SqT.of hp) ?_ ?_⟩
    · rintro i x σ H' hx ⟨y, rfl, rfl⟩
      obtain ⟨m, hm, rfl⟩ := at_ints hx
      refine ⟨_, rfl, _, rfl, _, _, rfl, some (.int m), ?_, rfl⟩
      rw [fold_take hm]
      rfl
    · rintro σ H' ⟨y, rfl, rfl⟩
      rw [List.length_map, List.take_length]
      exact ⟨_, rfl, q⟩)
  refine ⟨f, R.imp fun vs H Q E ⟨a, b, ev, q⟩ => ⟨[], vs, rfl, rfl, ?_, fun p hp => ⟨p, [a, b], rfl, ?_, ?_⟩⟩, m, kp⟩
  · rw [ev]
    exact (by show 2 ≤ sizeLine; decide)
  · rw [ev]
    exact upd_same
  · have e : [a, b].foldl gcdI 0 = gcdI a b := by
      show gcdI (gcdI 0 a) b = gcdI a b
      unfold gcdI
      simp
    rw [e]
    exact q _ (same_upd hp)
end
end My
/-! own classes: static methods, properties, ==, repr, bool -/
namespace OwO
open PySem PySem.Spec PyProof.Rows L2
/-- C.m is a static method: its record at p, its def at g -/
structure CStat (K : PySem.W.Frag) (C : Addr) (mc : Value) (m : Str) (p g : Addr) : Prop where
  at_ : PySem.W.findCls K (.ref C) mc m = some (.get (.builtin "staticmethod.__get__") (.ref p) .none (.ref C))
  rc : ∃ rest, PySem.W.recIn K p "staticmethod" = some (.ref g :: rest)
/-- a special method of the class at C: a def of it -/
structure Spc (K : PySem.W.Frag) (C : Addr) (m : Str) (f : Addr) : Prop where
  at_ : PySem.W.findIn K (.ref C) m = some (some (.ref f))
  fn : PySem.W.isFn K (.ref f) = true
def tStat (C : Addr) (sp : Sp) (dvs : List V) (E : XK) (ta : TE) (t : TA) : TE := fun σ H Q => ta σ H fun x H1 => x = .ref C ∧ t σ H1 fun vs H2 => sp (vs ++ dvs) H2 Q E
section
variable {X : Cx} {pins : List (Addr × Obj)} {σ : L2.St} {H : Hp} {s : Shared}
theorem getmethst_ok {C p g : Addr} {mc : Value} {m : Str} {pl : Sem Bool} {A : Around} {E : Value → Shared → Prop} {Q : Value × List Value → Shared → Prop} (I : Inv X pins σ H s) (r : ClX.CRead X.K C mc) (k : CStat X.K C mc m p g)
    (h : ∀ s', Inv X pins σ H s' → Q (.ref g, []) s') : wpAny (model X.prog X.w) A (getMethod (.ref C) m pl) Q E s := by
  obtain ⟨rest, hp⟩ := k.rc
  refine PySem.W.method_cls I.kIn r.ga (PySem.W.cls_bind I.kIn r.rd k.at_ ?_)
  exact wpAny_call (PySem.W.sm_get (s := { s with toks := s.toks + 1 }) I.kIn hp (PySem.W.handed_on rfl (h _ (I.tok _))))
end
section
variable {X : Cx} {CX : CXT} {k : Nat} {C p g : Addr} {mc : Value} {fd : FuncData} {ps : List Str} {ds : List Value} {dvs : List V} {sp : Sp} {E : XK} {o e : Expr} {es : List Expr} {m : Str} {pos apos : Pos} {ta : TE} {t : TA} {pl : Sem Bool}
/-- C.m() -/
theorem pe_stat0 (he : PE X o ta) (r : ClX.CRead X.K C mc) (c : CStat X.K C mc m p g) (F : FnOk X.prog X.w X.K X.mg X.base CX k g fd ps sp) (hr : Room k X.A) (hk : PySem.W.keepIn X.K (.ref g) = true) (hb : Binds X.K fd ps ds) (hd : Vals dvs ds) (hx : Passes CX X E)
    (ht : eval (.Call (.Attribute o m apos) [] [] pos) X.env = (do
      let ov ← eval o X.env
      standAt apos.atName
      let (f, first) ← holding [ov] (getMethod ov m pl)
      callWith pos f first (backTo pos (starEach [] X.env)) (backToKw pos (keywordEach [] X.env))) := by rfl) :
    PE X (.Call (.Attribute o m apos) [] [] pos) (tStat C sp dvs E ta tNil) := by
  refine ⟨fun pins s σ H Q I h => ?_⟩
  refine PySem.W.methodCall_KW (pl := pl) (thn (he.run pins s σ H _ I h) fun u s1 ⟨x, H1, I1, rx, ex, q⟩ => ?_) ht
  subst ex
  obtain rfl : u = Value.ref C := rx
  refine getmethst_ok I1 r c fun s2 I2 => ?_
  exact PySem.W.callWith_K0 I2.kIn hk (run_fn F hr hb hd hx I2 .nil q)
/-- C.m(e, ..) -/
theorem pe_stat (he : PE X o ta) (r : ClX.CRead X.K C mc) (c : CStat X.K C mc m p g) (F : FnOk X.prog X.w X.K X.mg X.base CX k g fd ps sp) (hr : Room k X.A) (hk : PySem.W.keepIn X.K (.ref g) = true) (hb : Binds X.K fd ps ds) (hd : Vals dvs ds) (hx : Passes CX X E) (ha : PA X (e :: es) t)
    (hst : starEach (e :: es) X.env = (false, eval e X.env) :: starEach es X.env := by rfl) (hpl : (backTo pos (starEach es X.env)).any (·.1) = false := by rfl)
    (ht : eval (.Call (.Attribute o m apos) (e :: es) [] pos) X.env = (do
      let ov ← eval o X.env
      standAt apos.atName
      let (f, first) ← holding [ov] (getMethod ov m pl)
      callWith pos f first (backTo pos (starEach (e :: es) X.env)) (backToKw pos (keywordEach [] X.env))) := by rfl) :
    PE X (.Call (.Attribute o m apos) (e :: es) [] pos) (tStat C sp dvs E ta t) := by
  refine ⟨fun pins s σ H Q I h => ?_⟩
  refine PySem.W.methodCall_KW (pl := pl) (thn (he.run pins s σ H _ I h) fun u s1 ⟨x, H1, I1, rx, ex, q⟩ => ?_) ht
  subst ex
  obtain rfl : u = Value.ref C := rx
  refine getmethst_ok I1 r c fun s2 I2 => ?_
  refine PySem.W.callWith_K (h₀ := X.base) I2.ok.mod.kin hk (thn (ha.run pos pins s2 σ H1 _ I2 q) fun us s3 ⟨vs, H2, I3, rv, q2⟩ => ⟨I3.kIn, ?_⟩) hst hpl
  exact run_fn F hr hb hd hx I3 rv q2
end
/-! ### what an own special method answers -/
section
variable {X : Cx} {K0 : PySem.W.Frag} {k : Nat} {C f : Addr} {fd : FuncData} {ps : List Str} {sp : Sp}
/-- repr(o) -/
theorem cr_repr {m : Str} (hm : m = "__repr__") (S : Spc X.K C m f) (F : FnOk X.prog X.w X.K X.mg X.base CX0 k f fd ps sp) (hb : Binds X.K fd ps []) (hr : Room (k + 1) X.A) :
    CallR X (.builtin "repr") (fun xs H Q => ∃ a dx fs, xs = [.ref a] ∧ H a = some (.ins C dx fs) ∧ sp [.ref a] H (fun v H' => ∃ z : Str, v = .str z ∧ Q (.str z) H') E0) := by
  subst hm
  intro pins s σ H xs us Q I r h
  obtain ⟨a, dx, fs, rfl, ha, hsp⟩ := h
  obtain rfl := Vals.ref1 r
  obtain ⟨mA, J, _⟩ := ins_get I.hok ha
  obtain ⟨od, J, _⟩ := J.look
  obtain ⟨m, hF⟩ := I.fr
  have hl := F.len _ _ _ _ hsp
  refine PySem.W.repr_K hr.in1.units0 hF I.ok.mod.kin J S.at_ S.fn ?_
  refine wpAny_call (codeAny_mono (F.run X.A.in1 X.stack s H ⟨[.ref a], []⟩ [.ref a] [.ref a] _ E0 hr.in1 I.env0.in1 (hb s [.ref a] I.kIn (by simpa using hl)) (.cons rfl .nil) hsp) fun r s' hq => ?_)
  cases r with
  | error e => exact (show False from hq).elim
  | ok fl =>
    cases fl with
    | ret w =>
      obtain ⟨v, H', I', rv, z, rfl, q⟩ := I.after hq
      obtain ⟨t, rfl⟩ := rv
      exact ⟨.str z, H', I', ⟨t, rfl⟩, q⟩
    | next => exact False.elim hq
    | brk => exact False.elim hq
    | cont => exact False.elim hq
/-- bool(o), by an own __bool__ -/
theorem call_boolK {prog : Program} {w : World} {A : Around} {E : Value → Shared → Prop} {s : Shared} {K : PySem.W.Frag} {L x C f : Addr} {h₀ : Heap} {mm : Str → Option Value} {ox : Obj} {od : Option Obj} {Q : Value → Shared → Prop} (F : Fr h₀ L s.heap mm) (X₀ : K.In h₀) (I : PySem.W.InstAt s.heap x ox C od)
    (hs : PySem.W.findIn K (.ref C) "__bool__" = some (some (.ref f))) (hf : PySem.W.isFn K (.ref f) = true) (h : wpAny (model prog w) A.in1.in1 (call (.ref f) [.ref x]) (PySem.W.BoolBack fun b => Q (.bool b)) E s) : wpAny (model prog w) A (call (.type "bool") [.ref x]) Q E s := by
  refine callType_codes (T := "bool") (Bi := Builtin.«object.__init__») (Q₁ := fun r s₁ => ∃ b, r = .bool b ∧ Q r s₁) PySem.F.called_bool (PySem.F.typeCall_bool_1 _) PySem.F.entry_object_init ?_ ?_
  · refine codeAny_of_tree ?_
    show wpAny _ A.in1.in1 (do checkBuiltinCall "bool.__new__" ⟨[.type "bool", .ref x], []⟩; again (.builtin "bool.__new__" ⟨[.type "bool", .ref x], []⟩)) _ _ s
    refine wpAny_bind (wpAny_of_eq (PySem.F.newCall_bool_1 _) (wpAny_pure ⟨plainId_quiet (by decide +kernel) _, codeAny_builtin PySem.F.entry_bool_new ?_⟩))
    rw [Around.under_plainId (by decide +kernel) _]
    unfold Builtin.«bool.__new__»
    have f1 := PySem.F.conv_sub_bool
    have key : wpAny (model prog w) A.in1.in1 (truthy (.ref x)) (fun b s₁ => Q (.bool b) s₁) E s := PySem.W.truthy_K F X₀ I hs hf h
    obtain ⟨hp, g, d, tk, os⟩ := s
    repeat (any_goals (first | assumption | (with_reducible refine wpAny_bind (wpAny_mono key (fun b s₁ hq => ?_) fun _ _ y => y)) | wp_step))
    all_goals first | exact ⟨_, rfl, _, rfl, hq⟩ | exact ⟨_, rfl, hq⟩ | exact hq | skip
  · rintro obj s₁ ⟨b, rfl, hq⟩
    exact ⟨rfl, PySem.F.args_object_init_2 _ _, object_init_meets PySem.F.called_bool.init.lookup PySem.F.called_bool.made (by decide) prog w A.in1 _ s₁ ⟨rfl, rfl, hq⟩⟩
theorem ct_bool {m : Str} (hm : m = "__bool__") (S : Spc X.K C m f) (F : FnOk X.prog X.w X.K X.mg X.base CX0 k f fd ps sp) (hb : Binds X.K fd ps []) (hr : Room (k + 2) X.A) :
    CallR X (.type "bool") (fun xs H Q => ∃ a dx fs, xs = [.ref a] ∧ H a = some (.ins C dx fs) ∧ sp [.ref a] H (fun v H' => ∃ b : Bool, v = .bl b ∧ Q (.bl b) H') E0) := by
  subst hm
  intro pins s σ H xs us Q I r h
  obtain ⟨a, dx, fs, rfl, ha, hsp⟩ := h
  obtain rfl := Vals.ref1 r
  obtain ⟨mA, J, _⟩ := ins_get I.hok ha
  obtain ⟨od, J, _⟩ := J.look
  obtain ⟨m, hF⟩ := I.fr
  have hl := F.len _ _ _ _ hsp
  refine call_boolK hF I.ok.mod.kin J S.at_ S.fn ?_
  refine wpAny_call (codeAny_mono (F.run X.A.in1.in1 X.stack s H ⟨[.ref a], []⟩ [.ref a] [.ref a] _ E0 hr.in1.in1 I.env0.in1.in1 (hb s [.ref a] I.kIn (by simpa using hl)) (.cons rfl .nil) hsp) fun r s' hq => ?_)
  cases r with
  | error e => exact (show False from hq).elim
  | ok fl =>
    cases fl with
    | ret w =>
      obtain ⟨v, H', I', rv, z, rfl, q⟩ := I.after hq
      cases rv
      exact ⟨.bl z, H', I', rfl, q⟩
    | next => exact False.elim hq
    | brk => exact False.elim hq
    | cont => exact False.elim hq
/-- o == y, by an own __eq__ (y no instance of a class below o's) -/
def rEqO (K : PySem.W.Frag) (C : Addr) (sp : Sp) : R2 := fun x y H Q => ∃ a dx fs t, x = .ref a ∧ H a = some (.ins C dx fs) ∧ TyX K H y t ∧ PySem.W.notFirst K C t = true ∧ sp [.ref a, y] H (fun v H' => ∃ b : Bool, v = .bl b ∧ Q (.bl b) H') E0
theorem op_eqO {m : Str} (hm : m = "__eq__") (S : Spc X.K C m f) (F : FnOk X.prog X.w X.K X.mg X.base CX0 k f fd ps sp) (hb : Binds X.K fd ps []) (hr : Room k X.A) (hK : X.K = K0) : OpR X (compareOp .Eq) (rEqO K0 C sp) := by
  subst hm hK
  intro pins s σ H x y u v Q I rx ry h
  obtain ⟨a, dx, fs, t, rfl, ha, ty, hn, hsp⟩ := h
  obtain rfl : u = Value.ref a := rx
  obtain ⟨mA, J, _⟩ := ins_get I.hok ha
  obtain ⟨od, J, _⟩ := J.look
  obtain ⟨m, hF⟩ := I.fr
  obtain ⟨P, kx, hP, _⟩ := kit_of I ry ty
  have hl := F.len _ _ _ _ hsp
  show wpAny _ _ (richCompare .Eq (.ref a) v) _ _ _
  refine PySem.W.cmp_K (op := .Eq) hr.units0 hF I.ok.mod.kin J (kx.ty _ _ I.kIn hP) hn S.at_ S.fn ?_
  refine wpAny_call (codeAny_mono (F.run X.A X.stack s H ⟨[.ref a, v], []⟩ [.ref a, v] [.ref a, y] _ E0 hr I.env0 (by
    have z := hb s [.ref a, v] I.kIn (by simpa using hl)
    simpa using z) (.cons rfl (.cons ry .nil)) hsp) fun r s' hq => ?_)
  cases r with
  | error e => exact (show False from hq).elim
  | ok fl =>
    cases fl with
    | ret w =>
      obtain ⟨z, H', I', rv, b, rfl, q⟩ := I.after hq
      cases rv
      exact ⟨.bl b, H', I', rfl, q⟩
    | next => exact False.elim hq
    | brk => exact False.elim hq
    | cont => exact False.elim hq
end
end OwO
/-! normal numbers -/
namespace My
open PySem PySem.Spec PyProof.Rows L2
theorem dec0 (n : Nat) : decide (V.int (n : Int) = V.int 0) = decide (n = 0) := by
  by_cases h : n = 0
  · subst h
    rfl
  · rw [decide_eq_false h, decide_eq_false]
    intro z
    injection z with z
    omega
def Strip (n b r : Nat) : Prop := (n = 0 ∧ r = 0) ∨ (0 < n ∧ IsStrip n b r)
theorem Strip.one {n b r r' : Nat} (h : Strip n b r) (h' : Strip n b r') : r = r' := by
  rcases h with ⟨a, rfl⟩ | ⟨a, h⟩
  · rcases h' with ⟨_, rfl⟩ | ⟨b, _⟩
    · rfl
    · omega
  · rcases h' with ⟨b, _⟩ | ⟨_, h'⟩
    · omega
    · exact strip_one h h'
theorem Strip.zero {n b r : Nat} (h : Strip n b r) : r = 0 ↔ n = 0 := by
  rcases h with ⟨a, b⟩ | ⟨a, h⟩
  · exact ⟨fun _ => a, fun _ => b⟩
  · constructor
    · intro z
      subst z
      exact Nat.eq_zero_of_zero_dvd h.1
    · omega
theorem Strip.le {n b r : Nat} (h : Strip n b r) : r ≤ n := by
  rcases h with ⟨a, b⟩ | ⟨a, h⟩
  · omega
  · exact Nat.le_of_dvd a h.1
theorem Strip.by_one {n : Nat} : Strip n 1 n := by
  by_cases h : n = 0
  · exact .inl ⟨h, h⟩
  · exact .inr ⟨by omega, Nat.dvd_refl _, Nat.coprime_one_right _, 0, by simp⟩
theorem Strip.again {n b r : Nat} (h : Strip n b r) : Strip r b r := by
  rcases h with ⟨a, h⟩ | ⟨a, h1, h2, h3⟩
  · exact .inl ⟨h, h⟩
  · by_cases r0 : r = 0
    · exact .inl ⟨r0, r0⟩
    · exact .inr ⟨by omega, Nat.dvd_refl _, h2, 0, by simp⟩
/-- stripping keeps divisors, up to a factor c -/
theorem Strip.dvd {n m b r q c : Nat} (h : Strip n b r) (h' : Strip m b q) (hd : n ∣ c * m) : r ∣ c * q := by
  rcases h with ⟨a, rfl⟩ | ⟨a, h1, h2, _⟩
  · subst a
    have z := Nat.eq_zero_of_zero_dvd hd
    rcases Nat.mul_eq_zero.mp z with e | e
    · rw [e, Nat.zero_mul]; exact Nat.dvd_refl _
    · rw [h'.zero.mpr e]; exact Nat.dvd_zero _
  · rcases h' with ⟨e, rfl⟩ | ⟨_, _, _, k, h3⟩
    · exact Nat.dvd_zero _
    · have w : r ∣ c * q * b ^ k := by
        rw [Nat.mul_assoc]
        exact Nat.dvd_trans h1 (Nat.dvd_trans hd (Nat.mul_dvd_mul_left c h3))
      exact (h2.pow_right k).dvd_of_dvd_mul_right w
/-- the normal form d' o' s' t' of the numbers d o s t (d a product of primes) -/
structure Nrm (d o s t d' o' s' t' : Nat) : Prop where
  ed : d' = if Nat.gcd o (2 * t) = 0 then d else 1
  eo : Strip (Nat.gcd o (2 * t)) d o'
  es : Strip (Nat.gcd s (Nat.gcd t (Nat.gcd o (2 * t)))) d s'
  et : Strip (Nat.gcd t (Nat.gcd o (2 * t))) d t'
theorem Nrm.one {d o s t d' o' s' t' d'' o'' s'' t'' : Nat} (h : Nrm d o s t d' o' s' t') (h' : Nrm d o s t d'' o'' s'' t'') : d' = d'' ∧ o' = o'' ∧ s' = s'' ∧ t' = t'' := ⟨h.ed.trans h'.ed.symm, h.eo.one h'.eo, h.es.one h'.es, h.et.one h'.et⟩
theorem Nrm.st {d o s t d' o' s' t' : Nat} (h : Nrm d o s t d' o' s' t') : s' ∣ t' := by
  have z := h.es.dvd h.et (c := 1) (by rw [Nat.one_mul]; exact Nat.gcd_dvd_right _ _)
  rw [Nat.one_mul] at z
  exact z
theorem Nrm.to {d o s t d' o' s' t' : Nat} (h : Nrm d o s t d' o' s' t') : t' ∣ o' := by
  have z := h.et.dvd h.eo (c := 1) (by rw [Nat.one_mul]; exact Nat.gcd_dvd_right _ _)
  rw [Nat.one_mul] at z
  exact z
theorem Nrm.ot {d o s t d' o' s' t' : Nat} (h : Nrm d o s t d' o' s' t') : o' ∣ 2 * t' := by
  refine h.eo.dvd h.et (c := 2) ?_
  rw [← Nat.gcd_mul_left]
  exact Nat.dvd_gcd (Nat.gcd_dvd_right _ _) (Nat.dvd_mul_left _ _)
theorem Nrm.dz {d o s t d' o' s' t' : Nat} (h : Nrm d o s t d' o' s' t') (h1 : 1 < d') : o' = 0 := by
  have e := h.ed
  by_cases c : Nat.gcd o (2 * t) = 0
  · exact h.eo.zero.mpr c
  · rw [if_neg c] at e
    omega
/-- the normal form of a normal form -/
theorem Nrm.again {d o s t d' o' s' t' : Nat} (h : Nrm d o s t d' o' s' t') : Nrm d' o' s' t' d' o' s' t' := by
  have g1 : Nat.gcd o' (2 * t') = o' := Nat.gcd_eq_left h.ot
  have g2 : Nat.gcd t' o' = t' := Nat.gcd_eq_left h.to
  have g3 : Nat.gcd s' t' = s' := Nat.gcd_eq_left h.st
  have st : ∀ {n r : Nat}, Strip n d r → Strip r d' r := fun {n r} z => by
    rw [h.ed]
    split
    · exact z.again
    · exact .by_one
  refine ⟨?_, ?_, ?_, ?_⟩
  · rw [g1]
    by_cases c : o' = 0
    · rw [if_pos c]
    · rw [if_neg c, h.ed, if_neg fun z => c (h.eo.zero.mpr z)]
  · rw [g1]; exact st h.eo
  · rw [g1, g2, g3]; exact st h.es
  · rw [g1, g2]; exact st h.et
theorem Nrm.rad {d o s t d' o' s' t' : Nat} (h : Nrm d o s t d' o' s' t') (d0 : 0 < d) (hd : radP d = d) : 0 < d' ∧ d' ≤ d ∧ radP d' = d' := by
  rw [h.ed]
  split
  · exact ⟨d0, Nat.le_refl _, hd⟩
  · exact ⟨Nat.one_pos, d0, radP_one⟩
def tupR (d o s t : Nat) : HO := .tup [.int (d : Int), .int (o : Int), .int (s : Int), .int (t : Int)]
def spNormal : Sp := fun vs H Q _ => ∃ d o s t : Nat, vs = [.int d, .int o, .int s, .int t] ∧ o < 2 ^ 100 ∧ s < 2 ^ 100 ∧ t < 2 ^ 100 ∧
  ∀ (H' : Hp) (T : Addr) (d' o' s' t' : Nat), Nrm d o s t d' o' s' t' → Same H H' → H T = none → H' T = some (tupR d' o' s' t') → Q (.ref T) H'
section
variable {P : Program} {w : World} {K : PySem.W.Frag} {mg : Str → Option Value} {base : Heap}
theorem ok_normal (F : Fn K mg "normal_numbers" s_normal_numbers ["inverse", "ones", "swaps", "squares"]) (B : Blt mg) (G_common : HasR P w K mg base 1 "common" spCommon2) (G_stripped : Has P w K mg base 1 "stripped" ["number", "base"] spStripped) :
    Has P w K mg base 2 "normal_numbers" ["inverse", "ones", "swaps", "squares"] spNormal := by
  refine F.has sc_normal_numbers (fun vs H Q E h => ?_) (fun f cdv A outer s H vs Q E hr h => ?_)
  · obtain ⟨d, o, s, t, rfl, _⟩ := h
    rfl
  obtain ⟨d, o, sw, t, rfl, ho, hs, ht, q⟩ := h
  refine ⟨_, (pss_cons (ps_set (i := 1) sc_normal_numbers.nd rfl (Or.inl rfl) (pe_ownR G_common (hr.mono (by decide)) (by rfl) (pa_cons (pv 1) (pa_cons (pe_op op_mul pe_int (pv 3)) pa_nil))))
      (pss_cons (ps_set (i := 3) sc_normal_numbers.nd rfl (Or.inl rfl) (pe_ownR G_common (hr.mono (by decide)) (by rfl) (pa_cons (pv 3) (pa_cons (pv 1) pa_nil))))
      (pss_cons (ps_set (i := 2) sc_normal_numbers.nd rfl (Or.inl rfl) (pe_ownR G_common (hr.mono (by decide)) (by rfl) (pa_cons (pv 2) (pa_cons (pv 3) pa_nil))))
      (pss_cons (ps_setLc (i := 4) (own := [("number", 5)]) (g := gName 5) (tt := tYes) (by rfl) sc_normal_numbers.nd rfl rfl (sw_true rfl rfl rfl (by decide +kernel)) (pi_tup (pe_tup (pa_cons (pv 1) (pa_cons (pv 2) (pa_cons (pv 3) pa_nil))))) (blkOk_by (own := [("number", 5)]) (N := N_normal_numbers) (sc := defScope s_normal_numbers) (by decide +kernel)) (fun _ _ _ _ _ => (pg_name (i := 5) sc_normal_numbers.nd rfl (Or.inl rfl))) (fun _ _ _ _ _ => pts_nil) (fun _ _ _ _ _ => (pe_own G_stripped (hr.mono (by decide)) (by rfl) (pa_cons (pv 5) (pa_cons (pv 0) pa_nil)))))
      (pss_one (ps_ret (pe_tup (pa_cons (pe_ifExp (pt_cmpR op_ne (pv 1) pe_int (nomark _)) pe_int (pv 0)) (StX.pa_star (pv 4) pa_nil))))))))), ?_⟩
  have e1 : gcdI (o : Int) (2 * (t : Int)) = ((Nat.gcd o (2 * t) : Nat) : Int) := gcdN o (2 * t)
  refine ⟨_, rfl, _, rfl, _, _, rfl, rfl, .inl ⟨by omega, by omega⟩, _, _, rfl, fun H1 s1 => ?_⟩
  rw [e1]
  refine ⟨_, rfl, _, rfl, _, _, rfl, fun H2 s2 => ?_⟩
  rw [gcdN]
  refine ⟨_, rfl, _, rfl, _, _, rfl, fun H3 s3 => ?_⟩
  rw [gcdN]
  have b1 : Nat.gcd o (2 * t) < 2 ^ 200 := by
    by_cases z : o = 0
    · rw [z, Nat.gcd_zero_left]; omega
    · exact Nat.lt_of_le_of_lt (Nat.le_of_dvd (by omega) (Nat.gcd_dvd_left _ _)) (by omega)
  have b2 : Nat.gcd t (Nat.gcd o (2 * t)) < 2 ^ 200 := by
    by_cases z : t = 0
    · rw [z, Nat.gcd_zero_left]; rw [z] at b1; exact b1
    · exact Nat.lt_of_le_of_lt (Nat.le_of_dvd (by omega) (Nat.gcd_dvd_left _ _)) (by omega)
  have b3 : Nat.gcd sw (Nat.gcd t (Nat.gcd o (2 * t))) < 2 ^ 200 := by
    by_cases z : sw = 0
    · rw [z, Nat.gcd_zero_left]; exact b2
    · exact Nat.lt_of_le_of_lt (Nat.le_of_dvd (by omega) (Nat.gcd_dvd_left _ _)) (by omega)
  have s13 := s1.trans (s2.trans s3)
  refine ⟨_, rfl, _, rfl, _, rfl, (by show 3 ≤ sizeLine; decide), fun p hp => ?_⟩
  have ep : ∀ H' : Hp, H' p = some (.tup (vNats [Nat.gcd o (2 * t), Nat.gcd sw (Nat.gcd t (Nat.gcd o (2 * t))), Nat.gcd t (Nat.gcd o (2 * t))])) → SqT K H' p (vNats [Nat.gcd o (2 * t), Nat.gcd sw (Nat.gcd t (Nat.gcd o (2 * t))), Nat.gcd t (Nat.gcd o (2 * t))]) := fun H' e => SqT.of e
  obtain ⟨ns, hns⟩ : ∃ ns, ns = [Nat.gcd o (2 * t), Nat.gcd sw (Nat.gcd t (Nat.gcd o (2 * t))), Nat.gcd t (Nat.gcd o (2 * t))] := ⟨_, rfl⟩
  have hb : ∀ n ∈ ns, n < 2 ^ 200 := by
    rw [hns]
    intro n hn
    simp only [List.mem_cons, List.not_mem_nil, or_false] at hn
    rcases hn with rfl | rfl | rfl <;> assumption
  have ns3 : ns.length = 3 := by rw [hns]; rfl
  have s4 : Same H3 (upd H3 p (.tup (vNats ns))) := same_upd hp
  have at_ : (upd H3 p (.tup (vNats ns))) p = some (.tup (vNats ns)) := upd_same
  have g0 : ns[0]? = some (Nat.gcd o (2 * t)) := by rw [hns]; rfl
  have g1 : ns[1]? = some (Nat.gcd sw (Nat.gcd t (Nat.gcd o (2 * t)))) := by rw [hns]; rfl
  have g2 : ns[2]? = some (Nat.gcd t (Nat.gcd o (2 * t))) := by rw [hns]; rfl
  have ev : [V.int ((Nat.gcd o (2 * t) : Nat) : Int), V.int ((Nat.gcd sw (Nat.gcd t (Nat.gcd o (2 * t))) : Nat) : Int), V.int ((Nat.gcd t (Nat.gcd o (2 * t)) : Nat) : Int)] = vNats ns := by rw [hns]; rfl
  rw [ev]
  refine ⟨p, rfl, ⟨_, SqT.of at_⟩, fun D hD => ?_⟩
  refine lc_it (walk_tup (xs := vNats ns)) (fun i H' => Same (upd H3 p (.tup (vNats ns))) H' ∧ ∃ rs : List Nat, rs.length = i ∧ H' D = some (.lst (vNats rs)) ∧ ∀ (j r n : Nat), rs[j]? = some r → ns[j]? = some n → Strip n d r)
    ⟨same_upd hD, [], rfl, upd_same, fun j r n z => by simp at z⟩ (fun i H' _ h => SqT.of (h.1 _ _ at_)) ?_ ?_
  · rintro i v H4 H5 hi ⟨s5, rs, hl, e5, all⟩ ⟨rfl, hv⟩
    obtain ⟨n, hn⟩ : ∃ n, ns[i]? = some n := by
      have : i < ns.length := by simpa using hi
      exact ⟨_, List.getElem?_eq_getElem this⟩
    have hv' : v = V.int (n : Int) := by
      rw [List.getElem?_map, hn] at hv
      exact (Option.some.inj hv).symm
    subst hv'
    refine ⟨rfl, tYes_ok ⟨_, rfl, _, rfl, n, d, rfl, hb n (List.mem_of_getElem? hn), fun r hr => ?_⟩⟩
    have hi3 : i < 3 := by
      have : i < ns.length := by simpa using hi
      omega
    refine ⟨_, e5, small1000 (by rw [List.length_map]; omega), fun c o' hc => ?_, rs ++ [r], by simp [hl], ?_, fun j r' n' h1 h2 => ?_⟩
    · rw [upd_ne (ne_of_none hc hD)]
      exact s5 _ _ hc
    · rw [upd_same]
      simp
    · by_cases hj : j < rs.length
      · rw [List.getElem?_append_left hj] at h1
        exact all j r' n' h1 h2
      · have ej : j = i := by
          have := (List.getElem?_eq_some_iff.mp h1).1
          simp at this
          omega
        subst ej
        rw [List.getElem?_append_right (by omega), hl] at h1
        simp at h1
        rw [hn] at h2
        cases h2
        subst h1
        exact hr
  · rintro H6 ⟨s6, rs, hl, e6, all⟩
    rw [List.length_map, ns3] at hl
    match rs, hl with
    | [a, b, c], _ =>
    have ha := all 0 a _ rfl g0
    have hbq := all 1 b _ rfl g1
    have hc := all 2 c _ rfl g2
    have sa := s13.trans (s4.trans s6)
    by_cases z : Nat.gcd o (2 * t) = 0
    · refine ⟨_, rfl, rfl, _, rfl, ite_no (by rw [dec0, decide_eq_true z]; decide) ?_⟩
      refine ⟨_, rfl, _, rfl, D, _, rfl, .inr (SqL.of e6), (by show 4 ≤ sizeLine; decide), fun T hT => ?_⟩
      exact q _ T d a b c ⟨by rw [if_pos z], ha, hbq, hc⟩ (sa.trans (same_upd hT)) (sa.free hT) upd_same
    · refine ⟨_, rfl, rfl, _, rfl, ite_of (by rw [dec0, decide_eq_false z]; rfl) ?_⟩
      refine ⟨_, rfl, D, _, rfl, .inr (SqL.of e6), (by show 4 ≤ sizeLine; decide), fun T hT => ?_⟩
      exact q _ T 1 a b c ⟨by rw [if_neg z], ha, hbq, hc⟩ (sa.trans (same_upd hT)) (sa.free hT) upd_same
end
end My
/-! a realm and its making -/
namespace My
open PySem PySem.Spec PyProof.Rows L2
abbrev psR : List Str := ["self", "inverse", "ones", "swaps", "squares"]
abbrev kwsR : List (Str × V) := [("inverse", .int 1), ("ones", .int 0), ("swaps", .int 0), ("squares", .int 0)]
def RealmAt (C : Addr) (H : Hp) (a : Addr) (d o s t : Nat) : Prop := ∃ dx T, H a = some (.ins C dx [("_normal", .ref T)]) ∧ H T = some (tupR d o s t)
theorem RealmAt.same {C : Addr} {H H' : Hp} {a : Addr} {d o s t : Nat} (h : RealmAt C H a d o s t) (k : Same H H') : RealmAt C H' a d o s t := by
  obtain ⟨dx, T, h1, h2⟩ := h
  exact ⟨dx, T, k _ _ h1, k _ _ h2⟩
/-- the four arguments, good ones (G) or with a first wrong one (E) -/
def RlmG (CE : Addr) (xs : List V) (H : Hp) (G : Nat → Nat → Nat → Nat → Prop) (E : XK) : Prop :=
  (∃ i o s t : Nat, xs = [.int i, .int o, .int s, .int t] ∧ 1 ≤ i ∧ i ≤ 1000000 ∧ o < 2 ^ 100 ∧ s < 2 ^ 100 ∧ t < 2 ^ 100 ∧ G i o s t) ∨
  (∃ (x0 x1 x2 x3 : V) (ty : String), xs = [x0, x1, x2, x3] ∧ Typ H x0 ty ∧ (∀ i : Int, x0 = .int i → ¬ (1 ≤ i ∧ i ≤ 1000000)) ∧ ∀ H' d, Same H H' → H' d = none → E (.ref CE) (some d) (upd H' d (.xd (errD "given" "InvalidNumber" x0)))) ∨
  (∃ (i : Nat) (x1 x2 x3 : V) (j : Nat) (x : V) (ty : String), xs = [.int i, x1, x2, x3] ∧ 1 ≤ i ∧ i ≤ 1000000 ∧ [x1, x2, x3][j]? = some x ∧ (∀ k y, k < j → [x1, x2, x3][k]? = some y → ∃ n : Nat, y = .int n) ∧ Typ H x ty ∧ (∀ n : Int, x = .int n → n < 0) ∧
    ∀ H' d, Same H H' → H' d = none → E (.ref CE) (some d) (upd H' d (.xd (errD "given" "InvalidNumber" x))))
theorem RlmG.imp {CE : Addr} {xs : List V} {H H2 : Hp} {G G2 : Nat → Nat → Nat → Nat → Prop} {E : XK} (h : RlmG CE xs H G E) (s : Same H H2) (g : ∀ i o s t, G i o s t → G2 i o s t) : RlmG CE xs H2 G2 E := by
  rcases h with ⟨i, o, s', t, a1, a2, a3, a4, a5, a6, a7⟩ | ⟨x0, x1, x2, x3, ty, a1, a2, a3, a4⟩ | ⟨i, x1, x2, x3, j, x, ty, a1, a2, a3, a4, a5, a6, a7, a8⟩
  · exact .inl ⟨i, o, s', t, a1, a2, a3, a4, a5, a6, g _ _ _ _ a7⟩
  · exact .inr (.inl ⟨x0, x1, x2, x3, ty, a1, a2.same s, a3, fun H' d k n => a4 H' d (s.trans k) n⟩)
  · exact .inr (.inr ⟨i, x1, x2, x3, j, x, ty, a1, a2, a3, a4, a5, a6.same s, a7, fun H' d k n => a8 H' d (s.trans k) n⟩)
/-- Realm(..): a new realm with the normal form of the numbers, or the error of the first wrong one -/
def RlmWish (C CE : Addr) (xs : List V) (H : Hp) (Q : VK) (E : XK) : Prop :=
  RlmG CE xs H (fun i o s t => ∀ (H' : Hp) (a : Addr) (d' o' s' t' : Nat), Nrm (radL i) o s t d' o' s' t' → Same H H' → H a = none → RealmAt C H' a d' o' s' t' → Q (.ref a) H') E
def spInit (C CE : Addr) : Sp := fun vs H Q E => ∃ (a dx : Addr) (xs : List V), vs = .ref a :: xs ∧ H a = some (.ins C dx []) ∧
  RlmG CE xs H (fun i o s t => ∀ (H' : Hp) (d' o' s' t' : Nat), Nrm (radL i) o s t d' o' s' t' → Kp a H H' → RealmAt C H' a d' o' s' t' → Q .non H') E
theorem wish_init {C CE : Addr} {xs : List V} {H : Hp} {Q : VK} {E : XK} (h : RlmWish C CE xs H Q E) {x dx : Addr} (hx : H x = none) (hdx : H dx = none) (ne : dx ≠ x) :
    spInit C CE (.ref x :: xs) (upd (upd H dx (.own x)) x (.ins C dx [])) (fun v H2 => v = .non ∧ Q (.ref x) H2) E := by
  have s1 : Same H (upd (upd H dx (.own x)) x (.ins C dx [])) := fun b o e => by
    rw [upd_ne (ne_of_none e hx), upd_ne (ne_of_none e hdx)]
    exact e
  refine ⟨x, dx, xs, rfl, upd_same, RlmG.imp h s1 fun i o s t g H' d' o' s' t' N kp R => ⟨rfl, g H' x d' o' s' t' N (fun b u e => kp b u (ne_of_none e hx) (s1 b u e)) hx R⟩⟩
structure Rlm (P : Program) (w : World) (K : PySem.W.Frag) (mg : Str → Option Value) (base : Heap) (C CE f : Addr) (fd : FuncData) : Prop where
  gC : mg "Realm" = some (.ref C)
  M : Mk K C f
  F : FnOk P w K mg base (L2.CX P w) 4 f fd psR (spInit C CE)
  D : FunD K "__init__" "Realm.__init__" (defArgs s_Realm_init) (defBody s_Realm_init) (defScope s_Realm_init) [] kwsR f fd
section
variable {X : Cx} {C CE f : Addr} {fd : FuncData} {p pos : Pos} {E : XK}
/-- Realm() -/
theorem pe_make0Realm (R : Rlm X.prog X.w X.K X.mg X.base C CE f fd) (hx : Passes (L2.CX X.prog X.w) X E) (hr : Room 5 X.A) (hg : Gl X "Realm") :
    PE X (.Call (.Name "Realm" p) [] [] pos) (fun σ H Q => RlmWish C CE [.int 1, .int 0, .int 0, .int 0] H Q E) := by
  obtain ⟨ds, hd, hb⟩ := FunD.binds0 R.D (ps := psR) 1 (by simp) rfl (fun D doc pm an cdv ct us ks l1 l2 => match us, ks, l1, l2 with
    | [_], [_, _, _, _], _, _ => ⟨_, _, _, _, _, _, rfl, rfl, ⟨_, _, _, _, _, _, rfl, rfl, ⟨_, _, _, _, _, _, rfl, rfl, ⟨_, _, _, _, _, _, rfl, rfl, rfl⟩⟩⟩⟩)
  refine ⟨fun pins s σ H Q I h => ?_⟩
  exact (pe_make0 R.M R.F hr hg R.gC hb hd hx).run pins s σ H Q I fun x dx h1 h2 h3 => wish_init h h1 h2 h3
/-- Realm(k = v, ..) -/
theorem pe_makeKRealm {ks : List Str} {kws : List Keyword} {tk : TA} {gW : List V → List V} (R : Rlm X.prog X.w X.K X.mg X.base C CE f fd)
    (hb : ∃ (g : List Value → List Value → List Value) (gV : List V → List V → List V), KBn X.K fd psR 1 ks g gV ∧ ∀ x zs, zs.length = ks.length → gV [x] zs = x :: gW zs)
    (hx : Passes (L2.CX X.prog X.w) X E) (hr : Room 5 X.A) (hg : Gl X "Realm") (hkw : PK X kws tk)
    (hall : (backToKw pos (keywordEach kws X.env)).all (·.1.isSome) = true := by rfl) (hks : (backToKw pos (keywordEach kws X.env)).filterMap (·.1) = ks := by rfl)
    (hpl : ((backTo pos (starEach [] X.env)).any (·.1) || (backToKw pos (keywordEach kws X.env)).any (·.1.isNone)) = false := by rfl) :
    PE X (.Call (.Name "Realm" p) [] kws pos) (fun σ H Q => tk σ H fun zs H2 => zs.length = ks.length ∧ RlmWish C CE (gW zs) H2 Q E) := by
  obtain ⟨g, gV, kb, eg⟩ := hb
  refine ⟨fun pins s σ H Q I h => ?_⟩
  refine wpAny_Call_Name_kw (ld_glob I hg R.gC ?_ (by decide))
  refine PySem.W.callWith_KW0 (h₀ := X.base) I.ok.mod.kin R.M.kp hall ?_ hpl
  refine thn (hkw.run pos pins s σ H _ I h) fun ws s2 ⟨zs, H2, I2, rz, l2, q2⟩ => ⟨I2.kIn, ?_⟩
  rw [hks]
  exact run_makeK (us := []) (vs := []) R.M R.F hr kb hx I2 .nil rz rfl l2 fun x dx h1 h2 h3 => by
    rw [eg _ _ l2]
    exact wish_init q2 h1 h2 h3
end
/-! ### the patterns of keywords -/
section
variable {K : PySem.W.Frag} {f : Addr} {fd : FuncData}
abbrev DInit (K : PySem.W.Frag) (f : Addr) (fd : FuncData) : Prop := FunD K "__init__" "Realm.__init__" (defArgs s_Realm_init) (defBody s_Realm_init) (defScope s_Realm_init) [] kwsR f fd
abbrev KBR (K : PySem.W.Frag) (fd : FuncData) (ks : List Str) (gW : List V → List V) : Prop := ∃ (g : List Value → List Value → List Value) (gV : List V → List V → List V), KBn K fd psR 1 ks g gV ∧ ∀ x zs, zs.length = ks.length → gV [x] zs = x :: gW zs
theorem kbRealm_inverse_ones_swaps_squares (D : DInit K f fd) : KBR K fd ["inverse", "ones", "swaps", "squares"] (fun zs => (zs.drop 0).take 1 ++ ((zs.drop 1).take 1 ++ ((zs.drop 2).take 1 ++ ((zs.drop 3).take 1)))) := by
  obtain ⟨mv, kb⟩ := FunD.kbinds0 D (ps := psR) 1 ["inverse", "ones", "swaps", "squares"] [] (fun us mv ws => us ++ ((ws.drop 0).take 1 ++ ((ws.drop 1).take 1 ++ ((ws.drop 2).take 1 ++ ((ws.drop 3).take 1))))) (by simp) (by simp) (fun a b c => a.append (((c.drop 0).take 1).append (((c.drop 1).take 1).append (((c.drop 2).take 1).append ((c.drop 3).take 1)))))
    (fun D doc pm an cdv ct us mv ws l1 l2 l3 => match us, mv, ws, l1, l2, l3 with | [_], [], [_, _, _, _], _, _, _ => rfl)
  exact ⟨_, _, kb, fun x zs _ => rfl⟩
theorem kbRealm_ones (D : DInit K f fd) : KBR K fd ["ones"] (fun zs => [.int 1] ++ ((zs.drop 0).take 1 ++ ([.int 0] ++ ([.int 0])))) := by
  obtain ⟨mv, kb⟩ := FunD.kbinds0 D (ps := psR) 1 ["ones"] [("inverse", .int 1), ("swaps", .int 0), ("squares", .int 0)] (fun us mv ws => us ++ ((mv.drop 0).take 1 ++ ((ws.drop 0).take 1 ++ ((mv.drop 1).take 1 ++ ((mv.drop 2).take 1))))) (by simp) (by simp) (fun a b c => a.append (((b.drop 0).take 1).append (((c.drop 0).take 1).append (((b.drop 1).take 1).append ((b.drop 2).take 1)))))
    (fun D doc pm an cdv ct us mv ws l1 l2 l3 => match us, mv, ws, l1, l2, l3 with | [_], [_, _, _], [_], _, _, _ => ⟨_, _, _, _, _, _, rfl, rfl, ⟨_, _, _, _, _, _, rfl, rfl, ⟨_, _, _, _, _, _, rfl, rfl, rfl⟩⟩⟩)
  exact ⟨_, _, kb, fun x zs _ => rfl⟩
theorem kbRealm_swaps (D : DInit K f fd) : KBR K fd ["swaps"] (fun zs => [.int 1] ++ ([.int 0] ++ ((zs.drop 0).take 1 ++ ([.int 0])))) := by
  obtain ⟨mv, kb⟩ := FunD.kbinds0 D (ps := psR) 1 ["swaps"] [("inverse", .int 1), ("ones", .int 0), ("squares", .int 0)] (fun us mv ws => us ++ ((mv.drop 0).take 1 ++ ((mv.drop 1).take 1 ++ ((ws.drop 0).take 1 ++ ((mv.drop 2).take 1))))) (by simp) (by simp) (fun a b c => a.append (((b.drop 0).take 1).append (((b.drop 1).take 1).append (((c.drop 0).take 1).append ((b.drop 2).take 1)))))
    (fun D doc pm an cdv ct us mv ws l1 l2 l3 => match us, mv, ws, l1, l2, l3 with | [_], [_, _, _], [_], _, _, _ => ⟨_, _, _, _, _, _, rfl, rfl, ⟨_, _, _, _, _, _, rfl, rfl, ⟨_, _, _, _, _, _, rfl, rfl, rfl⟩⟩⟩)
  exact ⟨_, _, kb, fun x zs _ => rfl⟩
theorem kbRealm_swaps_inverse (D : DInit K f fd) : KBR K fd ["swaps", "inverse"] (fun zs => (zs.drop 1).take 1 ++ ([.int 0] ++ ((zs.drop 0).take 1 ++ ([.int 0])))) := by
  obtain ⟨mv, kb⟩ := FunD.kbinds0 D (ps := psR) 1 ["swaps", "inverse"] [("ones", .int 0), ("squares", .int 0)] (fun us mv ws => us ++ ((ws.drop 1).take 1 ++ ((mv.drop 0).take 1 ++ ((ws.drop 0).take 1 ++ ((mv.drop 1).take 1))))) (by simp) (by simp) (fun a b c => a.append (((c.drop 1).take 1).append (((b.drop 0).take 1).append (((c.drop 0).take 1).append ((b.drop 1).take 1)))))
    (fun D doc pm an cdv ct us mv ws l1 l2 l3 => match us, mv, ws, l1, l2, l3 with | [_], [_, _], [_, _], _, _, _ => ⟨_, _, _, _, _, _, rfl, rfl, ⟨_, _, _, _, _, _, rfl, rfl, rfl⟩⟩)
  exact ⟨_, _, kb, fun x zs _ => rfl⟩
theorem kbRealm_squares (D : DInit K f fd) : KBR K fd ["squares"] (fun zs => [.int 1] ++ ([.int 0] ++ ([.int 0] ++ ((zs.drop 0).take 1)))) := by
  obtain ⟨mv, kb⟩ := FunD.kbinds0 D (ps := psR) 1 ["squares"] [("inverse", .int 1), ("ones", .int 0), ("swaps", .int 0)] (fun us mv ws => us ++ ((mv.drop 0).take 1 ++ ((mv.drop 1).take 1 ++ ((mv.drop 2).take 1 ++ ((ws.drop 0).take 1))))) (by simp) (by simp) (fun a b c => a.append (((b.drop 0).take 1).append (((b.drop 1).take 1).append (((b.drop 2).take 1).append ((c.drop 0).take 1)))))
    (fun D doc pm an cdv ct us mv ws l1 l2 l3 => match us, mv, ws, l1, l2, l3 with | [_], [_, _, _], [_], _, _, _ => ⟨_, _, _, _, _, _, rfl, rfl, ⟨_, _, _, _, _, _, rfl, rfl, ⟨_, _, _, _, _, _, rfl, rfl, rfl⟩⟩⟩)
  exact ⟨_, _, kb, fun x zs _ => rfl⟩
theorem kbRealm_ones_inverse (D : DInit K f fd) : KBR K fd ["ones", "inverse"] (fun zs => (zs.drop 1).take 1 ++ ((zs.drop 0).take 1 ++ ([.int 0] ++ ([.int 0])))) := by
  obtain ⟨mv, kb⟩ := FunD.kbinds0 D (ps := psR) 1 ["ones", "inverse"] [("swaps", .int 0), ("squares", .int 0)] (fun us mv ws => us ++ ((ws.drop 1).take 1 ++ ((ws.drop 0).take 1 ++ ((mv.drop 0).take 1 ++ ((mv.drop 1).take 1))))) (by simp) (by simp) (fun a b c => a.append (((c.drop 1).take 1).append (((c.drop 0).take 1).append (((b.drop 0).take 1).append ((b.drop 1).take 1)))))
    (fun D doc pm an cdv ct us mv ws l1 l2 l3 => match us, mv, ws, l1, l2, l3 with | [_], [_, _], [_, _], _, _, _ => ⟨_, _, _, _, _, _, rfl, rfl, ⟨_, _, _, _, _, _, rfl, rfl, rfl⟩⟩)
  exact ⟨_, _, kb, fun x zs _ => rfl⟩
theorem kbRealm_inverse_ones (D : DInit K f fd) : KBR K fd ["inverse", "ones"] (fun zs => (zs.drop 0).take 1 ++ ((zs.drop 1).take 1 ++ ([.int 0] ++ ([.int 0])))) := by
  obtain ⟨mv, kb⟩ := FunD.kbinds0 D (ps := psR) 1 ["inverse", "ones"] [("swaps", .int 0), ("squares", .int 0)] (fun us mv ws => us ++ ((ws.drop 0).take 1 ++ ((ws.drop 1).take 1 ++ ((mv.drop 0).take 1 ++ ((mv.drop 1).take 1))))) (by simp) (by simp) (fun a b c => a.append (((c.drop 0).take 1).append (((c.drop 1).take 1).append (((b.drop 0).take 1).append ((b.drop 1).take 1)))))
    (fun D doc pm an cdv ct us mv ws l1 l2 l3 => match us, mv, ws, l1, l2, l3 with | [_], [_, _], [_, _], _, _, _ => ⟨_, _, _, _, _, _, rfl, rfl, ⟨_, _, _, _, _, _, rfl, rfl, rfl⟩⟩)
  exact ⟨_, _, kb, fun x zs _ => rfl⟩
theorem kbRealm_ones_squares_swaps (D : DInit K f fd) : KBR K fd ["ones", "squares", "swaps"] (fun zs => [.int 1] ++ ((zs.drop 0).take 1 ++ ((zs.drop 2).take 1 ++ ((zs.drop 1).take 1)))) := by
  obtain ⟨mv, kb⟩ := FunD.kbinds0 D (ps := psR) 1 ["ones", "squares", "swaps"] [("inverse", .int 1)] (fun us mv ws => us ++ ((mv.drop 0).take 1 ++ ((ws.drop 0).take 1 ++ ((ws.drop 2).take 1 ++ ((ws.drop 1).take 1))))) (by simp) (by simp) (fun a b c => a.append (((b.drop 0).take 1).append (((c.drop 0).take 1).append (((c.drop 2).take 1).append ((c.drop 1).take 1)))))
    (fun D doc pm an cdv ct us mv ws l1 l2 l3 => match us, mv, ws, l1, l2, l3 with | [_], [_], [_, _, _], _, _, _ => ⟨_, _, _, _, _, _, rfl, rfl, rfl⟩)
  exact ⟨_, _, kb, fun x zs _ => rfl⟩
theorem kbRealm_squares_swaps (D : DInit K f fd) : KBR K fd ["squares", "swaps"] (fun zs => [.int 1] ++ ([.int 0] ++ ((zs.drop 1).take 1 ++ ((zs.drop 0).take 1)))) := by
  obtain ⟨mv, kb⟩ := FunD.kbinds0 D (ps := psR) 1 ["squares", "swaps"] [("inverse", .int 1), ("ones", .int 0)] (fun us mv ws => us ++ ((mv.drop 0).take 1 ++ ((mv.drop 1).take 1 ++ ((ws.drop 1).take 1 ++ ((ws.drop 0).take 1))))) (by simp) (by simp) (fun a b c => a.append (((b.drop 0).take 1).append (((b.drop 1).take 1).append (((c.drop 1).take 1).append ((c.drop 0).take 1)))))
    (fun D doc pm an cdv ct us mv ws l1 l2 l3 => match us, mv, ws, l1, l2, l3 with | [_], [_, _], [_, _], _, _, _ => ⟨_, _, _, _, _, _, rfl, rfl, ⟨_, _, _, _, _, _, rfl, rfl, rfl⟩⟩)
  exact ⟨_, _, kb, fun x zs _ => rfl⟩
theorem kbRealm_inverse (D : DInit K f fd) : KBR K fd ["inverse"] (fun zs => (zs.drop 0).take 1 ++ ([.int 0] ++ ([.int 0] ++ ([.int 0])))) := by
  obtain ⟨mv, kb⟩ := FunD.kbinds0 D (ps := psR) 1 ["inverse"] [("ones", .int 0), ("swaps", .int 0), ("squares", .int 0)] (fun us mv ws => us ++ ((ws.drop 0).take 1 ++ ((mv.drop 0).take 1 ++ ((mv.drop 1).take 1 ++ ((mv.drop 2).take 1))))) (by simp) (by simp) (fun a b c => a.append (((c.drop 0).take 1).append (((b.drop 0).take 1).append (((b.drop 1).take 1).append ((b.drop 2).take 1)))))
    (fun D doc pm an cdv ct us mv ws l1 l2 l3 => match us, mv, ws, l1, l2, l3 with | [_], [_, _, _], [_], _, _, _ => ⟨_, _, _, _, _, _, rfl, rfl, ⟨_, _, _, _, _, _, rfl, rfl, ⟨_, _, _, _, _, _, rfl, rfl, rfl⟩⟩⟩)
  exact ⟨_, _, kb, fun x zs _ => rfl⟩
end
end My
/-! Realm's methods -/
namespace My
open PySem PySem.Spec PyProof.Rows L2
structure RCls (K : PySem.W.Frag) (C : Addr) (mc : Value) : Prop where
  cl : Cls K C
  n_normal : NoAttr K C "_normal"
  rd : ClX.CRead K C mc
  ha : PySem.W.findIn K (.ref C) "__class__" = some (some (.builtin "object.__class__"))
  hn : PySem.W.specialIn K (.builtin "object.__class__") "__get__" = some (some (.builtin "getset_descriptor.__get__"))
  htk : PySem.W.takesIn K (.builtin "object.__class__") = some true
  hm : PySem.W.mroIn K C (.type "object") = some true
  k1 : PySem.W.kitOne K (.ref C) (.ref C) = some true
  k0 : PySem.W.kitOne K (.type "int") (.ref C) = some false
  nf : PySem.W.notFirst K C (.type "int") = true
theorem RCls.ty {K : PySem.W.Frag} {C : Addr} {mc : Value} (R : RCls K C mc) {H : Hp} {a dx : Addr} {fs : List (Str × V)} (e : H a = some (.ins C dx fs)) : TyX K H (.ref a) (.ref C) := .base (.ins e R.cl R.ha R.hn R.htk R.hm)
theorem RCls.nf1 {K : PySem.W.Frag} {C : Addr} : PySem.W.notFirst K C (.ref C) = true := by simp [PySem.W.notFirst]
section
variable {P : Program} {w : World} {K : PySem.W.Frag} {mg : Str → Option Value} {base : Heap} {C CE : Addr} {mc : Value}
theorem ok_init {f fI cc cd : Addr} {fd : FuncData} (D : DInit K f fd) (M : Mk K C f) (gC : mg "Realm" = some (.ref C)) (R : RCls K C mc) (E_InvalidNumber : ErrX.ErrTxt P K mg "InvalidNumber" "given" "InvalidNumber" CE fI cc cd)
    (G_radical : HasX P w K mg base 3 "radical" ["number"] (spRadical CE)) (G_is_int : Has P w K mg base 1 "is_int" ["value"] spIsInt) (G_normal_numbers : Has P w K mg base 2 "normal_numbers" ["inverse", "ones", "swaps", "squares"] spNormal) : Rlm P w K mg base C CE f fd := by
  refine ⟨gC, M, D.ok sc_Realm_init (fun vs H Q E h => ?_) (fun cdv A outer s H vs Q E hr h => ?_), D⟩
  · obtain ⟨a, dx, xs, rfl, _, h⟩ := h
    rcases h with ⟨i, o, s', t, rfl, _⟩ | ⟨x0, x1, x2, x3, ty, rfl, _⟩ | ⟨i, x1, x2, x3, j, x, ty, rfl, _⟩ <;> rfl
  have TK : Takes (cxOf (L2.CX P w) P w K mg base N_Realm_init "Realm.__init__" (defScope s_Realm_init) f cdv A outer s H E) (fun cls d _ H => E cls d H) := takes_of rfl rfl rfl rfl
  refine ⟨_, (pss_cons (ps_set (i := 5) sc_Realm_init.nd rfl (Or.inl rfl) (pe_ownE G_radical TK (hr.mono (by decide)) (by rfl) (pa_cons (pv 1) pa_nil)))
      (pss_cons (ps_for (passes_of rfl) rfl (pi_tup (pe_tup (pa_cons (pv 2) (pa_cons (pv 3) (pa_cons (pv 4) pa_nil))))) (pg_name (i := 6) sc_Realm_init.nd rfl (Or.inl rfl))
        (pss_one (ps_if (PW.pt (pw_or (pt_not (pt_val (pe_own G_is_int (hr.mono (by decide)) (by rfl) (pa_cons (pv 6) pa_nil)))) (pw_or1 (pt_cmpR op_lt (pv 6) pe_int (nomark _)))))
        (pss_one (ps_raise rfl TK (pmk_err E_InvalidNumber hr (pa_cons (pv 6) pa_nil) (by rfl))))
        pss_nil)))
      (pss_one (ps_fld (pv 0) (pe_own G_normal_numbers (hr.mono (by decide)) (by rfl) (pa_cons (pv 5) (pa_cons (pv 2) (pa_cons (pv 3) (pa_cons (pv 4) pa_nil))))) rfl)))), ?_⟩
  obtain ⟨a, dx, xs, rfl, ha, h⟩ := h
  have nx : ∀ {n : Nat}, [V.int (n : Int)] = [V.int (n : Int)] := rfl
  rcases h with ⟨i, o, s', t, rfl, h1, h2, ho, hs, ht, g⟩ | ⟨x0, x1, x2, x3, ty, rfl, hty, hb, e⟩ | ⟨i, x1, x2, x3, j, x, ty, rfl, h1, h2, hj, hk, hty, hb, e⟩
  · refine ⟨_, rfl, .inl ⟨i, rfl, h1, h2, ?_⟩⟩
    refine ⟨_, rfl, _, rfl, _, rfl, (by show 3 ≤ sizeLine; decide), fun p hp => ⟨p, rfl, ⟨_, SqT.of upd_same⟩, ?_⟩⟩
    have sp : Same H (upd H p (.tup [.int (o : Int), .int (s' : Int), .int (t : Int)])) := same_upd hp
    refine for_tup (xs := [.int (o : Int), .int (s' : Int), .int (t : Int)]) (fun k σ H' => ∃ y, σ = [some (.ref a), some (.int (i : Int)), some (.int (o : Int)), some (.int (s' : Int)), some (.int (t : Int)), some (.int ((radL i : Nat) : Int)), y] ∧ H' = upd H p (.tup [.int (o : Int), .int (s' : Int), .int (t : Int)])) ⟨none, rfl, rfl⟩ (fun k σ H' _ ⟨_, _, e⟩ => e ▸ SqT.of upd_same) ?_ ?_
    · rintro k v σ H' hv ⟨y, rfl, rfl⟩
      obtain ⟨n, rfl⟩ : ∃ n : Nat, v = .int (n : Int) := by
        have := List.mem_of_getElem? hv
        simp only [List.mem_cons, List.not_mem_nil, or_false] at this
        rcases this with rfl | rfl | rfl <;> exact ⟨_, rfl⟩
      refine ⟨_, rfl, _, "int", rfl, .int _, _, rfl, iteF ⟨_, rfl, _, _, rfl, rfl, _, rfl, ite_no (by simp) ⟨_, rfl, rfl⟩⟩⟩
    · rintro σ H' ⟨y, rfl, rfl⟩
      refine ⟨_, rfl, _, rfl, _, rfl, _, rfl, radL i, o, s', t, rfl, ho, hs, ht, fun H' T d' o' s'' t' N sm hT eT => ?_⟩
      have ha' := sm _ _ (sp _ _ ha)
      refine ⟨_, rfl, a, C, dx, [], rfl, ha', R.cl, R.n_normal, by decide, ?_⟩
      refine g _ d' o' s'' t' N ((Kp.of (sp.trans sm)).trans Kp.upd) ⟨dx, T, upd_same, ?_⟩
      rw [upd_ne (ne_of eT ha' (by intro z; cases z))]
      exact eT
  · exact ⟨_, rfl, .inr ⟨x0, ty, rfl, hty, hb, fun d hd => e H d (Same.refl _) hd⟩⟩
  · refine ⟨_, rfl, .inl ⟨i, rfl, h1, h2, ?_⟩⟩
    refine ⟨_, rfl, _, rfl, _, rfl, (by show 3 ≤ sizeLine; decide), fun p hp => ⟨p, rfl, ⟨_, SqT.of upd_same⟩, ?_⟩⟩
    have sp : Same H (upd H p (.tup [x1, x2, x3])) := same_upd hp
    refine for_tup (xs := [x1, x2, x3]) (fun k σ H' => k ≤ j ∧ ∃ y, σ = [some (.ref a), some (.int (i : Int)), some x1, some x2, some x3, some (.int ((radL i : Nat) : Int)), y] ∧ H' = upd H p (.tup [x1, x2, x3])) ⟨Nat.zero_le _, none, rfl, rfl⟩ (fun k σ H' _ ⟨_, _, _, e⟩ => e ▸ SqT.of upd_same) ?_ ?_
    · rintro k v σ H' hv ⟨kj, y, rfl, rfl⟩
      by_cases ej : k = j
      · subst ej
        rw [hv] at hj
        cases hj
        refine ⟨_, rfl, x, ty, rfl, hty.same sp, ?_⟩
        cases hx : isIntV x with
        | false => exact ⟨_, rfl, iteT ⟨_, rfl, x, rfl, fun d hd => e _ d sp hd⟩⟩
        | true =>
          cases x with
          | int z =>
            have := hb z rfl
            exact ⟨_, rfl, iteF ⟨_, rfl, _, _, rfl, rfl, _, rfl, ite_of (decide_eq_true this) ⟨_, rfl, _, rfl, fun d hd => e _ d sp hd⟩⟩⟩
          | _ => cases hx
      · obtain ⟨n, rfl⟩ := hk k v (by omega) hv
        refine ⟨_, rfl, _, "int", rfl, .int _, _, rfl, iteF ⟨_, rfl, _, _, rfl, rfl, _, rfl, ite_no (by simp) ⟨by omega, _, rfl, rfl⟩⟩⟩
    · rintro σ H' ⟨kj, y, rfl, rfl⟩
      have := (List.getElem?_eq_some_iff.mp hj).1
      simp at this kj
      omega
end
/-! ### properties, ==, bool, repr -/
structure HasPr (P : Program) (w : World) (K : PySem.W.Frag) (mg : Str → Option Value) (base : Heap) (C : Addr) (n : Str) (sp : Sp) : Prop where
  ex : ∃ (p g : Addr) (fd : FuncData), PropOf K C n p g ∧ FnOk P w K mg base CX0 1 g fd ["self"] sp ∧ Binds K fd ["self"] []
theorem pe_pr {X : Cx} {C : Addr} {n : Str} {sp : Sp} {e : Expr} {ta : TE} {pos : Pos} (c : Cls X.K C) (h : HasPr X.prog X.w X.K X.mg X.base C n sp) (hr : Room 2 X.A) (he : PE X e ta) (hab : attributeBase e n X.env (eval e X.env) = eval e X.env) :
    PE X (.Attribute e n pos) (tProp C sp [] E0 ta) := by
  obtain ⟨p, g, fd, hp, F, b⟩ := h.ex
  exact pe_prop he c hp F hr b .nil pass0 hab
def spGetR (C : Addr) (sel : Nat → Nat → Nat → Nat → Nat) : Sp := fun vs H Q _ => ∃ (a : Addr) (d o s t : Nat), vs = [.ref a] ∧ RealmAt C H a d o s t ∧ Q (.int ((sel d o s t : Nat) : Int)) H
theorem dp_nats' {K : PySem.W.Frag} {H : Hp} {T : Addr} {d o s t : Nat} (h : H T = some (tupR d o s t)) : Dp K H (.ref T) (.tuple (dNats [d, o, s, t])) := .tup (SqT.of h) (dp_nats [d, o, s, t])
theorem shapedT (xs : List Nat) : SeqAt.shaped (.tuple (dNats xs)) = true := by
  have h1 := depth_nats xs
  show (PyData.canLay0 (.tuple (dNats xs)) && decide (PyData.depth (.tuple (dNats xs)) ≤ 64)) = true
  rw [Bool.and_eq_true]
  refine ⟨by simp only [PyData.canLay0]; exact lay_nats xs, decide_eq_true ?_⟩
  simp only [PyData.depth]
  omega
theorem eqvA_nats : ∀ xs ys : List Nat, xs.length = ys.length → PyData.eqvAll (dNats xs) (dNats ys) = decide (xs = ys)
  | [], [], _ => by simp [PyData.eqvAll]
  | x :: xs, y :: ys, h => by
    have ih := eqvA_nats xs ys (by simpa using h)
    simp only [dNats, List.map_cons, PyData.eqvAll, PyData.eqv] at ih ⊢
    rw [show PyData.eqvAll (xs.map fun (x : Nat) => PyData.int x) (ys.map fun (x : Nat) => PyData.int x) = decide (xs = ys) from ih]
    by_cases e : x = y
    · subst e
      by_cases e2 : xs = ys <;> simp [e2]
    · have : ((x : Int) == (y : Int)) = false := by
        rw [beq_eq_false_iff_ne]
        omega
      simp [e, this]
theorem eqvT_nats (xs ys : List Nat) (h : xs.length = ys.length) : PyData.eqv (.tuple (dNats xs)) (.tuple (dNats ys)) = decide (xs = ys) := by
  rw [← eqvA_nats xs ys h]
  simp [PyData.eqv]
/-- r == y: with another realm, or with a value that is none -/
def spEqR (C : Addr) : Sp := fun vs H Q _ => ∃ (a : Addr) (d o s t : Nat) (y : V), vs = [.ref a, y] ∧ RealmAt C H a d o s t ∧
  ((∃ (b : Addr) (d' o' s' t' : Nat), y = .ref b ∧ RealmAt C H b d' o' s' t' ∧ Q (.bl (decide ([d, o, s, t] = [d', o', s', t']))) H) ∨ (∃ i : Int, y = .int i ∧ Q (.bl false) H))
def spBoolR (C : Addr) : Sp := fun vs H Q _ => ∃ (a : Addr) (d o s t : Nat), vs = [.ref a] ∧ RealmAt C H a d o s t ∧ Q (.bl (!decide (o = 1))) H
section
variable {P : Program} {w : World} {K : PySem.W.Frag} {mg : Str → Option Value} {base : Heap} {C CE : Addr} {mc : Value}
theorem ok_inverse {f p : Addr} {fd : FuncData} (R : RCls K C mc) (F : Fun K "inverse" "Realm.inverse" s_Realm_inverse f fd) (pr : PropOf K C "inverse" p f) (b : Binds K fd ["self"] []) : HasPr P w K mg base C "inverse" (spGetR C fun d _ _ _ => d) := by
  refine ⟨p, f, fd, pr, F.ok sc_Realm_inverse (fun vs H Q E h => ?_) (fun cdv A outer s H vs Q E hr h => ?_), b⟩
  · obtain ⟨a, d, o, s, t, rfl, _⟩ := h
    rfl
  obtain ⟨a, d, o, s', t, rfl, ⟨dx, T, h1, h2⟩, q⟩ := h
  refine ⟨_, (pss_one (ps_ret (pe_ix ix_tup (L2.pe_fld (pv 0) rfl) pe_int (fun _ _ => rfl)))), ?_⟩
  exact ⟨_, rfl, a, C, dx, _, _, rfl, h1, R.cl, R.n_normal, rfl, T, _, _, _, rfl, rfl, SqT.of h2, atI_nat (j := 0) rfl, q⟩
theorem ok_ones {f p : Addr} {fd : FuncData} (R : RCls K C mc) (F : Fun K "ones" "Realm.ones" s_Realm_ones f fd) (pr : PropOf K C "ones" p f) (b : Binds K fd ["self"] []) : HasPr P w K mg base C "ones" (spGetR C fun _ o _ _ => o) := by
  refine ⟨p, f, fd, pr, F.ok sc_Realm_ones (fun vs H Q E h => ?_) (fun cdv A outer s H vs Q E hr h => ?_), b⟩
  · obtain ⟨a, d, o, s, t, rfl, _⟩ := h
    rfl
  obtain ⟨a, d, o, s', t, rfl, ⟨dx, T, h1, h2⟩, q⟩ := h
  refine ⟨_, (pss_one (ps_ret (pe_ix ix_tup (L2.pe_fld (pv 0) rfl) pe_int (fun _ _ => rfl)))), ?_⟩
  exact ⟨_, rfl, a, C, dx, _, _, rfl, h1, R.cl, R.n_normal, rfl, T, _, _, _, rfl, rfl, SqT.of h2, atI_nat (j := 1) rfl, q⟩
theorem ok_swaps {f p : Addr} {fd : FuncData} (R : RCls K C mc) (F : Fun K "swaps" "Realm.swaps" s_Realm_swaps f fd) (pr : PropOf K C "swaps" p f) (b : Binds K fd ["self"] []) : HasPr P w K mg base C "swaps" (spGetR C fun _ _ s _ => s) := by
  refine ⟨p, f, fd, pr, F.ok sc_Realm_swaps (fun vs H Q E h => ?_) (fun cdv A outer s H vs Q E hr h => ?_), b⟩
  · obtain ⟨a, d, o, s, t, rfl, _⟩ := h
    rfl
  obtain ⟨a, d, o, s', t, rfl, ⟨dx, T, h1, h2⟩, q⟩ := h
  refine ⟨_, (pss_one (ps_ret (pe_ix ix_tup (L2.pe_fld (pv 0) rfl) pe_int (fun _ _ => rfl)))), ?_⟩
  exact ⟨_, rfl, a, C, dx, _, _, rfl, h1, R.cl, R.n_normal, rfl, T, _, _, _, rfl, rfl, SqT.of h2, atI_nat (j := 2) rfl, q⟩
theorem ok_squares {f p : Addr} {fd : FuncData} (R : RCls K C mc) (F : Fun K "squares" "Realm.squares" s_Realm_squares f fd) (pr : PropOf K C "squares" p f) (b : Binds K fd ["self"] []) : HasPr P w K mg base C "squares" (spGetR C fun _ _ _ t => t) := by
  refine ⟨p, f, fd, pr, F.ok sc_Realm_squares (fun vs H Q E h => ?_) (fun cdv A outer s H vs Q E hr h => ?_), b⟩
  · obtain ⟨a, d, o, s, t, rfl, _⟩ := h
    rfl
  obtain ⟨a, d, o, s', t, rfl, ⟨dx, T, h1, h2⟩, q⟩ := h
  refine ⟨_, (pss_one (ps_ret (pe_ix ix_tup (L2.pe_fld (pv 0) rfl) pe_int (fun _ _ => rfl)))), ?_⟩
  exact ⟨_, rfl, a, C, dx, _, _, rfl, h1, R.cl, R.n_normal, rfl, T, _, _, _, rfl, rfl, SqT.of h2, atI_nat (j := 3) rfl, q⟩
theorem ok_eqR {f : Addr} {fd : FuncData} (R : RCls K C mc) (gC : mg "Realm" = some (.ref C)) (B : Blt mg) (F : Fun K "__eq__" "Realm.__eq__" s_Realm_eq f fd) : FnOk P w K mg base CX0 1 f fd ["self", "other"] (spEqR C) := by
  refine F.ok sc_Realm_eq (fun vs H Q E h => ?_) (fun cdv A outer s H vs Q E hr h => ?_)
  · obtain ⟨a, d, o, s, t, y, rfl, _⟩ := h
    rfl
  obtain ⟨a, d, o, s', t, y, rfl, ⟨dx, T, h1, h2⟩, h⟩ := h
  refine ⟨_, (pss_one (ps_ret (pe_and (pe_callB call_isi (by rfl) B.isinstance bb_isinstance (pa_cons (pv 1) (pa_cons (pe_gref gC (by rfl)) pa_nil))) (pe_one (pe_cmpR (op_eqD (un64 hr)) (L2.pe_fld (pv 0) rfl) (L2.pe_fld (pv 1) rfl) (nomark _)))))), ?_⟩
  rcases h with ⟨b, d', o', s'', t', rfl, ⟨dy, T', g1, g2⟩, q⟩ | ⟨i, rfl, q⟩
  · refine ⟨_, rfl, _, .ref C, .ref C, .ref C, true, rfl, .own C, R.ty g1, R.k1, _, rfl, iteT ?_⟩
    refine ⟨_, rfl, a, C, dx, _, _, rfl, h1, R.cl, R.n_normal, rfl, _, rfl, b, C, dy, _, _, rfl, g1, R.cl, R.n_normal, rfl, _, _, dp_nats' h2, dp_nats' g2, shapedT _, shapedT _, ?_⟩
    rw [eqvT_nats [d, o, s', t] [d', o', s'', t'] rfl]
    exact q
  · exact ⟨_, rfl, _, .ref C, .type "int", .ref C, false, rfl, .own C, .base (.int i), R.k0, _, rfl, iteF q⟩
theorem ok_boolR {f : Addr} {fd : FuncData} (R : RCls K C mc) (B : Blt mg) (F : Fun K "__bool__" "Realm.__bool__" s_Realm_bool f fd) (PR_ones : HasPr P w K mg base C "ones" (spGetR C fun _ o _ _ => o)) : FnOk P w K mg base CX0 3 f fd ["self"] (spBoolR C) := by
  refine F.ok sc_Realm_bool (fun vs H Q E h => ?_) (fun cdv A outer s H vs Q E hr h => ?_)
  · obtain ⟨a, d, o, s, t, rfl, _⟩ := h
    rfl
  obtain ⟨a, d, o, s', t, rfl, hR, q⟩ := h
  have cl_ := R.cl
  refine ⟨_, (pss_one (ps_ret (pe_callTy call_bool1 (by rfl) B.bool bb_bool (pa_cons (pe_cmpR op_ne (pe_pr cl_ PR_ones (hr.mono (by decide)) (pv 0) rfl) pe_int (nomark _)) pa_nil)))), ?_⟩
  obtain ⟨dx, T, h1, h2⟩ := id hR
  refine ⟨_, rfl, a, dx, _, rfl, h1, a, d, o, s', t, rfl, hR, rfl, .inr ⟨_, rfl, ?_⟩⟩
  have e : decide (V.int (o : Int) = V.int 1) = decide (o = 1) := by
    by_cases z : o = 1
    · subst z; rfl
    · rw [decide_eq_false z, decide_eq_false]
      intro y
      injection y with y
      omega
  rw [e]
  exact q
end
end My
/-! what the law makes of numbers and realms -/
namespace My
open PySem PySem.Spec PyProof.Rows L2
def spLDiv : Sp := fun vs H Q _ => ∃ a b : Nat, vs = [.int a, .int b] ∧ a ∣ b ∧ Q (.bl true) H
def spSettled : Sp := fun vs H Q _ => ∃ d o s t : Nat, vs = [.int d, .int o, .int s, .int t] ∧ o < 2 ^ 60 ∧ s < 2 ^ 60 ∧ t < 2 ^ 60 ∧
  ∀ (H' : Hp) (T : Addr) (d' o' s' t' : Nat), Nrm d o s t d' o' s' t' → Same H H' → H T = none → H' T = some (tupR d' o' s' t') → Q (.ref T) H'
def spTold (C : Addr) : Sp := fun vs H Q _ => ∃ (a : Addr) (d o s t : Nat), vs = [.ref a] ∧ RealmAt C H a d o s t ∧ ∀ (H' : Hp) (T : Addr), Same H H' → H T = none → H' T = some (tupR d o s t) → Q (.ref T) H'
def spLRealm (C : Addr) : Sp := fun vs H Q _ => ∃ (T : Addr) (i o s t : Nat), vs = [.ref T] ∧ H T = some (tupR i o s t) ∧ 1 ≤ i ∧ i ≤ 1000000 ∧ o < 2 ^ 60 ∧ s < 2 ^ 60 ∧ t < 2 ^ 60 ∧
  ∀ (H' : Hp) (a d' o' s' t' : Nat), Nrm (radL i) o s t d' o' s' t' → Same H H' → H a = none → RealmAt C H' a d' o' s' t' → Q (.ref a) H'
def spLSettle : Sp := fun vs H Q _ => ∃ (T : Addr) (i o s t : Nat), vs = [.ref T] ∧ H T = some (tupR i o s t) ∧ 1 ≤ i ∧ i ≤ 2000 ∧ o < 2 ^ 60 ∧ s < 2 ^ 60 ∧ t < 2 ^ 60 ∧
  ∀ (H' : Hp) (T' : Addr) (d' o' s' t' : Nat), Nrm (radL i) o s t d' o' s' t' → Same H H' → H T' = none → H' T' = some (tupR d' o' s' t') → Q (.ref T') H'
def spDrawnR : Sp := fun vs H Q _ => ∃ b c : Addr, vs = [.ref b] ∧ Bg H b c ∧ ∀ (H' : Hp) (T : Addr) (i o s t : Nat), Kp b H H' → Bg H' b c → H T = none → T ≠ b → H' T = some (tupR i o s t) → 1 ≤ i → i ≤ 35 → o ≤ 1000 → s ≤ 1000 → t ≤ 1000 → Q (.ref T) H'
theorem gcdF (a b : Nat) : V.int ((Nat.gcd (a : Int).natAbs (b : Int).natAbs : Nat) : Int) = V.int ((Nat.gcd a b : Nat) : Int) := by rw [Int.natAbs_natCast, Int.natAbs_natCast]
theorem gcd_small {a b : Nat} {B : Nat} (ha : a < B) (hb : b < B) : Nat.gcd a b < B := by
  by_cases z : a = 0
  · rw [z, Nat.gcd_zero_left]; exact hb
  · exact Nat.lt_of_le_of_lt (Nat.le_of_dvd (by omega) (Nat.gcd_dvd_left _ _)) ha
section
variable {P : Program} {w : World} {K : PySem.W.Frag} {mg : Str → Option Value} {base : Heap} {C CE : Addr} {mc : Value}
theorem ok_l_settled (F : Fn K mg "_law_settled" s_l_settled ["_law_d", "_law_o", "_law_s", "_law_t"]) (G_l_gcd : Has P w K mg base 1 "_law_gcd" ["_law_a", "_law_b"] spGcd) (G_l_strip : Has P w K mg base 2 "_law_strip" ["_law_number", "_law_base"] spStripped) :
    Has P w K mg base 3 "_law_settled" ["_law_d", "_law_o", "_law_s", "_law_t"] spSettled := by
  refine F.has sc_l_settled (fun vs H Q E h => ?_) (fun f cdv A outer s H vs Q E hr h => ?_)
  · obtain ⟨d, o, s, t, rfl, _⟩ := h
    rfl
  obtain ⟨d, o, sw, t, rfl, ho, hs, ht, q⟩ := h
  refine ⟨_, (pss_cons (ps_set (i := 4) sc_l_settled.nd rfl (Or.inl rfl) (pe_own G_l_gcd (hr.mono (by decide)) (by rfl) (pa_cons (pv 1) (pa_cons (pe_op op_mul pe_int (pv 3)) pa_nil))))
      (pss_cons (ps_set (i := 5) sc_l_settled.nd rfl (Or.inl rfl) (pe_own G_l_gcd (hr.mono (by decide)) (by rfl) (pa_cons (pv 3) (pa_cons (pv 4) pa_nil))))
      (pss_one (ps_ret (pe_tup (pa_cons (pe_ifExp (pt_cmpR op_eq (pv 4) pe_int (nomark _)) (pv 0) pe_int) (pa_cons (pe_own G_l_strip (hr.mono (by decide)) (by rfl) (pa_cons (pv 4) (pa_cons (pv 0) pa_nil))) (pa_cons (pe_own G_l_strip (hr.mono (by decide)) (by rfl) (pa_cons (pe_own G_l_gcd (hr.mono (by decide)) (by rfl) (pa_cons (pv 2) (pa_cons (pv 5) pa_nil))) (pa_cons (pv 0) pa_nil))) (pa_cons (pe_own G_l_strip (hr.mono (by decide)) (by rfl) (pa_cons (pv 5) (pa_cons (pv 0) pa_nil))) pa_nil))))))))), ?_⟩
  have b1 : Nat.gcd o (2 * t) < 2 ^ 200 := gcd_small (by omega) (by omega)
  have b2 : Nat.gcd t (Nat.gcd o (2 * t)) < 2 ^ 200 := gcd_small (by omega) b1
  have b3 : Nat.gcd sw (Nat.gcd t (Nat.gcd o (2 * t))) < 2 ^ 200 := gcd_small (by omega) b2
  refine ⟨_, rfl, _, rfl, _, _, rfl, rfl, .inl ⟨by omega, by omega⟩, _, _, rfl, ?_⟩
  have e1 : V.int ((Nat.gcd (o : Int).natAbs (2 * (t : Int)).natAbs : Nat) : Int) = V.int ((Nat.gcd o (2 * t) : Nat) : Int) := gcdF o (2 * t)
  rw [e1]
  refine ⟨_, rfl, _, rfl, _, _, rfl, ?_⟩
  rw [gcdF]
  have tail : ∀ z : Nat, z = (if Nat.gcd o (2 * t) = 0 then d else 1) → ∀ o' s' t' : Nat, Strip (Nat.gcd o (2 * t)) d o' → Strip (Nat.gcd sw (Nat.gcd t (Nat.gcd o (2 * t)))) d s' → Strip (Nat.gcd t (Nat.gcd o (2 * t))) d t' → ∀ T, H T = none → Q (.ref T) (upd H T (tupR z o' s' t')) :=
    fun z hz o' s' t' h1 h2 h3 T hT => q _ T z o' s' t' ⟨hz, h1, h2, h3⟩ (same_upd hT) hT upd_same
  refine ⟨_, rfl, rfl, _, rfl, ?_⟩
  by_cases z : Nat.gcd o (2 * t) = 0
  · refine ite_of (by rw [dec0, decide_eq_true z]) ?_
    refine ⟨_, rfl, _, rfl, _, rfl, _, d, rfl, b1, fun o' ho' => ⟨_, rfl, _, rfl, _, _, rfl, _, rfl, Nat.gcd sw (Nat.gcd t (Nat.gcd o (2 * t))), d, by rw [gcdF]; rfl, b3, fun s' hs' => ⟨_, rfl, _, rfl, _, d, rfl, b2, fun t' ht' => ⟨(by show 4 ≤ sizeLine; decide), fun T hT => tail d (by rw [if_pos z]) o' s' t' ho' hs' ht' T hT⟩⟩⟩⟩
  · refine ite_no (by rw [dec0, decide_eq_false z]; decide) ?_
    refine ⟨_, rfl, _, rfl, _, d, rfl, b1, fun o' ho' => ⟨_, rfl, _, rfl, _, _, rfl, _, rfl, Nat.gcd sw (Nat.gcd t (Nat.gcd o (2 * t))), d, by rw [gcdF]; rfl, b3, fun s' hs' => ⟨_, rfl, _, rfl, _, d, rfl, b2, fun t' ht' => ⟨(by show 4 ≤ sizeLine; decide), fun T hT => tail 1 (by rw [if_neg z]) o' s' t' ho' hs' ht' T hT⟩⟩⟩⟩
theorem ok_l_told (F : Fn K mg "_law_told" s_l_told ["_law_realm_here"]) (R : RCls K C mc) (PR_inverse : HasPr P w K mg base C "inverse" (spGetR C fun d _ _ _ => d)) (PR_ones : HasPr P w K mg base C "ones" (spGetR C fun _ o _ _ => o)) (PR_swaps : HasPr P w K mg base C "swaps" (spGetR C fun _ _ s _ => s)) (PR_squares : HasPr P w K mg base C "squares" (spGetR C fun _ _ _ t => t)) :
    Has P w K mg base 3 "_law_told" ["_law_realm_here"] (spTold C) := by
  refine F.has sc_l_told (fun vs H Q E h => ?_) (fun f cdv A outer s H vs Q E hr h => ?_)
  · obtain ⟨a, d, o, s, t, rfl, _⟩ := h
    rfl
  obtain ⟨a, d, o, s', t, rfl, hR, q⟩ := h
  have cl_ := R.cl
  refine ⟨_, (pss_one (ps_ret (pe_tup (pa_cons (pe_pr cl_ PR_inverse (hr.mono (by decide)) (pv 0) rfl) (pa_cons (pe_pr cl_ PR_ones (hr.mono (by decide)) (pv 0) rfl) (pa_cons (pe_pr cl_ PR_swaps (hr.mono (by decide)) (pv 0) rfl) (pa_cons (pe_pr cl_ PR_squares (hr.mono (by decide)) (pv 0) rfl) pa_nil))))))), ?_⟩
  obtain ⟨dx, T, h1, h2⟩ := id hR
  exact ⟨_, rfl, a, dx, _, rfl, h1, a, d, o, s', t, rfl, hR, _, rfl, a, dx, _, rfl, h1, a, d, o, s', t, rfl, hR, _, rfl, a, dx, _, rfl, h1, a, d, o, s', t, rfl, hR, _, rfl, a, dx, _, rfl, h1, a, d, o, s', t, rfl, hR, (by show 4 ≤ sizeLine; decide), fun p hp => q _ p (same_upd hp) hp upd_same⟩
theorem ok_l_realm {f0 : Addr} {fd0 : FuncData} (F : Fn K mg "_law_realm" s_l_realm ["_law_numbers"]) (MK_Realm : Rlm P w K mg base C CE f0 fd0) : Has P w K mg base 6 "_law_realm" ["_law_numbers"] (spLRealm C) := by
  refine F.has sc_l_realm (fun vs H Q E h => ?_) (fun f cdv A outer s H vs Q E hr h => ?_)
  · obtain ⟨T, i, o, s, t, rfl, _⟩ := h
    rfl
  obtain ⟨T, i, o, s', t, rfl, hT, h1, h2, ho, hs, ht, q⟩ := h
  refine ⟨_, (pss_one (ps_ret (pe_makeKRealm MK_Realm (kbRealm_inverse_ones_swaps_squares MK_Realm.D) passL (hr.mono (by decide)) (by rfl) (pk_cons (pe_ix ix_tup (pv 0) pe_int (fun _ _ => rfl)) (pk_cons (pe_ix ix_tup (pv 0) pe_int (fun _ _ => rfl)) (pk_cons (pe_ix ix_tup (pv 0) pe_int (fun _ _ => rfl)) (pk_cons (pe_ix ix_tup (pv 0) pe_int (fun _ _ => rfl)) pk_nil))))))), ?_⟩
  refine ⟨_, rfl, T, _, _, _, rfl, rfl, SqT.of hT, atI_nat (j := 0) rfl, _, rfl, T, _, _, _, rfl, rfl, SqT.of hT, atI_nat (j := 1) rfl, _, rfl, T, _, _, _, rfl, rfl, SqT.of hT, atI_nat (j := 2) rfl, _, rfl, T, _, _, _, rfl, rfl, SqT.of hT, atI_nat (j := 3) rfl, rfl, ?_⟩
  exact .inl ⟨i, o, s', t, rfl, h1, h2, by omega, by omega, by omega, q⟩
theorem ok_l_settle (F : Fn K mg "_law_settle" s_l_settle ["_law_numbers"]) (G_l_radical : Has P w K mg base 2 "_law_radical" ["_law_number"] spRadL) (G_l_settled : Has P w K mg base 3 "_law_settled" ["_law_d", "_law_o", "_law_s", "_law_t"] spSettled) : Has P w K mg base 4 "_law_settle" ["_law_numbers"] spLSettle := by
  refine F.has sc_l_settle (fun vs H Q E h => ?_) (fun f cdv A outer s H vs Q E hr h => ?_)
  · obtain ⟨T, i, o, s, t, rfl, _⟩ := h
    rfl
  obtain ⟨T, i, o, s', t, rfl, hT, h1, h2, ho, hs, ht, q⟩ := h
  refine ⟨_, (pss_one (ps_ret (pe_own G_l_settled (hr.mono (by decide)) (by rfl) (pa_cons (pe_own G_l_radical (hr.mono (by decide)) (by rfl) (pa_cons (pe_ix ix_tup (pv 0) pe_int (fun _ _ => rfl)) pa_nil)) (pa_cons (pe_ix ix_tup (pv 0) pe_int (fun _ _ => rfl)) (pa_cons (pe_ix ix_tup (pv 0) pe_int (fun _ _ => rfl)) (pa_cons (pe_ix ix_tup (pv 0) pe_int (fun _ _ => rfl)) pa_nil))))))), ?_⟩
  refine ⟨_, rfl, T, _, _, _, rfl, rfl, SqT.of hT, atI_nat (j := 0) rfl, i, rfl, h1, h2, fun H1 s1 => ?_⟩
  have hT1 := s1 _ _ hT
  refine ⟨_, rfl, T, _, _, _, rfl, rfl, SqT.of hT1, atI_nat (j := 1) rfl, _, rfl, T, _, _, _, rfl, rfl, SqT.of hT1, atI_nat (j := 2) rfl, _, rfl, T, _, _, _, rfl, rfl, SqT.of hT1, atI_nat (j := 3) rfl, radL i, o, s', t, rfl, ho, hs, ht, ?_⟩
  exact fun H' T' d' o' s'' t' N s2 hn e => q H' T' d' o' s'' t' N (s1.trans s2) (s1.free hn) e
end
end My
/-! a drawn realm's numbers -/
namespace My
open PySem PySem.Spec PyProof.Rows L2
/-- whole numbers of a display, all at most B -/
theorem nat_mem {xs : List V} {v : V} {B : Nat} (h : v ∈ xs) (hb : ∀ x ∈ xs, ∃ n : Nat, x = .int (n : Int) ∧ n ≤ B) : ∃ n : Nat, v = .int (n : Int) ∧ n ≤ B := hb v h
section
variable {P : Program} {w : World} {K : PySem.W.Frag} {mg : Str → Option Value} {base : Heap} {C CE : Addr} {mc : Value}
theorem ok_l_drawn_realm (F : Fn K mg "_law_drawn_realm" s_l_drawn_realm ["_law_bag_here"]) (G_l_draw : Has P w K mg base 1 "_law_draw" ["_law_bag_here", "_law_many"] spDraw) (G_l_pick : Has P w K mg base 2 "_law_pick" ["_law_bag_here", "_law_some"] (spPick K)) :
    Has P w K mg base 3 "_law_drawn_realm" ["_law_bag_here"] spDrawnR := by
  refine F.has sc_l_drawn_realm (fun vs H Q E h => ?_) (fun f cdv A outer s H vs Q E hr h => ?_)
  · obtain ⟨b, c, rfl, _⟩ := h
    rfl
  obtain ⟨b, c, rfl, hB, q⟩ := h
  refine ⟨_, (pss_cons (ps_set (i := 1) sc_l_drawn_realm.nd rfl (Or.inl rfl) (pe_own G_l_pick (hr.mono (by decide)) (by rfl) (pa_cons (pv 0) (pa_cons (pe_lst (pa_cons pe_int (pa_cons pe_int (pa_cons pe_int (pa_cons pe_int (pa_cons pe_int (pa_cons pe_int (pa_cons pe_int (pa_cons pe_int (pa_cons pe_int pa_nil)))))))))) pa_nil))))
      (pss_cons (ps_set (i := 2) sc_l_drawn_realm.nd rfl (Or.inl rfl) (pe_own G_l_pick (hr.mono (by decide)) (by rfl) (pa_cons (pv 0) (pa_cons (pe_lst (pa_cons pe_int (pa_cons pe_int (pa_cons pe_int (pa_cons pe_int (pa_cons pe_int (pa_cons pe_int (pa_cons pe_int (pa_cons pe_int (pa_cons (pe_op op_add pe_int (pe_own G_l_draw (hr.mono (by decide)) (by rfl) (pa_cons (pv 0) (pa_cons pe_int pa_nil)))) pa_nil)))))))))) pa_nil))))
      (pss_cons (ps_set (i := 3) sc_l_drawn_realm.nd rfl (Or.inl rfl) (pe_own G_l_pick (hr.mono (by decide)) (by rfl) (pa_cons (pv 0) (pa_cons (pe_lst (pa_cons pe_int (pa_cons pe_int (pa_cons pe_int (pa_cons pe_int (pa_cons pe_int (pa_cons (pe_op op_add pe_int (pe_own G_l_draw (hr.mono (by decide)) (by rfl) (pa_cons (pv 0) (pa_cons pe_int pa_nil)))) pa_nil))))))) pa_nil))))
      (pss_one (ps_ret (pe_tup (pa_cons (pv 1) (pa_cons (pe_op op_mul (pv 2) (pe_own G_l_pick (hr.mono (by decide)) (by rfl) (pa_cons (pv 0) (pa_cons (pe_lst (pa_cons pe_int (pa_cons pe_int (pa_cons pe_int (pa_cons pe_int (pa_cons pe_int pa_nil)))))) pa_nil)))) (pa_cons (pe_ifExp (pt_cmpR op_eq (pe_own G_l_draw (hr.mono (by decide)) (by rfl) (pa_cons (pv 0) (pa_cons pe_int pa_nil))) pe_int (nomark _)) (pe_op op_mul (pv 2) (pv 3)) (pv 3)) (pa_cons (pe_own G_l_pick (hr.mono (by decide)) (by rfl) (pa_cons (pv 0) (pa_cons (pe_lst (pa_cons (pv 2) (pa_cons (pe_op op_mul (pv 2) pe_int) (pa_cons pe_int (pa_cons (pv 3) (pa_cons (pe_op op_add pe_int (pe_own G_l_draw (hr.mono (by decide)) (by rfl) (pa_cons (pv 0) (pa_cons pe_int pa_nil)))) pa_nil)))))) pa_nil))) pa_nil)))))))))), ?_⟩
  -- d
  refine ⟨_, rfl, (by show 9 ≤ sizeLine; decide), fun l1 n1 => ⟨b, c, .ref l1, rfl, hB.same (same_upd n1), .inl ⟨l1, _, rfl, hB.ne_new n1, upd_same, by simp, (by show 9 ≤ 1000; decide), fun v1 H1 m1 k1 B1 => ?_⟩⟩⟩
  obtain ⟨d, rfl, d1, d2⟩ : ∃ n : Nat, v1 = .int (n : Int) ∧ 1 ≤ n ∧ n ≤ 35 := by
    simp only [List.mem_cons, List.not_mem_nil, or_false] at m1
    rcases m1 with rfl | rfl | rfl | rfl | rfl | rfl | rfl | rfl | rfl <;> exact ⟨_, rfl, by decide, by decide⟩
  have K1 : Kp b H H1 := (Kp.of (same_upd n1)).trans k1
  -- part
  refine ⟨_, rfl, _, rfl, b, c, 60, rfl, B1, by decide, by decide, fun v2 H2 z0 z1 k2 B2 => ⟨_, _, rfl, rfl, (by show 9 ≤ sizeLine; decide), fun l2 n2 => ?_⟩⟩
  refine ⟨b, c, .ref l2, rfl, B2.same (same_upd n2), .inl ⟨l2, _, rfl, B2.ne_new n2, upd_same, by simp, (by show 9 ≤ 1000; decide), fun v3 H3 m3 k3 B3 => ?_⟩⟩
  obtain ⟨part, rfl, pb⟩ : ∃ n : Nat, v3 = .int (n : Int) ∧ n ≤ 60 := by
    simp only [List.mem_cons, List.not_mem_nil, or_false] at m3
    rcases m3 with rfl | rfl | rfl | rfl | rfl | rfl | rfl | rfl | rfl
    · exact ⟨0, rfl, by decide⟩
    · exact ⟨1, rfl, by decide⟩
    · exact ⟨2, rfl, by decide⟩
    · exact ⟨3, rfl, by decide⟩
    · exact ⟨4, rfl, by decide⟩
    · exact ⟨6, rfl, by decide⟩
    · exact ⟨12, rfl, by decide⟩
    · exact ⟨30, rfl, by decide⟩
    · exact ⟨(1 + v2).toNat, congrArg V.int (by omega), by omega⟩
  have K3 : Kp b H H3 := K1.trans (k2.trans ((Kp.of (same_upd n2)).trans k3))
  -- more
  refine ⟨_, rfl, _, rfl, b, c, 12, rfl, B3, by decide, by decide, fun v4 H4 y0 y1 k4 B4 => ⟨_, _, rfl, rfl, (by show 6 ≤ sizeLine; decide), fun l4 n4 => ?_⟩⟩
  refine ⟨b, c, .ref l4, rfl, B4.same (same_upd n4), .inl ⟨l4, _, rfl, B4.ne_new n4, upd_same, by simp, (by show 6 ≤ 1000; decide), fun v5 H5 m5 k5 B5 => ?_⟩⟩
  obtain ⟨more, rfl, mb⟩ : ∃ n : Nat, v5 = .int (n : Int) ∧ n ≤ 12 := by
    simp only [List.mem_cons, List.not_mem_nil, or_false] at m5
    rcases m5 with rfl | rfl | rfl | rfl | rfl | rfl
    · exact ⟨0, rfl, by decide⟩
    · exact ⟨0, rfl, by decide⟩
    · exact ⟨1, rfl, by decide⟩
    · exact ⟨2, rfl, by decide⟩
    · exact ⟨5, rfl, by decide⟩
    · exact ⟨(1 + v4).toNat, congrArg V.int (by omega), by omega⟩
  have K5 : Kp b H H5 := K3.trans (k4.trans ((Kp.of (same_upd n4)).trans k5))
  -- the tuple
  refine ⟨_, rfl, _, rfl, _, rfl, (by show 5 ≤ sizeLine; decide), fun l6 n6 => ?_⟩
  refine ⟨b, c, .ref l6, rfl, B5.same (same_upd n6), .inl ⟨l6, _, rfl, B5.ne_new n6, upd_same, by simp, (by show 5 ≤ 1000; decide), fun v7 H7 m7 k7 B7 => ?_⟩⟩
  obtain ⟨f1, rfl, fb⟩ : ∃ n : Nat, v7 = .int (n : Int) ∧ n ≤ 3 := by
    simp only [List.mem_cons, List.not_mem_nil, or_false] at m7
    rcases m7 with rfl | rfl | rfl | rfl | rfl
    · exact ⟨0, rfl, by decide⟩
    · exact ⟨1, rfl, by decide⟩
    · exact ⟨1, rfl, by decide⟩
    · exact ⟨2, rfl, by decide⟩
    · exact ⟨3, rfl, by decide⟩
  have K7 : Kp b H H7 := K5.trans ((Kp.of (same_upd n6)).trans k7)
  have hpm : part * more ≤ 720 := Nat.le_trans (Nat.mul_le_mul pb mb) (by decide)
  have hpf : part * f1 ≤ 180 := Nat.le_trans (Nat.mul_le_mul pb fb) (by decide)
  refine ⟨_, _, rfl, rfl, .inl ⟨by omega, by omega⟩, ?_⟩
  refine ⟨_, rfl, b, c, 2, rfl, B7, by decide, by decide, fun v8 H8 _ _ k8 B8 => ⟨rfl, _, rfl, ?_⟩⟩
  have K8 : Kp b H H8 := K7.trans k8
  refine ite2 (fun e => ?_) (fun e => ?_)
  · refine ⟨_, rfl, _, rfl, _, _, rfl, rfl, .inl ⟨by omega, by omega⟩, ?_⟩
    refine ⟨_, rfl, _, rfl, _, rfl, _, _, rfl, rfl, .inl ⟨by omega, by omega⟩, _, rfl, _, rfl, b, c, 24, rfl, B8, by decide, by decide, fun v9 H9 w0 w1 k9 B9 => ⟨_, _, rfl, rfl, (by show 5 ≤ sizeLine; decide), fun l10 n10 => ?_⟩⟩
    refine ⟨b, c, .ref l10, rfl, B9.same (same_upd n10), .inl ⟨l10, _, rfl, B9.ne_new n10, upd_same, by simp, (by show 5 ≤ 1000; decide), fun v11 H11 m11 k11 B11 => ?_⟩⟩
    obtain ⟨tv, rfl, tb⟩ : ∃ n : Nat, v11 = .int (n : Int) ∧ n ≤ 120 := by
      simp only [List.mem_cons, List.not_mem_nil, or_false] at m11
      rcases m11 with rfl | rfl | rfl | rfl | rfl
      · exact ⟨part, rfl, by omega⟩
      · exact ⟨part * 2, congrArg V.int (by omega), by omega⟩
      · exact ⟨0, rfl, by decide⟩
      · exact ⟨more, rfl, by omega⟩
      · exact ⟨(1 + v9).toNat, congrArg V.int (by omega), by omega⟩
    have K11 : Kp b H H11 := K8.trans (k9.trans ((Kp.of (same_upd n10)).trans k11))
    refine ⟨(by show 4 ≤ sizeLine; decide), fun T hT => ?_⟩
    obtain ⟨_, hb⟩ := B11.sel
    obtain ⟨_, hb0⟩ := hB.sel
    have nT : T ≠ b := (ne_of_none hb hT).symm
    refine q _ T d (part * f1) (part * more) tv (K11.trans (Kp.of (same_upd hT))) (B11.same (same_upd hT)) ?_ nT ?_ d1 d2 (by omega) (by omega) (by omega)
    · cases eH : H T with
      | none => rfl
      | some o => rw [K11 _ _ nT eH] at hT; cases hT
    · rw [upd_same]
      unfold tupR
      rw [Int.natCast_mul, Int.natCast_mul]
  · refine ⟨_, rfl, ?_⟩
    refine ⟨_, rfl, _, rfl, _, rfl, _, _, rfl, rfl, .inl ⟨by omega, by omega⟩, _, rfl, _, rfl, b, c, 24, rfl, B8, by decide, by decide, fun v9 H9 w0 w1 k9 B9 => ⟨_, _, rfl, rfl, (by show 5 ≤ sizeLine; decide), fun l10 n10 => ?_⟩⟩
    refine ⟨b, c, .ref l10, rfl, B9.same (same_upd n10), .inl ⟨l10, _, rfl, B9.ne_new n10, upd_same, by simp, (by show 5 ≤ 1000; decide), fun v11 H11 m11 k11 B11 => ?_⟩⟩
    obtain ⟨tv, rfl, tb⟩ : ∃ n : Nat, v11 = .int (n : Int) ∧ n ≤ 120 := by
      simp only [List.mem_cons, List.not_mem_nil, or_false] at m11
      rcases m11 with rfl | rfl | rfl | rfl | rfl
      · exact ⟨part, rfl, by omega⟩
      · exact ⟨part * 2, congrArg V.int (by omega), by omega⟩
      · exact ⟨0, rfl, by decide⟩
      · exact ⟨more, rfl, by omega⟩
      · exact ⟨(1 + v9).toNat, congrArg V.int (by omega), by omega⟩
    have K11 : Kp b H H11 := K8.trans (k9.trans ((Kp.of (same_upd n10)).trans k11))
    refine ⟨(by show 4 ≤ sizeLine; decide), fun T hT => ?_⟩
    obtain ⟨_, hb⟩ := B11.sel
    have nT : T ≠ b := (ne_of_none hb hT).symm
    refine q _ T d (part * f1) more tv (K11.trans (Kp.of (same_upd hT))) (B11.same (same_upd hT)) ?_ nT ?_ d1 d2 (by omega) (by omega) (by omega)
    · cases eH : H T with
      | none => rfl
      | some o => rw [K11 _ _ nT eH] at hT; cases hT
    · rw [upd_same]
      unfold tupR
      rw [Int.natCast_mul]
end
end My
/-! static methods of a realm -/
namespace My
open PySem PySem.Spec PyProof.Rows L2
structure HasSt (P : Program) (w : World) (K : PySem.W.Frag) (mg : Str → Option Value) (base : Heap) (k : Nat) (C : Addr) (mc : Value) (m : Str) (ps : List Str) (sp : Sp) : Prop where
  ex : ∃ (p g : Addr) (fd : FuncData), OwO.CStat K C mc m p g ∧ FnOk P w K mg base CX0 k g fd ps sp ∧ PySem.W.keepIn K (.ref g) = true ∧ Binds K fd ps []
theorem pe_st0 {X : Cx} {C : Addr} {mc : Value} {k : Nat} {c m : Str} {ps : List Str} {sp : Sp} {p0 pos apos : Pos} {pl : Sem Bool} (gC : X.mg c = some (.ref C)) (r : ClX.CRead X.K C mc) (h : HasSt X.prog X.w X.K X.mg X.base k C mc m ps sp) (hr : Room k X.A) (hg : Gl X c) (hdb : (c == ("__debug__" : Str)) = false := by decide)
    (ht : eval (.Call (.Attribute (.Name c p0) m apos) [] [] pos) X.env = (do
      let ov ← eval (.Name c p0) X.env
      standAt apos.atName
      let (f, first) ← holding [ov] (getMethod ov m pl)
      callWith pos f first (backTo pos (starEach [] X.env)) (backToKw pos (keywordEach [] X.env))) := by rfl) :
    PE X (.Call (.Attribute (.Name c p0) m apos) [] [] pos) (OwO.tStat C sp [] E0 (tC (.ref C)) tNil) := by
  obtain ⟨p, g, fd, c', F, kp, b⟩ := h.ex
  exact OwO.pe_stat0 (pe_gref gC hg hdb) r c' F hr kp b .nil pass0 ht
/-- a new realm of such numbers -/
def spNew (C : Addr) (d o s t : Nat) : Sp := fun vs H Q _ => vs = [] ∧ ∀ (H' : Hp) (a : Addr), Same H H' → H a = none → RealmAt C H' a d o s t → Q (.ref a) H'
theorem wish_of {C CE : Addr} {xs : List V} {H : Hp} {Q : VK} {E : XK} {i o s t d' o' s' t' : Nat} (e : xs = [.int i, .int o, .int s, .int t]) (h1 : 1 ≤ i) (h2 : i ≤ 1000000) (ho : o < 2 ^ 100) (hs : s < 2 ^ 100) (ht : t < 2 ^ 100) (N : Nrm (radL i) o s t d' o' s' t')
    (q : ∀ (H' : Hp) (a : Addr), Same H H' → H a = none → RealmAt C H' a d' o' s' t' → Q (.ref a) H') : RlmWish C CE xs H Q E := by
  refine .inl ⟨i, o, s, t, e, h1, h2, ho, hs, ht, fun H' a d2 o2 s2 t2 N2 sm hn R => ?_⟩
  obtain ⟨rfl, rfl, rfl, rfl⟩ := N.one N2
  exact q H' a sm hn R
theorem strip_zero {b : Nat} : Strip 0 b 0 := .inl ⟨rfl, rfl⟩
theorem nrm_all : Nrm (radL 1) 0 0 0 1 0 0 0 := ⟨by decide, strip_zero, strip_zero, strip_zero⟩
theorem nrm_swaps1 : Nrm (radL 1) 0 1 0 1 0 1 0 := ⟨by decide, strip_zero, .inr ⟨by decide, by decide, by decide, 0, by decide⟩, strip_zero⟩
theorem nrm_ones1 : Nrm (radL 1) 1 0 0 1 1 1 1 := ⟨by decide, .inr ⟨by decide, by decide, by decide, 0, by decide⟩, .inr ⟨by decide, by decide, by decide, 0, by decide⟩, .inr ⟨by decide, by decide, by decide, 0, by decide⟩⟩
section
variable {P : Program} {w : World} {K : PySem.W.Frag} {mg : Str → Option Value} {base : Heap} {C CE f0 : Addr} {fd0 : FuncData} {mc : Value}
theorem ok_everywhere {g p : Addr} {fd : FuncData} (MK_Realm : Rlm P w K mg base C CE f0 fd0) (F : Fun K "everywhere" "Realm.everywhere" s_Realm_everywhere g fd) (c : OwO.CStat K C mc "everywhere" p g) (b : Binds K fd [] []) : HasSt P w K mg base 6 C mc "everywhere" [] (spNew C 1 0 0 0) := by
  refine ⟨p, g, fd, c, F.ok sc_Realm_everywhere (fun vs H Q E h => ?_) (fun cdv A outer s H vs Q E hr h => ?_), F.kp, b⟩
  · obtain ⟨rfl, _⟩ := h
    rfl
  obtain ⟨rfl, q⟩ := h
  refine ⟨_, (pss_one (ps_ret (pe_make0Realm MK_Realm passL (hr.mono (by decide)) (by rfl)))), ?_⟩
  exact wish_of (i := 1) (o := 0) (s := 0) (t := 0) rfl (by decide) (by decide) (by decide) (by decide) (by decide) nrm_all q
theorem ok_nowhere {g p : Addr} {fd : FuncData} (MK_Realm : Rlm P w K mg base C CE f0 fd0) (F : Fun K "nowhere" "Realm.nowhere" s_Realm_nowhere g fd) (c : OwO.CStat K C mc "nowhere" p g) (b : Binds K fd [] []) : HasSt P w K mg base 6 C mc "nowhere" [] (spNew C 1 1 1 1) := by
  refine ⟨p, g, fd, c, F.ok sc_Realm_nowhere (fun vs H Q E h => ?_) (fun cdv A outer s H vs Q E hr h => ?_), F.kp, b⟩
  · obtain ⟨rfl, _⟩ := h
    rfl
  obtain ⟨rfl, q⟩ := h
  refine ⟨_, (pss_one (ps_ret (pe_makeKRealm MK_Realm (kbRealm_ones MK_Realm.D) passL (hr.mono (by decide)) (by rfl) (pk_cons pe_int pk_nil)))), ?_⟩
  exact ⟨rfl, wish_of (i := 1) (o := 1) (s := 0) (t := 0) rfl (by decide) (by decide) (by decide) (by decide) (by decide) nrm_ones1 q⟩
end
end My
/-! methods; pairs of lists (where S0 is not used) -/
namespace My
open PySem PySem.Spec PyProof.Rows L2
structure HasM (P : Program) (w : World) (K : PySem.W.Frag) (mg : Str → Option Value) (base : Heap) (k : Nat) (C : Addr) (m : Str) (ps : List Str) (sp : Sp) : Prop where
  ex : ∃ (f : Addr) (fd : FuncData), FnOk P w K mg base CX0 k f fd ps sp ∧ Meth K C m f ∧ Binds K fd ps []
section
variable {X : Cx} {k : Nat} {m : Str} {ps : List Str} {sp : Sp} {pos apos : Pos} {o e : Expr} {es : List Expr} {ta : TE} {t : TA} {C : Addr}
theorem pe_ownM {pl : Sem Bool} (c : Cls X.K C) (h : HasM X.prog X.w X.K X.mg X.base k C m ps sp) (hr : Room k X.A) (he : PE X o ta) (ha : PA X (e :: es) t)
    (hst : starEach (e :: es) X.env = (false, eval e X.env) :: starEach es X.env := by rfl) (hpl : (backTo pos (starEach es X.env)).any (·.1) = false := by rfl)
    (ht : eval (.Call (.Attribute o m apos) (e :: es) [] pos) X.env = (do
      let ov ← eval o X.env
      standAt apos.atName
      let (f, first) ← holding [ov] (getMethod ov m pl)
      callWith pos f first (backTo pos (starEach (e :: es) X.env)) (backToKw pos (keywordEach [] X.env))) := by rfl) :
    PE X (.Call (.Attribute o m apos) (e :: es) [] pos) (tMeth C m sp [] E0 ta t) := by
  obtain ⟨f, fd, F, M, b⟩ := h.ex
  exact pe_meth he c M F hr b .nil pass0 ha hst hpl ht
theorem pe_ownM0 {pl : Sem Bool} (c : Cls X.K C) (h : HasM X.prog X.w X.K X.mg X.base k C m ps sp) (hr : Room k X.A) (he : PE X o ta)
    (ht : eval (.Call (.Attribute o m apos) [] [] pos) X.env = (do
      let ov ← eval o X.env
      standAt apos.atName
      let (f, first) ← holding [ov] (getMethod ov m pl)
      callWith pos f first (backTo pos (starEach [] X.env)) (backToKw pos (keywordEach [] X.env))) := by rfl) :
    PE X (.Call (.Attribute o m apos) [] [] pos) (tMeth C m sp [] E0 ta tNil) := by
  obtain ⟨f, fd, F, M, b⟩ := h.ex
  exact pe_meth0 he c M F hr b .nil pass0 ht
end
/-! ### pairs of lists -/
theorem pget {α β : Type} {F : α → β → Prop} : ∀ {xs : List α} {ys : List β} {i : Nat} {x : α} {y : β}, Paired F xs ys → xs[i]? = some x → ys[i]? = some y → F x y
  | _, _, i, x, y, .nil, hx, _ => by simp at hx
  | _, _, 0, x, y, .cons r _, hx, hy => by
    cases hx
    cases hy
    exact r
  | _, _, i + 1, x, y, .cons _ t, hx, hy => pget t (i := i) (by simpa using hx) (by simpa using hy)
theorem plen {α β : Type} {F : α → β → Prop} : ∀ {xs : List α} {ys : List β}, Paired F xs ys → xs.length = ys.length
  | _, _, .nil => rfl
  | _, _, .cons _ t => congrArg (· + 1) (plen t)
theorem pmono {α β : Type} {F G : α → β → Prop} (h : ∀ a b, F a b → G a b) : ∀ {xs : List α} {ys : List β}, Paired F xs ys → Paired G xs ys
  | _, _, .nil => .nil
  | _, _, .cons r t => .cons (h _ _ r) (pmono h t)
theorem papp {α β : Type} {F : α → β → Prop} : ∀ {xs : List α} {ys : List β} {us : List α} {vs : List β}, Paired F xs ys → Paired F us vs → Paired F (xs ++ us) (ys ++ vs)
  | _, _, _, _, .nil, h => h
  | _, _, _, _, .cons r t, h => .cons r (papp t h)
/-- the i-th pair, by the place on the left -/
theorem pat {α β : Type} {F : α → β → Prop} {xs : List α} {ys : List β} {i : Nat} (h : Paired F xs ys) (hi : i < ys.length) : ∃ x y, xs[i]? = some x ∧ ys[i]? = some y ∧ F x y := by
  have e := plen h
  have hx : xs[i]? = some (xs[i]'(by omega)) := List.getElem?_eq_getElem (by omega)
  have hy : ys[i]? = some ys[i] := List.getElem?_eq_getElem hi
  exact ⟨_, _, hx, hy, pget h hx hy⟩
theorem pmem {α β : Type} {F G : α → β → Prop} : ∀ {xs : List α} {ys : List β}, Paired F xs ys → (∀ a b, b ∈ ys → F a b → G a b) → Paired G xs ys
  | _, _, .nil, _ => .nil
  | _, _, .cons r t, h => .cons (h _ _ List.mem_cons_self r) (pmem t fun a b m z => h a b (List.mem_cons_of_mem _ m) z)
theorem decI (a b : Int) : decide (V.int a = V.int b) = decide (a = b) := by
  by_cases z : a = b
  · subst z
    rw [decide_eq_true rfl, decide_eq_true rfl]
  · rw [decide_eq_false z, decide_eq_false]
    intro y
    injection y with y
    exact z y
/-- the i-th of a mapped list -/
theorem at_map {α : Type} {f : α → V} {xs : List α} {i : Nat} {v : V} (h : (xs.map f)[i]? = some v) : ∃ x, xs[i]? = some x ∧ v = f x := by
  rw [List.getElem?_map] at h
  cases hi : xs[i]? with
  | none => rw [hi] at h; cases h
  | some x =>
    rw [hi] at h
    exact ⟨x, rfl, (Option.some.inj h).symm⟩
theorem at_some {α : Type} {f : α → V} {xs : List α} {i : Nat} {x : α} (h : xs[i]? = some x) : (xs.map f)[i]? = some (f x) := by
  rw [List.getElem?_map, h]
  rfl
theorem take_snoc {α : Type} {xs : List α} {i : Nat} {x : α} (h : xs[i]? = some x) : xs.take (i + 1) = xs.take i ++ [x] := by
  rw [List.take_add_one, h]
  rfl
end My
/-! lambdas that a list holds: made, handed on, called by defs of one's own -/
namespace LamL
open PySem PySem.Spec PyProof.Rows L2 LamX My
/-- what is asked of the state at a call holds over a larger ground: all that is there, but the tracked things and the frames that run -/
theorem ground {X : Cx} {pins : List (Addr × Obj)} {σ : L2.St} {H : Hp} {s : Shared} (I : Inv X pins σ H s) (hfn : ∀ x, X.fn x = true) :
    ∃ B : Heap, Env0 X.prog X.w X.K X.mg B X.A X.stack s H ∧ (∀ b o, X.base.get? b = some o → B.get? b = some o) ∧ X.base.objs.size ≤ B.objs.size ∧ (∀ b o, B.get? b = some o → s.heap.get? b = some o) ∧ ∀ x c, X.env.cells.lookup x = some c → ∃ o, s.heap.get? c = some o ∧ B.get? c = some o := by
  have kp : ∀ b o, s.heap.get? b = some o → H b = none → b ∉ frs X.stack → (PySem.W.hideAll s.heap (trk s.heap H ++ frs X.stack)).get? b = some o := fun b o e n f =>
    PySem.W.hideAll_get _ e fun m => (List.mem_append.mp m).elim (fun z => by
      have q : (H b).isSome = true := (List.mem_filter.mp z).2
      rw [n] at q
      cases q) f
  have bk : ∀ b o, X.base.get? b = some o → (PySem.W.hideAll s.heap (trk s.heap H ++ frs X.stack)).get? b = some o := fun b o e => kp b o (I.bs b o e).1 (I.bs b o e).2 fun hm => by
    have z := (I.stack.mem hm).1
    rw [e] at z
    cases z
  have hs : (PySem.W.hideAll s.heap (trk s.heap H ++ frs X.stack)).objs.size = s.heap.objs.size := PySem.W.hideAll_size _ _
  obtain ⟨mb, b1, b2⟩ := I.mod.blt
  refine ⟨_, ⟨I.ok.frames, ⟨I.mod.kin.keeps bk, I.mod.glob.keeps bk, ⟨mb, b1.keeps bk, b2⟩, I.mod.nolimit.keeps bk⟩, fun b o e => ?_, Nat.le_of_eq hs, funFrames_none I.stack fun L hL => PySem.W.hideAll_none _ (List.mem_append_right _ hL), I.stkFree, I.hok, I.bare⟩, bk, by rw [hs]; exact Nat.le_trans I.ok.bsz I.sz, fun b o e => PySem.W.of_hideAll _ e, fun x c e => ?_⟩
  · have e1 := PySem.W.of_hideAll _ e
    refine ⟨e1, ?_⟩
    cases q : H b with
    | none => rfl
    | some u =>
      have hm : b ∈ trk s.heap H := List.mem_filter.mpr ⟨List.mem_range.mpr (Heap.lt_size e1), by rw [q]; rfl⟩
      rw [PySem.W.hideAll_none _ (List.mem_append_left _ hm)] at e
      cases e
  · obtain ⟨v, o, ho, hd⟩ := I.cell x c e
    refine ⟨o, ho, kp c o ho (I.freeC x c e) fun hm => ?_⟩
    rcases List.mem_cons.mp (I.stkSub c hm) with z | z
    · exact I.cne x c e z
    · obtain ⟨_, o', e', _⟩ := I.ok.funs.mem z
      exact Nat.lt_irrefl _ (Nat.lt_of_lt_of_le (Heap.lt_size e') (I.ok.cab x c (hfn x) e))
/-! ### the function's object -/
def FunO (f : Addr) (fd : FuncData) : HO := .ext fun h => h.get? f = some { cls := .type "function", data := .func fd }
theorem funO_ne {f : Addr} {fd : FuncData} (ps : Array Value) : FunO f fd ≠ .tbl ps := fun z => by
  unfold FunO at z
  cases z
theorem funO_get {P : Program} {w : World} {H : Hp} {h : Heap} {f : Addr} {fd : FuncData} (k : HOk P w H h) (e : H f = some (FunO f fd)) : h.get? f = some { cls := .type "function", data := .func fd } := (k f _ e).1
/-- a lambda, as it is written: the names with a default (one at most), its text -/
structure LamD where
  pn : List Str
  params : Arguments
  body : Expr
  scope : Scope
  /-- the slots of the maker's names that a parameter hides -/
  ws : List Nat
abbrev lamFd (X : Cx) (L : LamD) (dV doc pm : Value) (c' : Addr) (ctv : Value) : FuncData :=
  PySem.W.kdv_fn "<lambda>" (X.env.qual ++ "<lambda>") L.params (.expr L.body) L.scope (cloFrom X.env.cells L.scope.names []) dV doc pm (.ref c') ctv
/-- it was made here, and lies at f -/
def IsLam (X : Cx) (L : LamD) (H : Hp) (f : Addr) : Prop := ∃ (c' : Addr) (dV doc pm ctv : Value), H f = some (FunO f (lamFd X L dV doc pm c' ctv)) ∧ H c' = some (CodeO c' (X.env.qual ++ "<lambda>")) ∧
  ((L.pn = [] ∧ dV = .none) ∨ ∃ n T, L.pn = [n] ∧ dV = .ref T ∧ H T = some (.tup [.int 0]))
theorem IsLam.ext {X : Cx} {L : LamD} {H H' : Hp} {f : Addr} (h : IsLam X L H f) (e : ExtN H H') : IsLam X L H' f := by
  obtain ⟨c', dV, doc, pm, ctv, h1, h2, h3⟩ := h
  refine ⟨c', dV, doc, pm, ctv, e _ _ h1 funO_ne, e _ _ h2 codeO_ne, ?_⟩
  rcases h3 with ⟨a, b⟩ | ⟨n, T, a, b, c⟩
  · exact .inl ⟨a, b⟩
  · exact .inr ⟨n, T, a, b, e _ _ c fun ps z => by cases z⟩
theorem IsLam.same {X : Cx} {L : LamD} {H H' : Hp} {f : Addr} (h : IsLam X L H f) (e : Same H H') : IsLam X L H' f := h.ext (ExtN.of e)
/-- the lambdas of a list, in their order -/
def LamsAt (X : Cx) : List LamD → Hp → List Addr → Prop
  | [], _, [] => True
  | L :: Ls, H, f :: fs => IsLam X L H f ∧ LamsAt X Ls H fs
  | _, _, _ => False
theorem LamsAt.ext {X : Cx} {H H' : Hp} (e : ExtN H H') : ∀ {Ls : List LamD} {fs : List Addr}, LamsAt X Ls H fs → LamsAt X Ls H' fs
  | [], [], _ => True.intro
  | _ :: _, _ :: _, h => ⟨h.1.ext e, LamsAt.ext e h.2⟩
  | [], _ :: _, h => h.elim
  | _ :: _, [], h => h.elim
theorem LamsAt.same {X : Cx} {H H' : Hp} {Ls : List LamD} {fs : List Addr} (h : LamsAt X Ls H fs) (e : Same H H') : LamsAt X Ls H' fs := h.ext (ExtN.of e)
theorem LamsAt.len {X : Cx} {H : Hp} : ∀ {Ls : List LamD} {fs : List Addr}, LamsAt X Ls H fs → fs.length = Ls.length
  | [], [], _ => rfl
  | _ :: _, _ :: _, h => congrArg (· + 1) (LamsAt.len h.2)
  | [], _ :: _, h => h.elim
  | _ :: _, [], h => h.elim
/-! ### making -/
def tMk (X : Cx) (T : List (Addr × Str)) (L : LamD) : TE := fun _ H Q => Tabs T H ∧ ∀ f H1, ExtN H H1 → Tabs T H1 → IsLam X L H1 f → Q (.ref f) H1
section
variable {X : Cx} {pins : List (Addr × Obj)} {σ : L2.St} {H : Hp} {s : Shared}
theorem mk_core {T : List (Addr × Str)} {c P : Addr} {L : LamD} {pos : Pos} {dV : Value} {E : Value → Shared → Prop} {Q : Value → Shared → Prop} (I : Inv X pins σ H s) (TB : TabB X.base X.mg c P) (hcode : X.env.code = .ref c)
    (hm : (P, X.env.qual ++ "<lambda>") ∈ T) (hu : ∀ p ∈ T, p.1 = P → p.2 = X.env.qual ++ "<lambda>") (hT : Tabs T H) (hfree : ∀ y ∈ L.scope.names, y.2 = .free → ∃ c, X.env.cells.lookup y.1 = some c)
    (h : ∀ (f c' : Addr) (doc pm ctv : Value) (H1 : Hp) (s' : Shared), Inv X pins σ H1 s' → ExtN H H1 → Tabs T H1 → H1 f = some (FunO f (lamFd X L dV doc pm c' ctv)) → H1 c' = some (CodeO c' (X.env.qual ++ "<lambda>")) → Q (.ref f) s') :
    wpAny (model X.prog X.w) X.A (makeTail "<lambda>" (X.env.qual ++ "<lambda>") L.params (.expr L.body) L.scope X.env dV .none none pos pos.line) Q E s := by
  obtain ⟨ps, tP, t3, look⟩ := hT _ hm
  have oP : s.heap.get? P = some { cls := .none, data := .fields ps } := I.hok P _ tP
  have bP : s.heap.BuiltinsAt X.mg P := TB.bm.keeps I.bk
  -- the function's object, laid behind a state that knows the tables
  have fin : ∀ {H2 : Hp} {h2 : Heap} {tk t2 : Nat} {c' : Addr} {doc pm ctv : Value}, Inv X pins σ H2 { s with heap := h2, toks := t2 } → ExtN H H2 → Tabs T H2 → H2 c' = some (CodeO c' (X.env.qual ++ "<lambda>")) →
      Q (.ref h2.objs.size) { s with heap := h2.push { cls := .type "function", data := .func (lamFd X L dV doc pm c' ctv) }, toks := tk } := fun {H2 h2 tk t2 c' doc pm ctv} I2 e2 T2 hc => by
    have n2 : H2 h2.objs.size = none := I2.hok.fresh (Nat.le_refl _)
    have sm : Same H2 (upd H2 h2.objs.size (FunO h2.objs.size (lamFd X L dV doc pm c' ctv))) := same_upd n2
    have I3 : Inv X pins σ (upd H2 h2.objs.size (FunO h2.objs.size (lamFd X L dV doc pm c' ctv))) { s with heap := h2.push { cls := .type "function", data := .func (lamFd X L dV doc pm c' ctv) }, toks := tk } :=
      I2.laid (t' := tk) (fun b u e => Heap.get?_push_of_some _ e) (Nat.le_refl _) ⟨Heap.get?_push_size _ rfl, ⟨_, Heap.get?_push_size _ rfl⟩, fun h1 h2 p st => st _ p⟩
    exact h _ c' doc pm ctv _ _ I3 (e2.trans (ExtN.of sm)) (T2.ext sm) upd_same (sm _ _ hc)
  cases hc : codeAmong pos ps.toList with
  | none =>
    refine PySem.W.kdv_makeTail (mg := X.mg) (c := c) (P := P) (ps := ps) (closure_ok hfree) I.ok.glob (I.mod.glob.keeps I.bk) hcode (TB.code.keeps I.bk) oP t3 hc TB.gP bP fun c' ctv doc h' tk hx hge hlt hrec htb => ?_
    obtain ⟨c2, oc, vs, t, e2, hoc, hd, hv⟩ := hrec
    cases e2
    have nC : H c' = none := I.hok.fresh hge
    have I1 := inv_table (t' := tk) (more := #[rawInt pos.line, rawInt pos.col, .ref c']) (h' := h') I tP hx htb hge ⟨oc, vs, t, hoc, hd, hv⟩
    have eN : ExtN H (upd (upd H P (.tbl (ps ++ #[rawInt pos.line, rawInt pos.col, .ref c']))) c' (CodeO c' (X.env.qual ++ "<lambda>"))) := by
      intro b o e n
      have bP' : b ≠ P := fun z => by
        rw [z, tP] at e
        exact n ps (Option.some.inj e).symm
      rw [upd_ne (ne_of_none e nC), upd_ne bP']
      exact e
    have atP : upd (upd H P (.tbl (ps ++ #[rawInt pos.line, rawInt pos.col, .ref c']))) c' (CodeO c' (X.env.qual ++ "<lambda>")) P = some (.tbl (ps ++ #[rawInt pos.line, rawInt pos.col, .ref c'])) := by rw [upd_ne (ne_of_none tP nC), upd_same]
    have eL : (ps ++ #[rawInt pos.line, rawInt pos.col, .ref c']).toList = ps.toList ++ [rawInt pos.line, rawInt pos.col, .ref c'] := by simp
    refine fin I1 eN (fun p hp => ?_) upd_same
    by_cases hb : p.1 = P
    · rw [hu p hp hb, hb]
      refine ⟨_, atP, by rw [eL]; exact PySem.TriplesOk_snoc _ _ _ _ t3, fun p' cv hcv => ?_⟩
      rw [eL] at hcv
      rcases among_app _ t3 hcv with z | z
      · obtain ⟨c0, e1, e2⟩ := look p' cv z
        exact ⟨c0, e1, eN _ _ e2 codeO_ne⟩
      · exact ⟨c', z, upd_same⟩
    · obtain ⟨ps', a1, a2, a3⟩ := hT p hp
      refine ⟨ps', by rw [upd_ne (ne_of_none a1 nC), upd_ne hb]; exact a1, a2, fun p' cv hcv => ?_⟩
      obtain ⟨c0, e1, e2⟩ := a3 p' cv hcv
      exact ⟨c0, e1, eN _ _ e2 codeO_ne⟩
  | some cv =>
    obtain ⟨c', e, hco⟩ := look pos cv hc
    subst e
    refine PySem.W.kdv_makeTailHit (mg := X.mg) (c := c) (P := P) (ps := ps) (closure_ok hfree) I.ok.glob (I.mod.glob.keeps I.bk) hcode (TB.code.keeps I.bk) oP t3 hc bP fun ctv doc h' tk hx hsz => ?_
    exact fin (I.kept (t' := tk) hx) (ExtN.refl H) hT hco
/-- what is asked of a lambda's text: no parameter, or one with the default 0 -/
structure LamTxt (X : Cx) (L : LamD) : Prop where
  kind : L.scope.kind = .function
  co : L.scope.isCoroutine = false
  gen : L.scope.isGenerator = false
  cell : ∀ y ∈ L.scope.names, y.2 ≠ .cell
  loc : ∀ y ∈ L.scope.names, y.2 = .local → y.1 ∈ L.pn ∧ ∀ i, X.N[i]? = some y.1 → i ∈ L.ws
  par : ∀ n ∈ L.pn, L.scope.names.lookup n = some .local
  free : ∀ y ∈ L.scope.names, y.2 = .free → X.env.scope.names.lookup y.1 = some .cell ∨ X.env.scope.names.lookup y.1 = some .free
def lamTxtB (N : List Str) (sc : Scope) (pn : List Str) (ws : List Nat) (scope : Scope) : Bool :=
  decide (scope.kind = .function) && !scope.isCoroutine && !scope.isGenerator && (scope.names.all fun y => !decide (y.2 = .cell) && (!decide (y.2 = .local) || (decide (y.1 ∈ pn) && (List.range N.length).all fun i => !decide (N[i]? = some y.1) || decide (i ∈ ws))) && (!decide (y.2 = .free) || decide (sc.names.lookup y.1 = some .cell) || decide (sc.names.lookup y.1 = some .free))) &&
    pn.all fun n => decide (scope.names.lookup n = some .local)
theorem lamTxt_by {X : Cx} {L : LamD} (h : lamTxtB X.N X.env.scope L.pn L.ws L.scope = true) : LamTxt X L := by
  unfold lamTxtB at h
  simp only [Bool.and_eq_true, Bool.or_eq_true, Bool.not_eq_true', decide_eq_true_eq, decide_eq_false_iff_not, List.all_eq_true] at h
  obtain ⟨⟨⟨⟨h1, h2⟩, h3⟩, h4⟩, h5⟩ := h
  refine ⟨h1, h2, h3, fun y hy => (h4 y hy).1.1, fun y hy e => ?_, h5, fun y hy e => ?_⟩
  · obtain ⟨z1, z2⟩ := ((h4 y hy).1.2).resolve_left fun z => z e
    exact ⟨z1, fun i hi => (z2 i (List.mem_range.mpr (List.getElem?_eq_some_iff.mp hi).1)).resolve_left fun z => z hi⟩
  rcases (h4 y hy).2 with (z | z) | z
  · exact absurd e z
  · exact .inl z
  · exact .inr z
theorem lamTxt_at {X : Cx} {L : LamD} (N : List Str) (sc : Scope) (h : lamTxtB N sc L.pn L.ws L.scope = true) (hN : X.N = N := by rfl) (hs : X.env.scope = sc := by rfl) : LamTxt X L := by
  subst hN
  subst hs
  exact lamTxt_by h
theorem LamTxt.has {L : LamD} (t : LamTxt X L) (ok : X.Ok) : ∀ y ∈ L.scope.names, y.2 = .free → ∃ c, X.env.cells.lookup y.1 = some c := fun y hy e => ok.has _ (t.free y hy e)
/-- lambda: body -/
theorem pe_mk0 {T : List (Addr × Str)} {c P : Addr} {params : Arguments} {body : Expr} {scope : Scope} {pos : Pos} (TB : TabB X.base X.mg c P) (hcode : X.env.code = .ref c) (hm : (P, X.env.qual ++ "<lambda>") ∈ T) (hu : ∀ p ∈ T, p.1 = P → p.2 = X.env.qual ++ "<lambda>")
    (t : LamTxt X ⟨[], params, body, scope, []⟩) (hdef : defaultsOf params X.env = ([], [])) : PE X (.Lambda params body scope pos) (tMk X T ⟨[], params, body, scope, []⟩) := by
  refine ⟨fun pins s σ H Q I h => ?_⟩
  obtain ⟨hT, h⟩ := h
  refine PySem.W.kla_eval hdef ?_
  rw [makeFunction_eq]
  simp only [List.zip_nil_right, List.filterMap_nil, List.isEmpty_nil, if_true, pure_bind]
  refine mk_core (L := ⟨[], params, body, scope, []⟩) I TB hcode hm hu hT (t.has I.ok) fun f c' doc pm ctv H1 s' I1 e1 T1 hf hc => ?_
  exact ⟨.ref f, H1, I1, rfl, h f H1 e1 T1 ⟨c', _, doc, pm, ctv, hf, hc, .inl ⟨rfl, rfl⟩⟩⟩
/-- lambda n=0: body -/
theorem pe_mk1 (ws : List Nat) {T : List (Addr × Str)} {c P : Addr} {n : Str} {params : Arguments} {body d0 : Expr} {scope : Scope} {pos : Pos} (TB : TabB X.base X.mg c P) (hcode : X.env.code = .ref c) (hm : (P, X.env.qual ++ "<lambda>") ∈ T) (hu : ∀ p ∈ T, p.1 = P → p.2 = X.env.qual ++ "<lambda>")
    (t : LamTxt X ⟨[n], params, body, scope, ws⟩) (hd : params.defaults = [d0]) (hk0 : params.kw_defaults = []) (h0 : PE X d0 (tC (.int 0))) : PE X (.Lambda params body scope pos) (tMk X T ⟨[n], params, body, scope, ws⟩) := by
  refine ⟨fun pins s σ H Q I h => ?_⟩
  obtain ⟨hT, h⟩ := h
  refine PySem.W.kdv_lam (by rw [hd]; rfl) hk0 ?_
  rw [hd]
  refine PySem.W.kdv_all1 (thn (h0.run pins s σ H (fun v H' => v = .int 0 ∧ H' = H) I ⟨rfl, rfl⟩) fun u s1 ⟨v, H', I1, r, ev, eH⟩ => PySem.W.kdv_all0 ?_)
  subst ev
  subst eH
  rw [makeFunction_eq]
  simp only [List.zip_nil_right, List.filterMap_nil, List.isEmpty_nil, if_true, pure_bind, List.isEmpty_cons, Bool.false_eq_true, if_false]
  have nT : H' s1.heap.objs.size = none := I1.hok.fresh (Nat.le_refl _)
  have sm : Same H' (upd H' s1.heap.objs.size (.tup [.int 0])) := same_upd nT
  refine wpAny_bind (wpAny_newTextTuple ?_)
  have I2 : Inv X pins σ (upd H' s1.heap.objs.size (.tup [.int 0])) { s1 with heap := s1.heap.push { cls := .type "tuple", data := .seq [u].toArray } } :=
    I1.laid (t' := s1.toks) (fun b u e => Heap.get?_push_of_some _ e) (Nat.le_refl _) ⟨by show 1 ≤ sizeLine; decide, [u], .cons r .nil, ⟨_, Heap.get?_push_size _ rfl, rfl, _, rfl⟩⟩
  refine mk_core (L := ⟨[n], params, body, scope, ws⟩) I2 TB hcode hm hu (hT.ext sm) (t.has I2.ok) fun f c' doc pm ctv H1 s' I3 e1 T1 hf hc => ?_
  exact ⟨.ref f, H1, I3, rfl, h f H1 ((ExtN.of sm).trans e1) T1 ⟨c', _, doc, pm, ctv, hf, hc, .inr ⟨n, _, rfl, rfl, e1 _ _ upd_same fun ps z => by cases z⟩⟩⟩
/-- a list's lambdas -/
def tMks (X : Cx) (T : List (Addr × Str)) (Ls : List LamD) : TA := fun _ H Q => Tabs T H ∧ ∀ fs H1, ExtN H H1 → Tabs T H1 → LamsAt X Ls H1 fs → Q (fs.map V.ref) H1
theorem pal_nil {T : List (Addr × Str)} : PA X [] (tMks X T []) := ⟨fun pos pins s σ H Q I h => pa_nil.run pos pins s σ H Q I (h.2 [] H (ExtN.refl H) h.1 True.intro)⟩
theorem pal_cons {T : List (Addr × Str)} {L : LamD} {Ls : List LamD} {e : Expr} {es : List Expr} (he : PE X e (tMk X T L)) (ha : PA X es (tMks X T Ls)) (hs : starEach (e :: es) X.env = (false, eval e X.env) :: starEach es X.env := by rfl) : PA X (e :: es) (tMks X T (L :: Ls)) :=
  ⟨fun pos pins s σ H Q I h => (pa_cons he ha hs).run pos pins s σ H Q I ⟨h.1, fun f H1 e1 T1 l1 => ⟨T1, fun fs H2 e2 T2 l2 => h.2 (f :: fs) H2 (e1.trans e2) T2 ⟨l1.ext e2, l2⟩⟩⟩⟩
end
end LamL
namespace LamL
open PySem PySem.Spec PyProof.Rows L2 LamX My
/-! ### calling -/
/-- f() at any state over the ground B keeps what tl reads -/
def Can (P : Program) (w : World) (K : PySem.W.Frag) (mg : Str → Option Value) (B : Heap) (k : Nat) (f : Addr) (tl : XK → Hp → VK → Prop) : Prop := ∀ (A : Around) (outer : List Env) (s : Shared) (H : Hp) (Q : VK) (E : XK),
  Room k A → Env0 P w K mg B A outer s H → tl E H Q → codeAny (model P w) A (.call (.ref f) ⟨[], []⟩) (CR (L2.CX P w) outer P w H s Q E) s
/-- how the call binds -/
def LamBind (L : LamD) : Prop :=
  (L.pn = [] → ∀ (q : Str) (cl : List (Str × Addr)) (doc pm cv ctv : Value), bindArgs (PySem.W.kdv_fn "<lambda>" q L.params (.expr L.body) L.scope cl .none doc pm cv ctv) ⟨[], []⟩ = pure []) ∧
  ∀ n, L.pn = [n] → ∀ (q : Str) (cl : List (Str × Addr)) (T : Addr) (doc pm cv ctv u : Value), ∃ k : Option (Array Value) → Sem (List (Str × Value)),
    bindArgs (PySem.W.kdv_fn "<lambda>" q L.params (.expr L.body) L.scope cl (.ref T) doc pm cv ctv) ⟨[], []⟩ = seqItems? (.ref T) >>= k ∧ k (some #[u]) = pure [(n, u)]
section
variable {X : Cx} {pins : List (Addr × Obj)} {σ : L2.St} {H : Hp} {s : Shared}
theorem lam_enter {A : Around} {outer : List Env} {E : XK} {L : LamD} {f c' : Addr} {h₁ : Heap} {tk : Nat} {B : Heap} {s1 : Shared} {HZ : Hp} {binds : List (Str × Value)} (I : Inv X pins σ H s) (t : LamTxt X L) (e0 : Env0 X.prog X.w X.K X.mg B A outer s1 HZ) (hd : A.handled = none)
    (bk : ∀ b o, X.base.get? b = some o → B.get? b = some o) (bsz : X.base.objs.size ≤ B.objs.size) (bc : ∀ x c, X.env.cells.lookup x = some c → ∃ o, s.heap.get? c = some o ∧ B.get? c = some o)
    (hns : h₁.Ns s1.heap.objs.size fun y => binds.reverse.lookup y) (kp : ∀ b o, s1.heap.get? b = some o → h₁.get? b = some o) :
    Inv (lamCx X A outer s1 HZ E L.scope f c') [] (wipe σ L.ws) HZ { s1 with heap := h₁, toks := tk } := by
  have hfree := t.has I.ok
  have cm : ∀ {y c}, (cloFrom X.env.cells L.scope.names []).lookup y = some c → X.env.cells.lookup y = some c := by
    intro y c e
    cases cloFrom_mem (PySem.mem_of_lookup e) with
    | inl hm => cases hm
    | inr hm =>
      obtain ⟨h1, h2⟩ := hm
      obtain ⟨c1, hc⟩ := hfree _ h1 rfl
      have hc : X.env.cells.lookup y = some c1 := hc
      rw [h2, hc]
      rfl
  have look : ∀ {y}, L.scope.names.lookup y = some .free → ∃ c, (cloFrom X.env.cells L.scope.names []).lookup y = some c := by
    intro y hl
    exact mem_lookup (cloFrom_has (cells := X.env.cells) (acc := []) (PySem.mem_of_lookup hl))
  have old : ∀ {x c}, X.env.cells.lookup x = some c → ∀ v, s.heap.IsCell c v → HZ c = none ∧ h₁.IsCell c v := by
    rintro x c e v ⟨o, ho, hd⟩
    obtain ⟨o', ho', hb⟩ := bc x c e
    rw [ho] at ho'
    cases ho'
    obtain ⟨q1, q2⟩ := e0.bs c o hb
    exact ⟨q2, o, kp c o q1, hd⟩
  have none' : ∀ b : Addr, b ∉ (lamCx X A outer s1 HZ E L.scope f c').ex := by
    intro b z
    cases (show b ∈ ([] : List Addr) from z)
  have bs' : ∀ b o, X.base.get? b = some o → s1.heap.get? b = some o ∧ HZ b = none := fun b o e => e0.bs b o (bk b o e)
  have fr' : s1.heap.FunFrames X.base outer := funFrames_none e0.funs fun b hb => by
    have z := (e0.funs.mem hb).1
    cases q : X.base.get? b with
    | none => rfl
    | some o =>
      rw [bk b o q] at z
      cases z
  have okX : (lamCx X A outer s1 HZ E L.scope f c').Ok := by
    refine ⟨I.mod, t.kind, rfl, rfl, Nat.le_refl _, ?_, ?_, ?_, fun _ => hd, Around.frames_deeper e0.frames, .inr ⟨rfl, rfl⟩, fun b z => absurd z (none' b), bs', Nat.le_trans bsz e0.bsz, fun b _ _ => none' b, fun b z => absurd z (none' b), fr', e0.frf⟩
    · exact fun y z c e1 e2 => I.ok.inj y z c (cm e1) (cm e2)
    · intro y hy
      have hy : L.scope.names.lookup y = some .cell ∨ L.scope.names.lookup y = some .free := hy
      cases hy with
      | inl hy => exact absurd rfl (t.cell _ (PySem.mem_of_lookup hy))
      | inr hy => exact look hy
    · intro y c z _
      cases (show false = true from z)
  refine ⟨okX, rfl, e0.bare, Un.kept kp, ⟨_, hns, ?_⟩, ?_, e0.hok.fresh (Nat.le_refl _), ?_, fun q hq => absurd (show q ∈ ([] : List (Addr × Obj)) ++ [] from hq) (by simp), e0.hok.kept kp, by rw [wipe_length]; exact I.len⟩
  · intro i y v e1 e2 e3
    have e3 : Vis L.scope y := e3
    have e1 : X.N[i]? = some y := e1
    rcases e3 with k | k | k
    · exact absurd ((t.loc _ (PySem.mem_of_lookup k) rfl).2 i e1) (wipe_some e2).2
    · exact absurd rfl (t.cell _ (PySem.mem_of_lookup k))
    · obtain ⟨m, hn, hl⟩ := I.loc
      have fr := t.free _ (PySem.mem_of_lookup k) rfl
      obtain ⟨w', r, q⟩ := hl i y v e1 (wipe_some e2).1 (fr.elim (fun k => .inr (.inl k)) fun k => .inr (.inr k))
      obtain ⟨c2, h2⟩ := look k
      refine ⟨w', r, .inr ⟨.inr k, c2, h2, ?_⟩⟩
      have c1 := cm h2
      rcases q with ⟨k', _⟩ | ⟨_, c3, e', z⟩
      · have k' : X.env.scope.names.lookup y = some .local := k'
        cases fr with
        | inl k2 =>
          rw [show X.env.scope.names.lookup y = _ from k2] at k'
          cases k'
        | inr k2 =>
          rw [show X.env.scope.names.lookup y = _ from k2] at k'
          cases k'
      · rw [c1] at e'
        cases e'
        exact (old c1 _ z).2
  · intro y c e
    obtain ⟨w', z⟩ := I.cell y c (cm e)
    exact ⟨w', (old (cm e) _ z).2⟩
  · intro y c e
    obtain ⟨w', z⟩ := I.cell y c (cm e)
    exact (old (cm e) _ z).1
theorem lam_can {L : LamD} {B : Heap} {k : Nat} {f : Addr} {tb : XK → TE} (I : Inv X pins σ H s) (t : LamTxt X L) (hb : LamBind L) (bk : ∀ b o, X.base.get? b = some o → B.get? b = some o) (bsz : X.base.objs.size ≤ B.objs.size)
    (bc : ∀ x c, X.env.cells.lookup x = some c → ∃ o, s.heap.get? c = some o ∧ B.get? c = some o)
    (hbody : ∀ (A : Around) (outer : List Env) (s : Shared) (H : Hp) (E : XK) (f c' : Addr), Room k (A.deeper (lamEnv X L.scope s.heap.objs.size f c')) → PE (lamCx X A outer s H E L.scope f c') L.body (tb E)) :
    Can X.prog X.w X.K X.mg B (k + 1) f fun E HZ Q => IsLam X L HZ f ∧ tb E (wipe σ L.ws) HZ Q := by
  rintro A outer s1 HZ Q E hr e0 ⟨⟨c', dV, doc, pm, ctv, hf, hc, hp⟩, ht⟩
  have of1 := funO_get e0.hok hf
  obtain ⟨⟨oc, vs, tt, hoc, hdc, hvc⟩, _, _⟩ := e0.hok c' _ hc
  have lim : s1.heap.NoLimit := e0.mod.nolimit.keeps fun b o e => (e0.bs b o e).1
  have run : ∀ binds : List (Str × Value), (∀ y ∈ binds, L.scope.names.lookup y.1 = some .local) → BindsTo s1 (lamFd X L dV doc pm c' ctv) ⟨[], []⟩ binds → codeAny (model X.prog X.w) A (.call (.ref f) ⟨[], []⟩) (CR (L2.CX X.prog X.w) outer X.prog X.w HZ s1 Q E) s1 := by
    intro binds hl hbd
    refine PySem.W.kla_callFunE hr.depth of1 rfl t.co t.gen rfl ⟨c', oc, vs, tt, rfl, hoc, hdc, hvc⟩ (hbd _ _ _ _ ?_)
    refine wpAny_newFunctionEnv (fun y hy => t.cell y hy) hl (fun h₁ hns hsb => ⟨lim.fresh _ hsb, ?_⟩) t.kind
    have kp : ∀ b o, s1.heap.get? b = some o → h₁.get? b = some o := fun b o e => hsb.extBut b o (Nat.ne_of_lt (Heap.lt_size e)) (Heap.get?_push_of_some _ e)
    have J := lam_enter (tk := s1.toks + binds.length) (E := E) (f := f) (c' := c') I t e0 hr.hd bk bsz bc hns kp
    refine PySem.W.kla_codeExpr (wpAny_mono ((hbody A outer s1 HZ E f c' (hr.deeper _)).run [] _ _ HZ Q J ht) ?_ fun e s' hq => hq)
    rintro v s' ⟨w', H', J', rv, q⟩
    exact ⟨w', H', J'.os, J'.bare, J'.base, J'.hok, rv, q⟩
  rcases hp with ⟨hn, rfl⟩ | ⟨n, T, hn, rfl, hT⟩
  · exact run [] (fun y hy => by cases hy) (.of_eq (hb.1 hn _ _ _ _ _ _))
  · obtain ⟨_, its, r, o, ho, _, m, hd⟩ := e0.hok T _ hT
    cases r with
    | cons r1 r2 =>
      cases r2
      rename_i u
      obtain ⟨k', h1, h2⟩ := hb.2 n hn (X.env.qual ++ "<lambda>") (cloFrom X.env.cells L.scope.names []) T doc pm (.ref c') ctv u
      refine run [(n, u)] (fun y hy => ?_) (.of_defaults rfl ho hd h1 h2)
      rw [List.mem_singleton.mp hy]
      exact t.par n (by rw [hn]; exact List.mem_cons_self)
end
end LamL
namespace LamL
open PySem PySem.Spec PyProof.Rows L2 LamX My
/-! ### x(), in the def that got the lambda -/
def Known (H : Hp) (f : Addr) : Prop := (∃ fd, H f = some (FunO f fd)) ∧ ∃ c' q, H c' = some (CodeO c' q)
theorem Known.same {H H' : Hp} {f : Addr} (h : Known H f) (s : Same H H') : Known H' f := by
  obtain ⟨⟨fd, a⟩, c', q, b⟩ := h
  exact ⟨⟨fd, s _ _ a⟩, c', q, s _ _ b⟩
theorem IsLam.known {X : Cx} {L : LamD} {H : Hp} {f : Addr} (h : IsLam X L H f) : Known H f := by
  obtain ⟨c', dV, doc, pm, ctv, h1, h2, _⟩ := h
  exact ⟨⟨_, h1⟩, c', _, h2⟩
theorem act_can {Z : Cx} {f : Addr} {k i : Nat} {a : Str} {W : WX} {E : XK} {tl : XK → Hp → VK → Prop} {p1 p2 : Pos} (can : Can Z.prog Z.w Z.K Z.mg Z.base k f tl) (hr : Room k Z.A) (tk : Takes Z W) (hW : ∀ cls d σ' H', E cls d H' → W cls d σ' H')
    (hN : Z.N[i]? = some a) (hv : Vis Z.env.scope a) (hd : (a == ("__debug__" : Str)) = false := by decide) (hcd : (a == ("__classdict__" : Str)) = false := by decide) :
    PE Z (.Call (.Name a p1) [] [] p2) (fun σZ HZ Q => σZ[i]? = some (some (.ref f)) ∧ (∃ fd, HZ f = some (FunO f fd)) ∧ tl E HZ Q) := by
  constructor
  rintro pins s σ H Q I ⟨hs, ⟨fd, hf⟩, ht⟩
  apply wpAny_Call_Name_kw
  apply thn ((pe_var (pos := p1) (i := i) hN hv hd hcd).run pins s σ H (fun v H1 => v = .ref f ∧ H1 = H) I ⟨.ref f, hs, rfl, rfl⟩)
  rintro u s1 ⟨v, H1, I1, r1, ev, eH⟩
  subst ev
  rw [eH] at I1
  obtain rfl : u = Value.ref f := r1
  refine PySem.W.callWith_F0 ⟨_, _, _, _, funO_get I1.hok hf⟩ (wpAny_call (codeAny_mono (can Z.A Z.stack s1 H Q E hr I1.env0 ht) fun r s' hq => ?_))
  cases r with
  | error e => exact passes_call tk hW pins σ H s1 e s' I1 hq
  | ok fl =>
    cases fl with
    | ret u => exact I1.after hq
    | next => exact False.elim hq
    | brk => exact False.elim hq
    | cont => exact False.elim hq
/-! ### _law_got, _law_all -/
section
variable {P : Program} {w : World} {K : PySem.W.Frag} {mg : Str → Option Value} {B : Heap}
/-- what f() gives, told as _law_got tells it -/
def Asked (P : Program) (w : World) (K : PySem.W.Frag) (mg : Str → Option Value) (B : Heap) (k : Nat) (cs : List Value) (f : Addr) (H : Hp) (Q : VK) : Prop :=
  ∃ tl, Can P w K mg B k f tl ∧ Known H f ∧ TGot K cs tl H Q
def spGotL (P : Program) (w : World) (K : PySem.W.Frag) (mg : Str → Option Value) (B : Heap) (k : Nat) (cs : List Value) : Sp := fun vs H Q _ => ∃ f, vs = [.ref f] ∧ Asked P w K mg B k cs f H Q
theorem ok_gotL {C1 C2 C3 : Value} {k : Nat} (F : Fn K mg "_law_got" s_l_got ["_law_ask"]) (m1 : mg "RingError" = some C1) (m2 : mg "Missing" = some C2) (m3 : mg "NothingLeft" = some C3)
    (G_l_field : HasP P w K mg B 1 "_law_field" ["_law_e"] (spField K)) : Has P w K mg B (k + 2) "_law_got" ["_law_ask"] (spGotL P w K mg B (k + 1) [C1, C2, C3]) := by
  obtain ⟨f, fd, F, m, b⟩ := F.ex
  have kp := F.kp
  obtain ⟨oc, od, kV, doc, pm, an, cdv, ct, osl, rfl, lk, hcd⟩ := F.ex
  refine ⟨f, _, ⟨fun vs H Q E h => ?_, fun A outer s H args us vs Q E hr e0 hb r h => ?_⟩, m, kp, b⟩
  · obtain ⟨g, rfl, _⟩ := h
    rfl
  obtain ⟨g, rfl, tl, can, ⟨⟨gd, hg⟩, c', q, hc⟩, ht⟩ := h
  refine run_ofS lk hcd sc_l_got hr e0 hb r rfl fun hr' => ?_
  have GG := got_gives (X := { prog := P, w := w, K := K, mg := mg, base := B, A := A, N := [], s_0 := s, H_0 := H, env := envOfC "_law_got" (defScope s_l_got) s.heap.objs.size f cdv, outer := outer, stack := outer, ex := [], fn := fun _ => true, calm := true, pn := [], xe := fun _ _ => False })
    (g := f) (cdg := cdv) (q := q) (k := k) hr G_l_field m1 m2 m3
  obtain ⟨t, h1, h2⟩ := GG g c' s H Q (fun E H' Q' => (∃ fd, H' g = some (FunO g fd)) ∧ tl E H' Q') (fun W pn xe E p1 p2 tk hW => by
    have pa := act_can (Z := Cx.tr (cxOf C8.CX0 P w K mg B N_l_got "_law_got" (defScope s_l_got) f cdv A outer s H C8.E0) pn xe) (i := 0) (a := "_law_ask") (p1 := p1) (p2 := p2) (f := g) can hr' tk hW rfl (by exact .inl rfl)
    exact ⟨fun pins s' σ' H' Q' I ⟨e1, _, e2, e3⟩ => pa.run pins s' σ' H' Q' I ⟨e1, e2, e3⟩⟩) hc ⟨⟨gd, hg⟩, ht⟩
  exact ⟨t, h1.nox, h2⟩
/-! ### a list of one's own, out of a callee's sight -/
def hid (H : Hp) (D : Addr) : Hp := fun b => if b = D then none else H b
theorem hid_at {H : Hp} {D : Addr} : hid H D D = none := if_pos rfl
theorem hid_ne {H : Hp} {D b : Addr} (h : b ≠ D) : hid H D b = H b := if_neg h
theorem hid_some {H : Hp} {D b : Addr} {o : HO} (h : hid H D b = some o) : b ≠ D ∧ H b = some o := by
  by_cases z : b = D
  · rw [z, hid_at] at h
    cases h
  · rw [hid_ne z] at h
    exact ⟨z, h⟩
theorem hid_none {H : Hp} {D b : Addr} (h : H b = none) : hid H D b = none := by
  by_cases z : b = D
  · rw [z, hid_at]
  · rw [hid_ne z, h]
theorem hid_sub {H : Hp} {D : Addr} : Same (hid H D) H := fun b o h => (hid_some h).2
theorem hid_same {H H' : Hp} {D : Addr} (h : H D = none) (s : Same H H') : Same H (hid H' D) := fun b o e => by
  rw [hid_ne (ne_of_none e h)]
  exact s _ _ e
theorem hid_upd {H : Hp} {D : Addr} {o : HO} (h : H D = none) : hid (upd H D o) D = H := by
  funext b
  by_cases z : b = D
  · rw [z, hid_at, h]
  · rw [hid_ne z, upd_ne z]
theorem hok_hid {h : Heap} {H : Hp} {D : Addr} {xs : List V} (k : HOk P w H h) (hD : H D = some (.lst xs)) : HOk P w (hid H D) h := fun b o e => by
  obtain ⟨_, e'⟩ := hid_some e
  refine (k b o e').stay (fun _ _ _ q => q) (fun c q => ?_) fun c ys q => ?_
  · rw [hid_ne (ne_of q hD fun z => by cases z)]
    exact q
  · rw [hid_ne (ne_of q hD fun z => by cases z)]
    exact q
/-- the callee runs, the list at D hidden from it -/
theorem ce_hid {outer : List Env} {H : Hp} {s s' : Shared} {D : Addr} {xs : List V} {Q : VK} {u : Value} (k : HOk P w H s.heap) (hD : H D = some (.lst xs)) (fr : D ∉ frs outer)
    (h : CE outer P w (hid H D) s (fun v H' => H' D = none → Q v (upd H' D (.lst xs))) u s') : CE outer P w H s Q u s' := by
  obtain ⟨v, H', os, ag, un, hok, r, q⟩ := h
  obtain ⟨hl, its, n, rv, ho⟩ : ObjOk P w H s.heap D (.lst xs) := k D _ hD
  have nD : H' D = none := un.free D _ ho hid_at (fun z => by cases z)
  have oD := un.keep D _ ho hid_at fr (fun z => by cases z)
  have ne : ∀ {b : Addr} {o : HO}, H' b = some o → b ≠ D := fun e => ne_of_none e nD
  have nh : ∀ {b : Addr} {o : HO}, H b = some o → (∀ ys, o ≠ .lst ys) → b ≠ D := fun {b o} e n z => by
    rw [z, hD] at e
    exact n xs (Option.some.inj e).symm
  refine ⟨v, _, os, ag, ⟨fun b o e n => un.keep b o e (hid_none n), fun b o e n => un.slot b o e (hid_none n), fun b o e n hx => ?_, un.there, fun b ys e => ?_, fun b o z e => ?_, fun b ps e => ?_⟩, fun b o e => ?_, r, q nD⟩
  · have z : b ≠ D := fun z => by
      rw [z, hD] at n
      cases n
    rw [upd_ne z]
    exact un.free b o e (hid_none n) hx
  · have z := nh e fun ys q => by cases q
    rw [upd_ne z]
    exact un.tups b ys (by rw [hid_ne z]; exact e)
  · have z' := nh e fun ys q => by cases q
    rw [upd_ne z']
    exact un.frzs b o z (by rw [hid_ne z']; exact e)
  · have z := nh e fun ys q => by cases q
    rw [upd_ne z]
    exact un.tbls b ps (by rw [hid_ne z]; exact e)
  · by_cases z : b = D
    · rw [z, upd_same] at e
      cases e
      rw [z]
      exact ⟨hl, its, n, rv, oD⟩
    · rw [upd_ne z] at e
      refine (hok b o e).stay (fun _ _ _ q => q) (fun c q => ?_) fun c ys q => ?_
      · rw [upd_ne (ne q)]
        exact q
      · rw [upd_ne (ne q)]
        exact q
def tCallD (sp : Sp) (t : TA) : TE := fun σ H Q => t σ H fun vs H1 => ∃ D xs, H1 D = some (.lst xs) ∧ sp vs (hid H1 D) (fun v H' => H' D = none → Q v (upd H' D (.lst xs))) E0
theorem pe_ownD {X : Cx} {k : Nat} {x : Str} {ps : List Str} {sp : Sp} {p pos : Pos} {e : Expr} {es : List Expr} {t : TA} (h : Has X.prog X.w X.K X.mg X.base k x ps sp) (hr : Room k X.A) (hg : Gl X x) (ha : PA X (e :: es) t) (hdb : (x == ("__debug__" : Str)) = false := by decide)
    (he : starEach (e :: es) X.env = (false, eval e X.env) :: starEach es X.env := by rfl) (hpl : (backTo pos (starEach es X.env)).any (·.1) = false := by rfl) : PE X (.Call (.Name x p) (e :: es) [] pos) (tCallD sp t) := by
  obtain ⟨f, fd, F, m, kp, hb⟩ := h.ex
  constructor
  intro pins s σ H Q I h
  apply wpAny_Call_Name_kw (ld_glob I hg m ?_ hdb)
  apply PySem.W.callWith_K (h₀ := X.base) I.ok.mod.kin kp _ he hpl
  apply thn (ha.run pos pins s σ H _ I h)
  rintro us s1 ⟨vs, H1, I1, r, D, xs, hD, q⟩
  refine ⟨I1.kIn, ?_⟩
  have b := hb s1 us I1.kIn (by rw [List.append_nil, ← r.length]; exact F.len _ _ _ _ q)
  rw [List.append_nil] at b
  have e1 := I1.env0
  have e2 : Env0 X.prog X.w X.K X.mg X.base X.A X.stack s1 (hid H1 D) := ⟨e1.frames, e1.mod, fun b o e => ⟨(e1.bs b o e).1, hid_none (e1.bs b o e).2⟩, e1.bsz, e1.funs, fun b hb => hid_none (e1.frf b hb), hok_hid e1.hok hD, e1.bare⟩
  apply wpAny_call
  apply codeAny_mono (F.run X.A X.stack s1 (hid H1 D) ⟨us, []⟩ us vs _ E0 hr e2 b r q)
  intro r s' hq
  cases r with
  | error e => exact (show False from hq).elim
  | ok fl =>
    cases fl with
    | ret u => exact I1.after (ce_hid I1.hok hD (fun z => by have := I1.stkFree D z; rw [hD] at this; cases this) hq)
    | next => exact False.elim hq
    | brk => exact False.elim hq
    | cont => exact False.elim hq
abbrev Res := V → Hp → Prop
def Keeps (R : Res) : Prop := ∀ v H H', R v H → Same H H' → R v H'
/-- each lambda gives, wherever it is asked behind H, what its R says -/
def AskedAll (P : Program) (w : World) (K : PySem.W.Frag) (mg : Str → Option Value) (B : Heap) (k : Nat) (cs : List Value) (H : Hp) (fs : List Addr) (Rs : List Res) : Prop :=
  Paired (fun f R => Keeps R ∧ Known H f ∧ ∀ Hb Q, Same H Hb → (∀ v H', Same Hb H' → R v H' → Q v H') → Asked P w K mg B k cs f Hb Q) fs Rs
def spAllL (P : Program) (w : World) (K : PySem.W.Frag) (mg : Str → Option Value) (B : Heap) (k : Nat) (cs : List Value) : Sp := fun vs H Q _ => ∃ (a : Addr) (fs : List Addr) (Rs : List Res), vs = [.ref a] ∧ H a = some (.lst (fs.map V.ref)) ∧ fs.length ≤ 100 ∧ AskedAll P w K mg B k cs H fs Rs ∧
  ∀ (xs : List V) (l : Addr) (H' : Hp), Same H H' → H l = none → H' l = some (.lst xs) → Paired (fun x R => R x H') xs Rs → Q (.ref l) H'
/-- what holds of each pair, told of what stands on the right -/
theorem pall {α β : Type} {F : α → β → Prop} : ∀ {xs : List α} {ys : List β} {y : β}, Paired F xs ys → y ∈ ys → ∃ x, F x y
  | _, _, _, .nil, h => by cases h
  | _, _, _, .cons r t, h => by
    rcases List.mem_cons.mp h with e | h
    · rw [e]
      exact ⟨_, r⟩
    · exact pall t h
theorem ok_allL {cs : List Value} {k : Nat} (F : Fn K mg "_law_all" s_l_all ["_law_asks"]) (G_l_got : Has P w K mg B (k + 2) "_law_got" ["_law_ask"] (spGotL P w K mg B (k + 1) cs)) : Has P w K mg B (k + 3) "_law_all" ["_law_asks"] (spAllL P w K mg B (k + 1) cs) := by
  refine F.has sc_l_all (fun vs H Q E h => ?_) (fun f cdv A outer s H vs Q E hr h => ?_)
  · obtain ⟨a, fs, Rs, rfl, _⟩ := h
    rfl
  obtain ⟨a, fs, Rs, rfl, ha, hn, hA, q⟩ := h
  refine ⟨_, (pss_one (ps_ret (pe_lc (own := [("_law_ask", 1)]) (g := gName 1) (tt := tYes) (by rfl) sc_l_all.nd (pi_list (pv 0)) (blkOk_by (own := [("_law_ask", 1)]) (N := N_l_all) (sc := defScope s_l_all) (by decide +kernel)) (fun _ _ _ _ _ => (pg_name (i := 1) sc_l_all.nd rfl (Or.inl rfl))) (fun _ _ _ _ _ => pts_nil) (fun _ _ _ _ _ => (LamL.pe_ownD G_l_got hr (by rfl) (pa_cons (pv 1) pa_nil)))))), ?_⟩
  refine ⟨_, rfl, a, rfl, ⟨_, SqL.of ha⟩, fun D hD => ?_⟩
  refine lc_it (walk_list (xs := fs.map V.ref)) (fun i H' => Same H H' ∧ ∃ xs, H' D = some (.lst xs) ∧ Paired (fun x R => R x (hid H' D)) xs (Rs.take i)) ⟨same_upd hD, [], upd_same, .nil⟩ (fun i H' _ e => SqL.of (e.1 _ _ ha)) ?_ ?_
  · rintro i v Ha Hb hi ⟨sa, xs, ea, pa⟩ ⟨rfl, hv⟩
    obtain ⟨g, hg, rfl⟩ := at_map hv
    have lr := plen hA
    have hi : i < fs.length := by simpa using hi
    obtain ⟨g', R, hg', hR, kR, kn, ask⟩ := pat hA (i := i) (by omega)
    rw [hg] at hg'
    cases hg'
    have lx := plen pa
    have lt : (Rs.take i).length ≤ 100 := by rw [List.length_take]; omega
    refine ⟨rfl, tYes_ok ⟨_, rfl, D, xs, ea, g, rfl, ask (hid Hb D) _ (hid_same hD sa) fun v H' s' r' nD => ⟨xs, upd_same, small1000 (by omega), fun c o e => ?_, xs ++ [v], upd_same, ?_⟩⟩⟩
    · rw [upd_ne (ne_of_none e hD), upd_ne (ne_of_none e hD)]
      exact s' _ _ (hid_same hD sa _ _ e)
    · rw [upd_upd, hid_upd nD, take_snoc hR]
      exact papp (pmem pa fun x R hm h => by obtain ⟨_, kR, _⟩ := pall hA (List.mem_of_mem_take hm); exact kR x _ _ h s') (.cons r' .nil)
  · rintro H2 ⟨s2, xs, e2, p2⟩
    rw [List.length_map, plen hA, List.take_length] at p2
    exact q xs D H2 s2 hD e2 (pmem p2 fun x R hm h => by obtain ⟨_, kR, _⟩ := pall hA hm; exact kR x _ _ h hid_sub)
end
end LamL
namespace LamL
open PySem PySem.Spec PyProof.Rows L2 LamX My
/-! ### _law_all(asks), in the def that made the lambdas -/
inductive LamsOk (X : Cx) (k : Nat) : List LamD → List (XK → TE) → Prop
  | nil : LamsOk X k [] []
  | cons {L : LamD} {Ls : List LamD} {t : XK → TE} {ts : List (XK → TE)} (h : LamTxt X L) (b : LamBind L)
      (hbody : ∀ (A : Around) (outer : List Env) (s : Shared) (H : Hp) (E : XK) (f c' : Addr), Room k (A.deeper (lamEnv X L.scope s.heap.objs.size f c')) → PE (lamCx X A outer s H E L.scope f c') L.body (t E)) (r : LamsOk X k Ls ts) : LamsOk X k (L :: Ls) ((fun E σ H Q => t E (wipe σ L.ws) H Q) :: ts)
theorem bind0 {params : Arguments} {body : Expr} {scope : Scope} (h : ∀ (q : Str) (cl : List (Str × Addr)) (doc pm cv ctv : Value), bindArgs (PySem.W.kdv_fn "<lambda>" q params (.expr body) scope cl .none doc pm cv ctv) ⟨[], []⟩ = pure []) : LamBind ⟨[], params, body, scope, []⟩ :=
  ⟨fun _ => h, fun n z => by cases z⟩
theorem bind1 {n : Str} {ws : List Nat} {params : Arguments} {body : Expr} {scope : Scope} (h : ∀ (q : Str) (cl : List (Str × Addr)) (T : Addr) (doc pm cv ctv u : Value), ∃ k : Option (Array Value) → Sem (List (Str × Value)),
    bindArgs (PySem.W.kdv_fn "<lambda>" q params (.expr body) scope cl (.ref T) doc pm cv ctv) ⟨[], []⟩ = seqItems? (.ref T) >>= k ∧ k (some #[u]) = pure [(n, u)]) : LamBind ⟨[n], params, body, scope, ws⟩ :=
  ⟨fun z => (by cases z), fun m z => (by cases z; exact h)⟩
/-- what is wished of each: wherever it is asked behind H, it gives what its R says -/
def Wish (K : PySem.W.Frag) (cs : List Value) (σ : L2.St) (H : Hp) : List (XK → TE) → List Res → Prop
  | [], [] => True
  | t :: ts, R :: Rs => Keeps R ∧ (∀ Hb Q, Same H Hb → (∀ v H', Same Hb H' → R v H' → Q v H') → TGot K cs (fun E H' Q' => t E σ H' Q') Hb Q) ∧ Wish K cs σ H ts Rs
  | _, _ => False
def AllP (X : Cx) (k : Nat) (cs : List Value) (σ : L2.St) (Q : VK) (vs : List V) (H1 : Hp) : Prop := ∃ (a : Addr) (fs : List Addr) (Ls : List LamD) (ts : List (XK → TE)) (Rs : List Res), vs = [.ref a] ∧ H1 a = some (.lst (fs.map V.ref)) ∧ fs.length ≤ 100 ∧ LamsAt X Ls H1 fs ∧ LamsOk X k Ls ts ∧ Wish X.K cs σ H1 ts Rs ∧
  ∀ (xs : List V) (l : Addr) (H' : Hp), Same H1 H' → H1 l = none → H' l = some (.lst xs) → Paired (fun x R => R x H') xs Rs → Q (.ref l) H'
def tAllL (X : Cx) (k : Nat) (cs : List Value) (te : TE) : TE := fun σ H Q => te σ H fun v H1 => AllP X k cs σ Q [v] H1
section
variable {X : Cx} {pins : List (Addr × Obj)} {σ : L2.St} {H : Hp} {s : Shared}
theorem asked_of {B : Heap} {k : Nat} {cs : List Value} (I : Inv X pins σ H s) (bk : ∀ b o, X.base.get? b = some o → B.get? b = some o) (bsz : X.base.objs.size ≤ B.objs.size) (bc : ∀ x c, X.env.cells.lookup x = some c → ∃ o, s.heap.get? c = some o ∧ B.get? c = some o) :
    ∀ {Ls : List LamD} {ts : List (XK → TE)} {fs : List Addr} {Rs : List Res}, LamsOk X k Ls ts → LamsAt X Ls H fs → Wish X.K cs σ H ts Rs → AskedAll X.prog X.w X.K X.mg B (k + 1) cs H fs Rs
  | [], _, [], [], .nil, _, _ => .nil
  | [], _, [], _ :: _, .nil, _, w => w.elim
  | [], _, _ :: _, _, .nil, l, _ => l.elim
  | _ :: _, _, [], _, .cons _ _ _ _, l, _ => l.elim
  | _ :: _, _, _ :: _, [], .cons _ _ _ _, _, w => w.elim
  | L :: Ls, _ :: ts, f :: fs, R :: Rs, .cons h b hb r, l, w =>
    .cons ⟨w.1, l.1.known, fun Hb Q s q => ⟨_, lam_can I h b bk bsz bc hb, l.1.known.same s, ⟨l.1.same s, w.2.1 Hb Q s q⟩⟩⟩ (asked_of I bk bsz bc r l.2 w.2.2)
theorem pe_allL {k : Nat} {cs : List Value} {p pos : Pos} {e : Expr} {te : TE} (F : ∀ B : Heap, Has X.prog X.w X.K X.mg B (k + 3) "_law_all" ["_law_asks"] (spAllL X.prog X.w X.K X.mg B (k + 1) cs)) (hr : Room (k + 3) X.A) (hfn : ∀ x, X.fn x = true) (hg : Gl X "_law_all") (he : PE X e te)
    (hst : starEach [e] X.env = (false, eval e X.env) :: starEach [] X.env := by rfl) (hpl : (backTo pos (starEach [] X.env)).any (·.1) = false := by rfl) : PE X (.Call (.Name "_law_all" p) [e] [] pos) (tAllL X k cs te) := by
  obtain ⟨f, fd, _, m, kp, _⟩ := (F X.base).ex
  constructor
  intro pins s σ H Q I h
  apply wpAny_Call_Name_kw (ld_glob I hg m ?_ (by decide))
  apply PySem.W.callWith_K (h₀ := X.base) I.ok.mod.kin kp _ hst hpl
  apply thn ((pa_cons he pa_nil hst).run pos pins s σ H (AllP X k cs σ Q) I h)
  rintro us s1 ⟨vs, H1, I1, r, a, fs, Ls, ts, Rs, rfl, ha, hn, hl, hok, hw, q⟩
  refine ⟨I1.kIn, ?_⟩
  obtain ⟨B, e0, bk, bsz, _, bc⟩ := ground I1 hfn
  obtain ⟨f', fd', F', m', _, hb⟩ := (F B).ex
  rw [m] at m'
  cases m'
  have b := hb s1 us I1.kIn (by rw [List.append_nil, ← r.length]; rfl)
  rw [List.append_nil] at b
  apply wpAny_call
  apply codeAny_mono (F'.run X.A X.stack s1 H1 ⟨us, []⟩ us _ Q E0 hr e0 b r ⟨a, fs, Rs, rfl, ha, hn, asked_of I1 bk bsz bc hok hl hw, q⟩)
  intro r s' hq
  cases r with
  | error e => exact (show False from hq).elim
  | ok fl =>
    cases fl with
    | ret u => exact I1.after hq
    | next => exact False.elim hq
    | brk => exact False.elim hq
    | cont => exact False.elim hq
end
theorem pcons {α β : Type} {F : α → β → Prop} {xs : List α} {y : β} {ys : List β} (h : Paired F xs (y :: ys)) : ∃ x xs', xs = x :: xs' ∧ F x y ∧ Paired F xs' ys := by
  cases h with
  | cons r t => exact ⟨_, _, rfl, r, t⟩
theorem pnil {α β : Type} {F : α → β → Prop} {xs : List α} (h : Paired F xs ([] : List β)) : xs = [] := by
  cases h
  rfl
/-- the tuple (code, what it tells) -/
def RT (xs : List V) : Res := fun v H => ∃ p, v = .ref p ∧ H p = some (.tup xs)
theorem RT.keeps {xs : List V} : Keeps (RT xs) := fun v H H' ⟨p, e, h⟩ s => ⟨p, e, s _ _ h⟩
end LamL
/-! has_inverse -/
namespace My
open PySem PySem.Spec PyProof.Rows L2
/-- whether q has an inverse over the numbers d, o of a normal form -/
def HInv (q : Int) (d o : Nat) (r : Bool) : Prop := (o ≠ 0 ∧ r = decide (Nat.gcd q.natAbs o = 1)) ∨ (o = 0 ∧ ∃ z, Strip q.natAbs d z ∧ r = decide (z = 1))
theorem HInv.one {q : Int} {d o : Nat} {r r' : Bool} (h : HInv q d o r) (h' : HInv q d o r') : r = r' := by
  rcases h with ⟨a, e⟩ | ⟨a, z, s, e⟩
  · rcases h' with ⟨_, e'⟩ | ⟨a', _⟩
    · rw [e, e']
    · exact absurd a' a
  · rcases h' with ⟨a', _⟩ | ⟨_, z', s', e'⟩
    · exact absurd a a'
    · rw [e, e', s.one s']
def spHasInv (C : Addr) : Sp := fun vs H Q _ => ∃ (a : Addr) (d o s t : Nat) (q : Int), vs = [.ref a, .int q] ∧ RealmAt C H a d o s t ∧ q.natAbs < 2 ^ 200 ∧ ∀ H' r, Same H H' → HInv q d o r → Q (.bl r) H'
theorem dec1 (n : Nat) : decide (V.int (n : Int) = V.int 1) = decide (n = 1) := by
  by_cases h : n = 1
  · subst h
    rfl
  · rw [decide_eq_false h, decide_eq_false]
    intro z
    injection z with z
    omega
section
variable {P : Program} {w : World} {K : PySem.W.Frag} {mg : Str → Option Value} {base : Heap} {C : Addr} {mc : Value}
theorem ok_hasinv {f : Addr} {fd : FuncData} (R : RCls K C mc) (B : Blt mg) (F : Fun K "has_inverse" "Realm.has_inverse" s_Realm_has_inverse f fd) (me : Meth K C "has_inverse" f) (b : Binds K fd ["self", "q"] [])
    (PR_ones : HasPr P w K mg base C "ones" (spGetR C fun _ o _ _ => o)) (PR_inverse : HasPr P w K mg base C "inverse" (spGetR C fun d _ _ _ => d)) (G_common : HasR P w K mg base 1 "common" spCommon2) (G_stripped : Has P w K mg base 1 "stripped" ["number", "base"] spStripped) :
    HasM P w K mg base 3 C "has_inverse" ["self", "q"] (spHasInv C) := by
  refine ⟨f, fd, F.ok sc_Realm_has_inverse (fun vs H Q E h => ?_) (fun cdv A outer s H vs Q E hr h => ?_), me, b⟩
  · obtain ⟨a, d, o, s, t, q, rfl, _⟩ := h
    rfl
  obtain ⟨a, d, o, s', t, q, rfl, hR, hq, g⟩ := h
  have cl_ := R.cl
  refine ⟨_, (pss_cons (ps_if (pt_cmpR op_ne (pe_pr cl_ PR_ones (hr.mono (by decide)) (pv 0) rfl) pe_int (nomark _))
        (pss_one (ps_ret (pe_cmpR op_eq (pe_ownR G_common (hr.mono (by decide)) (by rfl) (pa_cons (pv 1) (pa_cons (pe_pr cl_ PR_ones (hr.mono (by decide)) (pv 0) rfl) pa_nil))) pe_int (nomark _))))
        pss_nil)
      (pss_one (ps_ret (pe_cmpR op_eq (pe_own G_stripped (hr.mono (by decide)) (by rfl) (pa_cons (pe_callB call_abs (by rfl) B.abs bb_abs (pa_cons (pv 1) pa_nil)) (pa_cons (pe_pr cl_ PR_inverse (hr.mono (by decide)) (pv 0) rfl) pa_nil))) pe_int (nomark _))))), ?_⟩
  obtain ⟨dx, T, h1, h2⟩ := id hR
  have hd : decide (V.int (o : Int) = V.int 0) = decide (o = 0) := dec0 o
  refine ⟨_, rfl, a, dx, _, rfl, h1, a, d, o, s', t, rfl, hR, rfl, _, rfl, ?_⟩
  by_cases z : o = 0
  · refine ite_no (by show ¬ (!decide (V.int (o : Int) = V.int 0)) = true; rw [hd, decide_eq_true z]; decide) ?_
    have eq : V.int (if q < 0 then -q else q) = V.int ((q.natAbs : Nat) : Int) := congrArg V.int (by split <;> omega)
    refine ⟨_, rfl, q, rfl, _, rfl, a, dx, _, rfl, h1, a, d, o, s', t, rfl, hR, q.natAbs, d, congrArg (fun z => [z, V.int (d : Int)]) eq, hq, fun r hr => ?_⟩
    have w := g H _ (Same.refl _) (.inr ⟨z, r, hr, rfl⟩)
    rw [← dec1] at w
    exact ⟨rfl, w⟩
  · refine ite_of (by show (!decide (V.int (o : Int) = V.int 0)) = true; rw [hd, decide_eq_false z]; rfl) ?_
    refine ⟨_, rfl, _, rfl, a, dx, _, rfl, h1, a, d, o, s', t, rfl, hR, q, (o : Int), rfl, fun H' sm => ?_⟩
    have e : gcdI q (o : Int) = ((Nat.gcd q.natAbs o : Nat) : Int) := by
      unfold gcdI
      rw [Int.natAbs_natCast]
    rw [e]
    have w := g H' _ sm (.inl ⟨z, rfl⟩)
    rw [← dec1] at w
    exact ⟨rfl, w⟩
end
end My
/-! the law -/
namespace My
open PySem PySem.Spec PyProof.Rows L2
theorem isP2 : isP 2 := ⟨by decide, fun j a b => by omega⟩
theorem isP5 : isP 5 := ⟨by decide, fun j a b c => by
  have : j = 2 ∨ j = 3 ∨ j = 4 := by omega
  rcases this with rfl | rfl | rfl <;> decide⟩
theorem ten_rad : ∃ m, radL 1000000 = 10 * m := by
  have h2 : 2 ∣ radL 1000000 := by
    rw [radL_eq (by decide)]
    exact (radP_prime (by decide) isP2).mpr ⟨500000, rfl⟩
  have h5 : 5 ∣ radL 1000000 := by
    rw [radL_eq (by decide)]
    exact (radP_prime (by decide) isP5).mpr ⟨200000, rfl⟩
  have h := Nat.Coprime.mul_dvd_of_dvd_of_dvd (by decide : Nat.Coprime 2 5) h2 h5
  obtain ⟨m, e⟩ := h
  exact ⟨m, e⟩
theorem nrm_e29 : Nrm (radL 1000000) 100000000000000000000000000000 0 0 1 1 1 1 := by
  obtain ⟨m, e⟩ := ten_rad
  have st : ∀ n, n = 100000000000000000000000000000 → Strip n (radL 1000000) 1 := fun n hn => .inr ⟨by omega, Nat.one_dvd _, Nat.coprime_one_left _, 29, by
    rw [e, Nat.mul_pow, Nat.one_mul, hn]
    exact Nat.dvd_mul_right _ _⟩
  exact ⟨by decide, st _ (by decide), st _ (by decide), st _ (by decide)⟩
theorem nrm_4 : Nrm (radL 1) 4 0 0 1 4 4 4 := ⟨by decide, .inr ⟨by decide, by decide, by decide, 0, by decide⟩, .inr ⟨by decide, by decide, by decide, 0, by decide⟩, .inr ⟨by decide, by decide, by decide, 0, by decide⟩⟩
def spLaw (K : PySem.W.Frag) (P : Addr) : Sp := fun vs H Q _ => ∃ (a : Addr) (ns : List Int), vs = [.ref a] ∧ SqL K H a (ns.map V.int) ∧ ns.length ≤ 63 ∧ H P = some (.tbl #[]) ∧ ∀ H', Q (.bl true) H'
theorem tabs_kp {H H' : Hp} {b P : Addr} {q : Str} {xs : List V} (h : LamX.TabS H P q) (hb : H b = some (.lst xs)) (k : Kp b H H') : LamX.TabS H' P q := by
  obtain ⟨ps, e, t, a⟩ := h
  refine ⟨ps, k _ _ (ne_of e hb fun z => by cases z) e, t, fun pos cv hc => ?_⟩
  obtain ⟨c, ec, hco⟩ := a pos cv hc
  exact ⟨c, ec, k _ _ (ne_of hco hb fun z => by unfold LamX.CodeO at z; cases z) hco⟩
theorem bg_ext {H H' : Hp} {b c : Addr} (h : Bg H b c) (e : LamX.ExtN H H') : Bg H' b c := by
  obtain ⟨ns, i, r, m, g⟩ := h
  exact ⟨ns, i, r, m, e _ _ g.hb (fun ps z => by cases z), e _ _ g.hc (fun ps z => by cases z), g.len, g.i0, g.r0, g.m0, g.m1⟩
section
variable {P : Program} {w : World} {K : PySem.W.Frag} {mg : Str → Option Value} {base : Heap} {C CE f0 : Addr} {fd0 : FuncData} {mc : Value}
theorem ok_law {f c Pt : Addr} {C1 C2 C3 oc kV doc pm ct : Value} {an od : Option Addr} {osl : Array (Option Value)}
    (lk : K.lookup f = some ⟨oc, od, .func (PySem.W.fnOf "law" "law" (defArgs s_law) (defBody s_law) (defScope s_law) .none kV doc pm an (.ref c) ct), osl⟩) (hcd : PySem.W.codeIn K (.ref c) "law" = true)
    (TB : LamX.TabB base mg c Pt) (hm : PySem.W.exmAny K (.ref CE) [C1, C2, C3] = some true)
    (xf : XfC K CE) (noC : PySem.W.findIn K (.ref CE) "code" = some none) (noG : PySem.W.findIn K (.ref CE) "given" = some none)
    (B : Blt mg) (R : RCls K C mc) (MK_Realm : Rlm P w K mg base C CE f0 fd0) (ST_Realm_everywhere : HasSt P w K mg base 6 C mc "everywhere" [] (spNew C 1 0 0 0)) (ST_Realm_nowhere : HasSt P w K mg base 6 C mc "nowhere" [] (spNew C 1 1 1 1))
    (M_has_inverse : HasM P w K mg base 3 C "has_inverse" ["self", "q"] (spHasInv C))
    (G_l_bag : Has P w K mg base 1 "_law_bag" ["_law_script"] (spBag K)) (G_l_draw : Has P w K mg base 1 "_law_draw" ["_law_bag_here", "_law_many"] spDraw) (G_l_pick : Has P w K mg base 2 "_law_pick" ["_law_bag_here", "_law_some"] (spPick K))
    (G_l_same : Has P w K mg base 5 "_law_same" ["_law_found", "_law_due"] (spSame 5)) (G_l_all : ∀ B : Heap, Has P w K mg B 9 "_law_all" ["_law_asks"] (LamL.spAllL P w K mg B 7 [C1, C2, C3]))
    (G_l_strip : Has P w K mg base 2 "_law_strip" ["_law_number", "_law_base"] spStripped) (G_l_gcd : Has P w K mg base 1 "_law_gcd" ["_law_a", "_law_b"] spGcd) (G_l_told : Has P w K mg base 3 "_law_told" ["_law_realm_here"] (spTold C))
    (G_l_realm : Has P w K mg base 6 "_law_realm" ["_law_numbers"] (spLRealm C)) (G_l_drawn_realm : Has P w K mg base 3 "_law_drawn_realm" ["_law_bag_here"] spDrawnR) (G_l_settle : Has P w K mg base 4 "_law_settle" ["_law_numbers"] spLSettle) :
    FnOk P w K mg base CX0 10 f (PySem.W.fnOf "law" "law" (defArgs s_law) (defBody s_law) (defScope s_law) .none kV doc pm an (.ref c) ct) ["_law_script"] (spLaw K Pt) := by
  refine fn_of lk hcd sc_law (fun vs H Q E h => ?_) (fun A outer s H vs Q E hr h => ?_)
  · obtain ⟨a, t, rfl, _⟩ := h
    rfl
  obtain ⟨a, ns, rfl, hS, hl, hP, q⟩ := h
  have cl_ := R.cl
  have gC_Realm := MK_Realm.gC
  have RD_Realm := R.rd
  have hcode : (cxOf CX0 P w K mg base N_law "law" (defScope s_law) f (.ref c) A outer s H E).nox.env.code = .ref c := rfl
  have main : ∃ t, PSs (cxOf CX0 P w K mg base N_law "law" (defScope s_law) f (.ref c) A outer s H E).nox (defBody s_law) t ∧ t { nx := fun _ H' => Q .non H', rt := Q } (L2.start N_law [.ref a]) H := by
    refine ⟨_, (pss_cons (ps_set (i := 1) sc_law.nd rfl (Or.inl rfl) (pe_own G_l_bag (hr.mono (by decide)) (by rfl) (pa_cons (pv 0) pa_nil)))
      (pss_cons (ps_asg (pe_tup (pa_cons (pe_own G_l_pick (hr.mono (by decide)) (by rfl) (pa_cons (pv 1) (pa_cons (pe_lst (pa_cons (pe_un un_neg pe_int) (pa_cons pe_non (pa_cons pe_bl (pa_cons pe_str (pa_cons (pe_tup (pa_cons pe_int pa_nil)) pa_nil)))))) pa_nil))) (pa_cons (pe_own G_l_pick (hr.mono (by decide)) (by rfl) (pa_cons (pv 1) (pa_cons (pe_lst (pa_cons (pe_un un_neg pe_int) (pa_cons pe_bl (pa_cons pe_str pa_nil)))) pa_nil))) pa_nil))) (pg_tup rfl (pgs_cons (pg_name (i := 2) sc_law.nd rfl (Or.inr rfl)) (pgs_cons (pg_name (i := 3) sc_law.nd rfl (Or.inr rfl)) pgs_nil))))
      (pss_cons (ps_set (i := 4) sc_law.nd rfl (Or.inl rfl) (pe_lst (LamL.pal_cons (LamL.pe_mk0 TB hcode List.mem_cons_self (fun p hp _ => by rw [List.mem_singleton.mp hp]) (LamL.lamTxt_at N_law (defScope s_law) (by decide +kernel)) (by rfl))
          (LamL.pal_cons (LamL.pe_mk1 (n := "_law_a") [] TB hcode List.mem_cons_self (fun p hp _ => by rw [List.mem_singleton.mp hp]) (LamL.lamTxt_at N_law (defScope s_law) (by decide +kernel)) rfl rfl pe_int)
          (LamL.pal_cons (LamL.pe_mk1 (n := "_law_b") [] TB hcode List.mem_cons_self (fun p hp _ => by rw [List.mem_singleton.mp hp]) (LamL.lamTxt_at N_law (defScope s_law) (by decide +kernel)) rfl rfl pe_int)
          (LamL.pal_cons (LamL.pe_mk1 (n := "_law_c") [] TB hcode List.mem_cons_self (fun p hp _ => by rw [List.mem_singleton.mp hp]) (LamL.lamTxt_at N_law (defScope s_law) (by decide +kernel)) rfl rfl pe_int)
          (LamL.pal_cons (LamL.pe_mk1 (n := "_law_d") [8] TB hcode List.mem_cons_self (fun p hp _ => by rw [List.mem_singleton.mp hp]) (LamL.lamTxt_at N_law (defScope s_law) (by decide +kernel)) rfl rfl pe_int)
          (LamL.pal_cons (LamL.pe_mk1 (n := "_law_f") [] TB hcode List.mem_cons_self (fun p hp _ => by rw [List.mem_singleton.mp hp]) (LamL.lamTxt_at N_law (defScope s_law) (by decide +kernel)) rfl rfl pe_int)
          (LamL.pal_cons (LamL.pe_mk1 (n := "_law_g") [] TB hcode List.mem_cons_self (fun p hp _ => by rw [List.mem_singleton.mp hp]) (LamL.lamTxt_at N_law (defScope s_law) (by decide +kernel)) rfl rfl pe_int)
          (LamL.pal_cons (LamL.pe_mk1 (n := "_law_h") [] TB hcode List.mem_cons_self (fun p hp _ => by rw [List.mem_singleton.mp hp]) (LamL.lamTxt_at N_law (defScope s_law) (by decide +kernel)) rfl rfl pe_int)
          LamL.pal_nil))))))))))
      (pss_cons (ps_if (pt_not (pt_val (pe_own G_l_same (hr.mono (by decide)) (by rfl) (pa_cons (LamL.pe_allL G_l_all (hr.mono (by decide)) (fun _ => rfl) (by rfl) (pv 4)) (pa_cons (pe_op op_cat (pe_op op_rep (pe_lst (pa_cons (pe_tup (pa_cons pe_str (pa_cons (pv 2) pa_nil))) pa_nil)) pe_int) (pe_lst (pa_cons (pe_tup (pa_cons pe_str (pa_cons pe_int pa_nil))) (pa_cons (pe_tup (pa_cons pe_str (pa_cons pe_int pa_nil))) (pa_cons (pe_tup (pa_cons pe_str (pa_cons (pe_tup (pa_cons pe_int (pa_cons pe_int (pa_cons pe_int (pa_cons pe_int pa_nil))))) pa_nil))) (pa_cons (pe_tup (pa_cons pe_str (pa_cons (pe_lst (pa_cons pe_bl (pa_cons pe_bl (pa_cons pe_bl pa_nil)))) pa_nil))) pa_nil)))))) pa_nil)))))
        (pss_one (ps_ret pe_bl))
        pss_nil)
      (C8.pss_cut (ps_for PassesOwn.never rfl (pi_range1 (by rfl) B.range (pa_cons pe_int pa_nil)) (pg_name (i := 5) sc_law.nd rfl (Or.inl rfl))
        (C8.pss_cut (ps_set (i := 6) sc_law.nd rfl (Or.inl rfl) (pe_own G_l_drawn_realm (hr.mono (by decide)) (by rfl) (pa_cons (pv 1) pa_nil)))
      (pss_cons (ps_asg (pe_tup (pa_cons (pe_own G_l_realm (hr.mono (by decide)) (by rfl) (pa_cons (pv 6) pa_nil)) (pa_cons (pe_own G_l_settle (hr.mono (by decide)) (by rfl) (pa_cons (pv 6) pa_nil)) pa_nil))) (pg_tup rfl (pgs_cons (pg_name (i := 7) sc_law.nd rfl (Or.inl rfl)) (pgs_cons (pg_tup rfl (pgs_cons (pg_name (i := 8) sc_law.nd rfl (Or.inl rfl)) (pgs_cons (pg_name (i := 9) sc_law.nd rfl (Or.inl rfl)) (pgs_cons (pg_name (i := 10) sc_law.nd rfl (Or.inl rfl)) (pgs_cons (pg_name (i := 11) sc_law.nd rfl (Or.inl rfl)) pgs_nil))))) pgs_nil))))
      (pss_one (ps_for PassesOwn.never rfl (pi_list (pe_lst (pa_cons pe_int (pa_cons pe_int (pa_cons (pe_un un_neg pe_int) (pa_cons pe_int (pa_cons pe_int (pa_cons (pe_op op_sub (pe_own G_l_draw (hr.mono (by decide)) (by rfl) (pa_cons (pv 1) (pa_cons pe_int pa_nil))) pe_int) pa_nil)))))))) (pg_name (i := 12) sc_law.nd rfl (Or.inl rfl))
        (C8.pss_cut (ps_set (i := 13) sc_law.nd rfl (Or.inl rfl) (pe_ifExp (pt_cmpR op_eq (pv 9) pe_int (nomark _)) pe_bl (pe_and (pe_cmpR op_ne (pv 12) pe_int (nomark _)) (pe_one (pe_ifExp (pt_cmpR op_gt (pv 9) pe_int (nomark _)) (pe_cmpR op_eq (pe_own G_l_gcd (hr.mono (by decide)) (by rfl) (pa_cons (pv 12) (pa_cons (pv 9) pa_nil))) pe_int (nomark _)) (pe_cmpR op_eq (pe_own G_l_strip (hr.mono (by decide)) (by rfl) (pa_cons (pe_callB call_abs (by rfl) B.abs bb_abs (pa_cons (pv 12) pa_nil)) (pa_cons (pv 8) pa_nil))) pe_int (nomark _)))))))
      (pss_one (ps_if (pt_not (pt_val (pe_own G_l_same (hr.mono (by decide)) (by rfl) (pa_cons (pe_ownM cl_ M_has_inverse (hr.mono (by decide)) (pv 7) (pa_cons (pv 12) pa_nil)) (pa_cons (pv 13) pa_nil)))))
        (pss_one (ps_ret pe_bl))
        pss_nil))))))))
      (pss_one (ps_ret pe_bl))))))), ?_⟩
    refine ⟨_, rfl, a, ns, rfl, hS, hl, fun b cc H0 s0 nb B0 => ?_⟩
    obtain ⟨lq, hlq⟩ : ∃ lq : Str, lq = (cxOf CX0 P w K mg base N_law "law" (defScope s_law) f (.ref c) A outer s H E).nox.env.qual ++ "<lambda>" := ⟨_, rfl⟩
    have T0 : LamX.TabS H0 Pt lq := (LamX.TabS.nil hP).ext s0
    -- what is odd, and more of it
    refine ⟨_, rfl, _, rfl, (by show 1 ≤ sizeLine; decide), fun p1 np1 => ⟨(by show 5 ≤ sizeLine; decide), fun l1 nl1 => ?_⟩⟩
    have u1 := same_upd (o := .tup [.int 1]) np1
    have u2 := same_upd (o := .lst [.int (-1), .non, .bl true, .str "1", .ref p1]) nl1
    have B1 := B0.same u1
    refine ⟨b, cc, .ref l1, rfl, B1.same u2, .inl ⟨l1, _, rfl, B1.ne_new nl1, upd_same, by simp, (by show 5 ≤ 1000; decide), fun od H2 hod k2 B2 => ?_⟩⟩
    refine ⟨_, rfl, _, rfl, (by show 3 ≤ sizeLine; decide), fun l2 nl2 => ?_⟩
    have u3 := same_upd (o := .lst [.int (-2), .bl false, .str "x"]) nl2
    refine ⟨b, cc, .ref l2, rfl, B2.same u3, .inl ⟨l2, _, rfl, B2.ne_new nl2, upd_same, by simp, (by show 3 ≤ 1000; decide), fun mo H3 hmo k3 B3 => ?_⟩⟩
    refine ⟨(by show 2 ≤ sizeLine; decide), fun tp ntp => ⟨tp, _, rfl, SqT.of upd_same, rfl, _, _, rfl, _, _, rfl, rfl, ?_⟩⟩
    have u4 := same_upd (o := .tup [od, mo]) ntp
    have keepT : ∀ {H1 H2 : Hp}, Bg H1 b cc → LamX.TabS H1 Pt lq → Kp b H1 H2 → LamX.TabS H2 Pt lq := fun hB hT k => by
      obtain ⟨r, e⟩ := hB.sel
      exact tabs_kp hT e k
    have T1 := T0.ext (u1.trans u2)
    have T2 := keepT (B1.same u2) T1 k2
    have T3 := keepT (B2.same u3) (T2.ext u3) k3
    have B3' := B3
    -- the tuple (1,) that may be what is odd
    have e1 : ∀ Hx, Same H3 Hx → Hx p1 = some (.tup [.int 1]) := fun Hx sx => by
      have a1 := u2 _ _ (upd_same (H := H0) (a := p1) (o := .tup [.int 1]))
      obtain ⟨r1, g1⟩ := (B1.same u2).sel
      have a2 := k2 _ _ (ne_of a1 g1 fun z => by cases z) a1
      obtain ⟨r2, g2⟩ := (B2.same u3).sel
      have a3 := u3 _ _ a2
      exact sx _ _ (k3 _ _ (ne_of a3 g2 fun z => by cases z) a3)
    obtain ⟨ty, hty⟩ : ∃ ty, ∀ Hx, Hx p1 = some (.tup [.int 1]) → Typ Hx od ty := by
      simp only [List.mem_cons, List.not_mem_nil, or_false] at hod
      rcases hod with rfl | rfl | rfl | rfl | rfl
      · exact ⟨_, fun Hx _ => .int _⟩
      · exact ⟨_, fun Hx _ => .non⟩
      · exact ⟨_, fun Hx _ => .bl _⟩
      · exact ⟨_, fun Hx _ => .str _⟩
      · exact ⟨_, fun Hx e => .tup e⟩
    have hneg : ∀ n : Int, od = .int n → n < 0 := by
      simp only [List.mem_cons, List.not_mem_nil, or_false] at hod
      rcases hod with rfl | rfl | rfl | rfl | rfl <;> intro n e <;> cases e
      decide
    -- the lambdas
    refine ⟨fun p hp => by rw [List.mem_singleton.mp hp, ← hlq]; exact T3.ext u4, fun fs H4 eN T4 L4 => ⟨by rw [List.length_map, L4.len]; show 8 ≤ sizeLine; decide, fun la nla => ?_⟩⟩
    have T4' : LamX.TabS H4 Pt lq := by
      rw [hlq]
      exact T4 _ List.mem_cons_self
    have u5 := same_upd (o := .lst (fs.map V.ref)) nla
    have B4 := bg_ext (B3.same u4) eN
    refine ⟨_, rfl, la, fs, _, _, [LamL.RT [.str "InvalidNumber", od], LamL.RT [.str "InvalidNumber", od], LamL.RT [.str "InvalidNumber", od], LamL.RT [.str "InvalidNumber", od], LamL.RT [.str "InvalidNumber", .int 0], LamL.RT [.str "InvalidNumber", .int 1000001],
      fun v H => ∃ p t, v = .ref p ∧ H p = some (.tup [.str "", .ref t]) ∧ H t = some (tupR 1 1 1 1), fun v H => ∃ p t, v = .ref p ∧ H p = some (.tup [.str "", .ref t]) ∧ H t = some (.lst [.bl true, .bl false, .bl false])], rfl, upd_same, ?_, L4.same u5, (LamL.LamsOk.cons (LamL.lamTxt_at N_law (defScope s_law) (by decide +kernel)) (LamL.bind0 fun _ _ _ _ _ _ => rfl) (fun A outer s H E f c' hr => (pe_makeKRealm MK_Realm (kbRealm_inverse_ones MK_Realm.D) (passes_call (takes_of rfl rfl rfl rfl) fun _ _ _ _ h => h) (hr.mono (by decide)) (by rfl) (pk_cons (pv 2) (pk_cons (pv 3) pk_nil))))
          (LamL.LamsOk.cons (LamL.lamTxt_at N_law (defScope s_law) (by decide +kernel)) (LamL.bind1 fun _ _ _ _ _ _ _ _ => ⟨_, rfl, rfl⟩) (fun A outer s H E f c' hr => (pe_makeKRealm MK_Realm (kbRealm_ones_squares_swaps MK_Realm.D) (passes_call (takes_of rfl rfl rfl rfl) fun _ _ _ _ h => h) (hr.mono (by decide)) (by rfl) (pk_cons (pv 2) (pk_cons (pv 3) (pk_cons (pv 3) pk_nil)))))
          (LamL.LamsOk.cons (LamL.lamTxt_at N_law (defScope s_law) (by decide +kernel)) (LamL.bind1 fun _ _ _ _ _ _ _ _ => ⟨_, rfl, rfl⟩) (fun A outer s H E f c' hr => (pe_makeKRealm MK_Realm (kbRealm_squares_swaps MK_Realm.D) (passes_call (takes_of rfl rfl rfl rfl) fun _ _ _ _ h => h) (hr.mono (by decide)) (by rfl) (pk_cons (pv 3) (pk_cons (pv 2) pk_nil))))
          (LamL.LamsOk.cons (LamL.lamTxt_at N_law (defScope s_law) (by decide +kernel)) (LamL.bind1 fun _ _ _ _ _ _ _ _ => ⟨_, rfl, rfl⟩) (fun A outer s H E f c' hr => (pe_makeKRealm MK_Realm (kbRealm_squares MK_Realm.D) (passes_call (takes_of rfl rfl rfl rfl) fun _ _ _ _ h => h) (hr.mono (by decide)) (by rfl) (pk_cons (pv 2) pk_nil)))
          (LamL.LamsOk.cons (LamL.lamTxt_at N_law (defScope s_law) (by decide +kernel)) (LamL.bind1 fun _ _ _ _ _ _ _ _ => ⟨_, rfl, rfl⟩) (fun A outer s H E f c' hr => (pe_makeKRealm MK_Realm (kbRealm_inverse MK_Realm.D) (passes_call (takes_of rfl rfl rfl rfl) fun _ _ _ _ h => h) (hr.mono (by decide)) (by rfl) (pk_cons pe_int pk_nil)))
          (LamL.LamsOk.cons (LamL.lamTxt_at N_law (defScope s_law) (by decide +kernel)) (LamL.bind1 fun _ _ _ _ _ _ _ _ => ⟨_, rfl, rfl⟩) (fun A outer s H E f c' hr => (pe_makeKRealm MK_Realm (kbRealm_inverse_ones MK_Realm.D) (passes_call (takes_of rfl rfl rfl rfl) fun _ _ _ _ h => h) (hr.mono (by decide)) (by rfl) (pk_cons pe_int (pk_cons (pv 2) pk_nil))))
          (LamL.LamsOk.cons (LamL.lamTxt_at N_law (defScope s_law) (by decide +kernel)) (LamL.bind1 fun _ _ _ _ _ _ _ _ => ⟨_, rfl, rfl⟩) (fun A outer s H E f c' hr => (pe_own G_l_told (hr.mono (by decide)) (by rfl) (pa_cons (pe_makeKRealm MK_Realm (kbRealm_inverse_ones_swaps_squares MK_Realm.D) (passes_call (takes_of rfl rfl rfl rfl) fun _ _ _ _ h => h) (hr.mono (by decide)) (by rfl) (pk_cons pe_int (pk_cons (pe_op op_pow pe_int pe_int) (pk_cons pe_int (pk_cons pe_int pk_nil))))) pa_nil)))
          (LamL.LamsOk.cons (LamL.lamTxt_at N_law (defScope s_law) (by decide +kernel)) (LamL.bind1 fun _ _ _ _ _ _ _ _ => ⟨_, rfl, rfl⟩) (fun A outer s H E f c' hr => (pe_lst (pa_cons (pe_ownM cl_ M_has_inverse (hr.mono (by decide)) (pe_st0 gC_Realm RD_Realm ST_Realm_nowhere (hr.mono (by decide)) (by rfl)) (pa_cons pe_int pa_nil)) (pa_cons (pe_ownM cl_ M_has_inverse (hr.mono (by decide)) (pe_st0 gC_Realm RD_Realm ST_Realm_everywhere (hr.mono (by decide)) (by rfl)) (pa_cons pe_int pa_nil)) (pa_cons (pe_ownM cl_ M_has_inverse (hr.mono (by decide)) (pe_makeKRealm MK_Realm (kbRealm_ones MK_Realm.D) (passes_call (takes_of rfl rfl rfl rfl) fun _ _ _ _ h => h) (hr.mono (by decide)) (by rfl) (pk_cons pe_int pk_nil)) (pa_cons pe_int pa_nil)) pa_nil)))))
          LamL.LamsOk.nil)))))))), ?_, fun xs l H5 s5 nl el pr => ?_⟩
    · rw [L4.len]
      show 8 ≤ 100
      decide
    · have ep : ∀ Hb, Same (upd H4 la (.lst (fs.map V.ref))) Hb → Hb p1 = some (.tup [.int 1]) := fun Hb sb => sb _ _ (u5 _ _ (eN _ _ (u4 _ _ (e1 _ (Same.refl _))) fun ps z => by cases z))
      have er : ∀ {Hb : Hp} {Q : VK} {x : V}, (∀ v H', Same Hb H' → LamL.RT [.str "InvalidNumber", x] v H' → Q v H') → ∀ H' d, Same Hb H' → H' d = none → ErrWish K [C1, C2, C3] Q (.ref CE) (some d) (upd H' d (.xd (errD "given" "InvalidNumber" x))) := fun qk H' d s' nd =>
        ⟨hm, "InvalidNumber", _, ⟨⟨CE, d, _, "given", rfl, xf, rfl, upd_same, noC, rfl, by decide +kernel, noG, rfl⟩⟩, fun H2 p s2 hp => qk _ _ (s'.trans ((same_upd nd).trans (s2.trans (same_upd hp)))) ⟨p, rfl, upd_same⟩⟩
      have hk3 : ∀ k y, k < 1 → [V.int 0, od, mo][k]? = some y → ∃ n : Nat, y = .int n := by
        intro k y hk e
        obtain rfl : k = 0 := by omega
        cases e
        exact ⟨0, rfl⟩
      have hk4 : ∀ k y, k < 2 → [V.int 0, .int 0, od][k]? = some y → ∃ n : Nat, y = .int n := by
        intro k y hk e
        have : k = 0 ∨ k = 1 := by omega
        rcases this with rfl | rfl
        · cases e
          exact ⟨0, rfl⟩
        · cases e
          exact ⟨0, rfl⟩
      refine ⟨LamL.RT.keeps, fun Hb Q sb qk => ?_, LamL.RT.keeps, fun Hb Q sb qk => ?_, LamL.RT.keeps, fun Hb Q sb qk => ?_, LamL.RT.keeps, fun Hb Q sb qk => ?_, LamL.RT.keeps, fun Hb Q sb qk => ?_, LamL.RT.keeps, fun Hb Q sb qk => ?_, ?_, fun Hb Q sb qk => ?_, ?_, fun Hb Q sb qk => ?_, True.intro⟩
      · exact ⟨_, rfl, _, rfl, rfl, .inr (.inl ⟨od, mo, .int 0, .int 0, ty, rfl, hty _ (ep _ sb), fun i e => (by have := hneg i e; omega), er qk⟩)⟩
      · exact ⟨_, rfl, _, rfl, _, rfl, rfl, .inr (.inr ⟨1, od, mo, mo, 0, od, ty, rfl, by decide, by decide, rfl, fun k y hk => (by omega), hty _ (ep _ sb), hneg, er qk⟩)⟩
      · exact ⟨_, rfl, _, rfl, rfl, .inr (.inr ⟨1, .int 0, od, mo, 1, od, ty, rfl, by decide, by decide, rfl, hk3, hty _ (ep _ sb), hneg, er qk⟩)⟩
      · exact ⟨_, rfl, rfl, .inr (.inr ⟨1, .int 0, .int 0, od, 2, od, ty, rfl, by decide, by decide, rfl, hk4, hty _ (ep _ sb), hneg, er qk⟩)⟩
      · exact ⟨rfl, .inr (.inl ⟨.int 0, .int 0, .int 0, .int 0, _, rfl, .int _, fun i e => (by cases e; omega), er qk⟩)⟩
      · exact ⟨_, rfl, rfl, .inr (.inl ⟨.int 1000001, od, .int 0, .int 0, _, rfl, .int _, fun i e => (by cases e; omega), er qk⟩)⟩
      · rintro v H1 H2 ⟨p, t, e, h1, h2⟩ s
        exact ⟨p, t, e, s _ _ h1, s _ _ h2⟩
      · refine ⟨_, _, rfl, rfl, by first | exact ⟨by decide, by decide⟩ | exact ⟨by decide, by decide, by decide⟩ | exact .inl ⟨by decide, by decide⟩ | exact .inr ⟨by decide, by decide⟩, rfl, ?_⟩
        refine wish_of (i := 1000000) (o := 100000000000000000000000000000) (s := 0) (t := 0) rfl (by decide) (by decide) (by decide) (by decide) (by decide) nrm_e29 fun H6 r1 s1 n1 R1 => ?_
        refine ⟨r1, 1, 1, 1, 1, rfl, R1, fun H7 T s2 n2 e2 => ⟨by show 2 ≤ sizeLine; decide, fun p hp => qk _ _ (s1.trans (s2.trans (same_upd hp))) ⟨p, T, rfl, upd_same, same_upd hp _ _ e2⟩⟩⟩
      · rintro v H1 H2 ⟨p, t, e, h1, h2⟩ s
        exact ⟨p, t, e, s _ _ h1, s _ _ h2⟩
      · refine ⟨rfl, rfl, fun H6 r1 s1 n1 R1 => ?_⟩
        obtain ⟨dx1, t1, hr1, ht1⟩ := id R1
        refine ⟨r1, dx1, _, rfl, hr1, rfl, r1, 1, 1, 1, 1, 0, rfl, R1, by decide, fun H7 b1 s2 i1 => ?_⟩
        obtain rfl : b1 = true := i1.one (.inl ⟨by decide, by decide⟩)
        refine ⟨rfl, rfl, fun H8 r2 s3 n2 R2 => ?_⟩
        obtain ⟨dx2, t2, hr2, ht2⟩ := id R2
        refine ⟨r2, dx2, _, rfl, hr2, rfl, r2, 1, 0, 0, 0, 0, rfl, R2, by decide, fun H9 b2 s4 i2 => ?_⟩
        obtain rfl : b2 = false := i2.one (.inr ⟨rfl, 0, .inl ⟨rfl, rfl⟩, rfl⟩)
        refine ⟨rfl, ?_⟩
        refine wish_of (i := 1) (o := 4) (s := 0) (t := 0) rfl (by decide) (by decide) (by decide) (by decide) (by decide) nrm_4 fun H10 r3 s5 n3 R3 => ?_
        obtain ⟨dx3, t3, hr3, ht3⟩ := id R3
        refine ⟨r3, dx3, _, rfl, hr3, rfl, r3, 1, 4, 4, 4, 0, rfl, R3, by decide, fun H11 b3 s6 i3 => ?_⟩
        obtain rfl : b3 = false := i3.one (.inl ⟨by decide, by decide⟩)
        refine ⟨by show 3 ≤ sizeLine; decide, fun li nli => ⟨by show 2 ≤ sizeLine; decide, fun p hp => ?_⟩⟩
        have sl := same_upd (o := .lst [.bl true, .bl false, .bl false]) nli
        exact qk _ _ (s1.trans (s2.trans (s3.trans (s4.trans (s5.trans (s6.trans (sl.trans (same_upd hp)))))))) ⟨p, li, rfl, upd_same, same_upd hp _ _ upd_same⟩
    clear L4 T4
    refine ⟨_, rfl, by show 2 ≤ sizeLine; decide, fun q0 nq0 => ⟨by show 1 ≤ sizeLine; decide, fun r0 nr0 => ?_⟩⟩
    have v0 := same_upd (o := .tup [.str "InvalidNumber", od]) nq0
    have v1 := same_upd (o := .lst [.ref q0]) nr0
    refine ⟨r0, 4, _, rfl, rfl, upd_same, by decide, by decide, by show 1 * 4 ≤ sizeLine; decide, fun r1 nr1 => ?_⟩
    have v2 := same_upd (o := .lst [.ref q0, .ref q0, .ref q0, .ref q0]) nr1
    refine ⟨by show 2 ≤ sizeLine; decide, fun q1 nq1 => ⟨by show 2 ≤ sizeLine; decide, fun q2 nq2 => ⟨by show 4 ≤ sizeLine; decide, fun i1 ni1 => ⟨by show 2 ≤ sizeLine; decide, fun q3 nq3 => ⟨by show 3 ≤ sizeLine; decide, fun i2 ni2 => ⟨by show 2 ≤ sizeLine; decide, fun q4 nq4 => ⟨by show 4 ≤ sizeLine; decide, fun r2 nr2 => ?_⟩⟩⟩⟩⟩⟩⟩
    have v3 := same_upd (o := .tup [.str "InvalidNumber", .int 0]) nq1
    have v4 := same_upd (o := .tup [.str "InvalidNumber", .int 1000001]) nq2
    have v5 := same_upd (o := .tup [.int 1, .int 1, .int 1, .int 1]) ni1
    have v6 := same_upd (o := .tup [.str "", .ref i1]) nq3
    have v7 := same_upd (o := .lst [.bl true, .bl false, .bl false]) ni2
    have v8 := same_upd (o := .tup [.str "", .ref i2]) nq4
    have v9 := same_upd (o := .lst [.ref q1, .ref q2, .ref q3, .ref q4]) nr2
    have w38 := v3.trans (v4.trans (v5.trans (v6.trans (v7.trans (v8.trans v9)))))
    refine ⟨r1, r2, _, _, rfl, rfl, w38 _ _ upd_same, upd_same, by show 4 + 4 ≤ sizeLine; decide, fun r3 nr3 => ?_⟩
    have va := same_upd (o := .lst [.ref q0, .ref q0, .ref q0, .ref q0, .ref q1, .ref q2, .ref q3, .ref q4]) nr3
    have x9 := v9.trans va
    have x8 := v8.trans x9
    have x7 := v7.trans x8
    have x6 := v6.trans x7
    have x5 := v5.trans x6
    have x4 := v4.trans x5
    have x3 := v3.trans x4
    have x2 := v2.trans x3
    have x1 := v1.trans x2
    have x0 := v0.trans x1
    obtain ⟨_, xs1, rfl, ⟨a1, rfl, g1⟩, pr1⟩ := LamL.pcons pr
    obtain ⟨_, xs2, rfl, ⟨a2, rfl, g2⟩, pr2⟩ := LamL.pcons pr1
    obtain ⟨_, xs3, rfl, ⟨a3, rfl, g3⟩, pr3⟩ := LamL.pcons pr2
    obtain ⟨_, xs4, rfl, ⟨a4, rfl, g4⟩, pr4⟩ := LamL.pcons pr3
    obtain ⟨_, xs5, rfl, ⟨a5, rfl, g5⟩, pr5⟩ := LamL.pcons pr4
    obtain ⟨_, xs6, rfl, ⟨a6, rfl, g6⟩, pr6⟩ := LamL.pcons pr5
    obtain ⟨_, xs7, rfl, ⟨a7, t7, rfl, g7, k7⟩, pr7⟩ := LamL.pcons pr6
    obtain ⟨_, xs8, rfl, ⟨a8, t8, rfl, g8, k8⟩, pr8⟩ := LamL.pcons pr7
    obtain rfl := LamL.pnil pr8
    refine ⟨.ref l, .ref r3, rfl, Eqd.lst (x0 _ _ el) upd_same (by show 8 ≤ 1000; decide) ?_, fun H6 s6 => ⟨_, rfl, iteF ?_⟩⟩
    · have eo : ∀ {Hx : Hp}, Hx p1 = some (.tup [.int 1]) → Eqd Hx 3 od od := by
        intro Hx e
        simp only [List.mem_cons, List.not_mem_nil, or_false] at hod
        rcases hod with rfl | rfl | rfl | rfl | rfl
        · exact Eqd.leaf True.intro
        · exact Eqd.leaf True.intro
        · exact Eqd.leaf True.intro
        · exact Eqd.leaf True.intro
        · exact Eqd.tup e e (by show 1 ≤ 1000; decide) (.cons (Eqd.leaf True.intro) .nil)
      have ev : ∀ {Hx : Hp} {p q : Addr} {k : Str} {x : V}, Hx p = some (.tup [.str k, x]) → Hx q = some (.tup [.str k, x]) → Eqd Hx 3 x x → Eqd Hx 4 (.ref p) (.ref q) := fun hp hq hx => Eqd.tup hp hq (by show 2 ≤ 1000; decide) (.cons (Eqd.leaf True.intro) (.cons hx .nil))
      have eod := eo (x0 _ _ (s5 _ _ (u5 _ _ (eN _ _ (u4 _ _ (e1 _ (Same.refl _))) fun ps z => by cases z))))
      have y0 := x1 _ _ (upd_same (H := H5) (a := q0) (o := .tup [.str "InvalidNumber", od]))
      refine .cons (ev (x0 _ _ g1) y0 eod) (.cons (ev (x0 _ _ g2) y0 eod) (.cons (ev (x0 _ _ g3) y0 eod) (.cons (ev (x0 _ _ g4) y0 eod) (.cons (ev (x0 _ _ g5) (x4 _ _ upd_same) (Eqd.leaf True.intro)) (.cons (ev (x0 _ _ g6) (x5 _ _ upd_same) (Eqd.leaf True.intro)) ?_)))))
      refine .cons (Eqd.tup (x0 _ _ g7) (x7 _ _ upd_same) (by show 2 ≤ 1000; decide) (.cons (Eqd.leaf True.intro) (.cons ?_ .nil))) (.cons (Eqd.tup (x0 _ _ g8) (x9 _ _ upd_same) (by show 2 ≤ 1000; decide) (.cons (Eqd.leaf True.intro) (.cons ?_ .nil))) .nil)
      · exact Eqd.tup (x0 _ _ k7) (x6 _ _ upd_same) (by show 4 ≤ 1000; decide) (.cons (Eqd.leaf True.intro) (.cons (Eqd.leaf True.intro) (.cons (Eqd.leaf True.intro) (.cons (Eqd.leaf True.intro) .nil))))
      · exact Eqd.lst (x0 _ _ k8) (x8 _ _ upd_same) (by show 3 ≤ 1000; decide) (.cons (Eqd.leaf True.intro) (.cons (Eqd.leaf True.intro) (.cons (Eqd.leaf True.intro) .nil)))
    have S6 := u5.trans (s5.trans (x0.trans s6))
    have B6 := B4.same S6
    have T6 := T4'.ext S6
    clear s6 x0 x1 x2 x3 x4 x5 x6 x7 x8 x9 va w38 v0 v1 v2 v3 v4 v5 v6 v7 v8 v9
    -- drawn realms
    refine ⟨fun _ _ => True, ⟨5, rfl, by decide, by decide, for_range (n := 5) (fun i σ H' => ∃ y5 y6 y7 y8 y9 y10 y11 y12 y13, σ = [some (.ref a), some (.ref b), some od, some mo, some (.ref la), y5, y6, y7, y8, y9, y10, y11, y12, y13] ∧ Bg H' b cc)
      ⟨_, _, _, _, _, _, _, _, _, rfl, B6⟩ ?_ (fun σ H' _ => True.intro)⟩, fun σ' H' _ => q H'⟩
    rintro i σ H0 hi ⟨y5, y6, y7, y8, y9, y10, y11, y12, y13, rfl, B0⟩
    refine ⟨fun σ' H' => ∃ T i' o s t : _, σ' = [some (.ref a), some (.ref b), some od, some mo, some (.ref la), some (.int ((0 : Int) + (i : Int))), some (.ref T), y7, y8, y9, y10, y11, y12, y13] ∧ Bg H' b cc ∧ H' T = some (tupR i' o s t) ∧ 1 ≤ i' ∧ i' ≤ 35 ∧ o ≤ 1000 ∧ s ≤ 1000 ∧ t ≤ 1000, ?_, ?_⟩
    · exact ⟨_, rfl, b, cc, rfl, B0, fun H1 T i' o s t k1 B1 _ _ hT h1 h2 ho hs ht => ⟨T, i', o, s, t, rfl, B1, hT, h1, h2, ho, hs, ht⟩⟩
    rintro σ H1 ⟨T, i', o, s', t, rfl, B1, hT, h1, h2, ho, hs, ht⟩
    refine ⟨_, rfl, T, i', o, s', t, rfl, hT, h1, by omega, by omega, by omega, by omega, fun H2 r1 d' o' s'' t' N s2 nr R1 => ?_⟩
    refine ⟨_, rfl, T, i', o, s', t, rfl, s2 _ _ hT, h1, by omega, by omega, by omega, by omega, fun H3 T2 dd oo ss tt N2 s3 nT2 eT2 => ?_⟩
    obtain ⟨rfl, rfl, rfl, rfl⟩ := N.one N2
    refine ⟨by show 2 ≤ sizeLine; decide, fun tp ntp => ?_⟩
    have u7 := same_upd (o := .tup [.ref r1, .ref T2]) ntp
    refine ⟨tp, _, rfl, SqT.of upd_same, rfl, _, _, rfl, _, _, rfl, T2, _, rfl, SqT.of (u7 _ _ eT2), rfl, _, _, rfl, _, _, rfl, _, _, rfl, _, _, rfl, rfl, rfl, ?_⟩
    have s17 := s2.trans (s3.trans u7)
    have B7 := B1.same s17
    have R7 := R1.same (s3.trans u7)
    generalize hH7 : upd H3 tp (.tup [.ref r1, .ref T2]) = H7 at *
    -- whether a number has an inverse
    refine ⟨_, rfl, _, rfl, b, cc, 90, rfl, B7, by decide, by decide, fun v1 H8 v10 v19 k8 B8 => ⟨_, _, rfl, rfl, by show 6 ≤ sizeLine; decide, fun lq nlq => ?_⟩⟩
    obtain ⟨rb, hb7⟩ := B7.sel
    have R8 : RealmAt C H8 r1 d' o' s'' t' := by
      obtain ⟨dx, Tn, g1, g2⟩ := R7
      exact ⟨dx, Tn, k8 _ _ (ne_of g1 hb7 fun z => by cases z) g1, k8 _ _ (ne_of g2 hb7 fun z => by cases z) g2⟩
    have uq := same_upd (o := .lst [.int 0, .int 1, .int (-1), .int 2, .int 6, .int (v1 - 45)]) nlq
    have elq := upd_same (H := H8) (a := lq) (o := .lst [.int 0, .int 1, .int (-1), .int 2, .int 6, .int (v1 - 45)])
    generalize hH9 : upd H8 lq (.lst [.int 0, .int 1, .int (-1), .int 2, .int 6, .int (v1 - 45)]) = H9 at *
    have R9 := R8.same uq
    have B9 := B8.same uq
    refine ⟨lq, rfl, ⟨_, SqL.of elq⟩, for_list (xs := [.int 0, .int 1, .int (-1), .int 2, .int 6, .int (v1 - 45)]) (fun i2 σ H' => ∃ y12 y13, σ = [some (.ref a), some (.ref b), some od, some mo, some (.ref la), some (.int ((0 : Int) + (i : Int))), some (.ref T), some (.ref r1), some (.int (d' : Int)), some (.int (o' : Int)), some (.int (s'' : Int)), some (.int (t' : Int)), y12, y13] ∧ Same H9 H')
      ⟨_, _, rfl, Same.refl _⟩ (fun i2 σ H' _ ⟨_, _, _, e⟩ => SqL.of (e _ _ elq)) ?_ ?_⟩
    · rintro i2 x σ Ha hx ⟨y12, y13, rfl, sa⟩
      obtain ⟨qv, rfl, hqv⟩ : ∃ qv : Int, x = .int qv ∧ qv.natAbs < 2 ^ 200 := by
        have := List.mem_of_getElem? hx
        simp only [List.mem_cons, List.not_mem_nil, or_false] at this
        rcases this with rfl | rfl | rfl | rfl | rfl | rfl <;> exact ⟨_, rfl, by omega⟩
      refine ⟨fun σ' H' => ∃ due, σ' = [some (.ref a), some (.ref b), some od, some mo, some (.ref la), some (.int ((0 : Int) + (i : Int))), some (.ref T), some (.ref r1), some (.int (d' : Int)), some (.int (o' : Int)), some (.int (s'' : Int)), some (.int (t' : Int)), some (.int qv), some (.bl due)] ∧ HInv qv d' o' due ∧ Same H9 H', ?_, ?_⟩
      · refine ⟨_, rfl, rfl, _, rfl, ?_⟩
        by_cases z1 : o' = 1
        · refine ite_of (by rw [dec1, decide_eq_true z1]) ⟨true, rfl, .inl ⟨by omega, (decide_eq_true (by rw [z1]; exact Nat.gcd_one_right _)).symm⟩, sa⟩
        · refine ite_no (by rw [dec1, decide_eq_false z1]; decide) ?_
          have dq : ∀ z : Int, decide (V.int z = V.int 0) = decide (z = 0) := fun z => by
            by_cases h : z = 0
            · rw [h]
              rfl
            · rw [decide_eq_false h, decide_eq_false fun y => h (by injection y)]
          refine ⟨_, rfl, rfl, _, rfl, ?_⟩
          by_cases z2 : qv = 0
          · refine ite_no (by rw [dq, decide_eq_true z2]; decide) ⟨_, rfl, ?_, sa⟩
            rw [z2]
            by_cases z3 : o' = 0
            · exact .inr ⟨z3, 0, .inl ⟨rfl, rfl⟩, rfl⟩
            · exact .inl ⟨z3, (decide_eq_false (by rw [Int.natAbs_zero, Nat.gcd_zero_left]; exact z1)).symm⟩
          · refine ite_of (by rw [dq, decide_eq_false z2]; decide) ?_
            refine ⟨_, rfl, _, _, rfl, rfl, _, rfl, ?_⟩
            by_cases z3 : o' = 0
            · refine ite_no (by rw [z3]; decide) ?_
              have eq : V.int (if qv < 0 then -qv else qv) = V.int ((qv.natAbs : Nat) : Int) := congrArg V.int (by split <;> omega)
              refine ⟨_, rfl, qv, rfl, _, rfl, qv.natAbs, d', congrArg (fun z => [z, V.int (d' : Int)]) eq, hqv, fun r hr => ⟨rfl, _, rfl, .inr ⟨z3, r, hr, dec1 r⟩, sa⟩⟩
            · refine ite_of (decide_eq_true (by omega)) ?_
              refine ⟨_, rfl, _, rfl, _, _, rfl, rfl, _, rfl, .inl ⟨z3, ?_⟩, sa⟩
              rw [dec1, Int.natAbs_natCast]
      · rintro σ' Hb ⟨due, rfl, hd, sb⟩
        have Rb := R9.same sb
        obtain ⟨dx, Tn, g1, g2⟩ := id Rb
        refine ⟨_, rfl, r1, dx, _, rfl, g1, rfl, _, rfl, r1, d', o', s'', t', qv, rfl, Rb, hqv, fun Hc r sc hr => ?_⟩
        obtain rfl := hr.one hd
        exact ⟨_, rfl, .bl r, .bl r, rfl, Eqd.leaf True.intro, fun Hd sd => ⟨_, rfl, iteF ⟨_, _, rfl, sb.trans (sc.trans sd)⟩⟩⟩
    · rintro σ' Hb ⟨y12, y13, rfl, sb⟩
      exact ⟨_, _, _, _, _, _, _, _, _, rfl, B9.same sb⟩
  obtain ⟨t, ht, hq⟩ := main
  exact ⟨t, ht.nox, hq⟩
end
end My
namespace My
open PySem PySem.Spec PyProof.Rows
/-! the head's look, with the law's own table beside the written part -/
theorem in_tail {K : Params → PySem.W.Frag} {a : Addr} {o : Obj} {as : List Addr} {e : ∀ P, as = ((a, o) :: K P).map (·.1)} {w : World} {h : Heap} (Y : (PySem.W.kHook (fun P => (a, o) :: K P) as e).says w h) (n : (K w.params).lookup a = none) : (K w.params).In h := fun b u q => by
  have y : PySem.W.Frag.In ((a, o) :: K w.params) h := PySem.W.kIn_of Y
  refine y b u ?_
  rw [List.lookup_cons]
  by_cases z : b = a
  · rw [z, n] at q
    cases q
  · rw [show (b == a) = false from beq_eq_false_iff_ne.mpr z]
    exact q
theorem in_head {K : Params → PySem.W.Frag} {a : Addr} {o : Obj} {as : List Addr} {e : ∀ P, as = ((a, o) :: K P).map (·.1)} {w : World} {h : Heap} (Y : (PySem.W.kHook (fun P => (a, o) :: K P) as e).says w h) : h.get? a = some o := by
  have y : PySem.W.Frag.In ((a, o) :: K w.params) h := PySem.W.kIn_of Y
  exact y a o (by rw [List.lookup_cons, beq_self_eq_true])
end My
namespace My
open PySem PySem.Spec PyProof.Rows L2
theorem all_mk {l : PySem.W.OpenLaw} {w : World} {K : PySem.W.Frag} {h : Heap} {mg : Str → Option Value} {fa : Addr} (X : K.In h) (G : h.Ns mainGlobals mg) (hfa : mg "law" = some (.ref fa))
    {f1 : Addr} {od1 an1 : Option Addr} {sl1 : Array (Option Value)} {oc1 kV1 dc1 pm1 cd1 ct1 : Value} {f2 : Addr} {od2 an2 : Option Addr} {sl2 : Array (Option Value)} {oc2 kV2 dc2 pm2 cd2 ct2 : Value} {f3 : Addr} {od3 an3 : Option Addr} {sl3 : Array (Option Value)} {oc3 kV3 dc3 pm3 cd3 ct3 : Value} {f4 : Addr} {od4 an4 : Option Addr} {sl4 : Array (Option Value)} {oc4 kV4 dc4 pm4 cd4 ct4 : Value} {f5 : Addr} {od5 an5 : Option Addr} {sl5 : Array (Option Value)} {oc5 kV5 dc5 pm5 cd5 ct5 : Value} {f6 : Addr} {od6 an6 : Option Addr} {sl6 : Array (Option Value)} {oc6 kV6 dc6 pm6 cd6 ct6 : Value} {f7 : Addr} {od7 an7 : Option Addr} {sl7 : Array (Option Value)} {oc7 kV7 dc7 pm7 cd7 ct7 : Value} {f8 : Addr} {od8 an8 : Option Addr} {sl8 : Array (Option Value)} {oc8 kV8 dc8 pm8 cd8 ct8 : Value} {f9 : Addr} {od9 an9 : Option Addr} {sl9 : Array (Option Value)} {oc9 kV9 dc9 pm9 cd9 ct9 : Value} {f10 : Addr} {od10 an10 : Option Addr} {sl10 : Array (Option Value)} {oc10 kV10 dc10 pm10 cd10 ct10 : Value} {f11 : Addr} {od11 an11 : Option Addr} {sl11 : Array (Option Value)} {oc11 kV11 dc11 pm11 cd11 ct11 : Value} {f12 : Addr} {od12 an12 : Option Addr} {sl12 : Array (Option Value)} {oc12 kV12 dc12 pm12 cd12 ct12 : Value} {f13 : Addr} {od13 an13 : Option Addr} {sl13 : Array (Option Value)} {oc13 kV13 dc13 pm13 cd13 ct13 : Value} {f14 : Addr} {od14 an14 : Option Addr} {sl14 : Array (Option Value)} {oc14 kV14 dc14 pm14 cd14 ct14 : Value} {f15 : Addr} {od15 an15 : Option Addr} {sl15 : Array (Option Value)} {oc15 kV15 dc15 pm15 cd15 ct15 : Value} {f16 : Addr} {od16 an16 : Option Addr} {sl16 : Array (Option Value)} {oc16 kV16 dc16 pm16 cd16 ct16 : Value} {f17 : Addr} {od17 an17 : Option Addr} {sl17 : Array (Option Value)} {oc17 kV17 dc17 pm17 cd17 ct17 : Value} {f18 : Addr} {od18 an18 : Option Addr} {sl18 : Array (Option Value)} {oc18 kV18 dc18 pm18 cd18 ct18 : Value} {f19 : Addr} {od19 an19 : Option Addr} {sl19 : Array (Option Value)} {oc19 kV19 dc19 pm19 cd19 ct19 : Value} {f20 : Addr} {od20 an20 : Option Addr} {sl20 : Array (Option Value)} {oc20 kV20 dc20 pm20 cd20 ct20 : Value} {f21 : Addr} {od21 an21 : Option Addr} {sl21 : Array (Option Value)} {oc21 kV21 dc21 pm21 cd21 ct21 : Value} {f22 : Addr} {od22 an22 : Option Addr} {sl22 : Array (Option Value)} {oc22 kV22 dc22 pm22 cd22 ct22 : Value} {f23 : Addr} {od23 an23 : Option Addr} {sl23 : Array (Option Value)} {oc23 kV23 dc23 pm23 cd23 ct23 : Value} {f24 : Addr} {od24 an24 : Option Addr} {sl24 : Array (Option Value)} {oc24 kV24 dc24 pm24 cd24 ct24 : Value} {f25 : Addr} {od25 an25 : Option Addr} {sl25 : Array (Option Value)} {oc25 kV25 dc25 pm25 cd25 ct25 : Value} {f26 : Addr} {od26 an26 : Option Addr} {sl26 : Array (Option Value)} {oc26 kV26 dc26 pm26 cd26 ct26 : Value} {f27 : Addr} {od27 an27 : Option Addr} {sl27 : Array (Option Value)} {oc27 kV27 dc27 pm27 cd27 ct27 : Value} {f28 : Addr} {od28 an28 : Option Addr} {sl28 : Array (Option Value)} {oc28 kV28 dc28 pm28 cd28 ct28 : Value} {f29 : Addr} {od29 an29 : Option Addr} {sl29 : Array (Option Value)} {oc29 kV29 dc29 pm29 cd29 ct29 : Value} {f30 : Addr} {od30 an30 : Option Addr} {sl30 : Array (Option Value)} {oc30 kV30 dc30 pm30 cd30 ct30 : Value} {f31 : Addr} {od31 an31 : Option Addr} {sl31 : Array (Option Value)} {oc31 kV31 dc31 pm31 cd31 ct31 : Value} {f32 : Addr} {od32 an32 : Option Addr} {sl32 : Array (Option Value)} {oc32 kV32 dc32 pm32 cd32 ct32 : Value} {u_MOST_RADICAL : Tok} {C_InvalidNumber f_InvalidNumber x_InvalidNumber d_InvalidNumber N_InvalidNumber : Addr} {nm_InvalidNumber qn_InvalidNumber ql_InvalidNumber ms_InvalidNumber fl_InvalidNumber : Str} {bs_InvalidNumber bm_InvalidNumber sub_InvalidNumber : List Value} {sn_InvalidNumber : List Str} {ab_InvalidNumber : Bool} {col_InvalidNumber : Option Bool} {dd_InvalidNumber od_InvalidNumber an_InvalidNumber cdd_InvalidNumber cld_InvalidNumber : Option Addr} {v0_InvalidNumber v1_InvalidNumber v2_InvalidNumber v3_InvalidNumber v5_InvalidNumber : Option Value} {oc_InvalidNumber dc_InvalidNumber pm_InvalidNumber ct_InvalidNumber ccl_InvalidNumber cl_InvalidNumber : Value} {os_InvalidNumber ccs_InvalidNumber csl_InvalidNumber : Array (Option Value)} {vs_InvalidNumber : Array Value} {tf_InvalidNumber : Tok} {n1_InvalidNumber n2_InvalidNumber : Nat} {p1_InvalidNumber p2_InvalidNumber a1_InvalidNumber a2_InvalidNumber a3_InvalidNumber a4_InvalidNumber a5_InvalidNumber a6_InvalidNumber b1_InvalidNumber b2_InvalidNumber b3_InvalidNumber b4_InvalidNumber c1_InvalidNumber c2_InvalidNumber c3_InvalidNumber c4_InvalidNumber : Pos} {C_Realm : Addr} {f_Realm_init : Addr} {od_Realm_init an_Realm_init : Option Addr} {sl_Realm_init : Array (Option Value)} {oc_Realm_init dc_Realm_init pm_Realm_init cd_Realm_init ct_Realm_init : Value} {kVRealm_init : Addr} {tk_Realm_init_inverse : Tok} {tk_Realm_init_ones : Tok} {tk_Realm_init_swaps : Tok} {tk_Realm_init_squares : Tok} {f_Realm_inverse : Addr} {od_Realm_inverse an_Realm_inverse : Option Addr} {sl_Realm_inverse : Array (Option Value)} {oc_Realm_inverse dc_Realm_inverse pm_Realm_inverse cd_Realm_inverse ct_Realm_inverse : Value} {kV_Realm_inverse : Value} {p_Realm_inverse : Addr} {rs_Realm_inverse : List Value} {f_Realm_ones : Addr} {od_Realm_ones an_Realm_ones : Option Addr} {sl_Realm_ones : Array (Option Value)} {oc_Realm_ones dc_Realm_ones pm_Realm_ones cd_Realm_ones ct_Realm_ones : Value} {kV_Realm_ones : Value} {p_Realm_ones : Addr} {rs_Realm_ones : List Value} {f_Realm_swaps : Addr} {od_Realm_swaps an_Realm_swaps : Option Addr} {sl_Realm_swaps : Array (Option Value)} {oc_Realm_swaps dc_Realm_swaps pm_Realm_swaps cd_Realm_swaps ct_Realm_swaps : Value} {kV_Realm_swaps : Value} {p_Realm_swaps : Addr} {rs_Realm_swaps : List Value} {f_Realm_squares : Addr} {od_Realm_squares an_Realm_squares : Option Addr} {sl_Realm_squares : Array (Option Value)} {oc_Realm_squares dc_Realm_squares pm_Realm_squares cd_Realm_squares ct_Realm_squares : Value} {kV_Realm_squares : Value} {p_Realm_squares : Addr} {rs_Realm_squares : List Value} {f_Realm_everywhere : Addr} {od_Realm_everywhere an_Realm_everywhere : Option Addr} {sl_Realm_everywhere : Array (Option Value)} {oc_Realm_everywhere dc_Realm_everywhere pm_Realm_everywhere cd_Realm_everywhere ct_Realm_everywhere : Value} {kV_Realm_everywhere : Value} {p_Realm_everywhere : Addr} {rs_Realm_everywhere : List Value} {f_Realm_nowhere : Addr} {od_Realm_nowhere an_Realm_nowhere : Option Addr} {sl_Realm_nowhere : Array (Option Value)} {oc_Realm_nowhere dc_Realm_nowhere pm_Realm_nowhere cd_Realm_nowhere ct_Realm_nowhere : Value} {kV_Realm_nowhere : Value} {p_Realm_nowhere : Addr} {rs_Realm_nowhere : List Value} {f_Realm_has_inverse : Addr} {od_Realm_has_inverse an_Realm_has_inverse : Option Addr} {sl_Realm_has_inverse : Array (Option Value)} {oc_Realm_has_inverse dc_Realm_has_inverse pm_Realm_has_inverse cd_Realm_has_inverse ct_Realm_has_inverse : Value} {kV_Realm_has_inverse : Value} {g_RingError : Value} {g_Missing : Value} {g_NothingLeft : Value}
    {cL PL : Addr} {eL : Value} {ddL : Option Addr} {vsL : Array Value} {slL : Array (Option Value)}
    (z_super : PySem.W.nsIn K mainGlobals "super" = some none) (opq : PySem.W.nsIn K PySem.cStatics "thirdparty.any" = some none) (topSuper : (l.prog.main.scope.names.lookup ("super" : Str)).isSome = false)
    (a1 : PySem.W.nsIn K mainGlobals "_wall" = some (some (.ref f1))) (l1 : K.lookup f1 = some ⟨oc1, od1, .func (PySem.W.fnOf "_wall" "_wall" (defArgs s__wall) (defBody s__wall) (defScope s__wall) .none kV1 dc1 pm1 an1 cd1 ct1), sl1⟩) (c1 : PySem.W.codeIn K cd1 "_wall" = true) (k1 : PySem.W.keepIn K (.ref f1) = true)
    (a2 : PySem.W.nsIn K mainGlobals "is_int" = some (some (.ref f2))) (l2 : K.lookup f2 = some ⟨oc2, od2, .func (PySem.W.fnOf "is_int" "is_int" (defArgs s_is_int) (defBody s_is_int) (defScope s_is_int) .none kV2 dc2 pm2 an2 cd2 ct2), sl2⟩) (c2 : PySem.W.codeIn K cd2 "is_int" = true) (k2 : PySem.W.keepIn K (.ref f2) = true)
    (a3 : PySem.W.nsIn K mainGlobals "is_between" = some (some (.ref f3))) (l3 : K.lookup f3 = some ⟨oc3, od3, .func (PySem.W.fnOf "is_between" "is_between" (defArgs s_is_between) (defBody s_is_between) (defScope s_is_between) .none kV3 dc3 pm3 an3 cd3 ct3), sl3⟩) (c3 : PySem.W.codeIn K cd3 "is_between" = true) (k3 : PySem.W.keepIn K (.ref f3) = true)
    (a4 : PySem.W.nsIn K mainGlobals "common" = some (some (.ref f4))) (l4 : K.lookup f4 = some ⟨oc4, od4, .func (PySem.W.fnOf "common" "common" (defArgs s_common) (defBody s_common) (defScope s_common) .none kV4 dc4 pm4 an4 cd4 ct4), sl4⟩) (c4 : PySem.W.codeIn K cd4 "common" = true) (k4 : PySem.W.keepIn K (.ref f4) = true)
    (a5 : PySem.W.nsIn K mainGlobals "multiple" = some (some (.ref f5))) (l5 : K.lookup f5 = some ⟨oc5, od5, .func (PySem.W.fnOf "multiple" "multiple" (defArgs s_multiple) (defBody s_multiple) (defScope s_multiple) .none kV5 dc5 pm5 an5 cd5 ct5), sl5⟩) (c5 : PySem.W.codeIn K cd5 "multiple" = true) (k5 : PySem.W.keepIn K (.ref f5) = true)
    (a6 : PySem.W.nsIn K mainGlobals "divides" = some (some (.ref f6))) (l6 : K.lookup f6 = some ⟨oc6, od6, .func (PySem.W.fnOf "divides" "divides" (defArgs s_divides) (defBody s_divides) (defScope s_divides) .none kV6 dc6 pm6 an6 cd6 ct6), sl6⟩) (c6 : PySem.W.codeIn K cd6 "divides" = true) (k6 : PySem.W.keepIn K (.ref f6) = true)
    (a7 : PySem.W.nsIn K mainGlobals "stripped" = some (some (.ref f7))) (l7 : K.lookup f7 = some ⟨oc7, od7, .func (PySem.W.fnOf "stripped" "stripped" (defArgs s_stripped) (defBody s_stripped) (defScope s_stripped) .none kV7 dc7 pm7 an7 cd7 ct7), sl7⟩) (c7 : PySem.W.codeIn K cd7 "stripped" = true) (k7 : PySem.W.keepIn K (.ref f7) = true)
    (a8 : PySem.W.nsIn K mainGlobals "radical" = some (some (.ref f8))) (l8 : K.lookup f8 = some ⟨oc8, od8, .func (PySem.W.fnOf "radical" "radical" (defArgs s_radical) (defBody s_radical) (defScope s_radical) .none kV8 dc8 pm8 an8 cd8 ct8), sl8⟩) (c8 : PySem.W.codeIn K cd8 "radical" = true) (k8 : PySem.W.keepIn K (.ref f8) = true)
    (a9 : PySem.W.nsIn K mainGlobals "written" = some (some (.ref f9))) (l9 : K.lookup f9 = some ⟨oc9, od9, .func (PySem.W.fnOf "written" "written" (defArgs s_written) (defBody s_written) (defScope s_written) .none kV9 dc9 pm9 an9 cd9 ct9), sl9⟩) (c9 : PySem.W.codeIn K cd9 "written" = true) (k9 : PySem.W.keepIn K (.ref f9) = true)
    (a10 : PySem.W.nsIn K mainGlobals "written_below" = some (some (.ref f10))) (l10 : K.lookup f10 = some ⟨oc10, od10, .func (PySem.W.fnOf "written_below" "written_below" (defArgs s_written_below) (defBody s_written_below) (defScope s_written_below) .none kV10 dc10 pm10 an10 cd10 ct10), sl10⟩) (c10 : PySem.W.codeIn K cd10 "written_below" = true) (k10 : PySem.W.keepIn K (.ref f10) = true)
    (a11 : PySem.W.nsIn K mainGlobals "depth_over" = some (some (.ref f11))) (l11 : K.lookup f11 = some ⟨oc11, od11, .func (PySem.W.fnOf "depth_over" "depth_over" (defArgs s_depth_over) (defBody s_depth_over) (defScope s_depth_over) .none kV11 dc11 pm11 an11 cd11 ct11), sl11⟩) (c11 : PySem.W.codeIn K cd11 "depth_over" = true) (k11 : PySem.W.keepIn K (.ref f11) = true)
    (a12 : PySem.W.nsIn K mainGlobals "normal_numbers" = some (some (.ref f12))) (l12 : K.lookup f12 = some ⟨oc12, od12, .func (PySem.W.fnOf "normal_numbers" "normal_numbers" (defArgs s_normal_numbers) (defBody s_normal_numbers) (defScope s_normal_numbers) .none kV12 dc12 pm12 an12 cd12 ct12), sl12⟩) (c12 : PySem.W.codeIn K cd12 "normal_numbers" = true) (k12 : PySem.W.keepIn K (.ref f12) = true)
    (a13 : PySem.W.nsIn K mainGlobals "realm_with" = some (some (.ref f13))) (l13 : K.lookup f13 = some ⟨oc13, od13, .func (PySem.W.fnOf "realm_with" "realm_with" (defArgs s_realm_with) (defBody s_realm_with) (defScope s_realm_with) .none kV13 dc13 pm13 an13 cd13 ct13), sl13⟩) (c13 : PySem.W.codeIn K cd13 "realm_with" = true) (k13 : PySem.W.keepIn K (.ref f13) = true)
    (a14 : PySem.W.nsIn K mainGlobals "listed" = some (some (.ref f14))) (l14 : K.lookup f14 = some ⟨oc14, od14, .func (PySem.W.fnOf "listed" "listed" (defArgs s_listed) (defBody s_listed) (defScope s_listed) .none kV14 dc14 pm14 an14 cd14 ct14), sl14⟩) (c14 : PySem.W.codeIn K cd14 "listed" = true) (k14 : PySem.W.keepIn K (.ref f14) = true)
    (a15 : PySem.W.nsIn K mainGlobals "joined_inverse" = some (some (.ref f15))) (l15 : K.lookup f15 = some ⟨oc15, od15, .func (PySem.W.fnOf "joined_inverse" "joined_inverse" (defArgs s_joined_inverse) (defBody s_joined_inverse) (defScope s_joined_inverse) .none kV15 dc15 pm15 an15 cd15 ct15), sl15⟩) (c15 : PySem.W.codeIn K cd15 "joined_inverse" = true) (k15 : PySem.W.keepIn K (.ref f15) = true)
    (a16 : PySem.W.nsIn K mainGlobals "_law_bag" = some (some (.ref f16))) (l16 : K.lookup f16 = some ⟨oc16, od16, .func (PySem.W.fnOf "_law_bag" "_law_bag" (defArgs s_l_bag) (defBody s_l_bag) (defScope s_l_bag) .none kV16 dc16 pm16 an16 cd16 ct16), sl16⟩) (c16 : PySem.W.codeIn K cd16 "_law_bag" = true) (k16 : PySem.W.keepIn K (.ref f16) = true)
    (a17 : PySem.W.nsIn K mainGlobals "_law_draw" = some (some (.ref f17))) (l17 : K.lookup f17 = some ⟨oc17, od17, .func (PySem.W.fnOf "_law_draw" "_law_draw" (defArgs s_l_draw) (defBody s_l_draw) (defScope s_l_draw) .none kV17 dc17 pm17 an17 cd17 ct17), sl17⟩) (c17 : PySem.W.codeIn K cd17 "_law_draw" = true) (k17 : PySem.W.keepIn K (.ref f17) = true)
    (a18 : PySem.W.nsIn K mainGlobals "_law_pick" = some (some (.ref f18))) (l18 : K.lookup f18 = some ⟨oc18, od18, .func (PySem.W.fnOf "_law_pick" "_law_pick" (defArgs s_l_pick) (defBody s_l_pick) (defScope s_l_pick) .none kV18 dc18 pm18 an18 cd18 ct18), sl18⟩) (c18 : PySem.W.codeIn K cd18 "_law_pick" = true) (k18 : PySem.W.keepIn K (.ref f18) = true)
    (a19 : PySem.W.nsIn K mainGlobals "_law_same" = some (some (.ref f19))) (l19 : K.lookup f19 = some ⟨oc19, od19, .func (PySem.W.fnOf "_law_same" "_law_same" (defArgs s_l_same) (defBody s_l_same) (defScope s_l_same) .none kV19 dc19 pm19 an19 cd19 ct19), sl19⟩) (c19 : PySem.W.codeIn K cd19 "_law_same" = true) (k19 : PySem.W.keepIn K (.ref f19) = true)
    (a20 : PySem.W.nsIn K mainGlobals "_law_field" = some (some (.ref f20))) (l20 : K.lookup f20 = some ⟨oc20, od20, .func (PySem.W.fnOf "_law_field" "_law_field" (defArgs s_l_field) (defBody s_l_field) (defScope s_l_field) .none kV20 dc20 pm20 an20 cd20 ct20), sl20⟩) (c20 : PySem.W.codeIn K cd20 "_law_field" = true) (k20 : PySem.W.keepIn K (.ref f20) = true)
    (a21 : PySem.W.nsIn K mainGlobals "_law_got" = some (some (.ref f21))) (l21 : K.lookup f21 = some ⟨oc21, od21, .func (PySem.W.fnOf "_law_got" "_law_got" (defArgs s_l_got) (defBody s_l_got) (defScope s_l_got) .none kV21 dc21 pm21 an21 cd21 ct21), sl21⟩) (c21 : PySem.W.codeIn K cd21 "_law_got" = true) (k21 : PySem.W.keepIn K (.ref f21) = true)
    (a22 : PySem.W.nsIn K mainGlobals "_law_all" = some (some (.ref f22))) (l22 : K.lookup f22 = some ⟨oc22, od22, .func (PySem.W.fnOf "_law_all" "_law_all" (defArgs s_l_all) (defBody s_l_all) (defScope s_l_all) .none kV22 dc22 pm22 an22 cd22 ct22), sl22⟩) (c22 : PySem.W.codeIn K cd22 "_law_all" = true) (k22 : PySem.W.keepIn K (.ref f22) = true)
    (a23 : PySem.W.nsIn K mainGlobals "_law_gcd" = some (some (.ref f23))) (l23 : K.lookup f23 = some ⟨oc23, od23, .func (PySem.W.fnOf "_law_gcd" "_law_gcd" (defArgs s_l_gcd) (defBody s_l_gcd) (defScope s_l_gcd) .none kV23 dc23 pm23 an23 cd23 ct23), sl23⟩) (c23 : PySem.W.codeIn K cd23 "_law_gcd" = true) (k23 : PySem.W.keepIn K (.ref f23) = true)
    (a24 : PySem.W.nsIn K mainGlobals "_law_strip" = some (some (.ref f24))) (l24 : K.lookup f24 = some ⟨oc24, od24, .func (PySem.W.fnOf "_law_strip" "_law_strip" (defArgs s_l_strip) (defBody s_l_strip) (defScope s_l_strip) .none kV24 dc24 pm24 an24 cd24 ct24), sl24⟩) (c24 : PySem.W.codeIn K cd24 "_law_strip" = true) (k24 : PySem.W.keepIn K (.ref f24) = true)
    (a25 : PySem.W.nsIn K mainGlobals "_law_radical" = some (some (.ref f25))) (l25 : K.lookup f25 = some ⟨oc25, od25, .func (PySem.W.fnOf "_law_radical" "_law_radical" (defArgs s_l_radical) (defBody s_l_radical) (defScope s_l_radical) .none kV25 dc25 pm25 an25 cd25 ct25), sl25⟩) (c25 : PySem.W.codeIn K cd25 "_law_radical" = true) (k25 : PySem.W.keepIn K (.ref f25) = true)
    (a26 : PySem.W.nsIn K mainGlobals "_law_product" = some (some (.ref f26))) (l26 : K.lookup f26 = some ⟨oc26, od26, .func (PySem.W.fnOf "_law_product" "_law_product" (defArgs s_l_product) (defBody s_l_product) (defScope s_l_product) .none kV26 dc26 pm26 an26 cd26 ct26), sl26⟩) (c26 : PySem.W.codeIn K cd26 "_law_product" = true) (k26 : PySem.W.keepIn K (.ref f26) = true)
    (a27 : PySem.W.nsIn K mainGlobals "_law_settled" = some (some (.ref f27))) (l27 : K.lookup f27 = some ⟨oc27, od27, .func (PySem.W.fnOf "_law_settled" "_law_settled" (defArgs s_l_settled) (defBody s_l_settled) (defScope s_l_settled) .none kV27 dc27 pm27 an27 cd27 ct27), sl27⟩) (c27 : PySem.W.codeIn K cd27 "_law_settled" = true) (k27 : PySem.W.keepIn K (.ref f27) = true)
    (a28 : PySem.W.nsIn K mainGlobals "_law_told" = some (some (.ref f28))) (l28 : K.lookup f28 = some ⟨oc28, od28, .func (PySem.W.fnOf "_law_told" "_law_told" (defArgs s_l_told) (defBody s_l_told) (defScope s_l_told) .none kV28 dc28 pm28 an28 cd28 ct28), sl28⟩) (c28 : PySem.W.codeIn K cd28 "_law_told" = true) (k28 : PySem.W.keepIn K (.ref f28) = true)
    (a29 : PySem.W.nsIn K mainGlobals "_law_realm" = some (some (.ref f29))) (l29 : K.lookup f29 = some ⟨oc29, od29, .func (PySem.W.fnOf "_law_realm" "_law_realm" (defArgs s_l_realm) (defBody s_l_realm) (defScope s_l_realm) .none kV29 dc29 pm29 an29 cd29 ct29), sl29⟩) (c29 : PySem.W.codeIn K cd29 "_law_realm" = true) (k29 : PySem.W.keepIn K (.ref f29) = true)
    (a30 : PySem.W.nsIn K mainGlobals "_law_drawn_realm" = some (some (.ref f30))) (l30 : K.lookup f30 = some ⟨oc30, od30, .func (PySem.W.fnOf "_law_drawn_realm" "_law_drawn_realm" (defArgs s_l_drawn_realm) (defBody s_l_drawn_realm) (defScope s_l_drawn_realm) .none kV30 dc30 pm30 an30 cd30 ct30), sl30⟩) (c30 : PySem.W.codeIn K cd30 "_law_drawn_realm" = true) (k30 : PySem.W.keepIn K (.ref f30) = true)
    (a31 : PySem.W.nsIn K mainGlobals "_law_settle" = some (some (.ref f31))) (l31 : K.lookup f31 = some ⟨oc31, od31, .func (PySem.W.fnOf "_law_settle" "_law_settle" (defArgs s_l_settle) (defBody s_l_settle) (defScope s_l_settle) .none kV31 dc31 pm31 an31 cd31 ct31), sl31⟩) (c31 : PySem.W.codeIn K cd31 "_law_settle" = true) (k31 : PySem.W.keepIn K (.ref f31) = true)
    (a32 : PySem.W.nsIn K mainGlobals "law" = some (some (.ref f32))) (l32 : K.lookup f32 = some ⟨oc32, od32, .func (PySem.W.fnOf "law" "law" (defArgs s_law) (defBody s_law) (defScope s_law) .none kV32 dc32 pm32 an32 cd32 ct32), sl32⟩) (c32 : PySem.W.codeIn K cd32 "law" = true) (k32 : PySem.W.keepIn K (.ref f32) = true)
    (z_IndexError : PySem.W.nsIn K mainGlobals "IndexError" = some none)
    (z_LookupError : PySem.W.nsIn K mainGlobals "LookupError" = some none)
    (z_ValueError : PySem.W.nsIn K mainGlobals "ValueError" = some none)
    (z_abs : PySem.W.nsIn K mainGlobals "abs" = some none)
    (z_all : PySem.W.nsIn K mainGlobals "all" = some none)
    (z_bool : PySem.W.nsIn K mainGlobals "bool" = some none)
    (z_divmod : PySem.W.nsIn K mainGlobals "divmod" = some none)
    (z_int : PySem.W.nsIn K mainGlobals "int" = some none)
    (z_isinstance : PySem.W.nsIn K mainGlobals "isinstance" = some none)
    (z_len : PySem.W.nsIn K mainGlobals "len" = some none)
    (z_list : PySem.W.nsIn K mainGlobals "list" = some none)
    (z_max : PySem.W.nsIn K mainGlobals "max" = some none)
    (z_range : PySem.W.nsIn K mainGlobals "range" = some none)
    (z_str : PySem.W.nsIn K mainGlobals "str" = some none)
    (z_tuple : PySem.W.nsIn K mainGlobals "tuple" = some none)
    (z_zip : PySem.W.nsIn K mainGlobals "zip" = some none)
    (m_gcd : PySem.W.nsIn K mainGlobals "gcd" = some (some (.builtin "math.gcd")))
    (m_lcm : PySem.W.nsIn K mainGlobals "lcm" = some (some (.builtin "math.lcm")))
    (m_MOST_RADICAL : PySem.W.nsIn K mainGlobals "MOST_RADICAL" = some (some (.int 1000000 u_MOST_RADICAL)))
    (ea_InvalidNumber : PySem.W.nsIn K mainGlobals "InvalidNumber" = some (some (.ref C_InvalidNumber)))
    (eb_InvalidNumber : K.lookup C_InvalidNumber = some (excClassObj nm_InvalidNumber qn_InvalidNumber C_InvalidNumber N_InvalidNumber bs_InvalidNumber bm_InvalidNumber true sn_InvalidNumber sub_InvalidNumber ab_InvalidNumber col_InvalidNumber dd_InvalidNumber v0_InvalidNumber v1_InvalidNumber v2_InvalidNumber v3_InvalidNumber v5_InvalidNumber "ValueError.__new__"))
    (ec_InvalidNumber : PySem.HandSPX.refsVE bm_InvalidNumber = true)
    (ed_InvalidNumber : PySem.W.alongIn K "__init__" bm_InvalidNumber = some (some (.builtin "ValueError.__init__")))
    (ee_InvalidNumber : PySem.W.findIn K (.ref C_InvalidNumber) "__setattr__" = some (some (.builtin "object.__setattr__")))
    (ef_InvalidNumber : PySem.W.findIn K (.ref C_InvalidNumber) "__getattribute__" = some (some (.builtin "BaseException.__getattribute__")))
    (eg_InvalidNumber : PySem.W.findIn K (.ref C_InvalidNumber) "__getattr__" = some none)
    (eh_InvalidNumber : PySem.W.findIn K (.ref C_InvalidNumber) "given" = some none)
    (ei_InvalidNumber : PySem.W.findIn K (.ref C_InvalidNumber) "code" = some none)
    (ej_InvalidNumber : PySem.W.findIn K (.ref C_InvalidNumber) "__init__" = some (some (.ref f_InvalidNumber)))
    (ek_InvalidNumber : PySem.W.typeIn K (.ref f_InvalidNumber) = some (.type "function"))
    (el_InvalidNumber : PySem.W.keepIn K (.ref C_InvalidNumber) = true)
    (em_InvalidNumber : PySem.W.subIn K (.ref C_InvalidNumber) (.type "BaseException") = some true)
    (en_InvalidNumber : PySem.W.subIn K (.ref C_InvalidNumber) (.type "ValueError") = some true)
    (eo_InvalidNumber : PySem.W.mroIn K C_InvalidNumber (.ref C_InvalidNumber) = some true)
    (ep_InvalidNumber : PySem.W.typeIn K (.ref C_InvalidNumber) = some (.type "type"))
    (eq_InvalidNumber : PySem.W.hasDictIn K C_InvalidNumber = true)
    (er_InvalidNumber : K.lookup f_InvalidNumber = some ⟨oc_InvalidNumber, od_InvalidNumber, .func (PySem.W.ksFn "__init__" ql_InvalidNumber (PySem.ErrX.eArgs "given" p1_InvalidNumber p2_InvalidNumber) (PySem.ErrX.eBody "given" ms_InvalidNumber "InvalidNumber" n1_InvalidNumber n2_InvalidNumber a1_InvalidNumber a2_InvalidNumber a3_InvalidNumber a4_InvalidNumber a5_InvalidNumber a6_InvalidNumber b1_InvalidNumber b2_InvalidNumber b3_InvalidNumber b4_InvalidNumber c1_InvalidNumber c2_InvalidNumber c3_InvalidNumber c4_InvalidNumber) (PySem.ErrX.eScope "given") .none .none dc_InvalidNumber pm_InvalidNumber an_InvalidNumber (.ref d_InvalidNumber) ct_InvalidNumber x_InvalidNumber), os_InvalidNumber⟩)
    (es_InvalidNumber : PySem.W.codeIn K (.ref d_InvalidNumber) ql_InvalidNumber = true)
    (et_InvalidNumber : K.lookup x_InvalidNumber = some ⟨cl_InvalidNumber, cld_InvalidNumber, .cell (some (.ref C_InvalidNumber)), csl_InvalidNumber⟩)
    (eu_InvalidNumber : K.lookup d_InvalidNumber = some ⟨ccl_InvalidNumber, cdd_InvalidNumber, .fields vs_InvalidNumber, ccs_InvalidNumber⟩)
    (ev_InvalidNumber : vs_InvalidNumber[2]? = some (.str fl_InvalidNumber tf_InvalidNumber))
    (ex_InvalidNumber : PySem.ErrX.InitEval ms_InvalidNumber n1_InvalidNumber a1_InvalidNumber a2_InvalidNumber a3_InvalidNumber a4_InvalidNumber a5_InvalidNumber)
    (ew_InvalidNumber : ((l.prog.main.file : Str) == fl_InvalidNumber) = true)
    (cg_Realm : PySem.W.nsIn K mainGlobals "Realm" = some (some (.ref C_Realm)))
    (c1_Realm : PySem.W.plainGet K C_Realm Str.empty = true)
    (c2_Realm : PySem.W.hasDictIn K C_Realm = true)
    (c3_Realm : PySem.W.plainOver K C_Realm = true)
    (c4_Realm : PySem.W.findIn K (.ref C_Realm) "__setattr__" = some (some (.builtin "object.__setattr__")))
    (c5_Realm : PySem.W.readsIn K C_Realm (.type "type") = true)
    (c6_Realm : PySem.W.specialIn K (.ref C_Realm) "__getattribute__" = some (some (.builtin "type.__getattribute__")))
    (ia_Realm : PySem.W.findIn K (.ref C_Realm) "__class__" = some (some (.builtin "object.__class__")))
    (ib_Realm : PySem.W.specialIn K (.builtin "object.__class__") "__get__" = some (some (.builtin "getset_descriptor.__get__")))
    (ic_Realm : PySem.W.takesIn K (.builtin "object.__class__") = some true)
    (id_Realm : PySem.W.mroIn K C_Realm (.type "object") = some true)
    (no_Realm__normal : PySem.W.findIn K (.ref C_Realm) "_normal" = some none)
    (ff0_Realm : PySem.W.kitOne K (.ref C_Realm) (.ref C_Realm) = some true)
    (ff1_Realm : PySem.W.kitOne K (.type "int") (.ref C_Realm) = some false)
    (ff2_Realm : PySem.W.notFirst K C_Realm (.type "int") = true)
    (ma_Realm_init : PySem.W.findIn K (.ref C_Realm) "__init__" = some (some (.ref f_Realm_init)))
    (mb_Realm_init : PySem.W.isFn K (.ref f_Realm_init) = true)
    (l_Realm_init : K.lookup f_Realm_init = some ⟨oc_Realm_init, od_Realm_init, .func (PySem.W.fnOf "__init__" "Realm.__init__" (defArgs s_Realm_init) (defBody s_Realm_init) (defScope s_Realm_init) .none (.ref kVRealm_init) dc_Realm_init pm_Realm_init an_Realm_init cd_Realm_init ct_Realm_init), sl_Realm_init⟩)
    (c_Realm_init : PySem.W.codeIn K cd_Realm_init "Realm.__init__" = true)
    (k_Realm_init : PySem.W.keepIn K (.ref f_Realm_init) = true)
    (kw_Realm_init_inverse : PySem.W.nsIn K kVRealm_init "inverse" = some (some (.int 1 tk_Realm_init_inverse)))
    (kw_Realm_init_ones : PySem.W.nsIn K kVRealm_init "ones" = some (some (.int 0 tk_Realm_init_ones)))
    (kw_Realm_init_swaps : PySem.W.nsIn K kVRealm_init "swaps" = some (some (.int 0 tk_Realm_init_swaps)))
    (kw_Realm_init_squares : PySem.W.nsIn K kVRealm_init "squares" = some (some (.int 0 tk_Realm_init_squares)))
    (mk_Realm : PySem.W.makesIn K C_Realm = true)
    (kc_Realm : PySem.W.keepIn K (.ref C_Realm) = true)
    (pa_Realm_inverse : PySem.W.findIn K (.ref C_Realm) "inverse" = some (some (.ref p_Realm_inverse)))
    (pb_Realm_inverse : PySem.W.specialIn K (.ref p_Realm_inverse) "__get__" = some (some (.builtin "property.__get__")))
    (pc_Realm_inverse : PySem.W.takesIn K (.ref p_Realm_inverse) = some true)
    (pd_Realm_inverse : PySem.W.recIn K p_Realm_inverse "property" = some (.ref f_Realm_inverse :: rs_Realm_inverse))
    (l_Realm_inverse : K.lookup f_Realm_inverse = some ⟨oc_Realm_inverse, od_Realm_inverse, .func (PySem.W.fnOf "inverse" "Realm.inverse" (defArgs s_Realm_inverse) (defBody s_Realm_inverse) (defScope s_Realm_inverse) .none kV_Realm_inverse dc_Realm_inverse pm_Realm_inverse an_Realm_inverse cd_Realm_inverse ct_Realm_inverse), sl_Realm_inverse⟩)
    (c_Realm_inverse : PySem.W.codeIn K cd_Realm_inverse "Realm.inverse" = true)
    (k_Realm_inverse : PySem.W.keepIn K (.ref f_Realm_inverse) = true)
    (pa_Realm_ones : PySem.W.findIn K (.ref C_Realm) "ones" = some (some (.ref p_Realm_ones)))
    (pb_Realm_ones : PySem.W.specialIn K (.ref p_Realm_ones) "__get__" = some (some (.builtin "property.__get__")))
    (pc_Realm_ones : PySem.W.takesIn K (.ref p_Realm_ones) = some true)
    (pd_Realm_ones : PySem.W.recIn K p_Realm_ones "property" = some (.ref f_Realm_ones :: rs_Realm_ones))
    (l_Realm_ones : K.lookup f_Realm_ones = some ⟨oc_Realm_ones, od_Realm_ones, .func (PySem.W.fnOf "ones" "Realm.ones" (defArgs s_Realm_ones) (defBody s_Realm_ones) (defScope s_Realm_ones) .none kV_Realm_ones dc_Realm_ones pm_Realm_ones an_Realm_ones cd_Realm_ones ct_Realm_ones), sl_Realm_ones⟩)
    (c_Realm_ones : PySem.W.codeIn K cd_Realm_ones "Realm.ones" = true)
    (k_Realm_ones : PySem.W.keepIn K (.ref f_Realm_ones) = true)
    (pa_Realm_swaps : PySem.W.findIn K (.ref C_Realm) "swaps" = some (some (.ref p_Realm_swaps)))
    (pb_Realm_swaps : PySem.W.specialIn K (.ref p_Realm_swaps) "__get__" = some (some (.builtin "property.__get__")))
    (pc_Realm_swaps : PySem.W.takesIn K (.ref p_Realm_swaps) = some true)
    (pd_Realm_swaps : PySem.W.recIn K p_Realm_swaps "property" = some (.ref f_Realm_swaps :: rs_Realm_swaps))
    (l_Realm_swaps : K.lookup f_Realm_swaps = some ⟨oc_Realm_swaps, od_Realm_swaps, .func (PySem.W.fnOf "swaps" "Realm.swaps" (defArgs s_Realm_swaps) (defBody s_Realm_swaps) (defScope s_Realm_swaps) .none kV_Realm_swaps dc_Realm_swaps pm_Realm_swaps an_Realm_swaps cd_Realm_swaps ct_Realm_swaps), sl_Realm_swaps⟩)
    (c_Realm_swaps : PySem.W.codeIn K cd_Realm_swaps "Realm.swaps" = true)
    (k_Realm_swaps : PySem.W.keepIn K (.ref f_Realm_swaps) = true)
    (pa_Realm_squares : PySem.W.findIn K (.ref C_Realm) "squares" = some (some (.ref p_Realm_squares)))
    (pb_Realm_squares : PySem.W.specialIn K (.ref p_Realm_squares) "__get__" = some (some (.builtin "property.__get__")))
    (pc_Realm_squares : PySem.W.takesIn K (.ref p_Realm_squares) = some true)
    (pd_Realm_squares : PySem.W.recIn K p_Realm_squares "property" = some (.ref f_Realm_squares :: rs_Realm_squares))
    (l_Realm_squares : K.lookup f_Realm_squares = some ⟨oc_Realm_squares, od_Realm_squares, .func (PySem.W.fnOf "squares" "Realm.squares" (defArgs s_Realm_squares) (defBody s_Realm_squares) (defScope s_Realm_squares) .none kV_Realm_squares dc_Realm_squares pm_Realm_squares an_Realm_squares cd_Realm_squares ct_Realm_squares), sl_Realm_squares⟩)
    (c_Realm_squares : PySem.W.codeIn K cd_Realm_squares "Realm.squares" = true)
    (k_Realm_squares : PySem.W.keepIn K (.ref f_Realm_squares) = true)
    (sa_Realm_everywhere : PySem.W.findCls K (.ref C_Realm) (.type "type") "everywhere" = some (.get (.builtin "staticmethod.__get__") (.ref p_Realm_everywhere) .none (.ref C_Realm)))
    (sb_Realm_everywhere : PySem.W.recIn K p_Realm_everywhere "staticmethod" = some (.ref f_Realm_everywhere :: rs_Realm_everywhere))
    (l_Realm_everywhere : K.lookup f_Realm_everywhere = some ⟨oc_Realm_everywhere, od_Realm_everywhere, .func (PySem.W.fnOf "everywhere" "Realm.everywhere" (defArgs s_Realm_everywhere) (defBody s_Realm_everywhere) (defScope s_Realm_everywhere) .none kV_Realm_everywhere dc_Realm_everywhere pm_Realm_everywhere an_Realm_everywhere cd_Realm_everywhere ct_Realm_everywhere), sl_Realm_everywhere⟩)
    (c_Realm_everywhere : PySem.W.codeIn K cd_Realm_everywhere "Realm.everywhere" = true)
    (k_Realm_everywhere : PySem.W.keepIn K (.ref f_Realm_everywhere) = true)
    (sa_Realm_nowhere : PySem.W.findCls K (.ref C_Realm) (.type "type") "nowhere" = some (.get (.builtin "staticmethod.__get__") (.ref p_Realm_nowhere) .none (.ref C_Realm)))
    (sb_Realm_nowhere : PySem.W.recIn K p_Realm_nowhere "staticmethod" = some (.ref f_Realm_nowhere :: rs_Realm_nowhere))
    (l_Realm_nowhere : K.lookup f_Realm_nowhere = some ⟨oc_Realm_nowhere, od_Realm_nowhere, .func (PySem.W.fnOf "nowhere" "Realm.nowhere" (defArgs s_Realm_nowhere) (defBody s_Realm_nowhere) (defScope s_Realm_nowhere) .none kV_Realm_nowhere dc_Realm_nowhere pm_Realm_nowhere an_Realm_nowhere cd_Realm_nowhere ct_Realm_nowhere), sl_Realm_nowhere⟩)
    (c_Realm_nowhere : PySem.W.codeIn K cd_Realm_nowhere "Realm.nowhere" = true)
    (k_Realm_nowhere : PySem.W.keepIn K (.ref f_Realm_nowhere) = true)
    (ma_Realm_has_inverse : PySem.W.findIn K (.ref C_Realm) "has_inverse" = some (some (.ref f_Realm_has_inverse)))
    (mb_Realm_has_inverse : PySem.W.isFn K (.ref f_Realm_has_inverse) = true)
    (l_Realm_has_inverse : K.lookup f_Realm_has_inverse = some ⟨oc_Realm_has_inverse, od_Realm_has_inverse, .func (PySem.W.fnOf "has_inverse" "Realm.has_inverse" (defArgs s_Realm_has_inverse) (defBody s_Realm_has_inverse) (defScope s_Realm_has_inverse) .none kV_Realm_has_inverse dc_Realm_has_inverse pm_Realm_has_inverse an_Realm_has_inverse cd_Realm_has_inverse ct_Realm_has_inverse), sl_Realm_has_inverse⟩)
    (c_Realm_has_inverse : PySem.W.codeIn K cd_Realm_has_inverse "Realm.has_inverse" = true)
    (k_Realm_has_inverse : PySem.W.keepIn K (.ref f_Realm_has_inverse) = true)
    (m_RingError : PySem.W.nsIn K mainGlobals "RingError" = some (some g_RingError))
    (m_Missing : PySem.W.nsIn K mainGlobals "Missing" = some (some g_Missing))
    (m_NothingLeft : PySem.W.nsIn K mainGlobals "NothingLeft" = some (some g_NothingLeft))
    (lcd : cd32 = .ref cL) (lC : K.lookup cL = some ⟨eL, ddL, .fields vsL, slL⟩) (lT : vsL[11]? = some (.ref PL)) (lP : h.get? PL = some { cls := .none, data := .fields #[] }) (lN : K.lookup PL = none) (lH : PySem.W.codeHdIn K cL PL = true) (hm : PySem.W.exmAny K (.ref C_InvalidNumber) [g_RingError, g_Missing, g_NothingLeft] = some true) :
    LamX.LawAtS l w K CX0 10 63 "_law_script" mg fa h := by
  have F__wall := fun_mk (st := s__wall) l1 c1 k1
  have b__wall := F__wall.binds (ps := ["k"]) fun _ _ _ _ _ _ us hl => match us, hl with | [_], _ => rfl
  have A__wall : Fn K mg "_wall" s__wall ["k"] := ⟨_, _, F__wall, PySem.W.mg_of X G a1, b__wall⟩
  have F_is_int := fun_mk (st := s_is_int) l2 c2 k2
  have b_is_int := F_is_int.binds (ps := ["value"]) fun _ _ _ _ _ _ us hl => match us, hl with | [_], _ => rfl
  have A_is_int : Fn K mg "is_int" s_is_int ["value"] := ⟨_, _, F_is_int, PySem.W.mg_of X G a2, b_is_int⟩
  have F_is_between := fun_mk (st := s_is_between) l3 c3 k3
  have b_is_between := F_is_between.binds (ps := ["value", "least", "most"]) fun _ _ _ _ _ _ us hl => match us, hl with | [_, _, _], _ => rfl
  have A_is_between : Fn K mg "is_between" s_is_between ["value", "least", "most"] := ⟨_, _, F_is_between, PySem.W.mg_of X G a3, b_is_between⟩
  have F_common := fun_mk (st := s_common) l4 c4 k4
  have mgf_common : mg "common" = some (.ref f4) := PySem.W.mg_of X G a4
  have F_multiple := fun_mk (st := s_multiple) l5 c5 k5
  have mgf_multiple : mg "multiple" = some (.ref f5) := PySem.W.mg_of X G a5
  have F_divides := fun_mk (st := s_divides) l6 c6 k6
  have b_divides := F_divides.binds (ps := ["one", "other"]) fun _ _ _ _ _ _ us hl => match us, hl with | [_, _], _ => rfl
  have A_divides : Fn K mg "divides" s_divides ["one", "other"] := ⟨_, _, F_divides, PySem.W.mg_of X G a6, b_divides⟩
  have F_stripped := fun_mk (st := s_stripped) l7 c7 k7
  have b_stripped := F_stripped.binds (ps := ["number", "base"]) fun _ _ _ _ _ _ us hl => match us, hl with | [_, _], _ => rfl
  have A_stripped : Fn K mg "stripped" s_stripped ["number", "base"] := ⟨_, _, F_stripped, PySem.W.mg_of X G a7, b_stripped⟩
  have F_radical := fun_mk (st := s_radical) l8 c8 k8
  have b_radical := F_radical.binds (ps := ["number"]) fun _ _ _ _ _ _ us hl => match us, hl with | [_], _ => rfl
  have A_radical : Fn K mg "radical" s_radical ["number"] := ⟨_, _, F_radical, PySem.W.mg_of X G a8, b_radical⟩
  have F_written := fun_mk (st := s_written) l9 c9 k9
  have b_written := F_written.binds (ps := ["number"]) fun _ _ _ _ _ _ us hl => match us, hl with | [_], _ => rfl
  have A_written : Fn K mg "written" s_written ["number"] := ⟨_, _, F_written, PySem.W.mg_of X G a9, b_written⟩
  have F_written_below := fun_mk (st := s_written_below) l10 c10 k10
  have b_written_below := F_written_below.binds (ps := ["number", "powers"]) fun _ _ _ _ _ _ us hl => match us, hl with | [_, _], _ => rfl
  have A_written_below : Fn K mg "written_below" s_written_below ["number", "powers"] := ⟨_, _, F_written_below, PySem.W.mg_of X G a10, b_written_below⟩
  have F_depth_over := fun_mk (st := s_depth_over) l11 c11 k11
  have b_depth_over := F_depth_over.binds (ps := ["bases"]) fun _ _ _ _ _ _ us hl => match us, hl with | [_], _ => rfl
  have A_depth_over : Fn K mg "depth_over" s_depth_over ["bases"] := ⟨_, _, F_depth_over, PySem.W.mg_of X G a11, b_depth_over⟩
  have F_normal_numbers := fun_mk (st := s_normal_numbers) l12 c12 k12
  have b_normal_numbers := F_normal_numbers.binds (ps := ["inverse", "ones", "swaps", "squares"]) fun _ _ _ _ _ _ us hl => match us, hl with | [_, _, _, _], _ => rfl
  have A_normal_numbers : Fn K mg "normal_numbers" s_normal_numbers ["inverse", "ones", "swaps", "squares"] := ⟨_, _, F_normal_numbers, PySem.W.mg_of X G a12, b_normal_numbers⟩
  have F_realm_with := fun_mk (st := s_realm_with) l13 c13 k13
  have b_realm_with := F_realm_with.binds (ps := ["inverse", "ones", "swaps", "squares"]) fun _ _ _ _ _ _ us hl => match us, hl with | [_, _, _, _], _ => rfl
  have A_realm_with : Fn K mg "realm_with" s_realm_with ["inverse", "ones", "swaps", "squares"] := ⟨_, _, F_realm_with, PySem.W.mg_of X G a13, b_realm_with⟩
  have F_listed := fun_mk (st := s_listed) l14 c14 k14
  have b_listed := F_listed.binds (ps := ["numbers"]) fun _ _ _ _ _ _ us hl => match us, hl with | [_], _ => rfl
  have A_listed : Fn K mg "listed" s_listed ["numbers"] := ⟨_, _, F_listed, PySem.W.mg_of X G a14, b_listed⟩
  have F_joined_inverse := fun_mk (st := s_joined_inverse) l15 c15 k15
  have b_joined_inverse := F_joined_inverse.binds (ps := ["one", "other"]) fun _ _ _ _ _ _ us hl => match us, hl with | [_, _], _ => rfl
  have A_joined_inverse : Fn K mg "joined_inverse" s_joined_inverse ["one", "other"] := ⟨_, _, F_joined_inverse, PySem.W.mg_of X G a15, b_joined_inverse⟩
  have F_l_bag := fun_mk (st := s_l_bag) l16 c16 k16
  have b_l_bag := F_l_bag.binds (ps := ["_law_script"]) fun _ _ _ _ _ _ us hl => match us, hl with | [_], _ => rfl
  have A_l_bag : Fn K mg "_law_bag" s_l_bag ["_law_script"] := ⟨_, _, F_l_bag, PySem.W.mg_of X G a16, b_l_bag⟩
  have F_l_draw := fun_mk (st := s_l_draw) l17 c17 k17
  have b_l_draw := F_l_draw.binds (ps := ["_law_bag_here", "_law_many"]) fun _ _ _ _ _ _ us hl => match us, hl with | [_, _], _ => rfl
  have A_l_draw : Fn K mg "_law_draw" s_l_draw ["_law_bag_here", "_law_many"] := ⟨_, _, F_l_draw, PySem.W.mg_of X G a17, b_l_draw⟩
  have F_l_pick := fun_mk (st := s_l_pick) l18 c18 k18
  have b_l_pick := F_l_pick.binds (ps := ["_law_bag_here", "_law_some"]) fun _ _ _ _ _ _ us hl => match us, hl with | [_, _], _ => rfl
  have A_l_pick : Fn K mg "_law_pick" s_l_pick ["_law_bag_here", "_law_some"] := ⟨_, _, F_l_pick, PySem.W.mg_of X G a18, b_l_pick⟩
  have F_l_same := fun_mk (st := s_l_same) l19 c19 k19
  have b_l_same := F_l_same.binds (ps := ["_law_found", "_law_due"]) fun _ _ _ _ _ _ us hl => match us, hl with | [_, _], _ => rfl
  have A_l_same : Fn K mg "_law_same" s_l_same ["_law_found", "_law_due"] := ⟨_, _, F_l_same, PySem.W.mg_of X G a19, b_l_same⟩
  have F_l_field := fun_mk (st := s_l_field) l20 c20 k20
  have b_l_field := F_l_field.binds (ps := ["_law_e"]) fun _ _ _ _ _ _ us hl => match us, hl with | [_], _ => rfl
  have A_l_field : Fn K mg "_law_field" s_l_field ["_law_e"] := ⟨_, _, F_l_field, PySem.W.mg_of X G a20, b_l_field⟩
  have F_l_got := fun_mk (st := s_l_got) l21 c21 k21
  have b_l_got := F_l_got.binds (ps := ["_law_ask"]) fun _ _ _ _ _ _ us hl => match us, hl with | [_], _ => rfl
  have A_l_got : Fn K mg "_law_got" s_l_got ["_law_ask"] := ⟨_, _, F_l_got, PySem.W.mg_of X G a21, b_l_got⟩
  have F_l_all := fun_mk (st := s_l_all) l22 c22 k22
  have b_l_all := F_l_all.binds (ps := ["_law_asks"]) fun _ _ _ _ _ _ us hl => match us, hl with | [_], _ => rfl
  have A_l_all : Fn K mg "_law_all" s_l_all ["_law_asks"] := ⟨_, _, F_l_all, PySem.W.mg_of X G a22, b_l_all⟩
  have F_l_gcd := fun_mk (st := s_l_gcd) l23 c23 k23
  have b_l_gcd := F_l_gcd.binds (ps := ["_law_a", "_law_b"]) fun _ _ _ _ _ _ us hl => match us, hl with | [_, _], _ => rfl
  have A_l_gcd : Fn K mg "_law_gcd" s_l_gcd ["_law_a", "_law_b"] := ⟨_, _, F_l_gcd, PySem.W.mg_of X G a23, b_l_gcd⟩
  have F_l_strip := fun_mk (st := s_l_strip) l24 c24 k24
  have b_l_strip := F_l_strip.binds (ps := ["_law_number", "_law_base"]) fun _ _ _ _ _ _ us hl => match us, hl with | [_, _], _ => rfl
  have A_l_strip : Fn K mg "_law_strip" s_l_strip ["_law_number", "_law_base"] := ⟨_, _, F_l_strip, PySem.W.mg_of X G a24, b_l_strip⟩
  have F_l_radical := fun_mk (st := s_l_radical) l25 c25 k25
  have b_l_radical := F_l_radical.binds (ps := ["_law_number"]) fun _ _ _ _ _ _ us hl => match us, hl with | [_], _ => rfl
  have A_l_radical : Fn K mg "_law_radical" s_l_radical ["_law_number"] := ⟨_, _, F_l_radical, PySem.W.mg_of X G a25, b_l_radical⟩
  have F_l_product := fun_mk (st := s_l_product) l26 c26 k26
  have b_l_product := F_l_product.binds (ps := ["_law_numbers"]) fun _ _ _ _ _ _ us hl => match us, hl with | [_], _ => rfl
  have A_l_product : Fn K mg "_law_product" s_l_product ["_law_numbers"] := ⟨_, _, F_l_product, PySem.W.mg_of X G a26, b_l_product⟩
  have F_l_settled := fun_mk (st := s_l_settled) l27 c27 k27
  have b_l_settled := F_l_settled.binds (ps := ["_law_d", "_law_o", "_law_s", "_law_t"]) fun _ _ _ _ _ _ us hl => match us, hl with | [_, _, _, _], _ => rfl
  have A_l_settled : Fn K mg "_law_settled" s_l_settled ["_law_d", "_law_o", "_law_s", "_law_t"] := ⟨_, _, F_l_settled, PySem.W.mg_of X G a27, b_l_settled⟩
  have F_l_told := fun_mk (st := s_l_told) l28 c28 k28
  have b_l_told := F_l_told.binds (ps := ["_law_realm_here"]) fun _ _ _ _ _ _ us hl => match us, hl with | [_], _ => rfl
  have A_l_told : Fn K mg "_law_told" s_l_told ["_law_realm_here"] := ⟨_, _, F_l_told, PySem.W.mg_of X G a28, b_l_told⟩
  have F_l_realm := fun_mk (st := s_l_realm) l29 c29 k29
  have b_l_realm := F_l_realm.binds (ps := ["_law_numbers"]) fun _ _ _ _ _ _ us hl => match us, hl with | [_], _ => rfl
  have A_l_realm : Fn K mg "_law_realm" s_l_realm ["_law_numbers"] := ⟨_, _, F_l_realm, PySem.W.mg_of X G a29, b_l_realm⟩
  have F_l_drawn_realm := fun_mk (st := s_l_drawn_realm) l30 c30 k30
  have b_l_drawn_realm := F_l_drawn_realm.binds (ps := ["_law_bag_here"]) fun _ _ _ _ _ _ us hl => match us, hl with | [_], _ => rfl
  have A_l_drawn_realm : Fn K mg "_law_drawn_realm" s_l_drawn_realm ["_law_bag_here"] := ⟨_, _, F_l_drawn_realm, PySem.W.mg_of X G a30, b_l_drawn_realm⟩
  have F_l_settle := fun_mk (st := s_l_settle) l31 c31 k31
  have b_l_settle := F_l_settle.binds (ps := ["_law_numbers"]) fun _ _ _ _ _ _ us hl => match us, hl with | [_], _ => rfl
  have A_l_settle : Fn K mg "_law_settle" s_l_settle ["_law_numbers"] := ⟨_, _, F_l_settle, PySem.W.mg_of X G a31, b_l_settle⟩
  have F_law := fun_mk (st := s_law) l32 c32 k32
  have b_law := F_law.binds (ps := ["_law_script"]) fun _ _ _ _ _ _ us hl => match us, hl with | [_], _ => rfl
  have A_law : Fn K mg "law" s_law ["_law_script"] := ⟨_, _, F_law, PySem.W.mg_of X G a32, b_law⟩
  have B : Blt mg := ⟨PySem.W.mg_none_of X G z_IndexError, PySem.W.mg_none_of X G z_LookupError, PySem.W.mg_none_of X G z_ValueError, PySem.W.mg_none_of X G z_abs, PySem.W.mg_none_of X G z_all, PySem.W.mg_none_of X G z_bool, PySem.W.mg_none_of X G z_divmod, PySem.W.mg_none_of X G z_int, PySem.W.mg_none_of X G z_isinstance, PySem.W.mg_none_of X G z_len, PySem.W.mg_none_of X G z_list, PySem.W.mg_none_of X G z_max, PySem.W.mg_none_of X G z_range, PySem.W.mg_none_of X G z_str, PySem.W.mg_none_of X G z_tuple, PySem.W.mg_none_of X G z_zip⟩
  have E_InvalidNumber : PySem.ErrX.ErrTxt l.prog K mg "InvalidNumber" "given" "InvalidNumber" C_InvalidNumber f_InvalidNumber x_InvalidNumber d_InvalidNumber := ⟨PySem.W.mg_of X G ea_InvalidNumber, PySem.W.mg_none_of X G z_super, ⟨_, _, _, _, _, _, _, _, _, _, _, _, _, _, _, eb_InvalidNumber, ec_InvalidNumber, ed_InvalidNumber⟩, ee_InvalidNumber, ef_InvalidNumber, eg_InvalidNumber, eh_InvalidNumber, ei_InvalidNumber, ej_InvalidNumber, ek_InvalidNumber, el_InvalidNumber, em_InvalidNumber, en_InvalidNumber, eo_InvalidNumber, ep_InvalidNumber, eq_InvalidNumber, opq, ⟨_, _, _, et_InvalidNumber⟩, ⟨_, _, _, _, _, _, eu_InvalidNumber, ev_InvalidNumber, ew_InvalidNumber⟩, topSuper, ⟨_, _, _, _, _, _, _, _, _, _, _, _, _, _, _, _, _, _, _, _, _, _, _, _, _, _, _, er_InvalidNumber, es_InvalidNumber, fun s a b => .of_eq rfl, ex_InvalidNumber⟩, by decide, by decide, by decide, by decide, by decide⟩
  have xf_InvalidNumber : XfC K C_InvalidNumber := ⟨ef_InvalidNumber, eg_InvalidNumber, em_InvalidNumber, eq_InvalidNumber⟩
  have gC_Realm : mg "Realm" = some (.ref C_Realm) := PySem.W.mg_of X G cg_Realm
  have cl_Realm : Cls K C_Realm := ⟨c1_Realm, c2_Realm, c3_Realm, c4_Realm⟩
  have rd_Realm : ClX.CRead K C_Realm (.type "type") := ⟨c5_Realm, c6_Realm⟩
  have D_Realm_init : FunD K "__init__" "Realm.__init__" (defArgs s_Realm_init) (defBody s_Realm_init) (defScope s_Realm_init) [] [("inverse", .int 1), ("ones", .int 0), ("swaps", .int 0), ("squares", .int 0)] f_Realm_init _ := ⟨⟨_, _, _, _, _, _, _, _, _, _, rfl, l_Realm_init, c_Realm_init, .inl ⟨rfl, rfl⟩, .inr ⟨_, rfl, fun q hq => match q, hq with | _, .head _ => ⟨_, kw_Realm_init_inverse, ⟨_, rfl⟩⟩ | _, .tail _ (.head _) => ⟨_, kw_Realm_init_ones, ⟨_, rfl⟩⟩ | _, .tail _ (.tail _ (.head _)) => ⟨_, kw_Realm_init_swaps, ⟨_, rfl⟩⟩ | _, .tail _ (.tail _ (.tail _ (.head _))) => ⟨_, kw_Realm_init_squares, ⟨_, rfl⟩⟩⟩⟩, k_Realm_init⟩
  have mk1_Realm : Mk K C_Realm f_Realm_init := ⟨mk_Realm, ma_Realm_init, mb_Realm_init, kc_Realm⟩
  have F_Realm_inverse := fun_mk (st := s_Realm_inverse) l_Realm_inverse c_Realm_inverse k_Realm_inverse
  have b_Realm_inverse := F_Realm_inverse.binds (ps := ["self"]) fun _ _ _ _ _ _ us hl => match us, hl with | [_], _ => rfl
  have po_Realm_inverse : PropOf K C_Realm "inverse" p_Realm_inverse f_Realm_inverse := ⟨pa_Realm_inverse, pb_Realm_inverse, pc_Realm_inverse, ⟨_, pd_Realm_inverse⟩⟩
  have F_Realm_ones := fun_mk (st := s_Realm_ones) l_Realm_ones c_Realm_ones k_Realm_ones
  have b_Realm_ones := F_Realm_ones.binds (ps := ["self"]) fun _ _ _ _ _ _ us hl => match us, hl with | [_], _ => rfl
  have po_Realm_ones : PropOf K C_Realm "ones" p_Realm_ones f_Realm_ones := ⟨pa_Realm_ones, pb_Realm_ones, pc_Realm_ones, ⟨_, pd_Realm_ones⟩⟩
  have F_Realm_swaps := fun_mk (st := s_Realm_swaps) l_Realm_swaps c_Realm_swaps k_Realm_swaps
  have b_Realm_swaps := F_Realm_swaps.binds (ps := ["self"]) fun _ _ _ _ _ _ us hl => match us, hl with | [_], _ => rfl
  have po_Realm_swaps : PropOf K C_Realm "swaps" p_Realm_swaps f_Realm_swaps := ⟨pa_Realm_swaps, pb_Realm_swaps, pc_Realm_swaps, ⟨_, pd_Realm_swaps⟩⟩
  have F_Realm_squares := fun_mk (st := s_Realm_squares) l_Realm_squares c_Realm_squares k_Realm_squares
  have b_Realm_squares := F_Realm_squares.binds (ps := ["self"]) fun _ _ _ _ _ _ us hl => match us, hl with | [_], _ => rfl
  have po_Realm_squares : PropOf K C_Realm "squares" p_Realm_squares f_Realm_squares := ⟨pa_Realm_squares, pb_Realm_squares, pc_Realm_squares, ⟨_, pd_Realm_squares⟩⟩
  have F_Realm_everywhere := fun_mk (st := s_Realm_everywhere) l_Realm_everywhere c_Realm_everywhere k_Realm_everywhere
  have b_Realm_everywhere := F_Realm_everywhere.binds (ps := []) fun _ _ _ _ _ _ us hl => match us, hl with | [], _ => rfl
  have st_Realm_everywhere : OwO.CStat K C_Realm (.type "type") "everywhere" p_Realm_everywhere f_Realm_everywhere := ⟨sa_Realm_everywhere, ⟨_, sb_Realm_everywhere⟩⟩
  have F_Realm_nowhere := fun_mk (st := s_Realm_nowhere) l_Realm_nowhere c_Realm_nowhere k_Realm_nowhere
  have b_Realm_nowhere := F_Realm_nowhere.binds (ps := []) fun _ _ _ _ _ _ us hl => match us, hl with | [], _ => rfl
  have st_Realm_nowhere : OwO.CStat K C_Realm (.type "type") "nowhere" p_Realm_nowhere f_Realm_nowhere := ⟨sa_Realm_nowhere, ⟨_, sb_Realm_nowhere⟩⟩
  have F_Realm_has_inverse := fun_mk (st := s_Realm_has_inverse) l_Realm_has_inverse c_Realm_has_inverse k_Realm_has_inverse
  have b_Realm_has_inverse := F_Realm_has_inverse.binds (ps := ["self", "q"]) fun _ _ _ _ _ _ us hl => match us, hl with | [_, _], _ => rfl
  have me_Realm_has_inverse : Meth K C_Realm "has_inverse" f_Realm_has_inverse := ⟨ma_Realm_has_inverse, mb_Realm_has_inverse, k_Realm_has_inverse⟩
  have T : Txt mg := ⟨⟨_, PySem.W.mg_of X G m_MOST_RADICAL⟩, PySem.W.mg_of X G m_gcd⟩
  have e := hfa.symm.trans (PySem.W.mg_of X G a32)
  cases e
  have R : RCls K C_Realm (.type "type") := ⟨cl_Realm, no_Realm__normal, rd_Realm, ia_Realm, ib_Realm, ic_Realm, id_Realm, ff0_Realm, ff1_Realm, ff2_Realm⟩
  refine ⟨PySem.W.fnOf "law" "law" (defArgs s_law) (defBody s_law) (defScope s_law) .none kV32 dc32 pm32 an32 cd32 ct32, [(cL, PL)], spLaw K PL, fun p hp => ?_, fun p hp => ?_, fun p hp => ?_, fun s v => .of_eq rfl, fun H a ns hl _ hT hS => ⟨a, ns, rfl, hS, hl, hT _ List.mem_cons_self, fun _ => rfl⟩, fun base _ _ hB => ?_⟩
  · rw [List.mem_singleton.mp hp]
    exact lP
  · rw [List.mem_singleton.mp hp]
    exact lN
  · rw [List.mem_singleton.mp hp]
    exact PySem.W.codeHd_of_K X lH
  subst lcd
  have G1 := ok_draw (P := l.prog) (w := w) (base := base) A_l_draw B
  have G2 := ok_pick A_l_pick B G1
  have G3 := ok_is_int (P := l.prog) (w := w) (base := base) A_is_int B
  have G4 := ok_stripped (P := l.prog) (w := w) (base := base) A_stripped T
  have G5 := ok_radical A_radical T E_InvalidNumber (ok_is_between A_is_between G3) G4
  have G6 := ok_l_strip A_l_strip (ok_gcd (P := l.prog) (w := w) (base := base) A_l_gcd B)
  have G7 := ok_l_radical A_l_radical B (ok_l_product (P := l.prog) (w := w) (base := base) A_l_product)
  have G8 := ok_common (P := l.prog) (w := w) (base := base) ⟨_, _, F_common, mgf_common⟩ T
  have G9 := ok_normal A_normal_numbers B G8 G4
  have MK := ok_init D_Realm_init mk1_Realm gC_Realm R E_InvalidNumber G5 G3 G9
  have P1 := ok_inverse (P := l.prog) (w := w) (mg := mg) (base := base) R F_Realm_inverse po_Realm_inverse b_Realm_inverse
  have P2 := ok_ones (P := l.prog) (w := w) (mg := mg) (base := base) R F_Realm_ones po_Realm_ones b_Realm_ones
  have P3 := ok_swaps (P := l.prog) (w := w) (mg := mg) (base := base) R F_Realm_swaps po_Realm_swaps b_Realm_swaps
  have P4 := ok_squares (P := l.prog) (w := w) (mg := mg) (base := base) R F_Realm_squares po_Realm_squares b_Realm_squares
  have HI := ok_hasinv R B F_Realm_has_inverse me_Realm_has_inverse b_Realm_has_inverse P2 P1 G8 G4
  exact ok_law l32 c32 (hB _ List.mem_cons_self) hm xf_InvalidNumber ei_InvalidNumber eh_InvalidNumber B R MK
    (ok_everywhere MK F_Realm_everywhere st_Realm_everywhere b_Realm_everywhere) (ok_nowhere MK F_Realm_nowhere st_Realm_nowhere b_Realm_nowhere) HI
    (ok_bag A_l_bag B) G1 G2 (all_same A_l_same B 5)
    (fun B' => LamL.ok_allL A_l_all (LamL.ok_gotL A_l_got (PySem.W.mg_of X G m_RingError) (PySem.W.mg_of X G m_Missing) (PySem.W.mg_of X G m_NothingLeft) (ok_field A_l_field)))
    G6 (ok_gcd A_l_gcd B) (ok_l_told A_l_told R P1 P2 P3 P4) (ok_l_realm A_l_realm MK) (ok_l_drawn_realm A_l_drawn_realm G1 G2) (ok_l_settle A_l_settle G7 (ok_l_settled A_l_settled (ok_gcd A_l_gcd B) G6))
end My
open PySem PySem.W PyProof.Rows
local macro_rules | `(tactic| o_headL ($f $k $a $e)) => `(tactic| o_headL (PySem.W.kHook (fun P => (704, PySem.W.tabObj #[]) :: ($k : PySem.Params → PySem.W.Frag) P) (704 :: $a) (fun _ => by kernel_rfl) : PySem.W.Hook))
set_option maxRecDepth 100000 in
set_option maxHeartbeats 0 in
theorem PySem.Challenge.cw_numbertypes_k46_realms_refused_and_inver_holds : PySem.Challenge.rw_numbertypes_k46_realms_refused_and_inver.Holds := by
  w_on; o_law; k_headL; (case hw => w_witness2)
  k_fill
  refine LamX.walk_ofTs (l := PySem.Challenge.rw_numbertypes_k46_realms_refused_and_inver) (n := 63) (k := 10) (x := "_law_script") (CX := fun _ => L2.CX0) rfl (by decide) rfl ⟨rfl, by decide, by decide⟩ (fun w h Y => My.in_tail Y (by kernel_rfl)) ?F (fun _ _ _ _ _ h => h)
  case F =>
    intro w mg fa h Y KX G hmg
    refine' My.all_mk KX G hmg ?z_super ?opq ?topSuper ?a1 ?l1 ?c1 ?k1 ?a2 ?l2 ?c2 ?k2 ?a3 ?l3 ?c3 ?k3 ?a4 ?l4 ?c4 ?k4 ?a5 ?l5 ?c5 ?k5 ?a6 ?l6 ?c6 ?k6 ?a7 ?l7 ?c7 ?k7 ?a8 ?l8 ?c8 ?k8 ?a9 ?l9 ?c9 ?k9 ?a10 ?l10 ?c10 ?k10 ?a11 ?l11 ?c11 ?k11 ?a12 ?l12 ?c12 ?k12 ?a13 ?l13 ?c13 ?k13 ?a14 ?l14 ?c14 ?k14 ?a15 ?l15 ?c15 ?k15 ?a16 ?l16 ?c16 ?k16 ?a17 ?l17 ?c17 ?k17 ?a18 ?l18 ?c18 ?k18 ?a19 ?l19 ?c19 ?k19 ?a20 ?l20 ?c20 ?k20 ?a21 ?l21 ?c21 ?k21 ?a22 ?l22 ?c22 ?k22 ?a23 ?l23 ?c23 ?k23 ?a24 ?l24 ?c24 ?k24 ?a25 ?l25 ?c25 ?k25 ?a26 ?l26 ?c26 ?k26 ?a27 ?l27 ?c27 ?k27 ?a28 ?l28 ?c28 ?k28 ?a29 ?l29 ?c29 ?k29 ?a30 ?l30 ?c30 ?k30 ?a31 ?l31 ?c31 ?k31 ?a32 ?l32 ?c32 ?k32 ?z_IndexError ?z_LookupError ?z_ValueError ?z_abs ?z_all ?z_bool ?z_divmod ?z_int ?z_isinstance ?z_len ?z_list ?z_max ?z_range ?z_str ?z_tuple ?z_zip ?m_gcd ?m_lcm ?m_MOST_RADICAL ?ea_InvalidNumber ?eb_InvalidNumber ?ec_InvalidNumber ?ed_InvalidNumber ?ee_InvalidNumber ?ef_InvalidNumber ?eg_InvalidNumber ?eh_InvalidNumber ?ei_InvalidNumber ?ej_InvalidNumber ?ek_InvalidNumber ?el_InvalidNumber ?em_InvalidNumber ?en_InvalidNumber ?eo_InvalidNumber ?ep_InvalidNumber ?eq_InvalidNumber ?er_InvalidNumber ?es_InvalidNumber ?et_InvalidNumber ?eu_InvalidNumber ?ev_InvalidNumber ?ex_InvalidNumber ?ew_InvalidNumber ?cg_Realm ?c1_Realm ?c2_Realm ?c3_Realm ?c4_Realm ?c5_Realm ?c6_Realm ?ia_Realm ?ib_Realm ?ic_Realm ?id_Realm ?no_Realm__normal ?ff0_Realm ?ff1_Realm ?ff2_Realm ?ma_Realm_init ?mb_Realm_init ?l_Realm_init ?c_Realm_init ?k_Realm_init ?kw_Realm_init_inverse ?kw_Realm_init_ones ?kw_Realm_init_swaps ?kw_Realm_init_squares ?mk_Realm ?kc_Realm ?pa_Realm_inverse ?pb_Realm_inverse ?pc_Realm_inverse ?pd_Realm_inverse ?l_Realm_inverse ?c_Realm_inverse ?k_Realm_inverse ?pa_Realm_ones ?pb_Realm_ones ?pc_Realm_ones ?pd_Realm_ones ?l_Realm_ones ?c_Realm_ones ?k_Realm_ones ?pa_Realm_swaps ?pb_Realm_swaps ?pc_Realm_swaps ?pd_Realm_swaps ?l_Realm_swaps ?c_Realm_swaps ?k_Realm_swaps ?pa_Realm_squares ?pb_Realm_squares ?pc_Realm_squares ?pd_Realm_squares ?l_Realm_squares ?c_Realm_squares ?k_Realm_squares ?sa_Realm_everywhere ?sb_Realm_everywhere ?l_Realm_everywhere ?c_Realm_everywhere ?k_Realm_everywhere ?sa_Realm_nowhere ?sb_Realm_nowhere ?l_Realm_nowhere ?c_Realm_nowhere ?k_Realm_nowhere ?ma_Realm_has_inverse ?mb_Realm_has_inverse ?l_Realm_has_inverse ?c_Realm_has_inverse ?k_Realm_has_inverse ?m_RingError ?m_Missing ?m_NothingLeft ?lcd ?lC ?lT ?lP ?lN ?lH ?hm
    (case z_super => k_is)
    (case opq => k_is)
    (case a1 => k_is)
    (case l1 => k_is)
    (case c1 => k_is)
    (case k1 => k_is)
    (case a2 => k_is)
    (case l2 => k_is)
    (case c2 => k_is)
    (case k2 => k_is)
    (case a3 => k_is)
    (case l3 => k_is)
    (case c3 => k_is)
    (case k3 => k_is)
    (case a4 => k_is)
    (case l4 => k_is)
    (case c4 => k_is)
    (case k4 => k_is)
    (case a5 => k_is)
    (case l5 => k_is)
    (case c5 => k_is)
    (case k5 => k_is)
    (case a6 => k_is)
    (case l6 => k_is)
    (case c6 => k_is)
    (case k6 => k_is)
    (case a7 => k_is)
    (case l7 => k_is)
    (case c7 => k_is)
    (case k7 => k_is)
    (case a8 => k_is)
    (case l8 => k_is)
    (case c8 => k_is)
    (case k8 => k_is)
    (case a9 => k_is)
    (case l9 => k_is)
    (case c9 => k_is)
    (case k9 => k_is)
    (case a10 => k_is)
    (case l10 => k_is)
    (case c10 => k_is)
    (case k10 => k_is)
    (case a11 => k_is)
    (case l11 => k_is)
    (case c11 => k_is)
    (case k11 => k_is)
    (case a12 => k_is)
    (case l12 => k_is)
    (case c12 => k_is)
    (case k12 => k_is)
    (case a13 => k_is)
    (case l13 => k_is)
    (case c13 => k_is)
    (case k13 => k_is)
    (case a14 => k_is)
    (case l14 => k_is)
    (case c14 => k_is)
    (case k14 => k_is)
    (case a15 => k_is)
    (case l15 => k_is)
    (case c15 => k_is)
    (case k15 => k_is)
    (case a16 => k_is)
    (case l16 => k_is)
    (case c16 => k_is)
    (case k16 => k_is)
    (case a17 => k_is)
    (case l17 => k_is)
    (case c17 => k_is)
    (case k17 => k_is)
    (case a18 => k_is)
    (case l18 => k_is)
    (case c18 => k_is)
    (case k18 => k_is)
    (case a19 => k_is)
    (case l19 => k_is)
    (case c19 => k_is)
    (case k19 => k_is)
    (case a20 => k_is)
    (case l20 => k_is)
    (case c20 => k_is)
    (case k20 => k_is)
    (case a21 => k_is)
    (case l21 => k_is)
    (case c21 => k_is)
    (case k21 => k_is)
    (case a22 => k_is)
    (case l22 => k_is)
    (case c22 => k_is)
    (case k22 => k_is)
    (case a23 => k_is)
    (case l23 => k_is)
    (case c23 => k_is)
    (case k23 => k_is)
    (case a24 => k_is)
    (case l24 => k_is)
    (case c24 => k_is)
    (case k24 => k_is)
    (case a25 => k_is)
    (case l25 => k_is)
    (case c25 => k_is)
    (case k25 => k_is)
    (case a26 => k_is)
    (case l26 => k_is)
    (case c26 => k_is)
    (case k26 => k_is)
    (case a27 => k_is)
    (case l27 => k_is)
    (case c27 => k_is)
    (case k27 => k_is)
    (case a28 => k_is)
    (case l28 => k_is)
    (case c28 => k_is)
    (case k28 => k_is)
    (case a29 => k_is)
    (case l29 => k_is)
    (case c29 => k_is)
    (case k29 => k_is)
    (case a30 => k_is)
    (case l30 => k_is)
    (case c30 => k_is)
    (case k30 => k_is)
    (case a31 => k_is)
    (case l31 => k_is)
    (case c31 => k_is)
    (case k31 => k_is)
    (case a32 => k_is)
    (case l32 => k_is)
    (case c32 => k_is)
    (case k32 => k_is)
    (case z_IndexError => k_is)
    (case z_LookupError => k_is)
    (case z_ValueError => k_is)
    (case z_abs => k_is)
    (case z_all => k_is)
    (case z_bool => k_is)
    (case z_divmod => k_is)
    (case z_int => k_is)
    (case z_isinstance => k_is)
    (case z_len => k_is)
    (case z_list => k_is)
    (case z_max => k_is)
    (case z_range => k_is)
    (case z_str => k_is)
    (case z_tuple => k_is)
    (case z_zip => k_is)
    (case m_gcd => k_is)
    (case m_lcm => k_is)
    (case m_MOST_RADICAL => k_is)
    (case m_RingError => k_is)
    (case m_Missing => k_is)
    (case m_NothingLeft => k_is)
    (case topSuper => kernel_rfl)
    (case ea_InvalidNumber => k_is)
    (case eb_InvalidNumber => k_is)
    (case ec_InvalidNumber => first | rfl | kernel_rfl)
    (case ed_InvalidNumber => kernel_rfl)
    (case ee_InvalidNumber => k_is)
    (case ef_InvalidNumber => k_is)
    (case eg_InvalidNumber => k_is)
    (case eh_InvalidNumber => k_is)
    (case ei_InvalidNumber => k_is)
    (case ej_InvalidNumber => k_is)
    (case ek_InvalidNumber => k_is)
    (case el_InvalidNumber => k_is)
    (case em_InvalidNumber => k_is)
    (case en_InvalidNumber => k_is)
    (case eo_InvalidNumber => k_is)
    (case ep_InvalidNumber => k_is)
    (case eq_InvalidNumber => k_is)
    (case er_InvalidNumber => k_is)
    (case es_InvalidNumber => k_is)
    (case et_InvalidNumber => k_is)
    (case eu_InvalidNumber => k_is)
    (case ev_InvalidNumber => rfl)
    (case ex_InvalidNumber => exact ⟨_, fun env => rfl⟩)
    (case ew_InvalidNumber => kernel_rfl)
    (case cg_Realm => k_is)
    (case c1_Realm => k_is)
    (case c2_Realm => k_is)
    (case c3_Realm => k_is)
    (case c4_Realm => k_is)
    (case c5_Realm => k_is)
    (case c6_Realm => k_is)
    (case ia_Realm => k_is)
    (case ib_Realm => k_is)
    (case ic_Realm => k_is)
    (case id_Realm => k_is)
    (case no_Realm__normal => k_is)
    (case ff0_Realm => first | kernel_rfl | rfl)
    (case ff1_Realm => first | kernel_rfl | rfl)
    (case ff2_Realm => first | k_is | kernel_rfl | rfl)
    (case ma_Realm_init => k_is)
    (case mb_Realm_init => k_is)
    (case l_Realm_init => k_is)
    (case c_Realm_init => k_is)
    (case k_Realm_init => k_is)
    (case kw_Realm_init_inverse => k_is)
    (case kw_Realm_init_ones => k_is)
    (case kw_Realm_init_swaps => k_is)
    (case kw_Realm_init_squares => k_is)
    (case mk_Realm => k_is)
    (case kc_Realm => k_is)
    (case pa_Realm_inverse => k_is)
    (case pb_Realm_inverse => k_is)
    (case pc_Realm_inverse => k_is)
    (case pd_Realm_inverse => k_is)
    (case l_Realm_inverse => k_is)
    (case c_Realm_inverse => k_is)
    (case k_Realm_inverse => k_is)
    (case pa_Realm_ones => k_is)
    (case pb_Realm_ones => k_is)
    (case pc_Realm_ones => k_is)
    (case pd_Realm_ones => k_is)
    (case l_Realm_ones => k_is)
    (case c_Realm_ones => k_is)
    (case k_Realm_ones => k_is)
    (case pa_Realm_swaps => k_is)
    (case pb_Realm_swaps => k_is)
    (case pc_Realm_swaps => k_is)
    (case pd_Realm_swaps => k_is)
    (case l_Realm_swaps => k_is)
    (case c_Realm_swaps => k_is)
    (case k_Realm_swaps => k_is)
    (case pa_Realm_squares => k_is)
    (case pb_Realm_squares => k_is)
    (case pc_Realm_squares => k_is)
    (case pd_Realm_squares => k_is)
    (case l_Realm_squares => k_is)
    (case c_Realm_squares => k_is)
    (case k_Realm_squares => k_is)
    (case sa_Realm_everywhere => k_is)
    (case sb_Realm_everywhere => k_is)
    (case l_Realm_everywhere => k_is)
    (case c_Realm_everywhere => k_is)
    (case k_Realm_everywhere => k_is)
    (case sa_Realm_nowhere => k_is)
    (case sb_Realm_nowhere => k_is)
    (case l_Realm_nowhere => k_is)
    (case c_Realm_nowhere => k_is)
    (case k_Realm_nowhere => k_is)
    (case ma_Realm_has_inverse => k_is)
    (case mb_Realm_has_inverse => k_is)
    (case l_Realm_has_inverse => k_is)
    (case c_Realm_has_inverse => k_is)
    (case k_Realm_has_inverse => k_is)
    (case lcd => rfl)
    (case lC => k_is)
    (case lT => rfl)
    (case lP => exact My.in_head Y)
    (case lN => kernel_rfl)
    (case lH => kernel_rfl)
    (case hm => kernel_rfl)
