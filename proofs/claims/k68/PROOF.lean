
import PyProof.Rows.All
import Wide.All
import OpenK.AllK
import Wide.FinOn
import HandS.ForMost
import HandS.IsInst
import HandS.Walk
import HandS.Wide
import HandS.Codes
import HandS.Gcd
import HandS.Zip
import KE.OsRunLaw
import HandS.ForExc
import HandS.ExcInit
import HandS.ExcSuper
import HandS.ExcField
import HandS.Lambda
import HandS.HotCalls
import HandS.TryMany
import HandS.EndTab
import HandS.ClsMeth
import HandS.Star
import HandS.Property
import HandS.Defaults
import HandS.MakeKw
import HandS.MakeKwOnly
import HandS.OwnEq
import HandS.FStr
import HandS.Text
import HandS.StrMore
import HandS.EndOwn
import HandS.Deep
import HandS.More
import HandS.Conv
import HandS.Style
import HandS.Sort
import HandS.SortKw
import KE.KExcSuper
import KE.KSuper
import KE.KTryMore
import KE.DataMinMax
import KE.GoesZip
import KE.GoesEnum
import KE.GoesMore
import PyProof.InstNe
import HandS.Strs
import PySem.Challenge.RW_numbertypes_k68_whole_schemes_turned
set_option Elab.async false
set_option linter.all false
set_option maxRecDepth 100000
set_option maxHeartbeats 4000000
namespace My
open PySem PySem.Spec PyProof.Rows L2
/-! ### the text by places -/
def topS (i : Nat) : Stmt := PySem.Challenge.pw_numbertypes_k68_whole_schemes_turned.main.body.getD i (.Pass ⟨0, 0, 0, 0⟩)
abbrev s__wall : Stmt := topS 1
abbrev N__wall : List Str := ["k"]
theorem sc__wall : FnScope N__wall ["k"] (defScope s__wall) := ⟨rfl, rfl, rfl, by decide +kernel, rfl, by decide +kernel, by decide +kernel⟩
abbrev s_is_int : Stmt := topS 13
abbrev N_is_int : List Str := ["value"]
theorem sc_is_int : FnScope N_is_int ["value"] (defScope s_is_int) := ⟨rfl, rfl, rfl, by decide +kernel, rfl, by decide +kernel, by decide +kernel⟩
abbrev s_is_between : Stmt := topS 14
abbrev N_is_between : List Str := ["value", "least", "most"]
theorem sc_is_between : FnScope N_is_between ["value", "least", "most"] (defScope s_is_between) := ⟨rfl, rfl, rfl, by decide +kernel, rfl, by decide +kernel, by decide +kernel⟩
abbrev s_common : Stmt := topS 15
abbrev N_common : List Str := ["numbers", "result", "number"]
theorem sc_common : FnScope N_common ["numbers"] (defScope s_common) := ⟨rfl, rfl, rfl, by decide +kernel, rfl, by decide +kernel, by decide +kernel⟩
abbrev s_share : Stmt := topS 16
abbrev N_share : List Str := ["p", "q", "part"]
theorem sc_share : FnScope N_share ["p", "q"] (defScope s_share) := ⟨rfl, rfl, rfl, by decide +kernel, rfl, by decide +kernel, by decide +kernel⟩
abbrev s_sum_of_shares : Stmt := topS 17
abbrev N_sum_of_shares : List Str := ["x", "y"]
theorem sc_sum_of_shares : FnScope N_sum_of_shares ["x", "y"] (defScope s_sum_of_shares) := ⟨rfl, rfl, rfl, by decide +kernel, rfl, by decide +kernel, by decide +kernel⟩
abbrev s_product_of_shares : Stmt := topS 18
abbrev N_product_of_shares : List Str := ["x", "y"]
theorem sc_product_of_shares : FnScope N_product_of_shares ["x", "y"] (defScope s_product_of_shares) := ⟨rfl, rfl, rfl, by decide +kernel, rfl, by decide +kernel, by decide +kernel⟩
abbrev s_is_list_of : Stmt := topS 20
abbrev N_is_list_of : List Str := ["value", "size"]
theorem sc_is_list_of : FnScope N_is_list_of ["value", "size"] (defScope s_is_list_of) := ⟨rfl, rfl, rfl, by decide +kernel, rfl, by decide +kernel, by decide +kernel⟩
abbrev s_check_number : Stmt := topS 22
abbrev N_check_number : List Str := ["value", "least", "most"]
theorem sc_check_number : FnScope N_check_number ["value", "least", "most"] (defScope s_check_number) := ⟨rfl, rfl, rfl, by decide +kernel, rfl, by decide +kernel, by decide +kernel⟩
abbrev s_scaled : Stmt := topS 25
abbrev N_scaled : List Str := ["total", "factor", "mark", "amount"]
theorem sc_scaled : FnScope N_scaled ["total", "factor"] (defScope s_scaled) := ⟨rfl, rfl, rfl, by decide +kernel, rfl, by decide +kernel, by decide +kernel⟩
abbrev s_added : Stmt := topS 26
abbrev N_added : List Str := ["one", "other", "found", "mark", "amount"]
theorem sc_added : FnScope N_added ["one", "other"] (defScope s_added) := ⟨rfl, rfl, rfl, by decide +kernel, rfl, by decide +kernel, by decide +kernel⟩
abbrev s_row_of : Stmt := topS 27
abbrev N_row_of : List Str := ["total", "role", "size", "mark", "amount", "at"]
theorem sc_row_of : FnScope N_row_of ["total", "role", "size"] (defScope s_row_of) := ⟨rfl, rfl, rfl, by decide +kernel, rfl, by decide +kernel, by decide +kernel⟩
abbrev s_first_sums : Stmt := topS 28
abbrev N_first_sums : List Str := ["inputs", "left", "marks", "at", "name", "mark"]
theorem sc_first_sums : FnScope N_first_sums ["inputs", "left"] (defScope s_first_sums) := ⟨rfl, rfl, rfl, by decide +kernel, rfl, by decide +kernel, by decide +kernel⟩
abbrev s_sum_made : Stmt := topS 29
abbrev N_sum_made : List Str := ["step", "sums"]
theorem sc_sum_made : FnScope N_sum_made ["step", "sums"] (defScope s_sum_made) := ⟨rfl, rfl, rfl, by decide +kernel, rfl, by decide +kernel, by decide +kernel⟩
abbrev s_straight_products : Stmt := topS 30
abbrev N_straight_products : List Str := ["program", "left", "flat", "right", "sums", "factors", "at", "step", "pair", "results", "name", "row", "n", "u", "v"]
theorem sc_straight_products : FnScope N_straight_products ["program", "left"] (defScope s_straight_products) := ⟨rfl, rfl, rfl, by decide +kernel, rfl, by decide +kernel, by decide +kernel⟩
abbrev s_check_sizes : Stmt := topS 34
abbrev N_check_sizes : List Str := ["sizes", "size"]
theorem sc_check_sizes : FnScope N_check_sizes ["sizes"] (defScope s_check_sizes) := ⟨rfl, rfl, rfl, by decide +kernel, rfl, by decide +kernel, by decide +kernel⟩
abbrev s_is_row : Stmt := topS 35
abbrev N_is_row : List Str := ["value", "size", "entry"]
theorem sc_is_row : FnScope N_is_row ["value", "size"] (defScope s_is_row) := ⟨rfl, rfl, rfl, by decide +kernel, rfl, by decide +kernel, by decide +kernel⟩
abbrev s_is_product : Stmt := topS 36
abbrev N_is_product : List Str := ["value", "sizes", "row", "size"]
theorem sc_is_product : FnScope N_is_product ["value", "sizes"] (defScope s_is_product) := ⟨rfl, rfl, rfl, by decide +kernel, rfl, by decide +kernel, by decide +kernel⟩
abbrev s_is_table : Stmt := topS 37
abbrev N_is_table : List Str := ["value", "sizes", "left", "right", "result", "face", "row"]
theorem sc_is_table : FnScope N_is_table ["value", "sizes"] (defScope s_is_table) := ⟨rfl, rfl, rfl, by decide +kernel, rfl, by decide +kernel, by decide +kernel⟩
abbrev s_is_order : Stmt := topS 38
abbrev N_is_order : List Str := ["value", "role"]
theorem sc_is_order : FnScope N_is_order ["value"] (defScope s_is_order) := ⟨rfl, rfl, rfl, by decide +kernel, rfl, by decide +kernel, by decide +kernel⟩
abbrev s_check_table : Stmt := topS 39
abbrev N_check_table : List Str := ["table", "scheme"]
theorem sc_check_table : FnScope N_check_table ["table", "scheme"] (defScope s_check_table) := ⟨rfl, rfl, rfl, by decide +kernel, rfl, by decide +kernel, by decide +kernel⟩
abbrev s_entries : Stmt := topS 40
abbrev N_entries : List Str := ["table", "face", "row", "entry"]
theorem sc_entries : FnScope N_entries ["table"] (defScope s_entries) := ⟨rfl, rfl, rfl, by decide +kernel, rfl, by decide +kernel, by decide +kernel⟩
abbrev s_l_bag : Stmt := topS 43
abbrev N_l_bag : List Str := ["_law_script", "_law_cells"]
theorem sc_l_bag : FnScope N_l_bag ["_law_script"] (defScope s_l_bag) := ⟨rfl, rfl, rfl, by decide +kernel, rfl, by decide +kernel, by decide +kernel⟩
abbrev s_l_draw : Stmt := topS 44
abbrev N_l_draw : List Str := ["_law_bag_here", "_law_many", "_law_cell", "_law_got_here"]
theorem sc_l_draw : FnScope N_l_draw ["_law_bag_here", "_law_many"] (defScope s_l_draw) := ⟨rfl, rfl, rfl, by decide +kernel, rfl, by decide +kernel, by decide +kernel⟩
abbrev s_l_pick : Stmt := topS 45
abbrev N_l_pick : List Str := ["_law_bag_here", "_law_some"]
theorem sc_l_pick : FnScope N_l_pick ["_law_bag_here", "_law_some"] (defScope s_l_pick) := ⟨rfl, rfl, rfl, by decide +kernel, rfl, by decide +kernel, by decide +kernel⟩
abbrev s_l_same : Stmt := topS 46
abbrev N_l_same : List Str := ["_law_found", "_law_due", "_law_a", "_law_b"]
theorem sc_l_same : FnScope N_l_same ["_law_found", "_law_due"] (defScope s_l_same) := ⟨rfl, rfl, rfl, by decide +kernel, rfl, by decide +kernel, by decide +kernel⟩
abbrev s_l_field : Stmt := topS 47
abbrev N_l_field : List Str := ["_law_e"]
theorem sc_l_field : FnScope N_l_field ["_law_e"] (defScope s_l_field) := ⟨rfl, rfl, rfl, by decide +kernel, rfl, by decide +kernel, by decide +kernel⟩
abbrev s_l_got : Stmt := topS 48
abbrev N_l_got : List Str := ["_law_ask", "_law_e"]
theorem sc_l_got : FnScope N_l_got ["_law_ask"] (defScope s_l_got) := ⟨rfl, rfl, rfl, by decide +kernel, rfl, by decide +kernel, by decide +kernel⟩
abbrev s_l_gcd : Stmt := topS 49
abbrev N_l_gcd : List Str := ["_law_a", "_law_b", "_law_left_z", "_law_right_z"]
theorem sc_l_gcd : FnScope N_l_gcd ["_law_a", "_law_b"] (defScope s_l_gcd) := ⟨rfl, rfl, rfl, by decide +kernel, rfl, by decide +kernel, by decide +kernel⟩
abbrev s_l_gcds : Stmt := topS 50
abbrev N_l_gcds : List Str := ["_law_numbers", "_law_found", "_law_number"]
theorem sc_l_gcds : FnScope N_l_gcds ["_law_numbers"] (defScope s_l_gcds) := ⟨rfl, rfl, rfl, by decide +kernel, rfl, by decide +kernel, by decide +kernel⟩
abbrev s_l_scheme : Stmt := topS 51
abbrev N_l_scheme : List Str := ["_law_bag_here", "_law_most", "_law_long", "_law_sizes", "_law_k", "_law_rows", "_law_j", "_law_size"]
theorem sc_l_scheme : FnScope N_l_scheme ["_law_bag_here", "_law_most", "_law_long"] (defScope s_l_scheme) := ⟨rfl, rfl, rfl, by decide +kernel, rfl, by decide +kernel, by decide +kernel⟩
abbrev s_l_cube : Stmt := topS 52
abbrev N_l_cube : List Str := ["_law_sizes", "_law_rows", "_law_row", "_law_k", "_law_j", "_law_i"]
theorem sc_l_cube : FnScope N_l_cube ["_law_sizes", "_law_rows"] (defScope s_l_cube) := ⟨rfl, rfl, rfl, by decide +kernel, rfl, by decide +kernel, by decide +kernel⟩
abbrev s_l_cube_rows : Stmt := topS 53
abbrev N_l_cube_rows : List Str := ["_law_table", "_law_found", "_law_layer", "_law_row"]
theorem sc_l_cube_rows : FnScope N_l_cube_rows ["_law_table"] (defScope s_l_cube_rows) := ⟨rfl, rfl, rfl, by decide +kernel, rfl, by decide +kernel, by decide +kernel⟩
abbrev s_l_turned_cube : Stmt := topS 54
abbrev N_l_turned_cube : List Str := ["_law_sizes", "_law_table", "_law_order", "_law_back", "_law_k", "_law_new", "_law_found", "_law_a", "_law_layer", "_law_b", "_law_spots", "_law_c", "_law_spot"]
theorem sc_l_turned_cube : FnScope N_l_turned_cube ["_law_sizes", "_law_table", "_law_order"] (defScope s_l_turned_cube) := ⟨rfl, rfl, rfl, by decide +kernel, rfl, by decide +kernel, by decide +kernel⟩
abbrev s_law : Stmt := topS 55
abbrev N_law : List Str := ["_law_script", "_law_bag_here", "_law_orders", "_law_turn", "_law_sizes", "_law_rows", "_law_scheme_here", "_law_table", "_law_wished", "_law_number", "_law_row", "_law_layer", "_law_ones_due", "_law_a", "_law_b", "_law_order", "_law_late", "_law_k", "_law_back", "_law_odd"]
theorem sc_law : FnScope N_law ["_law_script"] (defScope s_law) := ⟨rfl, rfl, rfl, by decide +kernel, rfl, by decide +kernel, by decide +kernel⟩
abbrev s_InvalidNumber_init : Stmt := inClass (topS 5) 0
abbrev s_InvalidTable_init : Stmt := inClass (topS 6) 0
abbrev s_InvalidProduct_init : Stmt := inClass (topS 7) 0
abbrev s_InvalidOrder_init : Stmt := inClass (topS 8) 0
abbrev s_NotStraight_init : Stmt := inClass (topS 9) 0
abbrev s_TooMany_init : Stmt := inClass (topS 10) 0
abbrev s_NothingLeft_init : Stmt := inClass (topS 11) 0
abbrev s_Scheme_init : Stmt := inClass (topS 41) 0
abbrev s_Scheme_of : Stmt := inClass (topS 41) 1
abbrev s_Scheme_sizes : Stmt := inClass (topS 41) 2
abbrev s_Scheme_products : Stmt := inClass (topS 41) 3
abbrev s_Scheme_adds : Stmt := inClass (topS 41) 4
abbrev s_Scheme_table : Stmt := inClass (topS 41) 5
abbrev s_Scheme_turned : Stmt := inClass (topS 41) 6
abbrev s_Scheme_run : Stmt := inClass (topS 41) 7
abbrev s_Scheme_right_ones : Stmt := inClass (topS 41) 8
abbrev s_Scheme_len : Stmt := inClass (topS 41) 9
abbrev s_Scheme_eq : Stmt := inClass (topS 41) 10
abbrev s_Scheme_repr : Stmt := inClass (topS 41) 11
abbrev N_Scheme_init : List Str := ["self", "sizes", "products", "at", "triple", "row"]
theorem sc_Scheme_init : FnScope N_Scheme_init ["self", "sizes", "products"] (defScope s_Scheme_init) := ⟨rfl, rfl, rfl, by decide +kernel, rfl, by decide +kernel, by decide +kernel⟩
abbrev N_Scheme_of : List Str := ["program", "left", "sizes"]
theorem sc_Scheme_of : FnScope N_Scheme_of ["program", "left"] (defScope s_Scheme_of) := ⟨rfl, rfl, rfl, by decide +kernel, rfl, by decide +kernel, by decide +kernel⟩
abbrev N_Scheme_sizes : List Str := ["self"]
theorem sc_Scheme_sizes : FnScope N_Scheme_sizes ["self"] (defScope s_Scheme_sizes) := ⟨rfl, rfl, rfl, by decide +kernel, rfl, by decide +kernel, by decide +kernel⟩
abbrev N_Scheme_products : List Str := ["self"]
theorem sc_Scheme_products : FnScope N_Scheme_products ["self"] (defScope s_Scheme_products) := ⟨rfl, rfl, rfl, by decide +kernel, rfl, by decide +kernel, by decide +kernel⟩
abbrev N_Scheme_adds : List Str := ["self"]
theorem sc_Scheme_adds : FnScope N_Scheme_adds ["self"] (defScope s_Scheme_adds) := ⟨rfl, rfl, rfl, by decide +kernel, rfl, by decide +kernel, by decide +kernel⟩
abbrev N_Scheme_table : List Str := ["self", "left", "right", "result", "found", "_", "u", "v", "w", "i", "x", "j", "y", "entry", "z"]
theorem sc_Scheme_table : FnScope N_Scheme_table ["self"] (defScope s_Scheme_table) := ⟨rfl, rfl, rfl, by decide +kernel, rfl, by decide +kernel, by decide +kernel⟩
abbrev N_Scheme_turned : List Str := ["self", "order", "one", "other", "last", "sizes", "triple"]
theorem sc_Scheme_turned : FnScope N_Scheme_turned ["self", "order"] (defScope s_Scheme_turned) := ⟨rfl, rfl, rfl, by decide +kernel, rfl, by decide +kernel, by decide +kernel⟩
abbrev N_Scheme_run : List Str := ["self", "ring", "lefts", "rights"]
theorem sc_Scheme_run : FnScope N_Scheme_run ["self", "ring", "lefts", "rights"] (defScope s_Scheme_run) := ⟨rfl, rfl, rfl, by decide +kernel, rfl, by decide +kernel, by decide +kernel⟩
abbrev N_Scheme_right_ones : List Str := ["self", "table", "differences", "x", "y"]
theorem sc_Scheme_right_ones : FnScope N_Scheme_right_ones ["self", "table"] (defScope s_Scheme_right_ones) := ⟨rfl, rfl, rfl, by decide +kernel, rfl, by decide +kernel, by decide +kernel⟩
abbrev N_Scheme_len : List Str := ["self"]
theorem sc_Scheme_len : FnScope N_Scheme_len ["self"] (defScope s_Scheme_len) := ⟨rfl, rfl, rfl, by decide +kernel, rfl, by decide +kernel, by decide +kernel⟩
abbrev N_Scheme_eq : List Str := ["self", "other"]
theorem sc_Scheme_eq : FnScope N_Scheme_eq ["self", "other"] (defScope s_Scheme_eq) := ⟨rfl, rfl, rfl, by decide +kernel, rfl, by decide +kernel, by decide +kernel⟩
abbrev N_Scheme_repr : List Str := ["self"]
theorem sc_Scheme_repr : FnScope N_Scheme_repr ["self"] (defScope s_Scheme_repr) := ⟨rfl, rfl, rfl, by decide +kernel, rfl, by decide +kernel, by decide +kernel⟩
structure Blt (mg : Str → Option Value) : Prop where
  IndexError : mg "IndexError" = none
  LookupError : mg "LookupError" = none
  ValueError : mg "ValueError" = none
  abs : mg "abs" = none
  all : mg "all" = none
  bool : mg "bool" = none
  enumerate : mg "enumerate" = none
  int : mg "int" = none
  isinstance : mg "isinstance" = none
  len : mg "len" = none
  list : mg "list" = none
  range : mg "range" = none
  sorted : mg "sorted" = none
  str : mg "str" = none
  sum : mg "sum" = none
  tuple : mg "tuple" = none
  zip : mg "zip" = none
theorem bb_IndexError : bootBuiltins "IndexError" = some (.type "IndexError") := by decide +kernel
theorem bb_LookupError : bootBuiltins "LookupError" = some (.type "LookupError") := by decide +kernel
theorem bb_ValueError : bootBuiltins "ValueError" = some (.type "ValueError") := by decide +kernel
theorem bb_abs : bootBuiltins "abs" = some (.builtin "abs") := by decide +kernel
theorem bb_all : bootBuiltins "all" = some (.builtin "all") := by decide +kernel
theorem bb_bool : bootBuiltins "bool" = some (.type "bool") := by decide +kernel
theorem bb_enumerate : bootBuiltins "enumerate" = some (.type "enumerate") := by decide +kernel
theorem bb_int : bootBuiltins "int" = some (.type "int") := by decide +kernel
theorem bb_isinstance : bootBuiltins "isinstance" = some (.builtin "isinstance") := by decide +kernel
theorem bb_len : bootBuiltins "len" = some (.builtin "len") := by decide +kernel
theorem bb_list : bootBuiltins "list" = some (.type "list") := by decide +kernel
theorem bb_range : bootBuiltins "range" = some (.type "range") := by decide +kernel
theorem bb_sorted : bootBuiltins "sorted" = some (.builtin "sorted") := by decide +kernel
theorem bb_str : bootBuiltins "str" = some (.type "str") := by decide +kernel
theorem bb_sum : bootBuiltins "sum" = some (.builtin "sum") := by decide +kernel
theorem bb_tuple : bootBuiltins "tuple" = some (.type "tuple") := by decide +kernel
theorem bb_zip : bootBuiltins "zip" = some (.type "zip") := by decide +kernel
/-! ### an own def by its name -/
structure Has (P : Program) (w : World) (K : PySem.W.Frag) (mg : Str → Option Value) (base : Heap) (k : Nat) (x : Str) (ps : List Str) (sp : Sp) : Prop where
  ex : ∃ (f : Addr) (fd : FuncData), FnOk P w K mg base CX0 k f fd ps sp ∧ mg x = some (.ref f) ∧ PySem.W.keepIn K (.ref f) = true ∧ Binds K fd ps []
structure Fn (K : PySem.W.Frag) (mg : Str → Option Value) (x : Str) (st : Stmt) (ps : List Str) : Prop where
  ex : ∃ (f : Addr) (fd : FuncData), Fun K x x st f fd ∧ mg x = some (.ref f) ∧ Binds K fd ps []
section
variable {X : Cx} {k : Nat} {x : Str} {ps : List Str} {sp : Sp} {p pos : Pos} {e : Expr} {es : List Expr} {t : TA}
theorem pe_own (h : Has X.prog X.w X.K X.mg X.base k x ps sp) (hr : Room k X.A) (hg : Gl X x) (ha : PA X (e :: es) t) (hdb : (x == ("__debug__" : Str)) = false := by decide)
    (he : starEach (e :: es) X.env = (false, eval e X.env) :: starEach es X.env := by rfl) (hpl : (backTo pos (starEach es X.env)).any (·.1) = false := by rfl) : PE X (.Call (.Name x p) (e :: es) [] pos) (tCall sp [] E0 t) := by
  obtain ⟨f, fd, F, m, kp, b⟩ := h.ex
  exact pe_call F hr hg m kp b .nil pass0 ha hdb he hpl
theorem pe_own0 (h : Has X.prog X.w X.K X.mg X.base k x ps sp) (hr : Room k X.A) (hg : Gl X x) (hdb : (x == ("__debug__" : Str)) = false := by decide) : PE X (.Call (.Name x p) [] [] pos) (tCall sp [] E0 tNil) := by
  obtain ⟨f, fd, F, m, kp, b⟩ := h.ex
  exact pe_call0 F hr hg m kp b .nil pass0 hdb
theorem pe_gstr {z : Str} (h : ∃ u, X.mg x = some (.str z u)) (hg : Gl X x) (hdb : (x == ("__debug__" : Str)) = false := by decide) : PE X (.Name x pos) (tC (.str z)) := by
  obtain ⟨u, h⟩ := h
  exact pe_glob hg h ⟨_, rfl⟩ hdb
theorem pe_gint {z : Int} (h : ∃ u, X.mg x = some (.int z u)) (hg : Gl X x) (hdb : (x == ("__debug__" : Str)) = false := by decide) : PE X (.Name x pos) (tC (.int z)) := by
  obtain ⟨u, h⟩ := h
  exact pe_glob hg h ⟨_, rfl⟩ hdb
theorem pe_gref {a : Addr} (h : X.mg x = some (.ref a)) (hg : Gl X x) (hdb : (x == ("__debug__" : Str)) = false := by decide) : PE X (.Name x pos) (tC (.ref a)) := pe_glob hg h rfl hdb
end
section
variable {P : Program} {w : World} {K : PySem.W.Frag} {mg : Str → Option Value} {base : Heap}
theorem Fn.has {x : Str} {st : Stmt} {N ps : List Str} {k : Nat} {sp : Sp} (F : Fn K mg x st ps) (S : FnScope N ps (defScope st)) (len : ∀ vs H Q E, sp vs H Q E → vs.length = ps.length)
    (hbody : ∀ (f : Addr) (cdv : Value) (A : Around) (outer : List Env) (s : Shared) (H : Hp) (vs : List V) (Q : VK) (E : XK), Room k (A.deeper (envOfC x (defScope st) s.heap.objs.size f cdv)) → sp vs H Q E →
      ∃ t, PSs (cxOf CX0 P w K mg base N x (defScope st) f cdv A outer s H E).nox (defBody st) t ∧ t { nx := fun _ H' => Q .non H', rt := Q } (start N vs) H) : Has P w K mg base (k + 1) x ps sp := by
  obtain ⟨f, fd, F, m, b⟩ := F.ex
  exact ⟨f, fd, F.ok S len (hbody f), m, F.kp, b⟩
end
/-! ### heaps -/
theorem same_upd {H : Hp} {p : Addr} {o : HO} (h : H p = none) : Same H (upd H p o) := fun b x e => by
  rw [upd_ne (ne_of_none e h)]
  exact e
/-- all that was tracked is as it was, but for b -/
def Kp (b : Addr) (H H' : Hp) : Prop := ∀ a o, a ≠ b → H a = some o → H' a = some o
theorem Kp.refl (b : Addr) (H : Hp) : Kp b H H := fun _ _ _ h => h
theorem Kp.trans {b : Addr} {H H1 H2 : Hp} (x : Kp b H H1) (y : Kp b H1 H2) : Kp b H H2 := fun a o n h => y a o n (x a o n h)
theorem Kp.of {b : Addr} {H H' : Hp} (s : Same H H') : Kp b H H' := fun a o _ h => s a o h
theorem Kp.upd {b : Addr} {H : Hp} {o : HO} : Kp b H (upd H b o) := fun a u n h => by rw [upd_ne n]; exact h
/-! ### the bag -/
structure BgAt (H : Hp) (b c : Addr) (ns : List Int) (i r m : Int) : Prop where
  hb : H b = some (.lst [.ref c, .int i, .int r, .int m])
  hc : H c = some (.lst (ns.map V.int))
  len : ns.length ≤ 63
  i0 : 0 ≤ i
  r0 : 0 ≤ r
  m0 : 0 ≤ m
  m1 : m < 2147483648
def Bg (H : Hp) (b c : Addr) : Prop := ∃ ns i r m, BgAt H b c ns i r m
theorem bg_ne {H : Hp} {b c : Addr} {x : V} {r : List V} {ns : List Int} {a : Addr} (hb : H b = some (.lst (.ref a :: r))) (hc : H c = some (.lst (ns.map V.int))) : c ≠ b := by
  refine ne_of hc hb fun e => ?_
  cases ns with
  | nil => cases e
  | cons n t => cases e
theorem BgAt.ne {H : Hp} {b c : Addr} {ns : List Int} {i r m : Int} (h : BgAt H b c ns i r m) : c ≠ b := bg_ne (x := .non) h.hb h.hc
theorem BgAt.put {H : Hp} {b c : Addr} {ns : List Int} {i r m i' r' m' : Int} (h : BgAt H b c ns i r m) (i0 : 0 ≤ i') (r0 : 0 ≤ r') (m0 : 0 ≤ m') (m1 : m' < 2147483648) :
    BgAt (upd H b (.lst [.ref c, .int i', .int r', .int m'])) b c ns i' r' m' := ⟨upd_same, by rw [upd_ne h.ne]; exact h.hc, h.len, i0, r0, m0, m1⟩
theorem Bg.same {H H' : Hp} {b c : Addr} (h : Bg H b c) (s : Same H H') : Bg H' b c := by
  obtain ⟨ns, i, r, m, h⟩ := h
  exact ⟨ns, i, r, m, s _ _ h.hb, s _ _ h.hc, h.len, h.i0, h.r0, h.m0, h.m1⟩
theorem Bg.kp {H H' : Hp} {b c d : Addr} (h : Bg H b c) (hd : d ≠ b) (hc : d ≠ c) (s : Kp d H H') : Bg H' b c := by
  obtain ⟨ns, i, r, m, h⟩ := h
  exact ⟨ns, i, r, m, s _ _ hd.symm h.hb, s _ _ hc.symm h.hc, h.len, h.i0, h.r0, h.m0, h.m1⟩
theorem cut63 {xs : List V} (h : xs.length ≤ 63) : cutV xs none (some 63) = xs := by
  unfold cutV
  rw [HT.sIx_none, show HT.sIx xs.length xs.length (some 63) = min 63 xs.length from HT.sIx_nat xs.length xs.length 63, List.drop_zero, Nat.sub_zero]
  exact List.take_of_length_le (by omega)
theorem at_ofG {α : Type} {xs : List α} {z : Int} {j : Nat} {v : α} (e : z = (j : Int)) (h : xs[j]? = some v) : atI xs z = some v := by
  rw [e]
  exact atI_nat h
def spBag (K : PySem.W.Frag) : Sp := fun vs H Q _ => ∃ (a : Addr) (ns : List Int), vs = [.ref a] ∧ SqL K H a (ns.map V.int) ∧ ns.length ≤ 63 ∧ ∀ (b c : Addr) (H' : Hp), Same H H' → H b = none → Bg H' b c → Q (.ref b) H'
def spDraw : Sp := fun vs H Q _ => ∃ (b c : Addr) (many : Int), vs = [.ref b, .int many] ∧ Bg H b c ∧ 1 ≤ many ∧ many < 2 ^ 200 ∧ ∀ (v : Int) (H' : Hp), 0 ≤ v → v < many → Kp b H H' → Bg H' b c → Q (.int v) H'
section
variable {P : Program} {w : World} {K : PySem.W.Frag} {mg : Str → Option Value} {base : Heap}
theorem ok_bag (F : Fn K mg "_law_bag" s_l_bag ["_law_script"]) (B : Blt mg) : Has P w K mg base 1 "_law_bag" ["_law_script"] (spBag K) := by
  refine F.has sc_l_bag (fun vs H Q E h => ?_) (fun f cdv A outer s H vs Q E hr h => ?_)
  · obtain ⟨a, ns, rfl, _⟩ := h
    rfl
  obtain ⟨a, ns, rfl, hS, hl, q⟩ := h
  refine ⟨_, (pss_cons (ps_set (i := 1) sc_l_bag.nd rfl (Or.inl rfl) (pe_callTy call_list_of (by rfl) B.list bb_list (pa_cons (pe_slice sl_list (pv 0) po_none (po_some pe_int)) pa_nil)))
      (pss_one (ps_ret (pe_lst (pa_cons (pv 1) (pa_cons pe_int (pa_cons pe_int (pa_cons (pe_op op_add pe_int (pe_op op_mul pe_int (pe_callB call_len (by rfl) B.len bb_len (pa_cons (pv 1) pa_nil)))) pa_nil)))))))), ?_⟩
  have hl' : (ns.map V.int).length ≤ 63 := by rw [List.length_map]; exact hl
  refine ⟨_, rfl, 63, rfl, a, _, rfl, hS, fun p hp => ?_⟩
  rw [cut63 hl']
  refine ⟨p, _, rfl, .inl (SqL.of upd_same), fun c hc => ?_⟩
  have sm : Same H (upd (upd H p (.lst (ns.map V.int))) c (.lst (ns.map V.int))) := (same_upd hp).trans (same_upd hc)
  refine ⟨_, rfl, _, rfl, .ref c, _, rfl, .inl ⟨_, SqL.of upd_same, rfl⟩, _, _, rfl, rfl, .inl ⟨by decide, by decide⟩, _, _, rfl, rfl, (by show 4 ≤ sizeLine; decide), fun b hb => ?_⟩
  refine q b c _ (sm.trans (same_upd hb)) (sm.free hb) ⟨ns, 0, 0, _, upd_same, ?_, hl, Int.le_refl _, Int.le_refl _, ?_, ?_⟩
  · rw [upd_ne (ne_of_none upd_same hb)]
    exact upd_same
  · omega
  · rw [List.length_map]
    omega
theorem div200 {y z : Int} (h : 1 ≤ z) (h2 : z < 2 ^ 200) : CDivW y z := by
  refine wide_div (b := 200) (by omega) ?_ (by decide) (by decide)
  omega
theorem ok_draw (F : Fn K mg "_law_draw" s_l_draw ["_law_bag_here", "_law_many"]) (B : Blt mg) : Has P w K mg base 1 "_law_draw" ["_law_bag_here", "_law_many"] spDraw := by
  refine F.has sc_l_draw (fun vs H Q E h => ?_) (fun f cdv A outer s H vs Q E hr h => ?_)
  · obtain ⟨a, c, ns, rfl, _⟩ := h
    rfl
  obtain ⟨b, c, many, rfl, hB, h1, h2, q⟩ := h
  refine ⟨_, (C8.pss_cut (ps_if (PW.pt (pw_and (pt_cmpR op_eq (pe_ix ix_list (pv 0) pe_int (fun _ _ => rfl)) pe_int (nomark _)) (pw_and1 (pt_cmpR op_lt (pe_ix ix_list (pv 0) pe_int (fun _ _ => rfl)) (pe_callB call_len (by rfl) B.len bb_len (pa_cons (pe_ix ix_list (pv 0) pe_int (fun _ _ => rfl)) pa_nil)) (nomark _)))))
        (pss_cons (ps_set (i := 2) sc_l_draw.nd rfl (Or.inl rfl) (pe_ix ix_list (pe_ix ix_list (pv 0) pe_int (fun _ _ => rfl)) (pe_ix ix_list (pv 0) pe_int (fun _ _ => rfl)) (fun _ _ => rfl)))
      (pss_cons (ps_asg (pe_op op_add (pe_ix ix_list (pv 0) pe_int (fun _ _ => rfl)) pe_int) (pg_sub (pv 0) pe_int set_list))
      (pss_one (ps_if (pt_cmpR op_ge (pe_callB call_abs (by rfl) B.abs bb_abs (pa_cons (pv 2) pa_nil)) (pe_op op_pow pe_int pe_int) (nomark _))
        (pss_one (ps_asg (pe_callB call_abs (by rfl) B.abs bb_abs (pa_cons (pv 2) pa_nil)) (pg_sub (pv 0) pe_int set_list)))
        (pss_one (ps_asg (pe_op op_mod (pe_callTy call_int1 (by rfl) B.int bb_int (pa_cons (pe_op op_add (pe_op op_add (pe_op op_mul (pe_ix ix_list (pv 0) pe_int (fun _ _ => rfl)) pe_int) (pe_op op_mul (pe_op op_mod (pe_callTy call_int1 (by rfl) B.int bb_int (pa_cons (pv 2) pa_nil)) pe_int) pe_int)) pe_int) pa_nil)) pe_int) (pg_sub (pv 0) pe_int set_list)))))))
        pss_nil)
      (pss_cons (ps_if (pt_cmpR op_gt (pe_ix ix_list (pv 0) pe_int (fun _ _ => rfl)) pe_int (nomark _))
        (pss_cons (ps_set (i := 3) sc_l_draw.nd rfl (Or.inl rfl) (pe_op op_mod (pe_callTy call_int1 (by rfl) B.int bb_int (pa_cons (pe_ix ix_list (pv 0) pe_int (fun _ _ => rfl)) pa_nil)) (pv 1)))
      (pss_cons (ps_asg (pe_op op_fdivW (pe_ix ix_list (pv 0) pe_int (fun _ _ => rfl)) (pv 1)) (pg_sub (pv 0) pe_int set_list))
      (pss_one (ps_ret (pv 3)))))
        pss_nil)
      (pss_cons (ps_asg (pe_op op_mod (pe_callTy call_int1 (by rfl) B.int bb_int (pa_cons (pe_op op_add (pe_op op_add (pe_op op_mul (pe_op op_mul (pe_ix ix_list (pv 0) pe_int (fun _ _ => rfl)) (pe_ix ix_list (pv 0) pe_int (fun _ _ => rfl))) pe_int) (pe_op op_mul (pe_ix ix_list (pv 0) pe_int (fun _ _ => rfl)) pe_int)) pe_int) pa_nil)) pe_int) (pg_sub (pv 0) pe_int set_list))
      (pss_one (ps_ret (pe_op op_mod (pe_callTy call_int1 (by rfl) B.int bb_int (pa_cons (pe_op op_fdiv (pe_ix ix_list (pv 0) pe_int (fun _ _ => rfl)) pe_int) pa_nil)) (pv 1))))))), ?_⟩
  refine ⟨fun σ' H' => ∃ y, σ' = [some (.ref b), some (.int many), y, none] ∧ Kp b H H' ∧ Bg H' b c, ?_, ?_⟩
  · obtain ⟨ns, i, r, m, g⟩ := hB
    refine ⟨_, rfl, b, _, 2, _, rfl, rfl, SqL.of g.hb, atI_nat (j := 2) rfl, rfl, _, rfl, ite2 (fun e => ?_) (fun e => ?_)⟩
    · refine ⟨_, rfl, b, _, 1, _, rfl, rfl, SqL.of g.hb, atI_nat (j := 1) rfl, _, rfl, b, _, 0, _, rfl, rfl, SqL.of g.hb, atI_nat (j := 0) rfl, .ref c, _, rfl, .inl ⟨_, SqL.of g.hc, rfl⟩, _, _, rfl, rfl, _, rfl, ite2 (fun e2 => ?_) (fun e2 => ?_)⟩
      · have hi : i < ((ns.map V.int).length : Int) := of_decide_eq_true e2
        rw [List.length_map] at hi
        have i0 := g.i0
        obtain ⟨x, hx⟩ : ∃ x : Int, atI (ns.map V.int) i = some (.int x) := by
          have hk : i.toNat < ns.length := by omega
          have ek : i = ((i.toNat : Nat) : Int) := by omega
          exact ⟨ns[i.toNat], at_of ek (by rw [List.getElem?_map]; simp [hk])⟩
        refine ⟨_, rfl, b, _, 0, _, rfl, rfl, SqL.of g.hb, atI_nat (j := 0) rfl, _, rfl, b, _, 1, _, rfl, rfl, SqL.of g.hb, atI_nat (j := 1) rfl, c, _, i, .int x, rfl, rfl, SqL.of g.hc, hx, ?_⟩
        refine ⟨_, rfl, b, _, 1, _, rfl, rfl, SqL.of g.hb, atI_nat (j := 1) rfl, _, _, rfl, rfl, _, rfl, b, _, 1, 1, rfl, rfl, g.hb, rfl, ?_⟩
        have g1 := g.put (i' := i + 1) (r' := r) (m' := m) (by omega) g.r0 g.m0 g.m1
        refine ⟨_, rfl, x, rfl, _, _, rfl, rfl, ⟨by decide, by decide, by decide⟩, _, _, rfl, rfl, _, rfl, ite2 (fun e3 => ?_) (fun e3 => ?_)⟩
        · refine ⟨_, rfl, x, rfl, _, rfl, b, _, 2, 2, rfl, rfl, g1.hb, rfl, ?_⟩
          refine ⟨_, rfl, Kp.upd.trans Kp.upd, ns, i + 1, _, m, g1.put g1.i0 ?_ g1.m0 g1.m1⟩
          split <;> omega
        · refine ⟨_, rfl, b, _, 3, _, rfl, rfl, SqL.of g1.hb, atI_nat (j := 3) rfl, _, _, rfl, rfl, .inr ⟨by decide, by decide⟩, _, rfl, .inl ⟨_, rfl, _, _, rfl, rfl, (show (0 : Int) < 1000171 by decide), _, _, rfl, rfl, .inr ⟨by decide, by decide⟩, _, _, rfl, rfl, _, _, rfl, rfl, .inl ⟨_, rfl, _, _, rfl, rfl, (show (0 : Int) < 2147483563 by decide), _, rfl, b, _, 3, 3, rfl, rfl, g1.hb, rfl, ?_⟩⟩⟩
          refine ⟨_, rfl, Kp.upd.trans Kp.upd, ns, i + 1, r, _, g1.put g1.i0 g1.r0 (Int.emod_nonneg _ (by decide)) ?_⟩
          have z := Int.emod_lt_of_pos (m * 41177 + x % 1000171 * 907 + 59) (show (0 : Int) < 2147483563 by decide)
          omega
      · exact ⟨_, rfl, Kp.refl _ _, ns, i, r, m, g⟩
    · exact ⟨_, rfl, Kp.refl _ _, ns, i, r, m, g⟩
  · rintro σ' H' ⟨y, rfl, kp, ns, i, r, m, g⟩
    refine ⟨_, rfl, b, _, 2, _, rfl, rfl, SqL.of g.hb, atI_nat (j := 2) rfl, _, _, rfl, rfl, _, rfl, ite2 (fun e => ?_) (fun e => ?_)⟩
    · have hm : 0 < many := by omega
      refine ⟨_, rfl, b, _, 2, _, rfl, rfl, SqL.of g.hb, atI_nat (j := 2) rfl, .inl ⟨_, rfl, _, rfl, _, _, rfl, rfl, hm, ?_⟩⟩
      refine ⟨_, rfl, b, _, 2, _, rfl, rfl, SqL.of g.hb, atI_nat (j := 2) rfl, _, rfl, _, _, rfl, rfl, div200 h1 h2, _, rfl, b, _, 2, 2, rfl, rfl, g.hb, rfl, ?_⟩
      have g1 := g.put (i' := i) (r' := r / many) (m' := m) g.i0 (Int.ediv_nonneg g.r0 (by omega)) g.m0 g.m1
      refine ⟨_, rfl, q _ _ (Int.emod_nonneg _ (by omega)) (Int.emod_lt_of_pos _ hm) (kp.trans Kp.upd) ⟨ns, i, _, m, g1⟩⟩
    · refine ⟨_, rfl, b, _, 3, _, rfl, rfl, SqL.of g.hb, atI_nat (j := 3) rfl, _, rfl, b, _, 3, _, rfl, rfl, SqL.of g.hb, atI_nat (j := 3) rfl, _, _, rfl, rfl, ?_, ?_⟩
      · have h3 := g.m0
        have h4 := g.m1
        exact .inl ⟨by omega, by omega⟩
      · refine ⟨_, _, rfl, rfl, .inr ⟨by decide, by decide⟩, _, rfl, b, _, 3, _, rfl, rfl, SqL.of g.hb, atI_nat (j := 3) rfl, _, _, rfl, rfl, .inr ⟨by decide, by decide⟩, _, _, rfl, rfl, _, _, rfl, rfl, .inl ⟨_, rfl, _, _, rfl, rfl, (show (0 : Int) < 2147483579 by decide), _, rfl, b, _, 3, 3, rfl, rfl, g.hb, rfl, ?_⟩⟩
        have z := Int.emod_lt_of_pos (m * m * 3 + m * 30089 + 1700047) (show (0 : Int) < 2147483579 by decide)
        have g1 := g.put (i' := i) (r' := r) (m' := (m * m * 3 + m * 30089 + 1700047) % 2147483579) g.i0 g.r0 (Int.emod_nonneg _ (by decide)) (by omega)
        have hm : 0 < many := by omega
        refine ⟨_, rfl, b, _, 3, _, rfl, rfl, SqL.of g1.hb, atI_nat (j := 3) rfl, _, _, rfl, rfl, ⟨by decide, by decide⟩, .inl ⟨_, rfl, _, rfl, _, _, rfl, rfl, hm, ?_⟩⟩
        exact q _ _ (Int.emod_nonneg _ (by omega)) (Int.emod_lt_of_pos _ hm) (kp.trans Kp.upd) ⟨ns, i, r, _, g1⟩
/-- an item of some list or sign of some text, by a draw -/
def spPick (K : PySem.W.Frag) : Sp := fun vs H Q _ => ∃ (b c : Addr) (x : V), vs = [.ref b, x] ∧ Bg H b c ∧
  ((∃ (a : Addr) (xs : List V), x = .ref a ∧ a ≠ b ∧ H a = some (.lst xs) ∧ xs ≠ [] ∧ xs.length ≤ 1000 ∧ ∀ (v : V) (H' : Hp), v ∈ xs → Kp b H H' → Bg H' b c → Q v H') ∨
   (∃ z : Str, x = .str z ∧ 0 < z.cps.size ∧ z.cps.size ≤ 1000 ∧ ∀ (d : Nat) (H' : Hp), d ∈ z.cps.toList → Kp b H H' → Bg H' b c → Q (.str ⟨#[d]⟩) H'))
theorem ok_pick (F : Fn K mg "_law_pick" s_l_pick ["_law_bag_here", "_law_some"]) (B : Blt mg) (G_l_draw : Has P w K mg base 1 "_law_draw" ["_law_bag_here", "_law_many"] spDraw) : Has P w K mg base 2 "_law_pick" ["_law_bag_here", "_law_some"] (spPick K) := by
  refine F.has sc_l_pick (fun vs H Q E h => ?_) (fun f cdv A outer s H vs Q E hr h => ?_)
  · obtain ⟨a, c, ns, rfl, _⟩ := h
    rfl
  obtain ⟨b, c, x, rfl, hB, h⟩ := h
  refine ⟨_, (pss_one (ps_ret (pe_ix ix_seq (pv 1) (pe_own G_l_draw (hr.mono (by decide)) (by rfl) (pa_cons (pv 0) (pa_cons (pe_callB call_len (by rfl) B.len bb_len (pa_cons (pv 1) pa_nil)) pa_nil))) (fun _ _ => rfl)))), ?_⟩
  rcases h with ⟨a, xs, rfl, hab, ha, hne, hlen, q⟩ | ⟨z, rfl, h0, hlen, q⟩
  · have hpos : 0 < xs.length := List.length_pos_iff.mpr hne
    refine ⟨_, rfl, _, rfl, _, rfl, .ref a, xs.length, rfl, .inl ⟨xs, SqL.of ha, rfl⟩, b, c, _, rfl, hB, by omega, by omega, fun v H' v0 v1 kp hB' => ?_⟩
    have hk : v.toNat < xs.length := by omega
    refine .inl ⟨a, xs, v, xs[v.toNat], rfl, rfl, SqL.of (kp _ _ hab ha), at_of (show v = ((v.toNat : Nat) : Int) by omega) (List.getElem?_eq_getElem hk), ?_⟩
    exact q _ _ (List.getElem_mem hk) kp hB'
  · refine ⟨_, rfl, _, rfl, _, rfl, .str z, z.length, rfl, ⟨by show z.cps.size ≤ sizeLine; exact Nat.le_of_lt (small1000 hlen), rfl⟩, b, c, _, rfl, hB, by show (1 : Int) ≤ (z.cps.size : Int); omega, by show (z.cps.size : Int) < 2 ^ 200; omega, fun v H' v0 v1 kp hB' => ?_⟩
    have hk : v.toNat < z.cps.toList.length := by
      have v1' : v < (z.cps.size : Int) := v1
      rw [Array.length_toList]
      omega
    refine .inr (.inr ⟨z, v, z.cps.toList[v.toNat], rfl, rfl, by show z.cps.size ≤ sizeLine; exact Nat.le_of_lt (small1000 hlen), at_ofG (show v = ((v.toNat : Nat) : Int) by omega) (List.getElem?_eq_getElem hk), ?_⟩)
    exact q _ _ (List.getElem_mem hk) kp hB'
end
/-! ### the same data -/
def leafV : V → Prop
  | .non => True
  | .bl _ => True
  | .int _ => True
  | .str _ => True
  | _ => False
/-- two values that stand for the same data, so deep at most -/
def Eqd (H : Hp) : Nat → V → V → Prop
  | 0 => fun _ _ => False
  | n + 1 => fun x y => (x = y ∧ leafV x) ∨
    (∃ (a b : Addr) (xs ys : List V), x = .ref a ∧ y = .ref b ∧ H a = some (.lst xs) ∧ H b = some (.lst ys) ∧ xs.length ≤ 1000 ∧ Paired (Eqd H n) xs ys) ∨
    (∃ (a b : Addr) (xs ys : List V), x = .ref a ∧ y = .ref b ∧ H a = some (.tup xs) ∧ H b = some (.tup ys) ∧ xs.length ≤ 1000 ∧ Paired (Eqd H n) xs ys)
theorem Eqd.leaf {H : Hp} {n : Nat} {x : V} (h : leafV x) : Eqd H (n + 1) x x := .inl ⟨rfl, h⟩
theorem Eqd.lst {H : Hp} {n : Nat} {a b : Addr} {xs ys : List V} (ha : H a = some (.lst xs)) (hb : H b = some (.lst ys)) (hl : xs.length ≤ 1000) (h : Paired (Eqd H n) xs ys) : Eqd H (n + 1) (.ref a) (.ref b) := .inr (.inl ⟨a, b, xs, ys, rfl, rfl, ha, hb, hl, h⟩)
theorem Eqd.tup {H : Hp} {n : Nat} {a b : Addr} {xs ys : List V} (ha : H a = some (.tup xs)) (hb : H b = some (.tup ys)) (hl : xs.length ≤ 1000) (h : Paired (Eqd H n) xs ys) : Eqd H (n + 1) (.ref a) (.ref b) := .inr (.inr ⟨a, b, xs, ys, rfl, rfl, ha, hb, hl, h⟩)
theorem Eqd.mono {H H' : Hp} (s : Same H H') : ∀ {n : Nat} {x y : V}, Eqd H n x y → Eqd H' n x y
  | 0, _, _, h => h
  | n + 1, x, y, h => by
    rcases h with h | ⟨a, b, xs, ys, h1, h2, h3, h4, h5, h6⟩ | ⟨a, b, xs, ys, h1, h2, h3, h4, h5, h6⟩
    · exact .inl h
    · exact .inr (.inl ⟨a, b, xs, ys, h1, h2, s _ _ h3, s _ _ h4, h5, Paired.mapP h6 fun _ _ z => Eqd.mono s z⟩)
    · exact .inr (.inr ⟨a, b, xs, ys, h1, h2, s _ _ h3, s _ _ h4, h5, Paired.mapP h6 fun _ _ z => Eqd.mono s z⟩)
theorem Eqd.up {H : Hp} : ∀ {n : Nat} {x y : V}, Eqd H n x y → Eqd H (n + 1) x y
  | 0, _, _, h => h.elim
  | n + 1, x, y, h => by
    rcases h with h | ⟨a, b, xs, ys, h1, h2, h3, h4, h5, h6⟩ | ⟨a, b, xs, ys, h1, h2, h3, h4, h5, h6⟩
    · exact .inl h
    · exact .inr (.inl ⟨a, b, xs, ys, h1, h2, h3, h4, h5, Paired.mapP h6 fun _ _ z => Eqd.up z⟩)
    · exact .inr (.inr ⟨a, b, xs, ys, h1, h2, h3, h4, h5, Paired.mapP h6 fun _ _ z => Eqd.up z⟩)
theorem paired_get {F : V → V → Prop} : ∀ {xs ys : List V} {i : Nat} {x y : V}, Paired F xs ys → xs[i]? = some x → ys[i]? = some y → F x y
  | _, _, i, x, y, .nil, hx, _ => by simp at hx
  | _, _, 0, x, y, .cons r _, hx, hy => by
    cases hx
    cases hy
    exact r
  | _, _, i + 1, x, y, .cons _ t, hx, hy => paired_get t (i := i) (by simpa using hx) (by simpa using hy)
theorem paired_len {F : V → V → Prop} : ∀ {xs ys : List V}, Paired F xs ys → xs.length = ys.length
  | _, _, .nil => rfl
  | _, _, .cons _ t => congrArg (· + 1) (paired_len t)
theorem paired_refl {F : V → V → Prop} : ∀ {xs : List V}, (∀ x ∈ xs, F x x) → Paired F xs xs
  | [], _ => .nil
  | x :: r, h => .cons (h x List.mem_cons_self) (paired_refl fun y hy => h y (List.mem_cons_of_mem _ hy))
/-- isinstance(x, T), T a built-in class -/
theorem is_b {K : PySem.W.Frag} {H : Hp} {x : V} {t T : String} {b : Bool} {Q : VK} (ty : TyX K H x (.type t)) (k : kitB t T = some b) (h : Q (.bl b) H) : rIsi K [x, .ty T] H Q :=
  ⟨x, .ty T, .type t, .type T, b, rfl, .ty _, ty, kit_ty k, h⟩
theorem ite_of {c : Prop} [Decidable c] {A B : Prop} (hc : c) (h : A) : if c then A else B := by
  rw [if_pos hc]
  exact h
theorem ite_no {c : Prop} [Decidable c] {A B : Prop} (hc : ¬ c) (h : B) : if c then A else B := by
  rw [if_neg hc]
  exact h
theorem tYes_ok {σ : L2.St} {H : Hp} {A B : Hp → Prop} (h : A H) : tYes σ H (fun b H3 => if b = true then A H3 else B H3) := by
  show (if true = true then A H else B H)
  rw [if_pos rfl]
  exact h
theorem walk_zipT {K : PySem.W.Frag} {a b : Addr} {xs ys : List V} {n : Nat} (hn : n = min xs.length ys.length) : Walk (RZ.ItzT K a b) n (fun H => SqT K H a xs ∧ SqT K H b ys) (YPair (fun i => xs[i]?) (fun i => ys[i]?)) := by
  subst hn
  refine ⟨fun i _ hi q => ?_, fun _ q => ⟨xs, ys, q.1, q.2, by omega⟩, fun i H v H' _ q y => ?_⟩
  · have h1 : i < xs.length := by omega
    have h2 : i < ys.length := by omega
    exact ⟨xs, ys, xs[i], ys[i], q.1, q.2, by simp [h1], by simp [h2]⟩
  · obtain ⟨T, x, z, h1, h2, h3, h4, h5⟩ := y
    exact ⟨T, x, z, h1, h2, h3, h4 xs q.1, h5 ys q.2⟩
def spSame (n : Nat) : Sp := fun vs H Q _ => ∃ x y : V, vs = [x, y] ∧ Eqd H n x y ∧ ∀ H', Same H H' → Q (.bl true) H'
section
variable {P : Program} {w : World} {K : PySem.W.Frag} {mg : Str → Option Value} {base : Heap}
theorem ok_same {n : Nat} (F : Fn K mg "_law_same" s_l_same ["_law_found", "_law_due"]) (B : Blt mg) (G_l_same : Has P w K mg base n "_law_same" ["_law_found", "_law_due"] (spSame n)) :
    Has P w K mg base (n + 1) "_law_same" ["_law_found", "_law_due"] (spSame (n + 1)) := by
  refine F.has sc_l_same (fun vs H Q E h => ?_) (fun f cdv A outer s H vs Q E hr h => ?_)
  · obtain ⟨a, ns, rfl, _⟩ := h
    rfl
  obtain ⟨x, y, rfl, h, q⟩ := h
  refine ⟨_, (pss_cons (ps_if (pt_val (pe_callB call_isi (by rfl) B.isinstance bb_isinstance (pa_cons (pv 1) (pa_cons (pe_bltn (v := .ty "list") (by rfl) B.list bb_list rfl) pa_nil))))
        (pss_one (ps_ret (pe_and (pe_callB call_isi (by rfl) B.isinstance bb_isinstance (pa_cons (pv 0) (pa_cons (pe_bltn (v := .ty "list") (by rfl) B.list bb_list rfl) pa_nil))) (pe_and (pe_cmpR op_eq (pe_callB call_len (by rfl) B.len bb_len (pa_cons (pv 0) pa_nil)) (pe_callB call_len (by rfl) B.len bb_len (pa_cons (pv 1) pa_nil)) (nomark _)) (pe_one (pe_callB (cr_all rfl) (by rfl) B.all bb_all (pa_cons (pe_lc (own := [("_law_a", 2), ("_law_b", 3)]) (g := gTup K 2 (gCons (gName 2) (gCons (gName 3) gNil))) (tt := tYes) (by rfl) sc_l_same.nd (RZ.pi_zipA (by rfl) B.zip (pa_cons (pv 0) (pa_cons (pv 1) pa_nil))) (blkOk_by (own := [("_law_a", 2), ("_law_b", 3)]) (N := N_l_same) (sc := defScope s_l_same) (by decide +kernel)) (fun _ _ _ _ _ => (pg_tup rfl (pgs_cons (pg_name (i := 2) sc_l_same.nd rfl (Or.inl rfl)) (pgs_cons (pg_name (i := 3) sc_l_same.nd rfl (Or.inl rfl)) pgs_nil)))) (fun _ _ _ _ _ => pts_nil) (fun _ _ _ _ _ => (pe_own G_l_same hr (by rfl) (pa_cons (pv 2) (pa_cons (pv 3) pa_nil))))) pa_nil)))))))
        pss_nil)
      (pss_cons (ps_if (pt_val (pe_callB call_isi (by rfl) B.isinstance bb_isinstance (pa_cons (pv 1) (pa_cons (pe_bltn (v := .ty "tuple") (by rfl) B.tuple bb_tuple rfl) pa_nil))))
        (pss_one (ps_ret (pe_and (pe_callB call_isi (by rfl) B.isinstance bb_isinstance (pa_cons (pv 0) (pa_cons (pe_bltn (v := .ty "tuple") (by rfl) B.tuple bb_tuple rfl) pa_nil))) (pe_and (pe_cmpR op_eq (pe_callB call_len (by rfl) B.len bb_len (pa_cons (pv 0) pa_nil)) (pe_callB call_len (by rfl) B.len bb_len (pa_cons (pv 1) pa_nil)) (nomark _)) (pe_one (pe_callB (cr_all rfl) (by rfl) B.all bb_all (pa_cons (pe_lc (own := [("_law_a", 2), ("_law_b", 3)]) (g := gTup K 2 (gCons (gName 2) (gCons (gName 3) gNil))) (tt := tYes) (by rfl) sc_l_same.nd (RZ.pi_zipA (by rfl) B.zip (pa_cons (pv 0) (pa_cons (pv 1) pa_nil))) (blkOk_by (own := [("_law_a", 2), ("_law_b", 3)]) (N := N_l_same) (sc := defScope s_l_same) (by decide +kernel)) (fun _ _ _ _ _ => (pg_tup rfl (pgs_cons (pg_name (i := 2) sc_l_same.nd rfl (Or.inl rfl)) (pgs_cons (pg_name (i := 3) sc_l_same.nd rfl (Or.inl rfl)) pgs_nil)))) (fun _ _ _ _ _ => pts_nil) (fun _ _ _ _ _ => (pe_own G_l_same hr (by rfl) (pa_cons (pv 2) (pa_cons (pv 3) pa_nil))))) pa_nil)))))))
        pss_nil)
      (pss_cons (ps_if (PW.pt (pw_or (pt_cmp (pc_isN (pv 1))) (pw_or1 (pt_cmp (pc_isN (pv 0))))))
        (pss_one (ps_ret (pe_and (pe_cmp (pc_isN (pv 1))) (pe_one (pe_cmp (pc_isN (pv 0)))))))
        pss_nil)
      (pss_cons (ps_if (PW.pt (pw_or (pt_val (pe_callB call_isi (by rfl) B.isinstance bb_isinstance (pa_cons (pv 1) (pa_cons (pe_bltn (v := .ty "bool") (by rfl) B.bool bb_bool rfl) pa_nil)))) (pw_or1 (pt_val (pe_callB call_isi (by rfl) B.isinstance bb_isinstance (pa_cons (pv 0) (pa_cons (pe_bltn (v := .ty "bool") (by rfl) B.bool bb_bool rfl) pa_nil)))))))
        (pss_one (ps_ret (pe_and (pe_callB call_isi (by rfl) B.isinstance bb_isinstance (pa_cons (pv 1) (pa_cons (pe_bltn (v := .ty "bool") (by rfl) B.bool bb_bool rfl) pa_nil))) (pe_and (pe_callB call_isi (by rfl) B.isinstance bb_isinstance (pa_cons (pv 0) (pa_cons (pe_bltn (v := .ty "bool") (by rfl) B.bool bb_bool rfl) pa_nil))) (pe_one (pe_cmpR op_eq (pv 0) (pv 1) (nomark _)))))))
        pss_nil)
      (pss_cons (ps_if (pt_val (pe_callB call_isi (by rfl) B.isinstance bb_isinstance (pa_cons (pv 1) (pa_cons (pe_bltn (v := .ty "int") (by rfl) B.int bb_int rfl) pa_nil))))
        (pss_one (ps_ret (pe_and (pe_callB call_isi (by rfl) B.isinstance bb_isinstance (pa_cons (pv 0) (pa_cons (pe_bltn (v := .ty "int") (by rfl) B.int bb_int rfl) pa_nil))) (pe_one (pe_cmpR op_eq (pv 0) (pv 1) (nomark _))))))
        pss_nil)
      (pss_one (ps_ret (pe_and (pe_callB call_isi (by rfl) B.isinstance bb_isinstance (pa_cons (pv 0) (pa_cons (pe_bltn (v := .ty "str") (by rfl) B.str bb_str rfl) pa_nil))) (pe_and (pe_callB call_isi (by rfl) B.isinstance bb_isinstance (pa_cons (pv 1) (pa_cons (pe_bltn (v := .ty "str") (by rfl) B.str bb_str rfl) pa_nil))) (pe_one (pe_cmpR op_eq (pv 0) (pv 1) (nomark _)))))))))))), ?_⟩
  rcases h with ⟨rfl, hx⟩ | ⟨a, b, xs, ys, rfl, rfl, ha, hb, hl, hp⟩ | ⟨a, b, xs, ys, rfl, rfl, ha, hb, hl, hp⟩
  · cases x with
    | non =>
      refine ⟨_, rfl, _, .ty "list", .type "NoneType", .type "list", false, rfl, .ty _, .base .non, kit_ty (by decide +kernel), _, rfl, iteF ?_⟩
      refine ⟨_, rfl, _, .ty "tuple", .type "NoneType", .type "tuple", false, rfl, .ty _, .base .non, kit_ty (by decide +kernel), _, rfl, iteF ?_⟩
      refine ⟨_, rfl, _, rfl, ite_of (decide_eq_true rfl) ?_⟩
      refine ⟨_, rfl, _, rfl, ite_of (decide_eq_true rfl) ⟨_, rfl, ?_⟩⟩
      exact q _ (Same.refl _)
    | bl x =>
      refine ⟨_, rfl, _, .ty "list", .type "bool", .type "list", false, rfl, .ty _, .base (.bl _), kit_ty (by decide +kernel), _, rfl, iteF ?_⟩
      refine ⟨_, rfl, _, .ty "tuple", .type "bool", .type "tuple", false, rfl, .ty _, .base (.bl _), kit_ty (by decide +kernel), _, rfl, iteF ?_⟩
      refine ⟨_, rfl, _, rfl, ite_no (by simp) ⟨_, rfl, _, rfl, ite_no (by simp) ?_⟩⟩
      refine ⟨_, rfl, _, .ty "bool", .type "bool", .type "bool", true, rfl, .ty _, .base (.bl _), kit_ty (by decide +kernel), _, rfl, iteT ?_⟩
      refine ⟨_, rfl, _, .ty "bool", .type "bool", .type "bool", true, rfl, .ty _, .base (.bl _), kit_ty (by decide +kernel), _, rfl, iteT ⟨_, rfl, _, .ty "bool", .type "bool", .type "bool", true, rfl, .ty _, .base (.bl _), kit_ty (by decide +kernel), _, rfl, iteT ⟨_, rfl, _, rfl, rfl, ?_⟩⟩⟩
      rw [decide_eq_true rfl]
      exact q _ (Same.refl _)
    | int x =>
      refine ⟨_, rfl, _, .ty "list", .type "int", .type "list", false, rfl, .ty _, .base (.int _), kit_ty (by decide +kernel), _, rfl, iteF ?_⟩
      refine ⟨_, rfl, _, .ty "tuple", .type "int", .type "tuple", false, rfl, .ty _, .base (.int _), kit_ty (by decide +kernel), _, rfl, iteF ?_⟩
      refine ⟨_, rfl, _, rfl, ite_no (by simp) ⟨_, rfl, _, rfl, ite_no (by simp) ?_⟩⟩
      refine ⟨_, rfl, _, .ty "bool", .type "int", .type "bool", false, rfl, .ty _, .base (.int _), kit_ty (by decide +kernel), _, rfl, iteF ⟨_, rfl, _, .ty "bool", .type "int", .type "bool", false, rfl, .ty _, .base (.int _), kit_ty (by decide +kernel), _, rfl, iteF ?_⟩⟩
      refine ⟨_, rfl, _, .ty "int", .type "int", .type "int", true, rfl, .ty _, .base (.int _), kit_ty (by decide +kernel), _, rfl, iteT ?_⟩
      refine ⟨_, rfl, _, .ty "int", .type "int", .type "int", true, rfl, .ty _, .base (.int _), kit_ty (by decide +kernel), _, rfl, iteT ⟨_, rfl, _, rfl, rfl, ?_⟩⟩
      rw [decide_eq_true rfl]
      exact q _ (Same.refl _)
    | str x =>
      refine ⟨_, rfl, _, .ty "list", .type "str", .type "list", false, rfl, .ty _, .base (.str _), kit_ty (by decide +kernel), _, rfl, iteF ?_⟩
      refine ⟨_, rfl, _, .ty "tuple", .type "str", .type "tuple", false, rfl, .ty _, .base (.str _), kit_ty (by decide +kernel), _, rfl, iteF ?_⟩
      refine ⟨_, rfl, _, rfl, ite_no (by simp) ⟨_, rfl, _, rfl, ite_no (by simp) ?_⟩⟩
      refine ⟨_, rfl, _, .ty "bool", .type "str", .type "bool", false, rfl, .ty _, .base (.str _), kit_ty (by decide +kernel), _, rfl, iteF ⟨_, rfl, _, .ty "bool", .type "str", .type "bool", false, rfl, .ty _, .base (.str _), kit_ty (by decide +kernel), _, rfl, iteF ?_⟩⟩
      refine ⟨_, rfl, _, .ty "int", .type "str", .type "int", false, rfl, .ty _, .base (.str _), kit_ty (by decide +kernel), _, rfl, iteF ?_⟩
      refine ⟨_, rfl, _, .ty "str", .type "str", .type "str", true, rfl, .ty _, .base (.str _), kit_ty (by decide +kernel), _, rfl, iteT ⟨_, rfl, _, .ty "str", .type "str", .type "str", true, rfl, .ty _, .base (.str _), kit_ty (by decide +kernel), _, rfl, iteT ⟨_, rfl, _, rfl, rfl, ?_⟩⟩⟩
      rw [decide_eq_true rfl]
      exact q _ (Same.refl _)
    | byt x => exact hx.elim
    | flt x => exact hx.elim
    | ref x => exact hx.elim
    | ty x => exact hx.elim
  · have hlen := paired_len hp
    refine ⟨_, rfl, _, .ty "list", .type "list", .type "list", true, rfl, .ty _, .base (.lst hb), kit_ty (by decide +kernel), _, rfl, iteT ?_⟩
    refine ⟨_, rfl, _, .ty "list", .type "list", .type "list", true, rfl, .ty _, .base (.lst ha), kit_ty (by decide +kernel), _, rfl, iteT ?_⟩
    refine ⟨_, rfl, .ref a, _, rfl, .inl ⟨xs, SqL.of ha, rfl⟩, _, rfl, .ref b, _, rfl, .inl ⟨ys, SqL.of hb, rfl⟩, rfl, _, rfl, ite_of (decide_eq_true (by rw [hlen])) ?_⟩
    refine ⟨_, rfl, _, rfl, a, b, xs, ys, rfl, .inl ⟨SqL.of ha, SqL.of hb, fun D hD => lc_it (walk_zip (K := K) (n := xs.length) (by omega)) (fun i H' => Same H H' ∧ H' D = some (.lst (List.replicate i (.bl true))))
      ⟨same_upd hD, upd_same⟩ (fun i H1 hi p => ⟨SqL.of (p.1 _ _ ha), SqL.of (p.1 _ _ hb)⟩) ?_ ?_⟩⟩
    · rintro i v H1 H2 hi ⟨s1, e1⟩ ⟨T, u, z, rfl, hT, rfl, hu, hz⟩
      refine ⟨T, [u, z], rfl, SqT.of upd_same, rfl, u, [z], rfl, z, [], rfl, rfl, rfl, tYes_ok ?_⟩
      refine ⟨_, rfl, _, rfl, u, z, rfl, (paired_get hp hu hz).mono (s1.trans (same_upd hT)), fun H3 s3 => ?_⟩
      refine ⟨_, s3 _ _ ((same_upd hT) _ _ e1), by rw [List.length_replicate]; exact small1000 (by omega), fun c o hc => ?_, ?_⟩
      · rw [upd_ne (ne_of_none hc hD)]
        exact s3 _ _ (same_upd hT _ _ (s1 _ _ hc))
      · rw [upd_same, List.replicate_succ']
    · rintro H1 ⟨s1, e1⟩
      refine ⟨D, List.replicate xs.length true, rfl, SqL.of (by rw [e1, List.map_replicate]), ?_⟩
      rw [show (List.replicate xs.length true).all id = true by simp]
      exact q _ s1
  · have hlen := paired_len hp
    refine ⟨_, rfl, _, .ty "list", .type "tuple", .type "list", false, rfl, .ty _, .base (.tup hb), kit_ty (by decide +kernel), _, rfl, iteF ?_⟩
    refine ⟨_, rfl, _, .ty "tuple", .type "tuple", .type "tuple", true, rfl, .ty _, .base (.tup hb), kit_ty (by decide +kernel), _, rfl, iteT ?_⟩
    refine ⟨_, rfl, _, .ty "tuple", .type "tuple", .type "tuple", true, rfl, .ty _, .base (.tup ha), kit_ty (by decide +kernel), _, rfl, iteT ?_⟩
    refine ⟨_, rfl, .ref a, _, rfl, .inr ⟨xs, SqT.of ha, rfl⟩, _, rfl, .ref b, _, rfl, .inr ⟨ys, SqT.of hb, rfl⟩, rfl, _, rfl, ite_of (decide_eq_true (by rw [hlen])) ?_⟩
    refine ⟨_, rfl, _, rfl, a, b, xs, ys, rfl, .inr ⟨SqT.of ha, SqT.of hb, fun D hD => lc_it (walk_zipT (K := K) (n := xs.length) (by omega)) (fun i H' => Same H H' ∧ H' D = some (.lst (List.replicate i (.bl true))))
      ⟨same_upd hD, upd_same⟩ (fun i H1 hi p => ⟨SqT.of (p.1 _ _ ha), SqT.of (p.1 _ _ hb)⟩) ?_ ?_⟩⟩
    · rintro i v H1 H2 hi ⟨s1, e1⟩ ⟨T, u, z, rfl, hT, rfl, hu, hz⟩
      refine ⟨T, [u, z], rfl, SqT.of upd_same, rfl, u, [z], rfl, z, [], rfl, rfl, rfl, tYes_ok ?_⟩
      refine ⟨_, rfl, _, rfl, u, z, rfl, (paired_get hp hu hz).mono (s1.trans (same_upd hT)), fun H3 s3 => ?_⟩
      refine ⟨_, s3 _ _ ((same_upd hT) _ _ e1), by rw [List.length_replicate]; exact small1000 (by omega), fun c o hc => ?_, ?_⟩
      · rw [upd_ne (ne_of_none hc hD)]
        exact s3 _ _ (same_upd hT _ _ (s1 _ _ hc))
      · rw [upd_same, List.replicate_succ']
    · rintro H1 ⟨s1, e1⟩
      refine ⟨D, List.replicate xs.length true, rfl, SqL.of (by rw [e1, List.map_replicate]), ?_⟩
      rw [show (List.replicate xs.length true).all id = true by simp]
      exact q _ s1
end
theorem no_same {P : Program} {w : World} {K : PySem.W.Frag} {mg : Str → Option Value} {base : Heap} {f : Addr} {fd : FuncData} {ps : List Str} {sp : Sp} (no : ∀ vs H Q E, ¬ sp vs H Q E) : FnOk P w K mg base CX0 0 f fd ps sp :=
  ⟨fun vs H Q E h => absurd h (no vs H Q E), fun A outer s H args us vs Q E _ _ _ _ h => absurd h (no vs H Q E)⟩
section
variable {P : Program} {w : World} {K : PySem.W.Frag} {mg : Str → Option Value} {base : Heap}
theorem all_same (F : Fn K mg "_law_same" s_l_same ["_law_found", "_law_due"]) (B : Blt mg) : ∀ n : Nat, Has P w K mg base n "_law_same" ["_law_found", "_law_due"] (spSame n)
  | 0 => by
    obtain ⟨f, fd, F, m, b⟩ := F.ex
    exact ⟨f, fd, no_same fun vs H Q E h => by obtain ⟨x, y, _, h, _⟩ := h; exact h, m, F.kp, b⟩
  | n + 1 => ok_same F B (all_same F B n)
end
/-! ### odd values -/
inductive OddV (H : Hp) (b : Addr) : V → Prop
  | non : OddV H b .non
  | bl (x : Bool) : OddV H b (.bl x)
  | s0 : OddV H b (.str "")
  | s1 : OddV H b (.str "A")
  | s2 : OddV H b (.str "in")
  | s3 : OddV H b (.str "a b")
  | s4 : OddV H b (.str "7")
  | t0 {p : Addr} : p ≠ b → H p = some (.tup []) → OddV H b (.ref p)
  | t1 {p : Addr} : p ≠ b → H p = some (.tup [.int 1]) → OddV H b (.ref p)
  | l0 {p : Addr} : p ≠ b → H p = some (.lst []) → OddV H b (.ref p)
  | l1 {p : Addr} : p ≠ b → H p = some (.lst [.str "a"]) → OddV H b (.ref p)
theorem OddV.kp {H H' : Hp} {b : Addr} {v : V} (h : OddV H b v) (k : Kp b H H') : OddV H' b v := by
  cases h with
  | non => exact .non
  | bl x => exact .bl x
  | s0 => exact .s0
  | s1 => exact .s1
  | s2 => exact .s2
  | s3 => exact .s3
  | s4 => exact .s4
  | t0 n h => exact .t0 n (k _ _ n h)
  | t1 n h => exact .t1 n (k _ _ n h)
  | l0 n h => exact .l0 n (k _ _ n h)
  | l1 n h => exact .l1 n (k _ _ n h)
def spOdd : Sp := fun vs H Q _ => ∃ b c : Addr, vs = [.ref b] ∧ Bg H b c ∧ ∀ (v : V) (H' : Hp), Kp b H H' → Bg H' b c → OddV H' b v → Q v H'
def spGcd : Sp := fun vs H Q _ => ∃ a b : Int, vs = [.int a, .int b] ∧ Q (.int ((Nat.gcd a.natAbs b.natAbs : Nat) : Int)) H
theorem abs_cast (i : Int) : (if i < 0 then -i else i) = ((i.natAbs : Nat) : Int) := by split <;> omega
theorem Bg.sel {H : Hp} {b c : Addr} (h : Bg H b c) : ∃ r : List V, H b = some (.lst (.ref c :: r)) := by
  obtain ⟨ns, i, r, m, g⟩ := h
  exact ⟨_, g.hb⟩
theorem Bg.ne_new {H : Hp} {b c p : Addr} (h : Bg H b c) (hp : H p = none) : p ≠ b := by
  obtain ⟨_, e⟩ := h.sel
  exact (ne_of_none e hp).symm
theorem Bg.ne_new2 {H : Hp} {b c p : Addr} (h : Bg H b c) (hp : H p = none) : p ≠ c := by
  obtain ⟨ns, i, r, m, g⟩ := h
  exact (ne_of_none g.hc hp).symm
section
variable {P : Program} {w : World} {K : PySem.W.Frag} {mg : Str → Option Value} {base : Heap}
theorem ok_gcd (F : Fn K mg "_law_gcd" s_l_gcd ["_law_a", "_law_b"]) (B : Blt mg) : Has P w K mg base 1 "_law_gcd" ["_law_a", "_law_b"] spGcd := by
  refine F.has sc_l_gcd (fun vs H Q E h => ?_) (fun f cdv A outer s H vs Q E hr h => ?_)
  · obtain ⟨a, b, rfl, _⟩ := h
    rfl
  obtain ⟨a, b, rfl, q⟩ := h
  refine ⟨_, (pss_cons (ps_par (i := 2) (j := 3) rfl sc_l_gcd.nd rfl rfl (by decide) rfl rfl (pa_cons (pe_callB call_abs (by rfl) B.abs bb_abs (pa_cons (pv 0) pa_nil)) (pa_cons (pe_callB call_abs (by rfl) B.abs bb_abs (pa_cons (pv 1) pa_nil)) pa_nil)) rfl)
      (pss_cons (ps_while PassesOwn.never (pt_cmpR op_gt (pv 3) pe_int (nomark _))
        (pss_one (ps_par (i := 2) (j := 3) rfl sc_l_gcd.nd rfl rfl (by decide) rfl rfl (pa_cons (pv 3) (pa_cons (pe_op op_mod (pe_callTy call_int1 (by rfl) B.int bb_int (pa_cons (pv 2) pa_nil)) (pv 3)) pa_nil)) rfl)))
      (pss_one (ps_ret (pv 2))))), ?_⟩
  refine ⟨_, rfl, a, rfl, _, rfl, b, rfl, _, _, rfl, ?_⟩
  rw [abs_cast, abs_cast]
  refine while_by (fun σ H' => ∃ l r : Nat, σ = [some (.int a), some (.int b), some (.int (l : Int)), some (.int (r : Int))] ∧ Nat.gcd l r = Nat.gcd a.natAbs b.natAbs ∧ H' = H)
    (fun σ _ => match σ with | [_, _, _, some (.int r)] => r.toNat | _ => 0) ⟨_, _, rfl, rfl, rfl⟩ ?_ ?_
  · rintro σ H' ⟨l, r, rfl, e, rfl⟩
    refine ⟨_, rfl, _, _, rfl, rfl, _, rfl, ite2 (fun c => ?_) (fun c => ?_)⟩
    · have hc : (0 : Int) < (r : Int) := of_decide_eq_true c
      have hc' : 0 < r := by omega
      refine ⟨_, rfl, _, rfl, .inl ⟨_, rfl, _, rfl, _, _, rfl, rfl, hc, _, _, rfl, ?_⟩⟩
      refine ⟨⟨r, l % r, rfl, ?_, rfl⟩, ?_⟩
      · rw [← e, Nat.gcd_comm r (l % r), ← Nat.gcd_rec, Nat.gcd_comm]
      · show ((l : Int) % (r : Int)).toNat < (r : Int).toNat
        have := Int.emod_lt_of_pos (l : Int) hc
        have := Int.emod_nonneg (l : Int) (show (r : Int) ≠ 0 by omega)
        omega
    · have hc : ¬ (0 : Int) < (r : Int) := of_decide_eq_false (Bool.eq_false_iff.mpr c)
      have r0 : r = 0 := by omega
      subst r0
      refine ⟨_, rfl, ?_⟩
      rw [Nat.gcd_zero_right] at e
      rw [e]
      exact q
  · rintro σ H' Q1 Q2 hq ⟨v, e, i, j, e1, e2, k, e3, z⟩
    exact ⟨v, e, i, j, e1, e2, k, e3, hq _ _ z⟩
end
/-! ### kinds of values -/
inductive Typ (H : Hp) : V → String → Prop
  | non : Typ H .non "NoneType"
  | bl (x : Bool) : Typ H (.bl x) "bool"
  | int (i : Int) : Typ H (.int i) "int"
  | str (z : Str) : Typ H (.str z) "str"
  | lst {a : Addr} {xs : List V} : H a = some (.lst xs) → Typ H (.ref a) "list"
  | tup {a : Addr} {xs : List V} : H a = some (.tup xs) → Typ H (.ref a) "tuple"
theorem Typ.tyx {K : PySem.W.Frag} {H : Hp} {x : V} {t : String} (h : Typ H x t) : TyX K H x (.type t) := by
  cases h with
  | non => exact .base .non
  | bl x => exact .base (.bl x)
  | int i => exact .base (.int i)
  | str z => exact .base (.str z)
  | lst h => exact .base (.lst h)
  | tup h => exact .base (.tup h)
theorem Typ.same {H H' : Hp} {x : V} {t : String} (h : Typ H x t) (s : Same H H') : Typ H' x t := by
  cases h with
  | non => exact .non
  | bl x => exact .bl x
  | int i => exact .int i
  | str z => exact .str z
  | lst h => exact .lst (s _ _ h)
  | tup h => exact .tup (s _ _ h)
theorem OddV.typ {H : Hp} {b : Addr} {v : V} (h : OddV H b v) : ∃ t, Typ H v t ∧ t ≠ "int" := by
  cases h with
  | non => exact ⟨_, .non, by decide⟩
  | bl x => exact ⟨_, .bl x, by decide⟩
  | s0 => exact ⟨_, .str _, by decide⟩
  | s1 => exact ⟨_, .str _, by decide⟩
  | s2 => exact ⟨_, .str _, by decide⟩
  | s3 => exact ⟨_, .str _, by decide⟩
  | s4 => exact ⟨_, .str _, by decide⟩
  | t0 n h => exact ⟨_, .tup h, by decide⟩
  | t1 n h => exact ⟨_, .tup h, by decide⟩
  | l0 n h => exact ⟨_, .lst h, by decide⟩
  | l1 n h => exact ⟨_, .lst h, by decide⟩
def isIntV : V → Bool
  | .int _ => true
  | _ => false
end My
/-! rules within a comprehension: the written part given from outside -/
namespace NK
open PySem PySem.Spec PyProof.Rows L2
section
variable {X : Cx} {tg : Expr}
theorem pi_listK (K : PySem.W.Frag) (hK : X.K = K) {l : Expr} {tl : TE} (hl : PE X l tl) : PI X tg l (iList K tl) := by
  subst hK
  exact pi_list hl
theorem pi_tupK (K : PySem.W.Frag) (hK : X.K = K) {l : Expr} {tl : TE} (hl : PE X l tl) : PI X tg l (iTup K tl) := by
  subst hK
  exact pi_tup hl
theorem pe_joinK (K : PySem.W.Frag) (hK : X.K = K) {o e : Expr} {to te : TE} {apos pos : Pos} (ho : PE X o to) (he : PE X e te) (hs : starEach [e] X.env = [(false, eval e X.env)] := by rfl) (hbase : attributeBase o "join" X.env (eval o X.env) = eval o X.env := by rfl) (hline : (apos.endLine == pos.line) = true := by rfl) :
    PE X (.Call (.Attribute o "join" apos) [e] [] pos) (tM1 (fun x xs H Q => ∃ a p, ∃ ys : List Str, x = .str a ∧ xs = [.ref p] ∧ (SqL K H p (ys.map V.str) ∨ SqT K H p (ys.map V.str)) ∧
      (ys.map (·.length)).sum + ys.length * a.length ≤ 16777216 ∧ Q (.str (Txt.join a ys)) H) to te) := by
  subst hK
  exact pe_join ho he hs hbase hline
theorem call_lenK (K : PySem.W.Frag) (hK : X.K = K) : CallR X (.builtin "len") (fun xs H Q => ∃ x n, xs = [x] ∧ LenV K x H n ∧ Q (.int n) H) := by
  subst hK
  exact call_len
theorem cr_sumK (K : PySem.W.Frag) (hK : X.K = K) (hc : X.calm = true) : CallR X (.builtin "sum") (rSum K) := by
  subst hK
  exact cr_sum hc
theorem cr_allK (K : PySem.W.Frag) (hK : X.K = K) (hc : X.calm = true) : CallR X (.builtin "all") (rAll K) := by
  subst hK
  exact cr_all hc
theorem cr_anyK (K : PySem.W.Frag) (hK : X.K = K) (hc : X.calm = true) : CallR X (.builtin "any") (rAny K) := by
  subst hK
  exact cr_any hc
theorem call_tuple_ofK (K : PySem.W.Frag) (hK : X.K = K) : CallR X (.type "tuple") (fun xs H Q => ∃ p ys, xs = [.ref p] ∧ ((SqL K H p ys ∧ ∀ l, H l = none → Q (.ref l) (upd H l (.tup ys))) ∨ (SqT K H p ys ∧ Q (.ref p) H))) := by
  subst hK
  exact call_tuple_of
theorem call_list_ofK (K : PySem.W.Frag) (hK : X.K = K) : CallR X (.type "list") (fun xs H Q => ∃ p ys, xs = [.ref p] ∧ (SqL K H p ys ∨ SqT K H p ys) ∧ ∀ l, H l = none → Q (.ref l) (upd H l (.lst ys))) := by
  subst hK
  exact call_list_of
theorem pi_zipAK (K : PySem.W.Frag) (hK : X.K = K) {e e2 : Expr} {ta : TA} {p pos tpos : Pos} {elts : List Expr} {kk : Nat} (hg : Gl X "zip") (hm : X.mg "zip" = none) (ha : PA X [e, e2] ta)
    (hs : starEach [e, e2] X.env = (false, eval e X.env) :: starEach [e2] X.env := by rfl) (hpl : (backTo pos (starEach [e2] X.env)).any (·.1) = false := by rfl) :
    PI X (.Tuple elts kk tpos) (.Call (.Name "zip" p) [e, e2] [] pos) (RZ.iZipA K ta) := by
  subst hK
  exact RZ.pi_zipA hg hm ha hs hpl
theorem pi_enumK (K : PySem.W.Frag) (hK : X.K = K) {e : Expr} {ta : TA} {p pos tpos : Pos} {elts : List Expr} {kk : Nat} (hg : Gl X "enumerate") (hm : X.mg "enumerate" = none) (ha : PA X [e] ta) (hs : starEach [e] X.env = (false, eval e X.env) :: starEach [] X.env := by rfl) :
    PI X (.Tuple elts kk tpos) (.Call (.Name "enumerate" p) [e] [] pos) (iEnum K ta) := by
  subst hK
  exact pi_enum hg hm ha hs
end
end NK
/-! zip of a list and a tuple -/
namespace ZM
open PySem PySem.Spec PyProof.Rows L2
/-- the list at a and the tuple at b as they stand at each turn, the items in new pairs -/
def ItzM (K : PySem.W.Frag) (a b : Addr) : It where
  go := fun i H => ∃ (xs ys : List V), SqL K H a xs ∧ SqT K H b ys ∧ i < min xs.length ys.length
  yld := fun i H v H' => ∃ T x y, v = .ref T ∧ H T = none ∧ H' = upd H T (.tup [x, y]) ∧ (∀ xs, SqL K H a xs → xs[i]? = some x) ∧ ∀ ys, SqT K H b ys → ys[i]? = some y
  stop := fun i H => ∃ xs ys : List V, SqL K H a xs ∧ SqT K H b ys ∧ i = min xs.length ys.length
theorem four_five {c z TI TO i1 i2 : Addr} (m : c ∈ [z, TO, i1, i2]) : c ∈ [z, TI, TO, i1, i2] := by
  simp only [List.mem_cons, List.not_mem_nil, or_false] at m ⊢
  rcases m with h | h | h | h
  · exact .inl h
  · exact .inr (.inr (.inl h))
  · exact .inr (.inr (.inr (.inl h)))
  · exact .inr (.inr (.inr (.inr h)))
/-- how the iterator stands after i turns -/
def TnM (z TI TO i1 i2 a b : Addr) (i : Nat) (h : Heap) : Prop :=
  IsZip h z TI TO .none ∧ IsTupOf2 h TI (.ref i1) (.ref i2) ∧ (∃ a1 a2, IsTupOf2 h TO a1 a2) ∧ h.IsListIter i1 a i ∧ h.IsTupleIter i2 b i
theorem turn_zipM {P : Program} {w : World} {K : PySem.W.Frag} {elts : List Expr} {kk : Nat} {tpos : Pos} {a b z TI TO i1 i2 : Addr} (S : ZipSep2 z TI TO i1 i2 [i1, a] [i2, b]) :
    Turn P w K (.Tuple elts kk tpos) (ItzM K a b) [z, TI, TO, i1, i2] z (TnM z TI TO i1 i2 a b) := by
  have n1 : a ≠ i1 → True := fun _ => trivial
  refine ⟨by simp, fun i h st c hc => ?_, fun i h h' st k => ?_, ?_, ?_, fun A i s Q E st q => wpAny_pyIter_zip st.1 q⟩
  · obtain ⟨hz, hTI, ⟨x, y, hTO⟩, ⟨o1, e1, _, d1⟩, ⟨o2, e2, _, d2⟩⟩ := st
    simp only [List.mem_cons, List.not_mem_nil, or_false] at hc
    rcases hc with rfl | rfl | rfl | rfl | rfl
    · exact ⟨_, hz, fun v q => by cases q⟩
    · exact ⟨_, hTI, fun v q => by cases q⟩
    · exact ⟨_, hTO, fun v q => by cases q⟩
    · exact ⟨o1, e1, fun v q => by rw [d1] at q; cases q⟩
    · exact ⟨o2, e2, fun v q => by rw [d2] at q; cases q⟩
  · obtain ⟨hz, hTI, ⟨x, y, hTO⟩, h1, h2⟩ := st
    exact ⟨k z (by simp) _ hz, k TI (by simp) _ hTI, ⟨x, y, k TO (by simp) _ hTO⟩, h1.at (fun o q => k i1 (by simp) o q), h2.at (fun o q => k i2 (by simp) o q)⟩
  · intro X hP hw hK hc i pins s σ H E I hf st hg
    subst hP hw hK
    obtain ⟨hz, hTI, hTO, h1, h2⟩ := st
    obtain ⟨xs, ys, qx, qy, hi⟩ := hg
    obtain ⟨its, rv, p, _⟩ := I.list qx
    obtain ⟨its2, rv2, p2, _⟩ := I.tuple qy
    have l1 := rv.length
    have l2 := rv2.length
    have na : a ≠ i1 := fun e => by
      obtain ⟨o1, e1, c1, d1⟩ := h1
      obtain ⟨o2, e2, c2, _⟩ := p.isList
      rw [e, e1] at e2
      cases e2
      rw [c1] at c2
      injection c2 with c2
      exact absurd c2 (by decide)
    have nb : b ≠ i2 := fun e => by
      obtain ⟨o1, e1, c1, d1⟩ := h2
      obtain ⟨o2, e2, c2, _⟩ := p2
      rw [e, e1] at e2
      cases e2
      rw [c1] at c2
      injection c2 with c2
      exact absurd c2 (by decide)
    have W := WalksT.zipD2 S (Draws.list (prog := X.prog) (w := X.w) (A := X.A.in1) (I.ok.hd hc) i1 a na its.toArray) (Draws.tuple (prog := X.prog) (w := X.w) (A := X.A.in1) (I.ok.hd hc) i2 b nb its2.toArray)
    refine W.item i s _ _ (by simp only [List.size_toArray]; omega) ⟨hz, hTI, hTO, ⟨h1, p.isList⟩, ⟨h2, p2⟩⟩ fun T vals h' tk hv hT hTt mid hk => ?_
    obtain ⟨u, u2, hu, hu2, rfl⟩ := hv
    have hi1 : i < xs.length := by omega
    have hi2 : i < ys.length := by omega
    obtain ⟨v1, hv1, ru⟩ := rv.get (List.getElem?_eq_getElem hi1)
    obtain ⟨v2, hv2, ru2⟩ := rv2.get (List.getElem?_eq_getElem hi2)
    have ev1 : v1 = u := by
      have : its[i]? = some u := by simpa using hu
      rw [hv1] at this
      exact Option.some.inj this
    have ev2 : v2 = u2 := by
      have : its2[i]? = some u2 := by simpa using hu2
      rw [hv2] at this
      exact Option.some.inj this
    subst ev1 ev2
    refine ⟨_, rfl, W.go elts kk tpos i T { s with heap := h', toks := tk } _ _ mid fun h'' st'' hk2 => ?_⟩
    have hap := W.apart i T h' mid
    have hT2 : h''.IsTuple T #[v1, v2] := hTt.at fun o q => hk2 T o hap q
    have new : ObjOk X.prog X.w (upd H T (.tup [xs[i], ys[i]])) h'' T (.tup [xs[i], ys[i]]) := by
      obtain ⟨o, ho, hcl, n, hd⟩ := hT2
      exact ⟨by show 2 ≤ sizeLine; decide, [v1, v2], .cons ru (.cons ru2 .nil), ⟨o, ho, hcl, n, hd⟩⟩
    have I1 : Inv X pins σ (upd H T (.tup [xs[i], ys[i]])) { s with heap := h'', toks := tk } :=
      I.turnedNew (t' := tk) (ch := [z, TI, TO, i1, i2]) (fun c o hb q => hk2 c o (fun m => hb (four_five m)) (hk c o (fun m => hb (four_five m)) q)) hf hT new
    obtain ⟨m1, m2, m3, ⟨m4, _⟩, ⟨m5, _⟩⟩ := st''
    refine ⟨.ref T, _, I1, rfl, ⟨T, xs[i], ys[i], rfl, I.hok.fresh hT, rfl, fun l hl => ?_, fun l hl => ?_⟩, ⟨m1, m2, m3, m4, m5⟩, fun c hcm => ?_⟩
    · rw [I.list_inj hl qx]
      exact List.getElem?_eq_getElem hi1
    · rw [I.tuple_inj hl qy]
      exact List.getElem?_eq_getElem hi2
    · have hlt : c < s.heap.objs.size := by
        simp only [List.mem_cons, List.not_mem_nil, or_false] at hcm
        rcases hcm with rfl | rfl | rfl | rfl | rfl
        · exact Heap.lt_size hz
        · exact Heap.lt_size hTI
        · obtain ⟨_, _, hTO⟩ := hTO
          exact Heap.lt_size hTO
        · obtain ⟨_, e1, _⟩ := h1; exact Heap.lt_size e1
        · obtain ⟨_, e2, _⟩ := h2; exact Heap.lt_size e2
      rw [upd_ne (Nat.ne_of_lt (Nat.lt_of_lt_of_le hlt hT))]
      exact (hf c hcm).1
  · intro X hP hw hK hc i pins s σ H E I hf st hg
    subst hP hw hK
    obtain ⟨hz, hTI, hTO, h1, h2⟩ := st
    obtain ⟨xs, ys, qx, qy, hi⟩ := hg
    obtain ⟨its, rv, p, _⟩ := I.list qx
    obtain ⟨its2, rv2, p2, _⟩ := I.tuple qy
    have l1 := rv.length
    have l2 := rv2.length
    have na : a ≠ i1 := fun e => by
      obtain ⟨o1, e1, c1, d1⟩ := h1
      obtain ⟨o2, e2, c2, _⟩ := p.isList
      rw [e, e1] at e2
      cases e2
      rw [c1] at c2
      injection c2 with c2
      exact absurd c2 (by decide)
    have nb : b ≠ i2 := fun e => by
      obtain ⟨o1, e1, c1, d1⟩ := h2
      obtain ⟨o2, e2, c2, _⟩ := p2
      rw [e, e1] at e2
      cases e2
      rw [c1] at c2
      injection c2 with c2
      exact absurd c2 (by decide)
    have W := WalksT.zipD2 S (Draws.list (prog := X.prog) (w := X.w) (A := X.A.in1) (I.ok.hd hc) i1 a na its.toArray) (Draws.tuple (prog := X.prog) (w := X.w) (A := X.A.in1) (I.ok.hd hc) i2 b nb its2.toArray)
    have ei : i = min its.toArray.size its2.toArray.size := by simp only [List.size_toArray]; omega
    subst ei
    refine W.done s _ _ ⟨hz, hTI, hTO, ⟨h1, p.isList⟩, ⟨h2, p2⟩⟩ fun h' tk hk => ⟨rfl, ?_⟩
    exact I.turnedL (t' := tk) (ch := [z, TI, TO, i1, i2]) (fun c o hb q => hk c o (fun m => hb (four_five m)) q) hf
def iZipM (K : PySem.W.Frag) (ta : TA) : TI := fun σ H R => ta σ H fun vs H1 => ∃ a b xs ys, vs = [.ref a, .ref b] ∧ SqL K H1 a xs ∧ SqT K H1 b ys ∧ R (ItzM K a b) H1
theorem pi_zipM {X : Cx} (K : PySem.W.Frag) (hK : X.K = K) {e e2 : Expr} {ta : TA} {p pos tpos : Pos} {elts : List Expr} {kk : Nat} (hg : Gl X "zip") (hm : X.mg "zip" = none) (ha : PA X [e, e2] ta)
    (hs : starEach [e, e2] X.env = (false, eval e X.env) :: starEach [e2] X.env := by rfl) (hpl : (backTo pos (starEach [e2] X.env)).any (·.1) = false := by rfl) :
    PI X (.Tuple elts kk tpos) (.Call (.Name "zip" p) [e, e2] [] pos) (iZipM K ta) := by
  subst hK
  constructor
  intro pins s σ H R I h
  refine Call_ (ld_blt I hg hm PyProof.Rows.boot_zip (PyProof.Rows.callWith_type1 (thn (ha.run pos pins s σ H _ I h) fun us s1 ⟨vs, H1, I1, r1, q1⟩ => ?_) hs hpl))
  obtain ⟨a, b, xs, ys, ex, qx, qy, q⟩ := q1
  subst ex
  cases r1 with
  | cons r rr =>
    cases rr with
    | cons r' rr =>
      cases rr
      cases r
      cases r'
      obtain ⟨its, rv, p1, _⟩ := I1.list qx
      obtain ⟨its2, rv2, p2, _⟩ := I1.tuple qy
      obtain ⟨o2, ho2, _⟩ := id p2
      have la : a < s1.heap.objs.size := p1.lt
      have lb : b < s1.heap.objs.size := Heap.lt_size ho2
      refine zip_begins2 (begins_list a its.toArray) (begins_tuple b its2.toArray) p1.isList p2 fun h' hz hTI hTO h1 h2 hsz hk => wpAny_pyIter_zip hz ?_
      have I2 : Inv X pins σ H1 { s1 with heap := h' } := I1.kept (t' := s1.toks) hk
      refine ⟨s1.heap.objs.size + 4, [s1.heap.objs.size + 4, s1.heap.objs.size + 2, s1.heap.objs.size + 3, s1.heap.objs.size, s1.heap.objs.size + 1], _, _, H1, rfl, I2,
        turn_zipM (zip_sep2 (N := s1.heap.objs.size) (fp1 := [a]) (fp2 := [b]) (fun c hc => by rw [List.mem_singleton.mp hc]; exact la) (fun c hc => by rw [List.mem_singleton.mp hc]; exact lb)), ⟨hz, hTI, ⟨_, _, hTO⟩, ⟨_, h1, rfl, rfl⟩, ⟨_, h2, rfl, rfl⟩⟩, fun c hcm => ?_, q⟩
      have hle : s1.heap.objs.size ≤ c := by
        have e' : c = s1.heap.objs.size + 4 ∨ c = s1.heap.objs.size + 2 ∨ c = s1.heap.objs.size + 3 ∨ c = s1.heap.objs.size ∨ c = s1.heap.objs.size + 1 := by simpa using hcm
        rcases e' with z | z | z | z | z
        · rw [z]; exact Nat.le_add_right _ _
        · rw [z]; exact Nat.le_add_right _ _
        · rw [z]; exact Nat.le_add_right _ _
        · rw [z]; exact Nat.le_refl _
        · rw [z]; exact Nat.le_add_right _ _
      exact I1.fpOk hle (I1.hok.fresh hle)
theorem walk_zipM {K : PySem.W.Frag} {a b : Addr} {xs ys : List V} {n : Nat} (hn : n = min xs.length ys.length) : Walk (ItzM K a b) n (fun H => SqL K H a xs ∧ SqT K H b ys) (YPair (fun i => xs[i]?) (fun i => ys[i]?)) := by
  subst hn
  refine ⟨fun i _ hi q => ⟨xs, ys, q.1, q.2, hi⟩, fun _ q => ⟨xs, ys, q.1, q.2, rfl⟩, fun i H v H' _ q y => ?_⟩
  obtain ⟨T, x, z, h1, h2, h3, h4, h5⟩ := y
  exact ⟨T, x, z, h1, h2, h3, h4 xs q.1, h5 ys q.2⟩
end ZM
/-! own classes: static methods, properties, ==, repr, bool -/
namespace OwO
open PySem PySem.Spec PyProof.Rows L2
/-- C.m is a static method: its record at p, its def at g -/
structure CStat (K : PySem.W.Frag) (C : Addr) (mc : Value) (m : Str) (p g : Addr) : Prop where
  at_ : PySem.W.findCls K (.ref C) mc m = some (.get (.builtin "staticmethod.__get__") (.ref p) .none (.ref C))
  rc : ∃ rest, PySem.W.recIn K p "staticmethod" = some (.ref g :: rest)
/-- a special method of the class at C: a def of it -/
structure Spc (K : PySem.W.Frag) (C : Addr) (m : Str) (f : Addr) : Prop where
  at_ : PySem.W.findIn K (.ref C) m = some (some (.ref f))
  fn : PySem.W.isFn K (.ref f) = true
def tStat (C : Addr) (sp : Sp) (dvs : List V) (E : XK) (ta : TE) (t : TA) : TE := fun σ H Q => ta σ H fun x H1 => x = .ref C ∧ t σ H1 fun vs H2 => sp (vs ++ dvs) H2 Q E
section
variable {X : Cx} {pins : List (Addr × Obj)} {σ : L2.St} {H : Hp} {s : Shared}
theorem getmethst_ok {C p g : Addr} {mc : Value} {m : Str} {pl : Sem Bool} {A : Around} {E : Value → Shared → Prop} {Q : Value × List Value → Shared → Prop} (I : Inv X pins σ H s) (r : ClX.CRead X.K C mc) (k : CStat X.K C mc m p g)
    (h : ∀ s', Inv X pins σ H s' → Q (.ref g, []) s') : wpAny (model X.prog X.w) A (getMethod (.ref C) m pl) Q E s := by
  obtain ⟨rest, hp⟩ := k.rc
  refine PySem.W.method_cls I.kIn r.ga (PySem.W.cls_bind I.kIn r.rd k.at_ ?_)
  exact wpAny_call (PySem.W.sm_get (s := { s with toks := s.toks + 1 }) I.kIn hp (PySem.W.handed_on rfl (h _ (I.tok _))))
end
section
variable {X : Cx} {CX : CXT} {k : Nat} {C p g : Addr} {mc : Value} {fd : FuncData} {ps : List Str} {ds : List Value} {dvs : List V} {sp : Sp} {E : XK} {o e : Expr} {es : List Expr} {m : Str} {pos apos : Pos} {ta : TE} {t : TA} {pl : Sem Bool}
/-- C.m() -/
theorem pe_stat0 (he : PE X o ta) (r : ClX.CRead X.K C mc) (c : CStat X.K C mc m p g) (F : FnOk X.prog X.w X.K X.mg X.base CX k g fd ps sp) (hr : Room k X.A) (hk : PySem.W.keepIn X.K (.ref g) = true) (hb : Binds X.K fd ps ds) (hd : Vals dvs ds) (hx : Passes CX X E)
    (ht : eval (.Call (.Attribute o m apos) [] [] pos) X.env = (do
      let ov ← eval o X.env
      standAt apos.atName
      let (f, first) ← holding [ov] (getMethod ov m pl)
      callWith pos f first (backTo pos (starEach [] X.env)) (backToKw pos (keywordEach [] X.env))) := by rfl) :
    PE X (.Call (.Attribute o m apos) [] [] pos) (tStat C sp dvs E ta tNil) := by
  refine ⟨fun pins s σ H Q I h => ?_⟩
  refine PySem.W.methodCall_KW (pl := pl) (thn (he.run pins s σ H _ I h) fun u s1 ⟨x, H1, I1, rx, ex, q⟩ => ?_) ht
  subst ex
  obtain rfl : u = Value.ref C := rx
  refine getmethst_ok I1 r c fun s2 I2 => ?_
  exact PySem.W.callWith_K0 I2.kIn hk (run_fn F hr hb hd hx I2 .nil q)
/-- C.m(e, ..) -/
theorem pe_stat (he : PE X o ta) (r : ClX.CRead X.K C mc) (c : CStat X.K C mc m p g) (F : FnOk X.prog X.w X.K X.mg X.base CX k g fd ps sp) (hr : Room k X.A) (hk : PySem.W.keepIn X.K (.ref g) = true) (hb : Binds X.K fd ps ds) (hd : Vals dvs ds) (hx : Passes CX X E) (ha : PA X (e :: es) t)
    (hst : starEach (e :: es) X.env = (false, eval e X.env) :: starEach es X.env := by rfl) (hpl : (backTo pos (starEach es X.env)).any (·.1) = false := by rfl)
    (ht : eval (.Call (.Attribute o m apos) (e :: es) [] pos) X.env = (do
      let ov ← eval o X.env
      standAt apos.atName
      let (f, first) ← holding [ov] (getMethod ov m pl)
      callWith pos f first (backTo pos (starEach (e :: es) X.env)) (backToKw pos (keywordEach [] X.env))) := by rfl) :
    PE X (.Call (.Attribute o m apos) (e :: es) [] pos) (tStat C sp dvs E ta t) := by
  refine ⟨fun pins s σ H Q I h => ?_⟩
  refine PySem.W.methodCall_KW (pl := pl) (thn (he.run pins s σ H _ I h) fun u s1 ⟨x, H1, I1, rx, ex, q⟩ => ?_) ht
  subst ex
  obtain rfl : u = Value.ref C := rx
  refine getmethst_ok I1 r c fun s2 I2 => ?_
  refine PySem.W.callWith_K (h₀ := X.base) I2.ok.mod.kin hk (thn (ha.run pos pins s2 σ H1 _ I2 q) fun us s3 ⟨vs, H2, I3, rv, q2⟩ => ⟨I3.kIn, ?_⟩) hst hpl
  exact run_fn F hr hb hd hx I3 rv q2
end
/-! ### what an own special method answers -/
section
variable {X : Cx} {K0 : PySem.W.Frag} {k : Nat} {C f : Addr} {fd : FuncData} {ps : List Str} {sp : Sp}
/-- repr(o) -/
theorem cr_repr {m : Str} (hm : m = "__repr__") (S : Spc X.K C m f) (F : FnOk X.prog X.w X.K X.mg X.base CX0 k f fd ps sp) (hb : Binds X.K fd ps []) (hr : Room (k + 1) X.A) :
    CallR X (.builtin "repr") (fun xs H Q => ∃ a dx fs, xs = [.ref a] ∧ H a = some (.ins C dx fs) ∧ sp [.ref a] H (fun v H' => ∃ z : Str, v = .str z ∧ Q (.str z) H') E0) := by
  subst hm
  intro pins s σ H xs us Q I r h
  obtain ⟨a, dx, fs, rfl, ha, hsp⟩ := h
  obtain rfl := Vals.ref1 r
  obtain ⟨mA, J, _⟩ := ins_get I.hok ha
  obtain ⟨od, J, _⟩ := J.look
  obtain ⟨m, hF⟩ := I.fr
  have hl := F.len _ _ _ _ hsp
  refine PySem.W.repr_K hr.in1.units0 hF I.ok.mod.kin J S.at_ S.fn ?_
  refine wpAny_call (codeAny_mono (F.run X.A.in1 X.stack s H ⟨[.ref a], []⟩ [.ref a] [.ref a] _ E0 hr.in1 I.env0.in1 (hb s [.ref a] I.kIn (by simpa using hl)) (.cons rfl .nil) hsp) fun r s' hq => ?_)
  cases r with
  | error e => exact (show False from hq).elim
  | ok fl =>
    cases fl with
    | ret w =>
      obtain ⟨v, H', I', rv, z, rfl, q⟩ := I.after hq
      obtain ⟨t, rfl⟩ := rv
      exact ⟨.str z, H', I', ⟨t, rfl⟩, q⟩
    | next => exact False.elim hq
    | brk => exact False.elim hq
    | cont => exact False.elim hq
/-- bool(o), by an own __bool__ -/
theorem call_boolK {prog : Program} {w : World} {A : Around} {E : Value → Shared → Prop} {s : Shared} {K : PySem.W.Frag} {L x C f : Addr} {h₀ : Heap} {mm : Str → Option Value} {ox : Obj} {od : Option Obj} {Q : Value → Shared → Prop} (F : Fr h₀ L s.heap mm) (X₀ : K.In h₀) (I : PySem.W.InstAt s.heap x ox C od)
    (hs : PySem.W.findIn K (.ref C) "__bool__" = some (some (.ref f))) (hf : PySem.W.isFn K (.ref f) = true) (h : wpAny (model prog w) A.in1.in1 (call (.ref f) [.ref x]) (PySem.W.BoolBack fun b => Q (.bool b)) E s) : wpAny (model prog w) A (call (.type "bool") [.ref x]) Q E s := by
  refine callType_codes (T := "bool") (Bi := Builtin.«object.__init__») (Q₁ := fun r s₁ => ∃ b, r = .bool b ∧ Q r s₁) PySem.F.called_bool (PySem.F.typeCall_bool_1 _) PySem.F.entry_object_init ?_ ?_
  · refine codeAny_of_tree ?_
    show wpAny _ A.in1.in1 (do checkBuiltinCall "bool.__new__" ⟨[.type "bool", .ref x], []⟩; again (.builtin "bool.__new__" ⟨[.type "bool", .ref x], []⟩)) _ _ s
    refine wpAny_bind (wpAny_of_eq (PySem.F.newCall_bool_1 _) (wpAny_pure ⟨plainId_quiet (by decide +kernel) _, codeAny_builtin PySem.F.entry_bool_new ?_⟩))
    rw [Around.under_plainId (by decide +kernel) _]
    unfold Builtin.«bool.__new__»
    have f1 := PySem.F.conv_sub_bool
    have key : wpAny (model prog w) A.in1.in1 (truthy (.ref x)) (fun b s₁ => Q (.bool b) s₁) E s := PySem.W.truthy_K F X₀ I hs hf h
    obtain ⟨hp, g, d, tk, os⟩ := s
    repeat (any_goals (first | assumption | (with_reducible refine wpAny_bind (wpAny_mono key (fun b s₁ hq => ?_) fun _ _ y => y)) | wp_step))
    all_goals first | exact ⟨_, rfl, _, rfl, hq⟩ | exact ⟨_, rfl, hq⟩ | exact hq | skip
  · rintro obj s₁ ⟨b, rfl, hq⟩
    exact ⟨rfl, PySem.F.args_object_init_2 _ _, object_init_meets PySem.F.called_bool.init.lookup PySem.F.called_bool.made (by decide) prog w A.in1 _ s₁ ⟨rfl, rfl, hq⟩⟩
theorem ct_bool {m : Str} (hm : m = "__bool__") (S : Spc X.K C m f) (F : FnOk X.prog X.w X.K X.mg X.base CX0 k f fd ps sp) (hb : Binds X.K fd ps []) (hr : Room (k + 2) X.A) :
    CallR X (.type "bool") (fun xs H Q => ∃ a dx fs, xs = [.ref a] ∧ H a = some (.ins C dx fs) ∧ sp [.ref a] H (fun v H' => ∃ b : Bool, v = .bl b ∧ Q (.bl b) H') E0) := by
  subst hm
  intro pins s σ H xs us Q I r h
  obtain ⟨a, dx, fs, rfl, ha, hsp⟩ := h
  obtain rfl := Vals.ref1 r
  obtain ⟨mA, J, _⟩ := ins_get I.hok ha
  obtain ⟨od, J, _⟩ := J.look
  obtain ⟨m, hF⟩ := I.fr
  have hl := F.len _ _ _ _ hsp
  refine call_boolK hF I.ok.mod.kin J S.at_ S.fn ?_
  refine wpAny_call (codeAny_mono (F.run X.A.in1.in1 X.stack s H ⟨[.ref a], []⟩ [.ref a] [.ref a] _ E0 hr.in1.in1 I.env0.in1.in1 (hb s [.ref a] I.kIn (by simpa using hl)) (.cons rfl .nil) hsp) fun r s' hq => ?_)
  cases r with
  | error e => exact (show False from hq).elim
  | ok fl =>
    cases fl with
    | ret w =>
      obtain ⟨v, H', I', rv, z, rfl, q⟩ := I.after hq
      cases rv
      exact ⟨.bl z, H', I', rfl, q⟩
    | next => exact False.elim hq
    | brk => exact False.elim hq
    | cont => exact False.elim hq
/-- o == y, by an own __eq__ (y no instance of a class below o's) -/
def rEqO (K : PySem.W.Frag) (C : Addr) (sp : Sp) : R2 := fun x y H Q => ∃ a dx fs t, x = .ref a ∧ H a = some (.ins C dx fs) ∧ TyX K H y t ∧ PySem.W.notFirst K C t = true ∧ sp [.ref a, y] H (fun v H' => ∃ b : Bool, v = .bl b ∧ Q (.bl b) H') E0
theorem op_eqO {m : Str} (hm : m = "__eq__") (S : Spc X.K C m f) (F : FnOk X.prog X.w X.K X.mg X.base CX0 k f fd ps sp) (hb : Binds X.K fd ps []) (hr : Room k X.A) (hK : X.K = K0) : OpR X (compareOp .Eq) (rEqO K0 C sp) := by
  subst hm hK
  intro pins s σ H x y u v Q I rx ry h
  obtain ⟨a, dx, fs, t, rfl, ha, ty, hn, hsp⟩ := h
  obtain rfl : u = Value.ref a := rx
  obtain ⟨mA, J, _⟩ := ins_get I.hok ha
  obtain ⟨od, J, _⟩ := J.look
  obtain ⟨m, hF⟩ := I.fr
  obtain ⟨P, kx, hP, _⟩ := kit_of I ry ty
  have hl := F.len _ _ _ _ hsp
  show wpAny _ _ (richCompare .Eq (.ref a) v) _ _ _
  refine PySem.W.cmp_K (op := .Eq) hr.units0 hF I.ok.mod.kin J (kx.ty _ _ I.kIn hP) hn S.at_ S.fn ?_
  refine wpAny_call (codeAny_mono (F.run X.A X.stack s H ⟨[.ref a, v], []⟩ [.ref a, v] [.ref a, y] _ E0 hr I.env0 (by
    have z := hb s [.ref a, v] I.kIn (by simpa using hl)
    simpa using z) (.cons rfl (.cons ry .nil)) hsp) fun r s' hq => ?_)
  cases r with
  | error e => exact (show False from hq).elim
  | ok fl =>
    cases fl with
    | ret w =>
      obtain ⟨z, H', I', rv, b, rfl, q⟩ := I.after hq
      cases rv
      exact ⟨.bl b, H', I', rfl, q⟩
    | next => exact False.elim hq
    | brk => exact False.elim hq
    | cont => exact False.elim hq
end
end OwO
/-! a list comprehension of any number of clauses -/
namespace LcN
open PySem PySem.Spec PyProof.Rows L2
theorem turn_more {elt tg it tg1 it1 : Expr} {ifs ifs1 : List Expr} {gens : List Comprehension} {scope : Scope} {pos : Pos} {d : Nat} {itv acc : Value} {env : Env} (h : gens[d]? = some ⟨tg, it, ifs, 0⟩) (h1 : gens[d + 1]? = some ⟨tg1, it1, ifs1, 0⟩) :
    compTurn (.ListComp elt gens scope pos) d itv acc env = (do
      standAt it.pos
      match ← pyNext itv with
      | none => pure (.done .next)
      | some v =>
        letOwnedTupleGo tg itv v
        assign tg env v
        let mut ok := true
        for c in ifs do
          if ok then ok ← isTrue c env (eval c env)
        if ok then
          let x ← eval it1 env
          standAt it1.pos
          let x ← foldedSetIterable it1 env x
          let _ ← runOwn (.compStart (.ListComp elt gens scope pos) (d + 1) (← holding [x] (pyIter x)) acc env) env
        again (.compLoop (.ListComp elt gens scope pos) d itv acc env)) := by
  unfold compTurn
  simp only [h, h1]
  rfl
theorem turn_last {elt tg it : Expr} {ifs : List Expr} {gens : List Comprehension} {scope : Scope} {pos : Pos} {d : Nat} {itv acc : Value} {env : Env} (h : gens[d]? = some ⟨tg, it, ifs, 0⟩) (h1 : gens[d + 1]? = none) :
    compTurn (.ListComp elt gens scope pos) d itv acc env = (do
      standAt it.pos
      match ← pyNext itv with
      | none => pure (.done .next)
      | some v =>
        letOwnedTupleGo tg itv v
        assign tg env v
        let mut ok := true
        for c in ifs do
          if ok then ok ← isTrue c env (eval c env)
        if ok then
          (do let _ ← call (.builtin "list.append") [acc, ← eval elt env])
        again (.compLoop (.ListComp elt gens scope pos) d itv acc env)) := by
  unfold compTurn
  simp only [h, h1]
  rfl

section
variable {prog : Program} {w : World} {A : Around} {R : Result → Shared → Prop} {s : Shared} {elt tg it tg1 it1 : Expr} {ifs ifs1 : List Expr} {gens : List Comprehension} {scope : Scope} {pos : Pos} {d : Nat} {itv acc : Value} {env : Env}
/-- what is done behind the tests of clause d -/
abbrev innerP (elt : Expr) (gens : List Comprehension) (scope : Scope) (pos : Pos) (d : Nat) (acc : Value) (env : Env) : Sem Unit := match gens[d + 1]? with
        | some g' => do
          let x ← eval g'.iter env
          standAt g'.iter.pos
          let x ← if g'.is_async != 0 then foldedIterable g'.iter x else foldedSetIterable g'.iter env x
          let _ ← runOwn (.compStart (.ListComp elt gens scope pos) (d + 1) (← holding [x] (if g'.is_async != 0 then asyncIter x else pyIter x)) acc env) env
        | none => do let _ ← call (.builtin "list.append") [acc, ← eval elt env]
abbrev testsOf (ifs : List Expr) (env : Env) : Sem Bool := forIn ifs true fun c r => if r = true then do let ok ← isTrue c env (eval c env); pure (ForInStep.yield ok) else pure (ForInStep.yield r)
/-- one clause's loop: what is done behind its tests is told by In -/
theorem loop_by (In : (Shared → Prop) → Shared → Prop) (hIn : ∀ (Q : Shared → Prop) (s : Shared) (E : Value → Shared → Prop), In Q s → wpAny (model prog w) A (match gens[d + 1]? with
        | some g' => do
          let x ← eval g'.iter env
          standAt g'.iter.pos
          let x ← if g'.is_async != 0 then foldedIterable g'.iter x else foldedSetIterable g'.iter env x
          let _ ← runOwn (.compStart (.ListComp elt gens scope pos) (d + 1) (← holding [x] (if g'.is_async != 0 then asyncIter x else pyIter x)) acc env) env
        | none => do let _ ← call (.builtin "list.append") [acc, ← eval elt env]) (fun _ s' => Q s') E s)
    (hd : gens[d]? = some ⟨tg, it, ifs, 0⟩) (hg : gens[d + 1]? = none ∨ ∃ tg1 it1 ifs1, gens[d + 1]? = some ⟨tg1, it1, ifs1, 0⟩) (Iv : Nat → Shared → Prop)
    (turn : ∀ n s, Iv n s → wpAny (model prog w) A (pyNext itv) (fun r s₁ => match r with
      | none => R (.ok .next) s₁
      | some v => wpAny (model prog w) A (letOwnedTupleGo tg itv v) (fun _ s₂ => wpAny (model prog w) A (assign tg env v) (fun _ s₃ => wpAny (model prog w) A (testsOf ifs env) (fun ok s₄ =>
          if ok = true then In (fun s₅ => ∃ m, m < n ∧ Iv m s₅) s₄ else ∃ m, m < n ∧ Iv m s₄) (fun _ _ => False) s₃) (fun _ _ => False) s₂) (fun _ _ => False) s₁) (fun _ _ => False) s)
    (n : Nat) (h : Iv n s) : codeAny (model prog w) A (.compLoop (.ListComp elt gens scope pos) d itv acc env) R s := by
  refine codeAny_loop rfl Iv (fun n s hI => ?_) n h
  show wpAny _ A ((compTurn (.ListComp elt gens scope pos) d itv acc env).onRaise (fun x => do noteFrame x env; theTreesLotGoes x)) _ _ s
  refine wpAny_noted ?_
  unfold compTurn
  simp only [hd]
  have no : ∀ {α : Type} {t : Sem α} {Q Q' : α → Shared → Prop} {E : Value → Shared → Prop} {s : Shared}, wpAny (model prog w) A t Q (fun _ _ => False) s → (∀ a s, Q a s → Q' a s) → wpAny (model prog w) A t Q' E s := fun h hq => wpAny_mono h hq fun _ _ z => z.elim
  refine wpAny_bind (wpAny_standAt (wpAny_bind (no (turn n s hI) fun r s₁ h₁ => ?_)))
  cases r with
  | none => exact wpAny_pure h₁
  | some v =>
    refine wpAny_bind (no h₁ fun _ s₂ h₂ => wpAny_bind (no h₂ fun _ s₃ h₃ => wpAny_bind (no h₃ fun ok s₄ h₄ => ?_)))
    cases ok with
    | false => exact wpAny_pure ⟨rfl, h₄⟩
    | true =>
      have z := hIn _ s₄ (notedBy (model prog w) A env fun x s' => R (.error x) s') h₄
      rcases hg with hg | ⟨tg1, it1, ifs1, hg⟩
      · rw [hg] at z ⊢
        exact wpAny_bind (wpAny_mono z (fun _ s' h' => wpAny_pure ⟨rfl, h'⟩) fun _ _ h' => h')
      · rw [hg] at z ⊢
        have z2 := wpAny_bind (f := fun _ => (again (.compLoop (.ListComp elt gens scope pos) d itv acc env) : Sem PySem.Fin)) (wpAny_mono z (fun _ s' h' => wpAny_pure (Q := fun (fin : PySem.Fin) s' => match fin with | .done f => R (.ok f) s' | .again c' => c' = Code.compLoop (.ListComp elt gens scope pos) d itv acc env ∧ ∃ m, m < n ∧ Iv m s') ⟨rfl, h'⟩) fun _ _ h' => h')
        simp only [bind_assoc, pure_bind, if_true, bne_self_eq_false, Bool.false_eq_true, if_false] at z2 ⊢
        exact z2
end
/-- a clause's inner part, at its slots and heap: the list at D, what is to be reached -/
abbrev TC := L2.St → Hp → Addr → (Hp → Prop) → Prop
structure Inner (Y : Cx) (elt : Expr) (gens : List Comprehension) (scope : Scope) (pos : Pos) (d : Nat) (tC : TC) (ws : List Nat) : Prop where
  run : ∀ (pins : List (Addr × Obj)) (s : Shared) (σ : L2.St) (H : Hp) (D : Addr) (Nx : Hp → Prop) (E : Value → Shared → Prop), Inv Y pins σ H s → tC σ H D Nx →
    wpAny (model Y.prog Y.w) Y.A (innerP elt gens scope pos d (.ref D) Y.env) (fun _ s' => ∃ H', Inv Y pins (wipe σ ws) H' s' ∧ Nx H') E s
def tEmit (te : TE) : TC := fun σ H D Nx => te σ H fun y H4 => ∃ acc, H4 D = some (.lst acc) ∧ acc.length < sizeLine ∧ Nx (upd H4 D (.lst (acc ++ [y])))
def tClause (wi : TI) (g : TG) (tt : TT) (tC : TC) (vs : List Nat) : TC := fun σ H D Nx => wi σ H fun J H1 => ∃ W : Nat → Nat → Hp → Prop, (∃ m, W 0 m H1) ∧ ∀ j k H, W j k H →
  (J.stop j H ∧ Nx H) ∨ (J.go j H ∧ ∃ Nx1 : Hp → Prop, (∀ H', Nx1 H' → ∃ k', k' < k ∧ W (j + 1) k' H') ∧ ∀ x H', J.yld j H x H' → g x (wipe σ vs) H' fun σ3 H5 => wipe σ3 vs = wipe σ vs ∧ tt σ3 H5 fun b H6 => if b = true then tC σ3 H6 D Nx1 else Nx1 H6)
section
variable {Y : Cx} {elt tg it tg1 it1 : Expr} {ifs ifs1 : List Expr} {gens : List Comprehension} {scope : Scope} {pos : Pos} {d : Nat} {te : TE} {tC : TC} {ws vs : List Nat} {wi : TI} {g : TG} {tt : TT}
theorem out_of {α : Type} {M : Model} {A : Around} {t : Sem α} {Q : α → Shared → Prop} {E E' : Value → Shared → Prop} {s : Shared} (hE : E = fun _ _ => False) (h : wpAny M A t Q E s) : wpAny M A t Q E' s := by
  subst hE
  exact wpAny_mono h (fun _ _ q => q) fun _ _ z => z.elim
theorem inner_last (hxe : Y.xe = fun _ _ => False) (hg : gens[d + 1]? = none) (he : PE Y elt te) : Inner Y elt gens scope pos d (tEmit te) [] := by
  constructor
  intro pins s σ H D Nx E I h
  unfold innerP
  rw [hg]
  refine wpAny_bind (out_of hxe (thn (he.run pins s σ H _ I h) fun z s1 hz => ?_))
  obtain ⟨y, H4, I4, r, acc, hD, hl, nx⟩ := hz
  exact wpAny_bind (app_ok I4 hD hl r fun s2 I5 => wpAny_pure ⟨_, I5, nx⟩)
theorem clause_loop (hxe : Y.xe = fun _ _ => False) (hc : Y.calm = true) (hd : gens[d]? = some ⟨tg, it, ifs, 0⟩) (hg : gens[d + 1]? = none ∨ ∃ tg1 it1 ifs1, gens[d + 1]? = some ⟨tg1, it1, ifs1, 0⟩) (pg : PG Y tg g) (pt : PTs Y ifs tt) (In : Inner Y elt gens scope pos d tC ws)
    (hws : ∀ j ∈ ws, j ∈ vs) {itv D : Addr} {fp : List Addr} {tn : Nat → Heap → Prop} {J : It} (T : Turn Y.prog Y.w Y.K tg J fp itv tn) {pins : List (Addr × Obj)} {s : Shared} {σ : L2.St} {H : Hp} {Nx : Hp → Prop} {W : Nat → Nat → Hp → Prop} {m : Nat} (I : Inv Y pins σ H s) (st : tn 0 s.heap) (f : ∀ b ∈ fp, FpOk Y pins H b)
    (w0 : W 0 m H) (turn : ∀ j k H, W j k H → (J.stop j H ∧ Nx H) ∨ (J.go j H ∧ ∃ Nx1 : Hp → Prop, (∀ H', Nx1 H' → ∃ k', k' < k ∧ W (j + 1) k' H') ∧ ∀ x H', J.yld j H x H' → g x (wipe σ vs) H' fun σ3 H5 => wipe σ3 vs = wipe σ vs ∧ tt σ3 H5 fun b H6 => if b = true then tC σ3 H6 D Nx1 else Nx1 H6)) :
    codeAny (model Y.prog Y.w) Y.A (.compLoop (.ListComp elt gens scope pos) d (.ref itv) (.ref D) Y.env) (fun r s' => match r with | .ok f => f = .next ∧ ∃ H', Inv Y pins (wipe σ vs) H' s' ∧ Nx H' | .error _ => False) s := by
  have stat : ∀ {H' : Hp}, (∀ b ∈ fp, H' b = none) → ∀ b ∈ fp, FpOk Y pins H' b := fun hn b hb => ⟨hn b hb, (f b hb).2⟩
  refine loop_by (fun Q s => ∃ (pins : List (Addr × Obj)) (σ3 : L2.St) (H6 : Hp) (Nx1 : Hp → Prop), Inv Y pins σ3 H6 s ∧ tC σ3 H6 D Nx1 ∧ ∀ s' H', Inv Y pins (wipe σ3 ws) H' s' → Nx1 H' → Q s')
    (fun Q s E ⟨pn, σ3, H6, Nx1, I6, h6, k⟩ => wpAny_mono (In.run pn s σ3 H6 D Nx1 E I6 h6) (fun _ s' ⟨H', I', n'⟩ => k s' H' I' n') fun _ _ z => z) hd hg
    (fun n s' => ∃ j H', Inv Y pins (wipe σ vs) H' s' ∧ tn j s'.heap ∧ (∀ b ∈ fp, H' b = none) ∧ W j n H') ?_ m ⟨0, H, I.weak (wipe_length _ _) (fun j v e => (wipe_some e).1), st, fun b hb => (f b hb).1, w0⟩
  rintro n s1 ⟨j, H1, I1, st1, n1, w1⟩
  rcases turn j n H1 w1 with ⟨stop, nx⟩ | ⟨go, Nx1, hN, step⟩
  · refine thnF (T.done Y rfl rfl rfl hc j pins s1 _ H1 (fun _ _ => False) I1 (stat n1) st1 stop) fun r s2 ⟨hr, I2⟩ => ?_
    subst hr
    exact ⟨rfl, H1, I2, nx⟩
  · refine thnF (T.item Y rfl rfl rfl hc j pins s1 _ H1 (fun _ _ => False) I1 (stat n1) st1 go) fun r s2 ⟨u, hr, h2⟩ => ?_
    subst hr
    refine thnF h2 fun _ s3 ⟨x, H3, I3, r3, y3, st3, n3⟩ => ?_
    have I3' := I3.pinned (stat n3) (T.obj _ _ st3)
    refine out_of hxe (thn (pg.run _ s3 _ H3 x u _ I3' r3 (step x H3 y3)) fun _ s4 h4 => ?_)
    obtain ⟨σ4, H4, I4, hw4, q4⟩ := h4
    refine out_of hxe (thn (pt.run _ s4 σ4 H4 _ I4 q4) fun b s5 h5 => ?_)
    obtain ⟨H5, I5, q5⟩ := h5
    have back : ∀ {σ5 : L2.St} {s' : Shared} {H' : Hp}, Inv Y (pins ++ pinsAt fp s3.heap) σ5 H' s' → (wipe σ vs).length = σ5.length → (∀ (i : Nat) v, (wipe σ vs)[i]? = some (some v) → σ5[i]? = some (some v)) → Nx1 H' →
        ∃ k, k < n ∧ ∃ j H', Inv Y pins (wipe σ vs) H' s' ∧ tn j s'.heap ∧ (∀ b ∈ fp, H' b = none) ∧ W j k H' := fun {σ5 s' H'} I' hl hk nx => by
      obtain ⟨k, hkn, w'⟩ := hN H' nx
      have pin' : ∀ b ∈ fp, ∀ o, s3.heap.get? b = some o → s'.heap.get? b = some o ∧ H' b = none := fun b hb o e =>
        let z := I'.pin (b, o) (List.mem_append_right _ (List.mem_append_right _ (mem_pinsAt hb e)))
        ⟨z.1, z.2.1⟩
      refine ⟨k, hkn, j + 1, H', I'.unpinned.weak hl hk, T.keep _ _ _ st3 fun b hb o e => (pin' b hb o e).1, fun b hb => ?_, w'⟩
      obtain ⟨o, e, _⟩ := T.obj _ _ st3 b hb
      exact (pin' b hb o e).2
    have l4 : (wipe σ vs).length = σ4.length := by rw [← hw4, wipe_length]
    have k4 : ∀ (i : Nat) v, (wipe σ vs)[i]? = some (some v) → σ4[i]? = some (some v) := fun i v e => by
      rw [← hw4] at e
      exact (wipe_some e).1
    cases b with
    | false => exact back I5 l4 k4 q5
    | true =>
      refine ⟨_, σ4, H5, Nx1, I5, q5, fun s' H' I' nx => back I' (l4.trans (wipe_length σ4 ws).symm) (fun i v e => ?_) nx⟩
      rw [← hw4] at e
      obtain ⟨e1, e2⟩ := wipe_some e
      rw [wipe_out fun z => e2 (hws i z)]
      exact e1
end
end LcN
/-! a clause within a clause, and the whole comprehension -/
namespace LcN
open PySem PySem.Spec PyProof.Rows L2
theorem wipe_in {σ : L2.St} {i : Nat} (hi : i < σ.length) : ∀ {vs : List Nat}, i ∈ vs → (wipe σ vs)[i]? = some none
  | [], h => by cases h
  | v :: vs, h => by
    unfold wipe
    by_cases e : v = i
    · subst e
      rw [List.getElem?_set_self (by rw [wipe_length]; exact hi)]
    · rw [List.getElem?_set_ne e]
      exact wipe_in hi ((List.mem_cons.1 h).resolve_left fun z => e z.symm)
theorem wipe_twice (σ : L2.St) (vs : List Nat) : wipe (wipe σ vs) vs = wipe σ vs := by
  refine List.ext_getElem? fun i => ?_
  by_cases h : i ∈ vs
  · by_cases hl : i < σ.length
    · rw [wipe_in hl h, wipe_in (by rw [wipe_length]; exact hl) h]
    · rw [List.getElem?_eq_none (by rw [wipe_length, wipe_length]; omega), List.getElem?_eq_none (by rw [wipe_length]; omega)]
  · rw [wipe_out h]
section
variable {prog : Program} {w : World} {A : Around} {R : Result → Shared → Prop} {s : Shared} {elt tg iter : Expr} {ifs : List Expr} {gens : List Comprehension} {scope : Scope} {pos : Pos} {d : Nat} {it acc : Value} {env : Env}
theorem startN_ok (hd : gens[d]? = some ⟨tg, iter, ifs, 0⟩) (h0 : codeAny (model prog w) A (.compLoop (.ListComp elt gens scope pos) d it acc env) R s)
    (h : wpAny (model prog w) A (pyIter it) (fun it' s' => codeAny (model prog w) A (.compLoop (.ListComp elt gens scope pos) d it' acc env) R s')
      (notedBy (model prog w) A env fun x s' => R (.error x) s') s) :
    codeAny (model prog w) A (.compStart (.ListComp elt gens scope pos) d it acc env) R s := by
  refine codeAny_of_tree ?_
  show wpAny _ _ ((compStart (.ListComp elt gens scope pos) d it acc env).onRaise (fun x => do noteFrame x env; standAt theWindowsPlace)) _ _ s
  refine wpAny_notedAt ?_
  have e : (clausesOf (.ListComp elt gens scope pos))[d]? = some ⟨tg, iter, ifs, 0⟩ := hd
  unfold compStart
  rw [e]
  show wpAny _ _ (ask >>= _) _ _ s
  refine wpAny_bind (wpAny_askSetting (wpAny_ite ?_))
  split
  · first
      | exact wpAny_bind (wpAny_pure (wpAny_pure (And.intro rfl h0)))
      | exact wpAny_pure (And.intro rfl h0)
  · first
      | exact wpAny_bind (wpAny_rule (wpAny_bind (wpAny_standAt (wpAny_bind (wpAny_mono h (fun it' s' h' => wpAny_pure (And.intro rfl h')) fun _ _ x => x)))))
      | (refine wpAny_bind (wpAny_rule ?_); show wpAny _ _ (standAt iter.pos >>= _) _ _ s; exact wpAny_bind (wpAny_standAt (wpAny_bind (wpAny_mono h (fun it' s' h' => wpAny_pure (And.intro rfl h')) fun _ _ x => x))))
end
section
variable {Y : Cx} {elt tg it : Expr} {ifs : List Expr} {gens : List Comprehension} {scope : Scope} {pos : Pos} {d : Nat} {te : TE} {tC : TC} {ws vs : List Nat} {wi : TI} {g : TG} {tt : TT}
theorem inner_more (hxe : Y.xe = fun _ _ => False) (hc : Y.calm = true) (hd : gens[d + 1]? = some ⟨tg, it, ifs, 0⟩) (hg : gens[d + 1 + 1]? = none ∨ ∃ tg1 it1 ifs1, gens[d + 1 + 1]? = some ⟨tg1, it1, ifs1, 0⟩) (pi : PI Y tg it wi) (pg : PG Y tg g) (pt : PTs Y ifs tt) (In : Inner Y elt gens scope pos (d + 1) tC ws)
    (hws : ∀ j ∈ ws, j ∈ vs) (hs : ∀ x, foldedSetIterable it Y.env x = pure x) : Inner Y elt gens scope pos d (tClause wi g tt tC vs) vs := by
  constructor
  intro pins s σ H D Nx E I h
  unfold innerP
  rw [hd]
  simp only [bne_self_eq_false, Bool.false_eq_true, if_false]
  refine wpAny_bind (out_of hxe (thn (pi.run pins s σ H _ I h) fun xv s1 hx => ?_))
  refine wpAny_bind (wpAny_standAt (wpAny_bind (wpAny_of_eq (hs xv) (wpAny_bind (wpAny_holding (out_of hxe (thn hx fun itv s2 h2 => ?_)))))))
  obtain ⟨it1, fp, tn, J, H2, e, I2, T, st2, f2, W, ⟨m, w0⟩, turn⟩ := h2
  subst e
  refine wpAny_bind (wpAny_runOwn ?_)
  rw [Around.mark_none]
  have loop := clause_loop (Nx := Nx) (D := D) hxe hc hd hg pg pt In hws T I2 st2 f2 w0 turn
  refine codeAny_mono (startN_ok hd loop (T.self Y.A 0 _ _ _ st2 loop)) fun r s' hr => ?_
  cases r with
  | ok f => exact wpAny_pure hr.2
  | error e => exact hr.elim
end
section
variable {X : Cx}
/-- a comprehension of any number of clauses: the first one's source, the new list, then what its turns owe -/
def tLcN (wi : TI) (g : TG) (tt : TT) (tC : TC) (vs : List Nat) : TE := fun σ H Q => wi σ H fun J H1 => ∀ D, H1 D = none → ∃ W : Nat → Nat → Hp → Prop, (∃ m, W 0 m (upd H1 D (.lst []))) ∧ ∀ i m H, W i m H →
  (J.stop i H ∧ Q (.ref D) H) ∨ (J.go i H ∧ ∃ Nx : Hp → Prop, (∀ H', Nx H' → ∃ m', m' < m ∧ W (i + 1) m' H') ∧ ∀ x H', J.yld i H x H' → g x (wipe σ vs) H' fun σ2 H2 => wipe σ2 vs = wipe σ vs ∧ tt σ2 H2 fun b H3 => if b = true then tC σ2 H3 D Nx else Nx H3)
theorem lcN_core {pins : List (Addr × Obj)} {s : Shared} {σ : L2.St} {H : Hp} {Q : VK} {elt tg iter : Expr} {ifs : List Expr} {rest : List Comprehension} {scope : Scope} {own : List (Str × Nat)} {ws : List Nat} {pos pos' : Pos} {wi : TI} {g : TG} {tt : TT} {tC : TC} {use : Option (Value → Sem Unit)} {Qf : Value → Shared → Prop}
    (hc : X.calm = true) (hN : X.N.Nodup) (I : Inv X pins σ H s) (hi : PI X tg iter wi) (ok : BlkOk X.N X.env.scope scope own) (hv : ∀ i ∈ ws, i ∈ own.map (·.2))
    (hr : (⟨tg, iter, ifs, 0⟩ :: rest : List Comprehension)[0 + 1]? = none ∨ ∃ tg1 it1 ifs1, (⟨tg, iter, ifs, 0⟩ :: rest : List Comprehension)[0 + 1]? = some ⟨tg1, it1, ifs1, 0⟩)
    (hg : ∀ (s : Shared) (H : Hp) (C : Addr) (cl : List (Str × Addr)) (fp : List Addr), PG (X.blk s H scope (compEnvC scope cl C X.env) fp) tg g) (ht : ∀ (s : Shared) (H : Hp) (C : Addr) (cl : List (Str × Addr)) (fp : List Addr), PTs (X.blk s H scope (compEnvC scope cl C X.env) fp) ifs tt)
    (hC : ∀ (s : Shared) (H : Hp) (C : Addr) (cl : List (Str × Addr)) (fp : List Addr), Inner (X.blk s H scope (compEnvC scope cl C X.env) fp) elt (⟨tg, iter, ifs, 0⟩ :: rest) scope pos 0 tC ws) (hs : ∀ x, foldedSetIterable iter X.env x = pure x)
    (h : tLcN wi g tt tC (own.map (·.2)) σ H Q)
    (hRR : ∀ D C s' m H', Inv X pins σ H' s' → Q (.ref D) H' → s'.heap.Ns C m → FpOk X pins H' C → compPost (model X.prog X.w) X.A X.xe use Qf (.ref D) C (.ok .next) s') :
    wpAny (model X.prog X.w) X.A (comprehension (.ListComp elt (⟨tg, iter, ifs, 0⟩ :: rest) scope pos) scope X.env pos' (newList []) false (eval iter X.env) use) Qf X.xe s := by
  have hfree : ∀ y ∈ scope.names, y.2 = .free → ∃ c, X.env.cells.lookup y.1 = some c := fun y hy e => by
    rcases ok.free y hy e with k | k
    · exact I.ok.has _ (.inl k)
    · exact I.ok.has _ (.inr k)
  refine wpAny_comprehension_free (use := use) rfl hs (closure_ok hfree) ok.kind (fun y hy e => by rw [ok.uniq y hy, e])
    (thn (hi.run pins s σ H _ I h) fun xv s1 hx => thn hx fun itv s2 h2 => ?_)
  obtain ⟨it, fp, tn, J, H2, e, I2, T, st2, f2, q⟩ := h2
  subst e
  refine wpAny_newObj_type (newEnv_comp ?_) (by show 0 ≤ sizeLine; decide)
  generalize hD : s2.heap.objs.size = D
  have hDn : H2 D = none := I2.hok.fresh (Nat.le_of_eq hD)
  obtain ⟨W, ⟨m0, w0⟩, turn⟩ := q D hDn
  generalize hs3 : ({ s2 with heap := s2.heap.push { cls := .type "list", data := .seq ([] : List Value).toArray } } : Shared) = s3
  have I3 : Inv X pins σ (upd H2 D (.lst [])) s3 := by
    rw [← hs3]
    refine I2.laid (t' := s2.toks) (fun b o e => Heap.get?_push_of_some _ e) (Nat.le_of_eq hD) ⟨Nat.zero_le _, [], 0, .nil, ?_⟩
    rw [← hD]
    exact Heap.get?_push_size _ rfl
  have h3 : s3.heap = s2.heap.push { cls := .type "list", data := .seq ([] : List Value).toArray } := by rw [← hs3]
  have sz : ∀ b ∈ fp, b < s2.heap.objs.size := fun b hb => by
    obtain ⟨o, e, _⟩ := T.obj _ _ st2 b hb
    exact Heap.lt_size e
  have f3 : ∀ b ∈ fp, FpOk X pins (upd H2 D (.lst [])) b ∧ b < s3.heap.objs.size := fun b hb => by
    have hlt := sz b hb
    refine ⟨⟨?_, (f2 b hb).2⟩, by rw [h3, Heap.size_push]; exact Nat.lt_succ_of_lt hlt⟩
    rw [upd_ne (by rw [← hD]; exact Nat.ne_of_lt hlt)]
    exact (f2 b hb).1
  have st3 : tn 0 s3.heap := T.keep _ _ _ st2 fun b _ o e => by rw [h3]; exact Heap.get?_push_of_some _ e
  have I4 := block_start I3 ok hN f3
  have pg := hg s3 (upd H2 D (.lst [])) s3.heap.objs.size (cellsFrom (s3.heap.objs.size + 1) scope.names (cloFrom X.env.cells scope.names [])) fp
  have pt := ht s3 (upd H2 D (.lst [])) s3.heap.objs.size (cellsFrom (s3.heap.objs.size + 1) scope.names (cloFrom X.env.cells scope.names [])) fp
  have pc := hC s3 (upd H2 D (.lst [])) s3.heap.objs.size (cellsFrom (s3.heap.objs.size + 1) scope.names (cloFrom X.env.cells scope.names [])) fp
  show codeAny _ _ (.compStart (.ListComp elt (⟨tg, iter, ifs, 0⟩ :: rest) scope pos) 0 (.ref it) (.ref D) (compEnvC scope (cellsFrom (s3.heap.objs.size + 1) scope.names (cloFrom X.env.cells scope.names [])) s3.heap.objs.size X.env)) (compPost (model X.prog X.w) X.A X.xe use Qf (.ref D) s3.heap.objs.size) { s3 with heap := pushCells (s3.heap.push { cls := .type "dict", data := .dict #[] }) scope.names }
  have nfp : ∀ b ∈ fp, (upd H2 D (.lst [])) b = none := fun b hb => (f3 b hb).1.1
  generalize hce : compEnvC scope (cellsFrom (s3.heap.objs.size + 1) scope.names (cloFrom X.env.cells scope.names [])) s3.heap.objs.size X.env = ce at I4 pg pt pc ⊢
  have cL : ce.locals = s3.heap.objs.size := by subst hce; rfl
  generalize hH3 : upd H2 D (.lst []) = H3 at I3 I4 pg pt pc w0 nfp f3
  generalize hs4 : ({ s3 with heap := pushCells (s3.heap.push { cls := .type "dict", data := .dict #[] }) scope.names } : Shared) = s4 at I4 ⊢
  have st4 : tn 0 s4.heap := T.keep _ _ _ st3 fun b _ o e => by rw [← hs4]; exact pushCells_keeps _ _ _ _ (Heap.get?_push_of_some _ e)
  have stat : ∀ {σ' : L2.St} {H' : Hp} {s' : Shared}, Inv (X.blk s3 H3 scope ce fp) [] σ' H' s' → (∀ b ∈ fp, H' b = none) → ∀ b ∈ fp, FpOk (X.blk s3 H3 scope ce fp) [] H' b := fun {σ' H' s'} I' hn b hb =>
    ⟨hn b hb, (I'.ok.exf b hb).1, I'.ok.exfs b hb, .inl hb, fun x c e => (I'.ok.exf b hb).2 x c e, fun p hp => absurd (show p ∈ ([] : List (Addr × Obj)) ++ [] from hp) (by simp)⟩
  have loop0 := clause_loop (Y := X.blk s3 H3 scope ce fp) (itv := it) (D := D) (vs := own.map (·.2)) (Nx := fun H' => Q (.ref D) H') rfl hc (gens := ⟨tg, iter, ifs, 0⟩ :: rest) (d := 0) rfl hr pg pt pc hv T I4 st4 (stat I4 nfp) w0
    (by rw [wipe_twice]; exact turn)
  have loop : codeAny (model X.prog X.w) X.A (.compLoop (.ListComp elt (⟨tg, iter, ifs, 0⟩ :: rest) scope pos) 0 (.ref it) (.ref D) ce) (compPost (model X.prog X.w) X.A X.xe use Qf (.ref D) s3.heap.objs.size) s4 := by
    refine codeAny_mono loop0 fun r s6 hr => ?_
    cases r with
    | error e => exact hr.elim
    | ok f =>
      obtain ⟨hf, H5, I6, qq⟩ := hr
      subst hf
      have I7 : Inv X pins σ H5 s6 := I3.call' (ch := fp) I6.os I6.base I6.hok I6.bare fun b hb => ⟨(f3 b hb).1.2.2.2.1, (f3 b hb).1.2.1, (f3 b hb).1.2.2.2.2.1, (f3 b hb).1.2.2.2.2.2⟩
      have nC : H5 s3.heap.objs.size = none := by
        have z : H5 ce.locals = none := I6.free
        rw [cL] at z
        exact z
      obtain ⟨m, hn, _⟩ := I6.loc
      have hn : s6.heap.Ns ce.locals m := hn
      rw [cL] at hn
      exact hRR D s3.heap.objs.size s6 m H5 I7 qq hn (I3.fpOk (Nat.le_refl _) nC)
  exact codeAny_compStart_list loop (T.self X.A 0 _ _ _ st4 loop)
/-- as a value -/
theorem pe_lcN {elt tg iter : Expr} {ifs : List Expr} {rest : List Comprehension} {scope : Scope} {own : List (Str × Nat)} {ws : List Nat} {pos : Pos} {wi : TI} {g : TG} {tt : TT} {tC : TC} (hc : X.calm = true) (hN : X.N.Nodup) (hi : PI X tg iter wi) (ok : BlkOk X.N X.env.scope scope own) (hv : ∀ i ∈ ws, i ∈ own.map (·.2))
    (hr : (⟨tg, iter, ifs, 0⟩ :: rest : List Comprehension)[0 + 1]? = none ∨ ∃ tg1 it1 ifs1, (⟨tg, iter, ifs, 0⟩ :: rest : List Comprehension)[0 + 1]? = some ⟨tg1, it1, ifs1, 0⟩)
    (hg : ∀ (s : Shared) (H : Hp) (C : Addr) (cl : List (Str × Addr)) (fp : List Addr), PG (X.blk s H scope (compEnvC scope cl C X.env) fp) tg g) (ht : ∀ (s : Shared) (H : Hp) (C : Addr) (cl : List (Str × Addr)) (fp : List Addr), PTs (X.blk s H scope (compEnvC scope cl C X.env) fp) ifs tt)
    (hC : ∀ (s : Shared) (H : Hp) (C : Addr) (cl : List (Str × Addr)) (fp : List Addr), Inner (X.blk s H scope (compEnvC scope cl C X.env) fp) elt (⟨tg, iter, ifs, 0⟩ :: rest) scope pos 0 tC ws) (hs : ∀ x, foldedSetIterable iter X.env x = pure x := by intro _; rfl) :
    PE X (.ListComp elt (⟨tg, iter, ifs, 0⟩ :: rest) scope pos) (tLcN wi g tt tC (own.map (·.2))) := by
  refine ⟨fun pins s σ H Q I h => ?_⟩
  rw [eval_ListComp]
  refine lcN_core hc hN I hi ok hv hr hg ht hC hs h fun D C s' m H' I' q hn f => ⟨m, hn, fun h'' sb => ?_⟩
  obtain ⟨f0, f1, f2, f3, f4, f5⟩ := f
  exact ⟨.ref D, H', I'.turned (t' := s'.toks) (fun b o hb e => (sb.2 b hb).trans e) f0 f1 f3 f4 f5, rfl, q⟩
/-- given to a name -/
theorem ps_setLcN {i : Nat} {y : Str} {py : Pos} {elt tg iter : Expr} {ifs : List Expr} {rest : List Comprehension} {scope : Scope} {own : List (Str × Nat)} {ws : List Nat} {pos spos : Pos} {wi : TI} {g : TG} {tt : TT} {tC : TC} (hc : X.calm = true) (hN : X.N.Nodup) (hy : X.N[i]? = some y) (hyl : X.env.scope.names.lookup y = some .local)
    (hsw : swapsWith (.ListComp elt (⟨tg, iter, ifs, 0⟩ :: rest) scope pos) (some (.Name y py)) spos.line X.env = pure true) (hi : PI X tg iter wi) (ok : BlkOk X.N X.env.scope scope own) (hv : ∀ i ∈ ws, i ∈ own.map (·.2))
    (hr : (⟨tg, iter, ifs, 0⟩ :: rest : List Comprehension)[0 + 1]? = none ∨ ∃ tg1 it1 ifs1, (⟨tg, iter, ifs, 0⟩ :: rest : List Comprehension)[0 + 1]? = some ⟨tg1, it1, ifs1, 0⟩)
    (hg : ∀ (s : Shared) (H : Hp) (C : Addr) (cl : List (Str × Addr)) (fp : List Addr), PG (X.blk s H scope (compEnvC scope cl C X.env) fp) tg g) (ht : ∀ (s : Shared) (H : Hp) (C : Addr) (cl : List (Str × Addr)) (fp : List Addr), PTs (X.blk s H scope (compEnvC scope cl C X.env) fp) ifs tt)
    (hC : ∀ (s : Shared) (H : Hp) (C : Addr) (cl : List (Str × Addr)) (fp : List Addr), Inner (X.blk s H scope (compEnvC scope cl C X.env) fp) elt (⟨tg, iter, ifs, 0⟩ :: rest) scope pos 0 tC ws) (hs : ∀ x, foldedSetIterable iter X.env x = pure x := by intro _; rfl) :
    PS X (.Assign [.Name y py] (.ListComp elt (⟨tg, iter, ifs, 0⟩ :: rest) scope pos) spos) (tAsg (tLcN wi g tt tC (own.map (·.2))) (gName i)) := by
  refine ⟨fun pins s σ H D I h => ?_⟩
  rw [exec_Assign_Name_used _ _ _ _ hsw]
  refine wpAny_bind (wpAny_standAt (wpAny_bind ?_))
  show wpAny _ X.A (do let _ ← comprehension (.ListComp elt (⟨tg, iter, ifs, 0⟩ :: rest) scope pos) scope X.env (firstIterPos (⟨tg, iter, ifs, 0⟩ :: rest) pos) (newList []) false (eval iter X.env) (some (assign (.Name y py) X.env))) _ _ s
  have h : tLcN wi g tt tC (own.map (·.2)) σ H (fun x H1 => gName i x σ H1 D.nx) := h
  refine wpAny_bind (thn (lcN_core (Qf := fun _ s' => SP X pins D .next s') hc hN I hi ok hv hr hg ht hC hs h fun L C s' m H' I' q hn f => ?_) fun _ s' hq => wpAny_pure (wpAny_pure hq))
  show wpAny _ _ (assign (.Name y py) X.env (.ref L)) _ _ _
  refine wpAny_assign_Name (store_ok2 (v := V.ref L) I' hN hy (.inl hyl) rfl (fun s2 I2 ⟨a, sb, ha⟩ => ?_) (.inr hyl))
  obtain ⟨f0, f1, f2, f3, f4, f5⟩ := f
  have haC : C ≠ a := by
    rcases ha with z | z
    · rw [z]; exact f1
    · exact fun e => f4 y a z e.symm
  refine ⟨m, hn.sameBut sb haC, fun h3 sb3 => ?_⟩
  exact ⟨_, H', I2.turned (t' := s2.toks) (fun b o hb e => (sb3.2 b hb).trans e) f0 f1 f3 f4 f5, q⟩
end
end LcN
/-! a range that a name holds; max(.., default=0) -/
namespace LcN
open PySem PySem.Spec PyProof.Rows L2 PySem.W
section
variable {X : Cx} {tg : Expr}
def iRngV (tl : TE) : TI := fun σ H R => tl σ H fun v H1 => ∃ (a : Addr) (j : Int), v = .ref a ∧ H1 a = some (.rng 0 j) ∧ -(2 ^ 62) ≤ j ∧ j < 2 ^ 62 ∧ R (Itr 0 j.toNat) H1
/-- a walk over a range object that stands in the heap -/
theorem pi_rng {l : Expr} {tl : TE} (hl : PE X l tl) : PI X tg l (iRngV tl) := by
  refine ⟨fun pins s σ H R I h => ?_⟩
  refine thn (hl.run pins s σ H _ I h) fun v s1 ⟨x, H1, I1, r1, q1⟩ => ?_
  obtain ⟨a, j, e, ha, h1, h2, q⟩ := q1
  subst e
  cases r1
  obtain ⟨t, u, v, ho⟩ := I1.hok _ _ ha
  refine wpAny_pyIter_range (a := 0) (b := j) (c := 1) (show IsRange s1.heap a 0 j 1 t u v from ho) (small_one (by omega) (by omega) h1 h2) ?_
  refine ⟨s1.heap.objs.size, [s1.heap.objs.size], _, _, H1, rfl,
    I1.kept (t' := s1.toks) fun b o e => Heap.get?_push_of_some _ e, turn_range _ 0 j.toNat, ?_, fun b hb => ?_, q⟩
  · have e1 : (0 : Int) + ((0 : Nat) : Int) * 1 = 0 := by simp
    have e2 : ((j.toNat : Nat) : Int) - ((0 : Nat) : Int) = Builtin.Range.rangeSize 0 j 1 := by rw [rangeSize_one]; split <;> omega
    show IsRangeIter _ _ ((0 : Int) + ((0 : Nat) : Int) * 1) (((j.toNat : Nat) : Int) - ((0 : Nat) : Int)) 1
    rw [e1, e2]
    exact Heap.get?_push_size _ rfl
  · have e : b = s1.heap.objs.size := by simpa using hb
    subst e
    exact I1.fpOk (Nat.le_refl _) (I1.hok.fresh (Nat.le_refl _))
/-- range(n) as a value -/
theorem cr_range1 : CallR X (.type "range") (fun vs H Q => ∃ j, vs = [V.int j] ∧ ∀ p, H p = none → Q (.ref p) (upd H p (.rng 0 j))) := by
  intro pins s σ H vs us Q I r h
  obtain ⟨j, rfl, q⟩ := h
  cases r with
  | cons r rr =>
    cases rr
    obtain ⟨t, rfl⟩ := r
    refine call_range_1 ⟨.ref s.heap.objs.size, upd H s.heap.objs.size (.rng 0 j), I.laid (t' := s.toks + 2) (fun b o e => Heap.get?_push_of_some _ e) (Nat.le_refl _) ?_, rfl, q _ (I.hok.fresh (Nat.le_refl _))⟩
    exact ⟨_, t, _, Heap.get?_push_size _ rfl⟩
/-- what max(ns, default=d) gives -/
def maxDef (d : Int) : List Int → Int
  | [] => d
  | n :: r => r.foldl max n
def rMaxDef (K : PySem.W.Frag) : List V → List V → Hp → VK → Prop := fun vs zs H Q => ∃ (a : Addr) (ns : List Int) (d : Int), vs = [V.ref a] ∧ zs = [V.int d] ∧ SqL K H a (ns.map V.int) ∧ Q (.int (maxDef d ns)) H
theorem depth_ints : ∀ ns : List Int, PyData.depthAll (ns.map PyData.int) ≤ 1
  | [] => Nat.zero_le _
  | n :: r => by
    have e := depth_ints r
    show max (PyData.depth (.int n)) (PyData.depthAll (r.map PyData.int)) ≤ 1
    have e1 : PyData.depth (.int n) ≤ 1 := by first | exact Nat.le_refl _ | exact Nat.zero_le _ | (unfold PyData.depth; omega)
    omega
theorem alike_ints (ns : List Int) : AlikeAll (ns.map PyData.int) := by
  constructor
  · intro x hx y hy
    obtain ⟨i, _, rfl⟩ := List.mem_map.1 hx
    obtain ⟨j, _, rfl⟩ := List.mem_map.1 hy
    unfold alike
    rfl
  · intro x hx
    obtain ⟨i, _, rfl⟩ := List.mem_map.1 hx
    exact fun z => by cases z
theorem cr_maxDef (hc : X.calm = true) (hu : X.A.units + 65 < cLine) : CallRK X (.builtin "max") [Str.ofString "default"] (rMaxDef X.K) := by
  intro pins s σ H vs zs us ws Q I r rz h
  obtain ⟨a, ns, d, rfl, rfl, hs, q⟩ := h
  obtain rfl := Vals.ref1 r
  obtain ⟨w1, rfl, e1⟩ := vals1 rz
  obtain ⟨t1, rfl⟩ := e1
  obtain ⟨its, rv, hl, hz⟩ := I.list hs
  have hi := rv.ints
  have hd := depth_ints ns
  refine max_list_default (I.ok.hd hc) hl.isList (hi.reads _) (alike_ints ns) (by omega) (fun e h' tk k => ?_) (fun y ys i v h' tk bs e hv hr k => ?_)
  · cases ns with
    | nil => exact ⟨.int d, H, I.kept k, ⟨_, rfl⟩, q⟩
    | cons n r => cases e
  · cases ns with
    | nil => cases e
    | cons n r =>
      injection e with e1 e2
      subst e1
      subst e2
      rw [maxD_ints] at hr
      cases hr
      exact ⟨.int _, H, I.kept k, ⟨_, rfl⟩, q⟩
end
end LcN
/-! a field as a target; a clause over a range that a name holds, read -/
namespace LcN
open PySem PySem.Spec PyProof.Rows L2 PySem.W
section
variable {X : Cx} {o : Expr} {ta : TE} {f : Str} {pos : Pos}
def gFld (K : PySem.W.Frag) (ta : TE) (f : Str) : TG := fun y σ H Q => ta σ H fun x H2 => ∃ a C dx fs, x = .ref a ∧ H2 a = some (.ins C dx fs) ∧ Cls K C ∧ NoAttr K C f ∧ fs.length < 1000 ∧ Q σ (upd H2 a (.ins C dx (putF f y fs)))
theorem pg_fld (ha : PE X o ta) : PG X (.Attribute o f pos) (gFld X.K ta f) := by
  refine ⟨fun pins s σ H v u Q I r h => ?_⟩
  rw [assign_Attribute]
  refine wpAny_bind (wpAny_holding (thn (ha.run pins s σ H _ I h) fun ov s1 ⟨x, H1, I1, r1, a, C, dx, fs, ex, ea, c, n, l, q⟩ => ?_))
  subst ex
  obtain rfl : ov = Value.ref a := r1
  refine wpAny_bind (wpAny_standAt (wpAny_bind (wpAny_holding (setattr_ok I1 ea c n l r fun s2 I2 => ?_))))
  exact wpAny_release ⟨σ, _, I2, q⟩
end
theorem wipe_set {σ : L2.St} {k : Nat} {x : Option V} {vs : List Nat} (h : k ∈ vs) : wipe (σ.set k x) vs = wipe σ vs := by
  refine List.ext_getElem? fun i => ?_
  by_cases hi : i ∈ vs
  · by_cases hl : i < σ.length
    · rw [wipe_in (by rw [List.length_set]; exact hl) hi, wipe_in hl hi]
    · rw [List.getElem?_eq_none (by rw [wipe_length, List.length_set]; omega), List.getElem?_eq_none (by rw [wipe_length]; omega)]
  · rw [wipe_out hi, wipe_out hi, List.getElem?_set_ne fun z => hi (by rw [← z]; exact h)]
/-- what a clause's turns over 0, .., n - 1 ask -/
theorem walk_rng {n k : Nat} {vs : List Nat} {σ : L2.St} {H : Hp} {Nx : Hp → Prop} {B : L2.St → Hp → (Hp → Prop) → Prop} (hk : k ∈ vs) (P : Nat → Hp → Prop) (h0 : P 0 H) (hn : ∀ H', P n H' → Nx H')
    (hs : ∀ j H', j < n → P j H' → B ((wipe σ vs).set k (some (.int j))) H' (P (j + 1))) :
    ∃ W : Nat → Nat → Hp → Prop, (∃ m, W 0 m H) ∧ ∀ j m H, W j m H →
      ((Itr 0 n).stop j H ∧ Nx H) ∨ ((Itr 0 n).go j H ∧ ∃ Nx1 : Hp → Prop, (∀ H', Nx1 H' → ∃ m', m' < m ∧ W (j + 1) m' H') ∧ ∀ x H', (Itr 0 n).yld j H x H' → gName k x (wipe σ vs) H' fun σ3 H5 => wipe σ3 vs = wipe σ vs ∧ tYes σ3 H5 fun b H6 => if b = true then B σ3 H6 Nx1 else Nx1 H6) := by
  refine ⟨fun i m H => m = n - i ∧ i ≤ n ∧ P i H, ⟨n, by simp, Nat.zero_le _, h0⟩, ?_⟩
  rintro i m H ⟨rfl, hi, p⟩
  by_cases hlt : i < n
  · refine .inr ⟨hlt, P (i + 1), fun H' p' => ⟨n - (i + 1), by omega, rfl, hlt, p'⟩, fun x H' y => ?_⟩
    obtain ⟨e, y⟩ := y
    subst e y
    refine ⟨by rw [wipe_set hk, wipe_twice], ?_⟩
    have z := hs i H' hlt p
    show (if true = true then B ((wipe σ vs).set k (some (.int ((0 : Int) + (i : Int))))) H' (P (i + 1)) else P (i + 1) H')
    rw [if_pos rfl, show (0 : Int) + (i : Int) = (i : Int) from Int.zero_add _]
    exact z
  · have e : i = n := by omega
    subst e
    exact .inl ⟨Nat.le_refl _, hn H p⟩
/-- a comprehension over such a range: what it asks -/
theorem lcN_rng {n k : Nat} {vs : List Nat} {σ : L2.St} {H : Hp} {Q : VK} {tl : TE} {tC : TC} (hk : k ∈ vs)
    (h : tl σ H fun v H1 => ∃ a : Addr, v = .ref a ∧ H1 a = some (.rng 0 n) ∧ n < 1000000 ∧ ∀ D, H1 D = none → ∃ P : Nat → Hp → Prop, P 0 (upd H1 D (.lst [])) ∧ (∀ H', P n H' → Q (.ref D) H') ∧
      ∀ j H', j < n → P j H' → tC ((wipe σ vs).set k (some (.int j))) H' D (P (j + 1)))
    (mono : ∀ (σ : L2.St) (H : Hp) (Q Q' : VK), (∀ v H, Q v H → Q' v H) → tl σ H Q → tl σ H Q') : tLcN (iRngV tl) (gName k) tYes tC vs σ H Q := by
  refine mono _ _ _ _ (fun v H1 ⟨a, e, ha, hn, q⟩ => ⟨a, n, e, ha, by omega, by omega, ?_⟩) h
  intro D hD
  obtain ⟨P, h0, hn', hs⟩ := q D hD
  exact walk_rng (B := fun σ3 H6 N => tC σ3 H6 D N) hk P h0 hn' hs
theorem clause_rng {n k : Nat} {vs : List Nat} {σ : L2.St} {H : Hp} {D : Addr} {Nx : Hp → Prop} {tl : TE} {tC : TC} (hk : k ∈ vs)
    (h : tl σ H fun v H1 => ∃ a : Addr, v = .ref a ∧ H1 a = some (.rng 0 n) ∧ n < 1000000 ∧ ∃ P : Nat → Hp → Prop, P 0 H1 ∧ (∀ H', P n H' → Nx H') ∧
      ∀ j H', j < n → P j H' → tC ((wipe σ vs).set k (some (.int j))) H' D (P (j + 1)))
    (mono : ∀ (σ : L2.St) (H : Hp) (Q Q' : VK), (∀ v H, Q v H → Q' v H) → tl σ H Q → tl σ H Q') : tClause (iRngV tl) (gName k) tYes tC vs σ H D Nx := by
  refine mono _ _ _ _ (fun v H1 ⟨a, e, ha, hn, q⟩ => ⟨a, n, e, ha, by omega, by omega, ?_⟩) h
  obtain ⟨P, h0, hn', hs⟩ := q
  exact walk_rng (B := fun σ3 H6 N => tC σ3 H6 D N) hk P h0 hn' hs
end LcN
/-! comprehensions of two and three clauses over one range, whose element leaves the objects as they are -/
namespace LcN
open PySem PySem.Spec PyProof.Rows L2 PySem.W
abbrev flat2 {α : Type} (n : Nat) (b : Nat → Nat → α) : List α := (List.range n).flatMap fun x => (List.range n).map (b x)
abbrev flat3 {α : Type} (n : Nat) (b : Nat → Nat → Nat → α) : List α := (List.range n).flatMap fun x => flat2 n (b x)
theorem flatMap_succ {α : Type} (j : Nat) (f : Nat → List α) : (List.range (j + 1)).flatMap f = (List.range j).flatMap f ++ f j := by
  rw [List.range_succ, List.flatMap_append]
  simp
theorem map_succ {α : Type} (j : Nat) (f : Nat → α) : (List.range (j + 1)).map f = (List.range j).map f ++ [f j] := by
  rw [List.range_succ, List.map_append]
  rfl
theorem len_flatMap {α : Type} {m : Nat} (f : Nat → List α) (h : ∀ x, (f x).length = m) : ∀ j : Nat, ((List.range j).flatMap f).length = j * m
  | 0 => by simp
  | j + 1 => by rw [flatMap_succ, List.length_append, len_flatMap f h j, h, Nat.succ_mul]
theorem len_flat2 {α : Type} {n : Nat} (b : Nat → Nat → α) (j : Nat) : ((List.range j).flatMap fun x => (List.range n).map (b x)).length = j * n := len_flatMap _ (fun x => by simp) j
theorem len_flat3 {α : Type} {n : Nat} (b : Nat → Nat → Nat → α) (j : Nat) : ((List.range j).flatMap fun x => flat2 n (b x)).length = j * (n * n) := len_flatMap _ (fun x => len_flat2 (b x) n) j
theorem tVar_mono {i : Nat} : ∀ (σ : L2.St) (H : Hp) (Q Q' : VK), (∀ v H, Q v H → Q' v H) → tVar i σ H Q → tVar i σ H Q' := fun σ H Q Q' k ⟨v, e, q⟩ => ⟨v, e, k _ _ q⟩
theorem small100 {a : Nat} (h : a ≤ 2000000) : a < sizeLine := by rw [sizeLine_eq]; omega
section
variable {n i k1 k2 k3 : Nat} {vs ws us : List Nat} {σ : L2.St} {H : Hp} {Q : VK} {te : TE} {p : Addr}
/-- the innermost clause: it adds to what the list holds -/
theorem emit_rng {D : Addr} {pre : List V} {Nx : Hp → Prop} (v : Nat → V) (hk : k1 ∈ vs) (hi : σ[i]? = some (some (.ref p))) (hp : H p = some (.rng 0 n)) (hn : n ≤ 100) (hD : H D = none) (hl : pre.length ≤ 1100000)
    (he : ∀ x, x < n → ∀ (acc : List V) (Q' : VK), Q' (v x) (upd H D (.lst acc)) → te ((wipe σ vs).set k1 (some (.int x))) (upd H D (.lst acc)) Q')
    (hN : Nx (upd H D (.lst (pre ++ (List.range n).map v)))) : tClause (iRngV (tVar i)) (gName k1) tYes (tEmit te) vs σ (upd H D (.lst pre)) D Nx := by
  have hpD : p ≠ D := fun e => by
    rw [e, hD] at hp
    cases hp
  refine clause_rng (n := n) hk ⟨_, hi, p, rfl, by rw [upd_ne hpD]; exact hp, by omega, fun j H' => H' = upd H D (.lst (pre ++ (List.range j).map v)), by simp, fun H' e => e ▸ hN, fun j H' hj e => ?_⟩ tVar_mono
  subst e
  refine he j hj _ _ ⟨_, upd_same, ?_, ?_⟩
  · refine small100 ?_
    rw [List.length_append, List.length_map, List.length_range]
    omega
  · show upd (upd H D _) D _ = upd H D (.lst (pre ++ (List.range (j + 1)).map v))
    rw [upd_upd, map_succ, List.append_assoc]
theorem rd2 (v : Nat → Nat → V) (hk1 : k1 ∈ vs) (hk2 : k2 ∈ ws) (hi : σ[i]? = some (some (.ref p))) (hi2 : ∀ x, ((wipe σ vs).set k1 (some x))[i]? = some (some (.ref p))) (hp : H p = some (.rng 0 n)) (hn : n ≤ 100)
    (he : ∀ D, H D = none → ∀ x y, x < n → y < n → ∀ (acc : List V) (Q' : VK), Q' (v x y) (upd H D (.lst acc)) → te ((wipe ((wipe σ vs).set k1 (some (.int x))) ws).set k2 (some (.int y))) (upd H D (.lst acc)) Q')
    (hQ : ∀ D, H D = none → Q (.ref D) (upd H D (.lst (flat2 n v)))) :
    tLcN (iRngV (tVar i)) (gName k1) tYes (tClause (iRngV (tVar i)) (gName k2) tYes (tEmit te) ws) vs σ H Q := by
  refine lcN_rng (n := n) hk1 ⟨_, hi, p, rfl, hp, by omega, fun D hD => ⟨fun j H' => H' = upd H D (.lst ((List.range j).flatMap fun x => (List.range n).map (v x))), rfl, fun H' e => e ▸ hQ D hD, fun j H' hj e => ?_⟩⟩ tVar_mono
  subst e
  refine emit_rng (n := n) (p := p) (v j) hk2 (hi2 _) hp hn hD ?_ (fun x hx acc Q' q => he D hD j x hj hx acc Q' q) ?_
  · rw [len_flat2]
    have : j * n ≤ 100 * 100 := Nat.mul_le_mul (by omega) hn
    omega
  · show upd H D _ = upd H D (.lst ((List.range (j + 1)).flatMap fun x => (List.range n).map (v x)))
    rw [flatMap_succ]
theorem rd3 (v : Nat → Nat → Nat → V) (hk1 : k1 ∈ vs) (hk2 : k2 ∈ ws) (hk3 : k3 ∈ us) (hi : σ[i]? = some (some (.ref p))) (hi2 : ∀ x, ((wipe σ vs).set k1 (some x))[i]? = some (some (.ref p)))
    (hi3 : ∀ x y, ((wipe ((wipe σ vs).set k1 (some x)) ws).set k2 (some y))[i]? = some (some (.ref p))) (hp : H p = some (.rng 0 n)) (hn : n ≤ 100)
    (he : ∀ D, H D = none → ∀ x y z, x < n → y < n → z < n → ∀ (acc : List V) (Q' : VK), Q' (v x y z) (upd H D (.lst acc)) →
      te ((wipe ((wipe ((wipe σ vs).set k1 (some (.int x))) ws).set k2 (some (.int y))) us).set k3 (some (.int z))) (upd H D (.lst acc)) Q')
    (hQ : ∀ D, H D = none → Q (.ref D) (upd H D (.lst (flat3 n v)))) :
    tLcN (iRngV (tVar i)) (gName k1) tYes (tClause (iRngV (tVar i)) (gName k2) tYes (tClause (iRngV (tVar i)) (gName k3) tYes (tEmit te) us) ws) vs σ H Q := by
  refine lcN_rng (n := n) hk1 ⟨_, hi, p, rfl, hp, by omega, fun D hD => ⟨fun j H' => H' = upd H D (.lst ((List.range j).flatMap fun x => flat2 n (v x))), rfl, fun H' e => e ▸ hQ D hD, fun j H' hj e => ?_⟩⟩ tVar_mono
  subst e
  have hpD : p ≠ D := fun e => by
    rw [e, hD] at hp
    cases hp
  have hl : ((List.range j).flatMap fun x => flat2 n (v x)).length ≤ 100 * (100 * 100) := by
    rw [len_flat3]
    exact Nat.mul_le_mul (by omega) (Nat.mul_le_mul hn hn)
  refine clause_rng (n := n) hk2 ⟨_, hi2 _, p, rfl, by rw [upd_ne hpD]; exact hp, by omega, fun l H' => H' = upd H D (.lst (((List.range j).flatMap fun x => flat2 n (v x)) ++ (List.range l).flatMap fun x => (List.range n).map (v j x))), by simp, fun H' e => ?_, fun l H' hl2 e => ?_⟩ tVar_mono
  · show H' = upd H D (.lst ((List.range (j + 1)).flatMap fun x => flat2 n (v x)))
    rw [e, flatMap_succ]
  · subst e
    refine emit_rng (n := n) (p := p) (v j l) hk3 (hi3 _ _) hp hn hD ?_ (fun x hx acc Q' q => he D hD j l x hj hl2 hx acc Q' q) ?_
    · have h2 : l * n ≤ 100 * 100 := Nat.mul_le_mul (by omega) hn
      have h3 := len_flat2 (n := n) (v j) l
      rw [List.length_append, h3]
      omega
    · show upd H D _ = upd H D (.lst (((List.range j).flatMap fun x => flat2 n (v x)) ++ (List.range (l + 1)).flatMap fun x => (List.range n).map (v j x)))
      rw [flatMap_succ, List.append_assoc]
end
theorem ix_listK {X : Cx} (K : PySem.W.Frag) (e : X.K = K) : IxR X (rIxL K) := by
  subst e
  exact ix_list
theorem ix_tupK {X : Cx} (K : PySem.W.Frag) (e : X.K = K) : IxR X (rIxT K) := by
  subst e
  exact ix_tup
theorem in_seqK {X : Cx} (K : PySem.W.Frag) (e : X.K = K) : OpR X (compareOp .In) (rIn K false) := by
  subst e
  exact op_in_seq
end LcN
/-! clauses of a comprehension over any walk -/
namespace LcN
open PySem PySem.Spec PyProof.Rows L2
section
variable {J : It} {n : Nat} {G : Hp → Prop} {Y : Nat → Hp → V → Hp → Prop} {g : TG} {tt : TT} {tC : TC} {vs : List Nat} {σ : L2.St} {H1 : Hp} {D : Addr} {Qd : Hp → Prop}
theorem clause_it (w : Walk J n G Y) (Pv : Nat → Hp → Prop) (h0 : Pv 0 H1) (hG : ∀ i H, i ≤ n → Pv i H → G H)
    (hs : ∀ i x H H', i < n → Pv i H → Y i H x H' → g x (wipe σ vs) H' fun σ2 H2 => wipe σ2 vs = wipe σ vs ∧ tt σ2 H2 fun b H3 => if b = true then tC σ2 H3 D (Pv (i + 1)) else Pv (i + 1) H3) (hd : ∀ H, Pv n H → Qd H) :
    ∃ W : Nat → Nat → Hp → Prop, (∃ m, W 0 m H1) ∧ ∀ i m H, W i m H →
      (J.stop i H ∧ Qd H) ∨ (J.go i H ∧ ∃ Nx : Hp → Prop, (∀ H', Nx H' → ∃ m', m' < m ∧ W (i + 1) m' H') ∧ ∀ x H', J.yld i H x H' → g x (wipe σ vs) H' fun σ2 H2 => wipe σ2 vs = wipe σ vs ∧ tt σ2 H2 fun b H3 => if b = true then tC σ2 H3 D Nx else Nx H3) := by
  refine ⟨fun i m H => m = n - i ∧ i ≤ n ∧ Pv i H, ⟨n, by simp, Nat.zero_le _, h0⟩, ?_⟩
  rintro i m H ⟨rfl, hi, p⟩
  by_cases lt : i < n
  · exact .inr ⟨w.goes i H lt (hG i H hi p), Pv (i + 1), fun H' p' => ⟨n - (i + 1), by omega, rfl, lt, p'⟩, fun x H' y => hs i x H H' lt p (w.yields i H x H' lt (hG i H hi p) y)⟩
  · have e : i = n := by omega
    subst e
    exact .inl ⟨w.stops H (hG i H hi p), hd H p⟩
end
end LcN
/-! enumerate of a tuple -/
namespace EM
open PySem PySem.Spec PyProof.Rows L2
/-- the enumerate object at e, made over the iterator o -/
abbrev enumO (it : Addr) : Obj := { cls := .type "enumerate", data := .fields #[.none, .bool false, .ref it, rawInt 0, .none, .none] }
theorem meets_enum1 {v : Value} {o : Obj} {Hs : Heap → Prop} (B : Begins v o Hs) :
    Meets (Builtin.«enumerate.__new__» ⟨[.type "enumerate", v], []⟩) (fun _ R s => Hs s.heap ∧ R (.ok (.ret (.ref (s.heap.push o).objs.size))) { s with heap := (s.heap.push o).push (enumO s.heap.objs.size) }) := by
  refine Meets.of_wp fun prog w A R s hh => ?_
  obtain ⟨hp, ge, dr, tk, os⟩ := s
  obtain ⟨h1, hh⟩ := hh
  have hsub := sub_enumerate
  have go : ∀ {A' : Around} {E' : Value → Shared → Prop} {Q' : Value → Shared → Prop}, Q' (.ref hp.objs.size) ⟨hp.push o, ge, dr, tk, os⟩ → wpAny (model prog w) A' (pyIter v) Q' E' ⟨hp, ge, dr, tk, os⟩ :=
    fun q => B.iter prog w _ _ ⟨hp, ge, dr, tk, os⟩ _ h1 q
  wp_walk using go
  refine wpAny_stack_any (fun st0 => wpAny_pure ?_)
  split
  · rename_i c _ _ _ _ _
    cases (c == Value.type "enumerate")
    · wp_walk using go
      exact ⟨_, rfl, hh⟩
    · wp_walk using go
      exact ⟨_, rfl, hh⟩
  · wp_walk using go
    exact ⟨_, rfl, hh⟩
theorem call_enumT {prog : Program} {w : World} {A : Around} {E : Value → Shared → Prop} {s : Shared} {v : Value} {o : Obj} {Hs : Heap → Prop} {Q : Value → Shared → Prop} (B : Begins v o Hs) (h1 : Hs s.heap)
    (h : ∀ h', IsEnum h' (s.heap.objs.size + 1) s.heap.objs.size 0 .none → h'.get? s.heap.objs.size = some o → (∀ b ob, s.heap.get? b = some ob → h'.get? b = some ob) → Q (.ref (s.heap.objs.size + 1)) { s with heap := h' }) :
    wpAny (model prog w) A (call (.type "enumerate") [v]) Q E s := by
  have hz : (s.heap.push o).objs.size = s.heap.objs.size + 1 := Heap.size_push ..
  have he : IsEnum ((s.heap.push o).push (enumO s.heap.objs.size)) (s.heap.objs.size + 1) s.heap.objs.size 0 .none := by
    have e := Heap.get?_push_size (s.heap.push o) (o := enumO s.heap.objs.size) rfl
    rw [hz] at e
    exact e
  refine callType_new F.called_enumerate (by decide) (F.typeCall_enumerate_1 _) (F.newCall_enumerate_1 _) (fun ob => F.args_object_init_2 ob _) F.entry_enumerate_new (meets_enum1 B) ⟨h1, ?_⟩
  show _ ∧ _
  rw [hz]
  exact ⟨⟨_, he, rfl⟩, h _ he (Heap.get?_push_of_some _ (Heap.get?_push_size _ B.free)) (fun b ob x => Heap.get?_push_of_some _ (Heap.get?_push_of_some _ x))⟩
/-- the tuple at a as it stands at each turn, its items with their places -/
def IteT (K : PySem.W.Frag) (a : Addr) : It where
  go := fun i H => ∃ xs : List V, SqT K H a xs ∧ i < xs.length
  yld := fun i H v H' => ∃ T x, v = .ref T ∧ H T = none ∧ H' = upd H T (.tup [.int (i : Nat), x]) ∧ ∀ xs, SqT K H a xs → xs[i]? = some x
  stop := fun i H => ∃ xs : List V, SqT K H a xs ∧ i = xs.length
def TnE (e it a : Addr) (i : Nat) (h : Heap) : Prop := (∃ old, IsEnum h e it ((0 : Int) + (i : Int)) old) ∧ h.IsTupleIter it a i ∧ e ≠ it ∧ a ≠ e
theorem three {c e it : Addr} (m : c ∈ [e, it]) : c = e ∨ c = it := by simpa using m
theorem turn_enumT {P : Program} {w : World} {K : PySem.W.Frag} {elts : List Expr} {kk : Nat} {tpos : Pos} (e it a : Addr) : Turn P w K (.Tuple elts kk tpos) (IteT K a) [e, it] e (TnE e it a) := by
  refine ⟨by simp, fun i h st c hc => ?_, fun i h h' st k => ?_, ?_, ?_, fun A i s Q E st q => ?_⟩
  · obtain ⟨⟨old, he⟩, ⟨o, e1, _, d1⟩, _⟩ := st
    rcases three hc with rfl | rfl
    · exact ⟨_, he, fun v q => by cases q⟩
    · exact ⟨o, e1, fun v q => by rw [d1] at q; cases q⟩
  · obtain ⟨⟨old, he⟩, h1, n1, n2⟩ := st
    exact ⟨⟨old, k e (by simp) _ he⟩, h1.at (fun o q => k it (by simp) o q), n1, n2⟩
  · intro X hP hw hK hc i pins s σ H E I hf st hg
    subst hP hw hK
    obtain ⟨⟨old, he⟩, h1, n1, n2⟩ := st
    obtain ⟨xs, qx, hi⟩ := hg
    obtain ⟨its, rv, p, _⟩ := I.tuple qx
    have l1 := rv.length
    have na : a ≠ it := fun q => by
      obtain ⟨o1, e1, c1, d1⟩ := h1
      obtain ⟨o2, e2, c2, _⟩ := p
      rw [q, e1] at e2
      cases e2
      rw [c1] at c2
      injection c2 with c2
      exact absurd c2 (by decide)
    have W := WalksT.enumFrom 0 (Draws.tuple (prog := X.prog) (w := X.w) (A := X.A.in1) (I.ok.hd hc) it a na its.toArray) e n1 (by
      intro m
      rcases List.mem_cons.mp m with m | m
      · exact n1 m
      · exact n2 (List.mem_singleton.mp m).symm) (by simp)
    refine W.item i s _ _ (by simp only [List.size_toArray]; omega) ⟨⟨old, he⟩, h1, p⟩ fun T vals h' tk hv hT hTt mid hk => ?_
    obtain ⟨t, u, hu, rfl⟩ := hv
    obtain ⟨v1, hv1, ru⟩ := rv.get (List.getElem?_eq_getElem hi)
    have ev1 : v1 = u := by
      have : its[i]? = some u := by simpa using hu
      rw [hv1] at this
      exact Option.some.inj this
    subst ev1
    refine ⟨_, rfl, W.go elts kk tpos i T { s with heap := h', toks := tk } _ _ mid fun h'' st'' hk2 => ?_⟩
    have hap := W.apart i T h' mid
    have hT2 : h''.IsTuple T #[.int ((0 : Int) + (i : Int)) t, v1] := hTt.at fun o q => hk2 T o hap q
    have new : ObjOk X.prog X.w (upd H T (.tup [.int (i : Nat), xs[i]])) h'' T (.tup [.int (i : Nat), xs[i]]) := by
      obtain ⟨o, ho, hcl, n, hd⟩ := hT2
      exact ⟨by show 2 ≤ sizeLine; decide, [.int ((0 : Int) + (i : Int)) t, v1], .cons ⟨t, by rw [Int.zero_add]⟩ (.cons ru .nil), ⟨o, ho, hcl, n, hd⟩⟩
    have I1 : Inv X pins σ (upd H T (.tup [.int (i : Nat), xs[i]])) { s with heap := h'', toks := tk } :=
      I.turnedNew (t' := tk) (ch := [e, it]) (fun c o hb q => hk2 c o hb (hk c o hb q)) hf hT new
    obtain ⟨⟨old2, m1⟩, m2, _⟩ := st''
    refine ⟨.ref T, _, I1, rfl, ⟨T, xs[i], rfl, I.hok.fresh hT, rfl, fun l hl => ?_⟩, ⟨⟨old2, m1⟩, m2, n1, n2⟩, fun c hcm => ?_⟩
    · rw [I.tuple_inj hl qx]
      exact List.getElem?_eq_getElem hi
    · have hlt : c < s.heap.objs.size := by
        rcases three hcm with rfl | rfl
        · exact Heap.lt_size he
        · obtain ⟨_, e1, _⟩ := h1; exact Heap.lt_size e1
      rw [upd_ne (Nat.ne_of_lt (Nat.lt_of_lt_of_le hlt hT))]
      exact (hf c hcm).1
  · intro X hP hw hK hc i pins s σ H E I hf st hg
    subst hP hw hK
    obtain ⟨⟨old, he⟩, h1, n1, n2⟩ := st
    obtain ⟨xs, qx, hi⟩ := hg
    obtain ⟨its, rv, p, _⟩ := I.tuple qx
    have l1 := rv.length
    have na : a ≠ it := fun q => by
      obtain ⟨o1, e1, c1, d1⟩ := h1
      obtain ⟨o2, e2, c2, _⟩ := p
      rw [q, e1] at e2
      cases e2
      rw [c1] at c2
      injection c2 with c2
      exact absurd c2 (by decide)
    have W := WalksT.enumFrom 0 (Draws.tuple (prog := X.prog) (w := X.w) (A := X.A.in1) (I.ok.hd hc) it a na its.toArray) e n1 (by
      intro m
      rcases List.mem_cons.mp m with m | m
      · exact n1 m
      · exact n2 (List.mem_singleton.mp m).symm) (by simp)
    have ei : i = its.toArray.size := by simp only [List.size_toArray]; omega
    subst ei
    refine W.done s _ _ ⟨⟨old, he⟩, h1, p⟩ fun h' tk hk => ⟨rfl, ?_⟩
    exact I.turnedL (t' := tk) (ch := [e, it]) (fun c o hb q => hk c o hb q) hf
  · obtain ⟨⟨old, he⟩, _⟩ := st
    exact wpAny_pyIter_enum he q
def iEnumT (K : PySem.W.Frag) (ta : TA) : TI := fun σ H R => ta σ H fun vs H1 => ∃ a xs, vs = [.ref a] ∧ SqT K H1 a xs ∧ R (IteT K a) H1
theorem pi_enumT {X : Cx} (K : PySem.W.Frag) (hK : X.K = K) {e : Expr} {ta : TA} {p pos tpos : Pos} {elts : List Expr} {kk : Nat} (hg : Gl X "enumerate") (hm : X.mg "enumerate" = none) (ha : PA X [e] ta) (hs : starEach [e] X.env = [(false, eval e X.env)] := by rfl) :
    PI X (.Tuple elts kk tpos) (.Call (.Name "enumerate" p) [e] [] pos) (iEnumT K ta) := by
  subst hK
  constructor
  intro pins s σ H R I h
  refine Call_ (ld_blt I hg hm boot_enumerate (PyProof.Rows.callWith_type1 (thn (ha.run pos pins s σ H _ I h) fun us s1 ⟨vs, H1, I1, r1, q1⟩ => ?_) hs rfl))
  obtain ⟨a, xs, ex, qx, q⟩ := q1
  subst ex
  cases r1 with
  | cons r rr =>
    cases rr
    cases r
    obtain ⟨its, rv, p1, _⟩ := I1.tuple qx
    obtain ⟨o1, ho1, _⟩ := id p1
    have la : a < s1.heap.objs.size := Heap.lt_size ho1
    refine call_enumT (begins_tuple a its.toArray) p1 fun h' he hit hk => wpAny_pyIter_enum he ?_
    have I2 : Inv X pins σ H1 { s1 with heap := h' } := I1.kept (t' := s1.toks) hk
    refine ⟨s1.heap.objs.size + 1, [s1.heap.objs.size + 1, s1.heap.objs.size], _, _, H1, rfl, I2, turn_enumT (s1.heap.objs.size + 1) s1.heap.objs.size a, ⟨⟨.none, he⟩, ⟨_, hit, rfl, rfl⟩, Nat.succ_ne_self _, Nat.ne_of_lt (Nat.lt_succ_of_lt la)⟩, fun b hb => ?_, q⟩
    have hle : s1.heap.objs.size ≤ b := by
      rcases three hb with z | z
      · rw [z]; exact Nat.le_add_right _ _
      · rw [z]; exact Nat.le_refl _
    exact I1.fpOk hle (I1.hok.fresh hle)
theorem walk_enumT {K : PySem.W.Frag} {a : Addr} {xs : List V} : Walk (IteT K a) xs.length (fun H => SqT K H a xs) (YPair (fun i => some (.int (i : Nat))) (fun i => xs[i]?)) := by
  refine ⟨fun i _ hi q => ⟨xs, q, hi⟩, fun _ q => ⟨xs, q, rfl⟩, fun i H v H' _ q y => ?_⟩
  obtain ⟨T, x, h1, h2, h3, h4⟩ := y
  exact ⟨T, .int (i : Nat), x, h1, h2, h3, rfl, h4 xs q⟩
end EM
/-! own defs with *args, properties, methods, makers by position, len -/
namespace OwO
open PySem PySem.Spec PyProof.Rows L2
section
variable {X : Cx} {k : Nat} {C f : Addr} {fd : FuncData} {ps : List Str} {sp : Sp}
/-- len(o), by an own __len__ -/
theorem cr_len {m : Str} (hm : m = "__len__") (S : Spc X.K C m f) (F : FnOk X.prog X.w X.K X.mg X.base CX0 k f fd ps sp) (hb : Binds X.K fd ps []) (hr : Room (k + 1) X.A) :
    CallR X (.builtin "len") (fun xs H Q => ∃ a dx fs, xs = [.ref a] ∧ H a = some (.ins C dx fs) ∧ sp [.ref a] H (fun v H' => ∃ n : Nat, v = .int n ∧ n < 1000000 ∧ Q (.int n) H') E0) := by
  subst hm
  intro pins s σ H xs us Q I r h
  obtain ⟨a, dx, fs, rfl, ha, hsp⟩ := h
  obtain rfl := Vals.ref1 r
  obtain ⟨mA, J, _⟩ := ins_get I.hok ha
  obtain ⟨od, J, _⟩ := J.look
  obtain ⟨m, hF⟩ := I.fr
  have hl := F.len _ _ _ _ hsp
  refine PySem.W.len_K hF I.ok.mod.kin J S.at_ S.fn ?_
  refine wpAny_call (codeAny_mono (F.run X.A.in1 X.stack s H ⟨[.ref a], []⟩ [.ref a] [.ref a] _ E0 hr.in1 I.env0.in1 (hb s [.ref a] I.kIn (by simpa using hl)) (.cons rfl .nil) hsp) fun r s' hq => ?_)
  cases r with
  | error e => exact (show False from hq).elim
  | ok fl =>
    cases fl with
    | ret w =>
      obtain ⟨v, H', I', rv, n, rfl, hn, q⟩ := I.after hq
      obtain ⟨t, rfl⟩ := rv
      refine ⟨⟨by omega, by omega⟩, .int n, H', I'.tok _, ⟨_, rfl⟩, q⟩
    | next => exact False.elim hq
    | brk => exact False.elim hq
    | cont => exact False.elim hq
end
end OwO
namespace My
open PySem PySem.Spec PyProof.Rows L2
/-! ### a def by its positional values -/
structure HasR (P : Program) (w : World) (K : PySem.W.Frag) (mg : Str → Option Value) (base : Heap) (k : Nat) (x : Str) (sp : Sp) : Prop where
  ex : ∃ f : Addr, FnR P w K mg base CX0 k f sp ∧ mg x = some (.ref f) ∧ PySem.W.keepIn K (.ref f) = true
section
variable {X : Cx} {k : Nat} {x : Str} {sp : Sp} {p pos : Pos} {e : Expr} {es : List Expr} {t : TA} {te : TE}
theorem pe_ownR (h : HasR X.prog X.w X.K X.mg X.base k x sp) (hr : Room k X.A) (hg : Gl X x) (ha : PA X (e :: es) t) (hdb : (x == ("__debug__" : Str)) = false := by decide)
    (he : starEach (e :: es) X.env = (false, eval e X.env) :: starEach es X.env := by rfl) (hpl : (backTo pos (starEach es X.env)).any (·.1) = false := by rfl) : PE X (.Call (.Name x p) (e :: es) [] pos) (fun σ H Q => t σ H fun vs H1 => sp vs H1 Q E0) := by
  obtain ⟨f, F, m, kp⟩ := h.ex
  constructor
  intro pins s σ H Q I h
  apply wpAny_Call_Name_kw (ld_glob I hg m ?_ hdb)
  apply PySem.W.callWith_K (h₀ := X.base) I.ok.mod.kin kp _ he hpl
  apply thn (ha.run pos pins s σ H _ I h)
  rintro us s1 ⟨vs, H1, I1, r, q⟩
  exact ⟨I1.kIn, wpAny_call (run_fnR F hr pass0 I1 r q)⟩
def tOwnS (K : PySem.W.Frag) (sp : Sp) (te : TE) : TE := fun σ H Q => te σ H fun y H1 => ∃ a xs, y = V.ref a ∧ (SqT K H1 a xs ∨ SqL K H1 a xs) ∧ sp xs H1 Q E0
/-- x(*e) -/
theorem pe_ownS {q : Pos} (K : PySem.W.Frag) (hK : X.K = K) (h : HasR X.prog X.w X.K X.mg X.base k x sp) (hr : Room k X.A) (hg : Gl X x) (he : PE X e te) (hdb : (x == ("__debug__" : Str)) = false := by decide) :
    PE X (.Call (.Name x p) [.Starred e q] [] pos) (tOwnS K sp te) := by
  subst hK
  obtain ⟨f, F, m, kp⟩ := h.ex
  exact StX.pe_callS1 F hr kp hg m pass0 he (hd := hdb)
end
/-! ### properties, methods -/
structure HasPr (P : Program) (w : World) (K : PySem.W.Frag) (mg : Str → Option Value) (base : Heap) (k : Nat) (C : Addr) (n : Str) (sp : Sp) : Prop where
  ex : ∃ (p g : Addr) (fd : FuncData), PropOf K C n p g ∧ FnOk P w K mg base CX0 k g fd ["self"] sp ∧ Binds K fd ["self"] []
theorem pe_pr {X : Cx} {k : Nat} {C : Addr} {n : Str} {sp : Sp} {e : Expr} {ta : TE} {pos : Pos} (c : Cls X.K C) (h : HasPr X.prog X.w X.K X.mg X.base k C n sp) (hr : Room (k + 1) X.A) (he : PE X e ta) (hab : attributeBase e n X.env (eval e X.env) = eval e X.env) :
    PE X (.Attribute e n pos) (tProp C sp [] E0 ta) := by
  obtain ⟨p, g, fd, hp, F, b⟩ := h.ex
  exact pe_prop he c hp F hr b .nil pass0 hab
structure HasM (P : Program) (w : World) (K : PySem.W.Frag) (mg : Str → Option Value) (base : Heap) (k : Nat) (C : Addr) (m : Str) (ps : List Str) (sp : Sp) : Prop where
  ex : ∃ (f : Addr) (fd : FuncData), FnOk P w K mg base CX0 k f fd ps sp ∧ Meth K C m f ∧ Binds K fd ps []
section
variable {X : Cx} {k : Nat} {m : Str} {ps : List Str} {sp : Sp} {pos apos : Pos} {o e : Expr} {es : List Expr} {ta : TE} {t : TA} {C : Addr}
theorem pe_ownM {pl : Sem Bool} (c : Cls X.K C) (h : HasM X.prog X.w X.K X.mg X.base k C m ps sp) (hr : Room k X.A) (he : PE X o ta) (ha : PA X (e :: es) t)
    (hst : starEach (e :: es) X.env = (false, eval e X.env) :: starEach es X.env := by rfl) (hpl : (backTo pos (starEach es X.env)).any (·.1) = false := by rfl)
    (ht : eval (.Call (.Attribute o m apos) (e :: es) [] pos) X.env = (do
      let ov ← eval o X.env
      standAt apos.atName
      let (f, first) ← holding [ov] (getMethod ov m pl)
      callWith pos f first (backTo pos (starEach (e :: es) X.env)) (backToKw pos (keywordEach [] X.env))) := by rfl) :
    PE X (.Call (.Attribute o m apos) (e :: es) [] pos) (tMeth C m sp [] E0 ta t) := by
  obtain ⟨f, fd, F, M, b⟩ := h.ex
  exact pe_meth he c M F hr b .nil pass0 ha hst hpl ht
theorem pe_ownM0 {pl : Sem Bool} (c : Cls X.K C) (h : HasM X.prog X.w X.K X.mg X.base k C m ps sp) (hr : Room k X.A) (he : PE X o ta)
    (ht : eval (.Call (.Attribute o m apos) [] [] pos) X.env = (do
      let ov ← eval o X.env
      standAt apos.atName
      let (f, first) ← holding [ov] (getMethod ov m pl)
      callWith pos f first (backTo pos (starEach [] X.env)) (backToKw pos (keywordEach [] X.env))) := by rfl) :
    PE X (.Call (.Attribute o m apos) [] [] pos) (tMeth C m sp [] E0 ta tNil) := by
  obtain ⟨f, fd, F, M, b⟩ := h.ex
  exact pe_meth0 he c M F hr b .nil pass0 ht
end
/-! ### a maker by position -/
structure HasC (P : Program) (w : World) (K : PySem.W.Frag) (mg : Str → Option Value) (base : Heap) (k : Nat) (x : Str) (C : Addr) (ps : List Str) (sp : Sp) : Prop where
  ex : ∃ (f : Addr) (fd : FuncData), Mk K C f ∧ FnOk P w K mg base CX0 k f fd ps sp ∧ mg x = some (.ref C) ∧ Binds K fd ps []
theorem pe_mkC {X : Cx} {k : Nat} {x : Str} {C : Addr} {ps : List Str} {sp : Sp} {p pos : Pos} {e : Expr} {es : List Expr} {t : TA} (h : HasC X.prog X.w X.K X.mg X.base k x C ps sp) (hx : Passes CX0 X E0) (hr : Room (k + 1) X.A) (hg : Gl X x) (ha : PA X (e :: es) t)
    (hdb : (x == ("__debug__" : Str)) = false := by decide) (he : starEach (e :: es) X.env = (false, eval e X.env) :: starEach es X.env := by rfl) (hpl : (backTo pos (starEach es X.env)).any (·.1) = false := by rfl) : PE X (.Call (.Name x p) (e :: es) [] pos) (tMake C sp [] E0 t) := by
  obtain ⟨f, fd, M, F, m, b⟩ := h.ex
  exact pe_make M F hr hg m b .nil hx ha hdb he hpl
/-! ### pairs of lists -/
theorem pget {α β : Type} {F : α → β → Prop} : ∀ {xs : List α} {ys : List β} {i : Nat} {x : α} {y : β}, Paired F xs ys → xs[i]? = some x → ys[i]? = some y → F x y
  | _, _, i, x, y, .nil, hx, _ => by simp at hx
  | _, _, 0, x, y, .cons r _, hx, hy => by
    cases hx
    cases hy
    exact r
  | _, _, i + 1, x, y, .cons _ t, hx, hy => pget t (i := i) (by simpa using hx) (by simpa using hy)
theorem plen {α β : Type} {F : α → β → Prop} : ∀ {xs : List α} {ys : List β}, Paired F xs ys → xs.length = ys.length
  | _, _, .nil => rfl
  | _, _, .cons _ t => congrArg (· + 1) (plen t)
theorem pmono {α β : Type} {F G : α → β → Prop} (h : ∀ a b, F a b → G a b) : ∀ {xs : List α} {ys : List β}, Paired F xs ys → Paired G xs ys
  | _, _, .nil => .nil
  | _, _, .cons r t => .cons (h _ _ r) (pmono h t)
theorem papp {α β : Type} {F : α → β → Prop} : ∀ {xs : List α} {ys : List β} {us : List α} {vs : List β}, Paired F xs ys → Paired F us vs → Paired F (xs ++ us) (ys ++ vs)
  | _, _, _, _, .nil, h => h
  | _, _, _, _, .cons r t, h => .cons r (papp t h)
/-- the i-th pair, by the place on the left -/
theorem pat {α β : Type} {F : α → β → Prop} {xs : List α} {ys : List β} {i : Nat} (h : Paired F xs ys) (hi : i < ys.length) : ∃ x y, xs[i]? = some x ∧ ys[i]? = some y ∧ F x y := by
  have e := plen h
  have hx : xs[i]? = some (xs[i]'(by omega)) := List.getElem?_eq_getElem (by omega)
  have hy : ys[i]? = some ys[i] := List.getElem?_eq_getElem hi
  exact ⟨_, _, hx, hy, pget h hx hy⟩
theorem pmem {α β : Type} {F G : α → β → Prop} : ∀ {xs : List α} {ys : List β}, Paired F xs ys → (∀ a b, b ∈ ys → F a b → G a b) → Paired G xs ys
  | _, _, .nil, _ => .nil
  | _, _, .cons r t, h => .cons (h _ _ List.mem_cons_self r) (pmem t fun a b m z => h a b (List.mem_cons_of_mem _ m) z)
theorem decI (a b : Int) : decide (V.int a = V.int b) = decide (a = b) := by
  by_cases z : a = b
  · subst z
    rw [decide_eq_true rfl, decide_eq_true rfl]
  · rw [decide_eq_false z, decide_eq_false]
    intro y
    injection y with y
    exact z y
/-- the i-th of a mapped list -/
theorem at_map {α : Type} {f : α → V} {xs : List α} {i : Nat} {v : V} (h : (xs.map f)[i]? = some v) : ∃ x, xs[i]? = some x ∧ v = f x := by
  rw [List.getElem?_map] at h
  cases hi : xs[i]? with
  | none => rw [hi] at h; cases h
  | some x =>
    rw [hi] at h
    exact ⟨x, rfl, (Option.some.inj h).symm⟩
theorem at_some {α : Type} {f : α → V} {xs : List α} {i : Nat} {x : α} (h : xs[i]? = some x) : (xs.map f)[i]? = some (f x) := by
  rw [List.getElem?_map, h]
  rfl
theorem take_snoc {α : Type} {xs : List α} {i : Nat} {x : α} (h : xs[i]? = some x) : xs.take (i + 1) = xs.take i ++ [x] := by
  rw [List.take_add_one, h]
  rfl
end My
/-! an own error whose __init__ says super().__init__(a text) and stores what it got and its code -/
namespace PySem
namespace ErrX
open PySem.W PySem.Calls PyProof.Rows PySem.HandSPX
/-- the statements of such an __init__: the field is called f, the code is q -/
def eArgs (f : Str) (p1 p2 : Pos) : Arguments := { posonlyargs := [], args := [{ arg := "self", annotation := none, pos := p1 }, { arg := f, annotation := none, pos := p2 }], vararg := none, kwonlyargs := [], kw_defaults := [], kwarg := none, defaults := [] }
def eBody (f msg q : Str) (k1 k2 : Nat) (a1 a2 a3 a4 a5 a6 b1 b2 b3 b4 c1 c2 c3 c4 : Pos) : List Stmt :=
  [.Expr (.Call (.Attribute (.Call (.Name "super" a1) [] [] a2) "__init__" a3) [.Constant (.str msg) k1 a4] [] a5) a6,
   .Assign [.Attribute (.Name "self" b1) f b2] (.Name f b3) b4,
   .Assign [.Attribute (.Name "self" c1) "code" c2] (.Constant (.str q) k2 c3) c4]
def eScope (f : Str) : Scope := { kind := .function, names := [(PySem.Str.ofString "self", .local), (f, .local), (PySem.Str.ofString "__class__", .free), (PySem.Str.ofString "super", .globalImplicit)], isGenerator := false, isCoroutine := false, more := [] }
/-- how the first statement's call is evaluated -/
def InitEval (msg : Str) (k1 : Nat) (a1 a2 a3 a4 a5 : Pos) : Prop := ∃ pl : Sem Bool, ∀ env : Env,
  eval (.Call (.Attribute (.Call (.Name "super" a1) [] [] a2) "__init__" a3) [.Constant (.str msg) k1 a4] [] a5) env = (do
    let ov ← attributeBase (.Call (.Name "super" a1) [] [] a2) "__init__" env (eval (.Call (.Name "super" a1) [] [] a2) env)
    standAt a3.atName
    let (g, first) ← holding [ov] (getMethod ov "__init__" pl)
    callWith a5 g first (backTo a5 (starEach [.Constant (.str msg) k1 a4] env)) [])
/-- what the written part says of the class at C, of its __init__ at fI, of the cell cc that holds the class, of the code object cd -/
structure ErrTxt (prog : Program) (K : Frag) (mg : Str → Option Value) (nm f q : Str) (C fI cc cd : Addr) : Prop where
  gC : mg nm = some (.ref C)
  gS : mg "super" = none
  cls : ∃ nm' q' N bs bm sn sub ab col dd k0 k1 k2 k3 k5, K.lookup C = some (excClassObj nm' q' C N bs bm true sn sub ab col dd k0 k1 k2 k3 k5 "ValueError.__new__") ∧ refsVE bm = true ∧ alongIn K "__init__" bm = some (some (.builtin "ValueError.__init__"))
  sa : findIn K (.ref C) "__setattr__" = some (some (.builtin "object.__setattr__"))
  ga : findIn K (.ref C) "__getattribute__" = some (some (.builtin "BaseException.__getattribute__"))
  gg : findIn K (.ref C) "__getattr__" = some none
  noF : findIn K (.ref C) f = some none
  noC : findIn K (.ref C) "code" = some none
  iC : findIn K (.ref C) "__init__" = some (some (.ref fI))
  tC : typeIn K (.ref fI) = some (.type "function")
  kC : keepIn K (.ref C) = true
  exC : subIn K (.ref C) (.type "BaseException") = some true
  veC : subIn K (.ref C) (.type "ValueError") = some true
  slf : mroIn K C (.ref C) = some true
  tyC : typeIn K (.ref C) = some (.type "type")
  hdC : hasDictIn K C = true
  opq : nsIn K cStatics "thirdparty.any" = some none
  cell : ∃ cl cld csl, K.lookup cc = some ⟨cl, cld, .cell (some (.ref C)), csl⟩
  code : ∃ ccl cdd vs ccs file tf, K.lookup cd = some ⟨ccl, cdd, .fields vs, ccs⟩ ∧ vs[2]? = some (.str file tf) ∧ ((prog.main.file : Str) == file) = true
  top : (prog.main.scope.names.lookup ("super" : Str)).isSome = false
  fn : ∃ (oc : Value) (od : Option Addr) (doc pm : Value) (an : Option Addr) (ct : Value) (osl : Array (Option Value)) (qual msg : Str) (k1 k2 : Nat) (p1 p2 a1 a2 a3 a4 a5 a6 b1 b2 b3 b4 c1 c2 c3 c4 : Pos),
    K.lookup fI = some ⟨oc, od, .func (ksFn "__init__" qual (eArgs f p1 p2) (eBody f msg q k1 k2 a1 a2 a3 a4 a5 a6 b1 b2 b3 b4 c1 c2 c3 c4) (eScope f) .none .none doc pm an (.ref cd) ct cc), osl⟩ ∧ codeIn K (.ref cd) qual = true ∧
    (∀ (s : Shared) (a b : Value), BindsTo s (ksFn "__init__" qual (eArgs f p1 p2) (eBody f msg q k1 k2 a1 a2 a3 a4 a5 a6 b1 b2 b3 b4 c1 c2 c3 c4) (eScope f) .none .none doc pm an (.ref cd) ct cc) ⟨[a, b], []⟩ [("self", a), (f, b)]) ∧ InitEval msg k1 a1 a2 a3 a4 a5
  nf : f ≠ "self" ∧ f ≠ "code" ∧ f ≠ "super" ∧ f ≠ "__class__" ∧ f ≠ "__debug__"
theorem kept_x {K : Frag} {h h' : Heap} {x : Addr} (X : K.In h) (hx : K.lookup x = none) (k : ∀ b o, b ≠ x → h.get? b = some o → h'.get? b = some o) : K.In h' := fun a o e =>
  k a o (fun z => by rw [z, hx] at e; cases e) (X a o e)
/-- what it leaves of a fresh exception at x -/
structure Made (h h' : Heap) (x C dx t1 : Addr) (f q : Str) (v : Value) : Prop where
  keep : ∀ b o, b ≠ x → h.get? b = some o → h'.get? b = some o
  obj : h'.get? x = some { cls := .ref C, dict := some dx, data := .fields #[.ref t1, .none, .none, .none, .bool false, .none] }
  dbig : h.objs.size ≤ dx
  dne : dx ≠ x
  ns : ∃ tk, h'.Ns1 dx (fun y => if y = "code" then some (.str q tk) else if y = f then some v else none)
section
variable {prog : Program} {w : World} {M : Model} {A : Around} {E : Value → Shared → Prop} {R : Result → Shared → Prop} {s : Shared} {K : Frag} {mg : Str → Option Value} {nm f q : Str} {C fI cc cd : Addr}
/-- the bound built-in __init__, called with one value -/
theorem mw_call {hp : Heap} {g : Array GenState} {d : Drawn} {t : Nat} {os : OsState} {u e t0 : Addr} {rest : List Value} {Q : Value → Shared → Prop} {nm' q' : Str} {N : Addr} {bs bm : List Value} {hdct : Bool} {sn : List Str} {sub : List Value} {ab : Bool} {col : Option Bool} {dd : Option Addr} {k0 k1 k2 k3 k5 : Option Value}
    (hC : hp.get? C = some (excClassObj nm' q' C N bs bm hdct sn sub ab col dd k0 k1 k2 k3 k5 "ValueError.__new__")) (he : hp.get? e = some (excO C t0)) (hu : hp.get? u = some (kxs_mw "ValueError.__init__" e)) (hrest : rest.length ≤ sizeLine)
    (hq : ∀ h' t1, (∀ b o, b ≠ e → hp.get? b = some o → h'.get? b = some o) → h'.get? e = some (excO C t1) → Q .none ⟨h', g, d, t, os⟩) :
    wpAny (model prog w) A (call (.ref u) rest) Q E ⟨hp, g, d, t, os⟩ := by
  refine wpAny_call (codeAny_of_tree ?_)
  show wpAny _ A.in1 (callAny (.ref u) ⟨rest, []⟩) _ _ _
  unfold callAny
  refine wpAny_bind (wpAny_load hu ?_)
  refine KFB.if_so rfl ?_
  refine wpAny_bind (ESX.check_bound F.excBase_ValueError hC he rfl ?_)
  refine wpAny_bind (wpAny_pure (wpAny_pure ⟨Code.quiet_builtin _ (by decide +kernel), codeAny_builtin F.excBase_ValueError.initEntry ?_⟩))
  rw [Around.under_plainId F.excBase_ValueError.init.plain _]
  wp_walk
  refine hq _ hp.objs.size (fun b o hb ho => ?_) ?_
  · rw [Heap.get?_update_other _ _ (Ne.symm hb)]
    exact Heap.get?_push_of_some _ ho
  · rw [Heap.get?_update_self _ (Heap.get?_push_of_some _ he) rfl]
    rfl
theorem err_init (T : ErrTxt prog K mg nm f q C fI cc cd) {x t0 : Addr} {v : Value} (X : K.In s.heap) (hG : s.heap.Ns mainGlobals mg) (hB : ∃ mb, s.heap.Ns builtinsNs mb ∧ mb "super" = some (.type "super")) (hlim : s.heap.NoLimit) (hx : s.heap.get? x = some (excO C t0)) (hnx : K.lookup x = none) (hroom : A.depth < recursionLimit)
    (hq : ∀ h' tk dx t1, Made s.heap h' x C dx t1 f q v → R (.ok (.ret .none)) { s with heap := h', toks := tk }) :
    codeAny (model prog w) A (.call (.ref fI) ⟨[.ref x, v], []⟩) R s := by
  obtain ⟨oc, od, doc, pm, an, ct, osl, qual, msg, k1, k2, p1, p2, a1, a2, a3, a4, a5, a6, b1, b2, b3, b4, c1, c2, c3, c4, ho, hcd, hbind, pl, hev⟩ := T.fn
  obtain ⟨nm', q', N, bs, bm, sn, sub, ab, col, dd, k0, k1', k2', k3, k5, hC, hbm, hal⟩ := T.cls
  obtain ⟨cl, cld, csl, hcell⟩ := T.cell
  obtain ⟨ccl, cdd, vs, ccs, file, tf, hcode, hvs, hfile⟩ := T.code
  obtain ⟨n1, n2, n3, n4, n5⟩ := T.nf
  have lk : (eScope f).names.lookup f = some .local := by
    show List.lookup f [(PySem.Str.ofString "self", NameKind.local), (f, .local), (PySem.Str.ofString "__class__", .free), (PySem.Str.ofString "super", .globalImplicit)] = some .local
    have e : (f == PySem.Str.ofString "self") = false := by simpa using n1
    simp only [List.lookup, e, beq_self_eq_true]
  refine ks_codeAny_call_defAt (binds := [("self", .ref x), (f, v)]) hroom (X _ _ ho) rfl hlim (codeRec_of X hcd) rfl (hbind _ _ _) ?_ ?_ (fun h₁ hns hk => ?_) rfl rfl rfl
  · intro y hy
    simp only [eScope, List.mem_cons, List.not_mem_nil, or_false] at hy
    rcases hy with rfl | rfl | rfl | rfl <;> (intro z; cases z)
  · intro y hy
    simp only [List.mem_cons, List.not_mem_nil, or_false] at hy
    rcases hy with rfl | rfl
    · rfl
    · exact lk
  have z1 : (PySem.Str.ofString "super" == f) = false := by simpa using n3.symm
  have z2 : (PySem.Str.ofString "__class__" == f) = false := by simpa using n4.symm
  have z3 : (PySem.Str.ofString "self" == f) = false := by simpa using n1.symm
  have z4 : (f == PySem.Str.ofString "self") = false := by simpa using n1
  have lkS : (eScope f).names.lookup ("super" : Str) = some .globalImplicit := by
    simp only [eScope, List.lookup, z1, show (PySem.Str.ofString "super" == PySem.Str.ofString "self") = false by decide +kernel, show (PySem.Str.ofString "super" == PySem.Str.ofString "__class__") = false by decide +kernel, beq_self_eq_true]
  have lkC : (eScope f).names.lookup ("__class__" : Str) = some .free := by
    simp only [eScope, List.lookup, z2, show (PySem.Str.ofString "__class__" == PySem.Str.ofString "self") = false by decide +kernel, beq_self_eq_true]
  have lkX : (eScope f).names.lookup ("self" : Str) = some .local := by
    simp only [eScope, List.lookup, beq_self_eq_true]
  have mS : List.lookup (PySem.Str.ofString "self") ([(PySem.Str.ofString "self", Value.ref x), (f, v)] : List (Str × Value)).reverse = some (.ref x) := by
    show List.lookup (PySem.Str.ofString "self") [(f, v), (PySem.Str.ofString "self", Value.ref x)] = _
    simp only [List.lookup, z3, beq_self_eq_true]
  have mF : List.lookup f ([(PySem.Str.ofString "self", Value.ref x), (f, v)] : List (Str × Value)).reverse = some v := by
    show List.lookup f [(f, v), (PySem.Str.ofString "self", Value.ref x)] = _
    simp only [List.lookup, beq_self_eq_true]
  refine ks_wpAt_execs_cons (ks_wpAt_Expr_any (ks_wpAt_MethodCall (pl := pl) ?_ (hev _)))
  have X₁ : K.In h₁ := X.keeps hk
  have hx₁ := hk _ _ hx
  refine ks_wpAt_super_base (of := ⟨oc, od, _, osl⟩) (oc := ⟨ccl, cdd, .fields vs, ccs⟩) lkS lkC rfl rfl (X₁ _ _ ho) rfl rfl rfl (X₁ _ _ hcode) rfl hvs hfile T.top ?_
  obtain ⟨mb, hmb, hsb⟩ := hB
  refine ks_loadName_global rfl lkS (loadGlobal_builtin (hG.keeps hk) T.gS (hmb.keeps hk) hsb ⟨rfl, ?_⟩)
  refine wpAny_loadName_free rfl lkC rfl ⟨_, X₁ _ _ hcell, rfl⟩ ?_
  refine wpAny_loadName_local rfl lkX hns mS ?_
  refine ks_wpAny_isType_cls (X₁ _ _ hC) rfl ⟨rfl, ?_⟩
  refine ks_wpAny_call_super (X₁ _ _ hC) rfl hx₁ rfl (fun c e => by cases e) (looks_mroIn X₁ T.slf) (fun h₂ hso k₂ => ?_)
  have X₂ : K.In h₂ := X₁.keeps k₂
  have hx₂ := k₂ _ _ hx₁
  have I₂ : InstAt h₂ x (excO C t0) C none := ⟨hx₂, rfl, rfl, trivial⟩
  have nxC : x ≠ C := fun z => by rw [z, hC] at hnx; cases hnx
  have hcl : clsIn K C = some { name := nm', bases := bs, mro := .ref C :: bm, ns := N, qualname := q', hasDict := true, slotNames := sn, subclasses := sub, abstract := ab, collection := col, hasDel := false } := by unfold clsIn; rw [hC] <;> rfl
  refine kxs_getMethod kxs_ValueError hso (looks_opaque X₂ T.opq) ((looks_clsIn X₂ hcl).andThen .now) (ESX.drop_own C bm) X₂ hal (I₂.type.andThen (looks_subIn X₂ T.veC)) nxC rfl ?_
  have hu : (h₂.push (kxs_mw "ValueError.__init__" x)).get? h₂.objs.size = some (kxs_mw "ValueError.__init__" x) := Heap.get?_push_at rfl rfl
  have k₃ : ∀ b o, h₂.get? b = some o → (h₂.push (kxs_mw "ValueError.__init__" x)).get? b = some o := fun b o e => Heap.get?_push_of_some _ e
  refine kxs_callWith (i := "ValueError.__init__") (x := x) rfl (evalArgs_plain ?_)
  refine Calls.spliced_cons (Calls.Constant_str (k := k1) (pos := a4) (Calls.spliced_nil ⟨hu, ?_⟩))
  have X₃ : K.In (h₂.push (kxs_mw "ValueError.__init__" x)) := X₂.keeps k₃
  refine mw_call (X₃ _ _ hC) (k₃ _ _ hx₂) hu (by show 1 ≤ sizeLine; decide) (fun h₄ t1 k₄ hx₄ => ?_)
  have keep₄ : ∀ b o, b ≠ x → s.heap.get? b = some o → h₄.get? b = some o := fun b o nb e => k₄ b o nb (k₃ b o (k₂ b o (hk b o e)))
  have X₄ : K.In h₄ := kept_x X hnx keep₄
  have hxL : s.heap.objs.size ≠ x := Nat.ne_of_gt (Heap.lt_size hx)
  obtain ⟨oL, es, ep, hL, rL⟩ := id hns
  have hns₄ : h₄.Ns s.heap.objs.size fun y => List.lookup y ([(PySem.Str.ofString "self", Value.ref x), (f, v)] : List (Str × Value)).reverse := ⟨oL, es, ep, k₄ _ _ hxL (k₃ _ _ (k₂ _ _ hL)), rL⟩
  have hLt : s.heap.objs.size < h₄.objs.size := Heap.lt_size (k₄ _ _ hxL (k₃ _ _ (k₂ _ _ hL)))
  -- self.f = f
  refine wpAt_of_wpAny (wpAny_execs_cons (plainObj_wpAny_Assign_Attribute ?_))
  refine ESX.ldL hns₄ mF (ESX.ldL hns₄ mS ?_ rfl lkX (by decide +kernel)) rfl lk (by simpa using n5)
  refine set_plain X₄ (ox := excO C t1) (od := none) ⟨hx₄, rfl, rfl, trivial⟩ T.sa ?_
  refine exc_osa X₄ hx₄ hcl (show refsVE (.ref C :: bm) = true from hbm) rfl T.noF (fun h₅ tk₅ dx k₅ dn dne hx₅ hn₅ => ?_)
  have keep₅ : ∀ b o, b ≠ x → s.heap.get? b = some o → h₅.get? b = some o := fun b o nb e => k₅ b o nb (keep₄ b o nb e)
  have X₅ : K.In h₅ := kept_x X hnx keep₅
  have hns₅ : h₅.Ns s.heap.objs.size fun y => List.lookup y ([(PySem.Str.ofString "self", Value.ref x), (f, v)] : List (Str × Value)).reverse := ⟨oL, es, ep, k₅ _ _ hxL (k₄ _ _ hxL (k₃ _ _ (k₂ _ _ hL))), rL⟩
  -- self.code = q
  refine wpAny_execs_cons (plainObj_wpAny_Assign_Attribute ?_)
  refine Calls.Constant_str (k := k2) (pos := c3) (ESX.ldL hns₅ mS ?_ rfl lkX (by decide +kernel))
  obtain ⟨oD, eD, pD, hD, rD⟩ := id hn₅
  refine set_plain X₅ (ox := { cls := .ref C, dict := some dx, data := .fields #[.ref t1, .none, .none, .none, .bool false, .none] }) (od := some oD) ⟨hx₅, rfl, rfl, hD⟩ T.sa ?_
  have hw : Within (fun y => if y = f then some v else none) [f] := fun y hy => by
    by_cases e : y = f
    · rw [e]
      exact List.mem_singleton.mpr rfl
    · exact absurd (show (if y = f then some v else none) = none from if_neg e) hy
  refine OEX.osa_old X₅ hx₅ hn₅ hw (by show 1 ≤ 1000; decide) hcl (show refsVE (.ref C :: bm) = true from hbm) rfl T.noC (fun h₆ tk₆ k₆ hn₆ => ?_)
  refine wpAny_execs_nil (hq h₆ tk₆ dx t1 ⟨fun b o nb e => ?_, k₆ _ _ dne.symm hx₅, Nat.le_trans (Nat.le_of_lt hLt) dn, dne, _, hn₆⟩)
  have nbd : b ≠ dx := Nat.ne_of_lt (Nat.lt_of_lt_of_le (Heap.lt_size e) (Nat.le_trans (Nat.le_of_lt hLt) dn))
  exact k₆ b o nbd (keep₅ b o nb e)
/-- a made error -/
structure Own (h h' : Heap) (e C d : Addr) (f q : Str) (v : Value) : Prop where
  keep : ∀ b o, h.get? b = some o → h'.get? b = some o
  new : h.objs.size ≤ e
  obj : ∃ oe vs, h'.get? e = some oe ∧ oe.cls = .ref C ∧ oe.dict = some d ∧ oe.data = .fields vs ∧ vs[1]? = some .none
  dbig : h.objs.size ≤ d
  dne : d ≠ e
  ns : ∃ tk, h'.Ns1 d (fun y => if y = "code" then some (.str q tk) else if y = f then some v else none)
theorem err_made (T : ErrTxt prog K mg nm f q C fI cc cd) {v : Value} (X : K.In s.heap) (hG : s.heap.Ns mainGlobals mg) (hB : ∃ mb, s.heap.Ns builtinsNs mb ∧ mb "super" = some (.type "super")) (hlim : s.heap.NoLimit) (hroom : A.depth + 1 < recursionLimit)
    (hq : ∀ h' tk e d, Own s.heap h' e C d f q v → R (.ok (.ret (.ref e))) { s with heap := h', toks := tk }) :
    codeAny (model prog w) A (.call (.ref C) ⟨[v], []⟩) R s := by
  obtain ⟨nm', q', N, bs, bm, sn, sub, ab, col, dd, k0, k1', k2', k3, k5, hC, hbm, hal⟩ := T.cls
  obtain ⟨hp, g, dr, tk, os⟩ := s
  have k : ∀ b o, hp.get? b = some o → ((hp.push (kdv_tup [v])).push (excO C hp.objs.size)).get? b = some o := fun b o e => Heap.get?_push_of_some _ (Heap.get?_push_of_some _ e)
  have hget : ((hp.push (kdv_tup [v])).push (excO C hp.objs.size)).get? (hp.objs.size + 1) = some (excO C hp.objs.size) := by heap_get
  have hnx : K.lookup (hp.objs.size + 1) = none := by
    cases e : K.lookup (hp.objs.size + 1) with
    | none => rfl
    | some o =>
      have z : hp.get? (hp.objs.size + 1) = some o := X _ _ e
      exact absurd (Nat.lt_of_succ_lt (Heap.lt_size z)) (Nat.lt_irrefl _)
  obtain ⟨mb, hmb, hsb⟩ := hB
  refine call_own F.excBase_ValueError (fun X => refsVE_contains X bm hbm) (X _ _ hC) (looks_findIn X T.iC) (fun self => bind_fn X self T.tC) (by show 1 ≤ sizeLine; decide) ?_
  refine err_init (s := ⟨(hp.push (kdv_tup [v])).push (excO C hp.objs.size), g, dr, tk, os⟩) T (X.keeps k) (hG.keeps k) ⟨mb, hmb.keeps k, hsb⟩ (hlim.keeps k) hget hnx (show A.depth + 1 < recursionLimit from hroom) fun h' tk' dx t1 M => ?_
  have old : ∀ b o, hp.get? b = some o → h'.get? b = some o := fun b o e => M.keep b o (Nat.ne_of_lt (Nat.lt_succ_of_lt (Heap.lt_size e))) (k b o e)
  have z : hp.objs.size + 1 + 1 ≤ dx := by
    have dn := M.dbig
    rw [Heap.size_push, Heap.size_push] at dn
    exact dn
  exact ⟨rfl, hq h' tk' (hp.objs.size + 1) dx ⟨old, Nat.le_succ _, ⟨_, _, M.obj, rfl, rfl, rfl, rfl⟩, Nat.le_trans (Nat.le_trans (Nat.le_succ _) (Nat.le_succ _)) z, M.dne, M.ns⟩⟩
end
end ErrX
end PySem
namespace My
open PySem PySem.Spec PyProof.Rows L2
abbrev errD (f q : Str) (v : V) : List (Str × V) := [("code", .str q), (f, v)]
theorem relO_err {v : V} {v' : Value} {f q : Str} {tk : Tok} (r : RelV v v') (g : Str) : RelO (List.lookup g (errD f q v)) (if g = "code" then some (.str q tk) else if g = f then some v' else none) := by
  by_cases hc : g = "code"
  · rw [if_pos hc]
    have e : List.lookup g (errD f q v) = some (.str q) := by
      subst hc
      simp [errD, List.lookup]
    rw [e]
    exact ⟨_, rfl⟩
  · rw [if_neg hc]
    have e1 : (g == ("code" : Str)) = false := by simpa using hc
    by_cases hf : g = f
    · rw [if_pos hf]
      have e : List.lookup g (errD f q v) = some v := by
        subst hf
        simp [errD, List.lookup, e1]
      rw [e]
      exact r
    · rw [if_neg hf]
      have e2 : (g == f) = false := by simpa using hf
      have e : List.lookup g (errD f q v) = none := by simp [errD, List.lookup, e1, e2]
      rw [e]
      trivial
section
variable {X : Cx} {C fI cc cd : Addr} {nm f q : Str}
/-- X(e), the error made -/
def tMkErr (C : Addr) (f q : Str) (ta : TA) : L2.St → Hp → XK → Prop := fun σ H Q => ta σ H fun vs H1 => ∃ v, vs = [v] ∧ ∀ d, H1 d = none → Q (.ref C) (some d) (upd H1 d (.xd (errD f q v)))
theorem pmk_err {a : Expr} {ta : TA} {p pos : Pos} {k : Nat} (T : ErrX.ErrTxt X.prog X.K X.mg nm f q C fI cc cd) (hr : Room k X.A) (ha : PA X [a] ta) (hg : Gl X nm) (hd : (nm == ("__debug__" : Str)) = false := by decide)
    (he : starEach (a :: []) X.env = (false, eval a X.env) :: starEach [] X.env := by rfl) (hpl : (backTo pos (starEach [] X.env)).any (·.1) = false := by rfl) :
    PMk X (.Call (.Name nm p) [a] [] pos) (tMkErr C f q ta) := by
  intro pins s σ H Q I h
  refine wpAny_Call_Name_kw (ld_glob I hg T.gC ?_ hd)
  refine PySem.W.callWith_K (h₀ := X.base) I.ok.mod.kin T.kC (thn (ha.run pos pins s σ H _ I h) fun us s1 hh => ?_) he hpl
  obtain ⟨vs, H1, I1, r1, v, ev, q1⟩ := hh
  subst ev
  refine ⟨I1.kIn, ?_⟩
  cases r1 with
  | cons rv rn =>
    rename_i v' us'
    cases rn
    have hlim := I1.nolimit
    obtain ⟨mb, hb1, hb2⟩ := I1.mod.blt
    have hB : ∃ mb, s1.heap.Ns builtinsNs mb ∧ mb "super" = some (.type "super") := ⟨mb, hb1.keeps I1.bk, (hb2 _ (by decide +kernel)).trans (by decide +kernel)⟩
    refine wpAny_call (ErrX.err_made T I1.kIn (I1.mod.glob.keeps I1.bk) hB hlim (by have := hr.dp; omega) fun h' tk' e d M => ?_)
    obtain ⟨hp, g, dr, tok, os⟩ := s1
    obtain ⟨oe, fv, hoe, hc, hdct, hdat, h1⟩ := M.obj
    obtain ⟨tk0, hns⟩ := M.ns
    obtain ⟨G', g1, g2⟩ := restrict h' fun b => decide (b ≠ e)
    have gk : ∀ b, b ≠ e → G'.get? b = h'.get? b := fun b hb => g1 b (decide_eq_true hb)
    have ge : G'.get? e = none := g2 e (by simp)
    have old : ∀ b o, hp.get? b = some o → G'.get? b = some o := fun b o z => (gk b (Nat.ne_of_lt (Nat.lt_of_lt_of_le (Heap.lt_size z) M.new))).trans (M.keep b o z)
    have ob : ObjOk X.prog X.w (upd H1 d (.xd (errD f q v))) G' d (.xd (errD f q v)) := ⟨_, hns.at (fun o z => (gk d M.dne).trans z), fun y => relO_err rv y⟩
    have J : Inv X pins σ (upd H1 d (.xd (errD f q v))) ⟨G', g, dr, tk', os⟩ := I1.laid (t' := tk') old M.dbig ob
    refine ⟨e, oe, fv, ⟨G', g, dr, tk', os⟩, _, .ref C, some d, rfl, J, fun b o z => ?_, ge, hoe, ⟨hc, hdct⟩, hdat, h1, ?_, rfl, I1.bare, raises_own T.exC T.tyC, q1 d (I1.hok.fresh M.dbig)⟩
    · by_cases hb : b = e
      · have z' : G'.get? b = some o := z
        rw [hb, ge] at z'
        cases z'
      · exact (gk b hb).symm.trans z
    · rw [upd_ne (Ne.symm M.dne)]
      exact I1.hok.fresh M.new
end
end My
namespace My
open PySem PySem.Spec PyProof.Rows L2
/-! ### a field of a caught exception, wherever it is pinned -/
def tXg (K : PySem.W.Frag) (a : Addr) (cls : Value) (d : Option Addr) (n : Str) (te : TE) : TE := fun σ H Q => te σ H fun x H1 => x = .ref a ∧
  ∃ (C dd : Addr) (fs : List (Str × V)) (v : V), cls = .ref C ∧ XfC K C ∧ PySem.W.findIn K (.ref C) n = some none ∧ d = some dd ∧ H1 dd = some (.xd fs) ∧ fs.lookup n = some v ∧ Q v H1
section
variable {X : Cx} {a : Addr} {oe : Obj} {cls : Value} {d : Option Addr} {e : Expr} {te : TE} {pos : Pos} {n : Str}
theorem pe_xg {K : PySem.W.Frag} (hp : (a, oe) ∈ X.pn) (hz : Zc cls d oe) (hf : ∃ vs, oe.data = .fields vs) (he : PE X e te) (hK : X.K = K := by rfl) (hb : attributeBase e n X.env (eval e X.env) = eval e X.env := by rfl) : PE X (.Attribute e n pos) (tXg K a cls d n te) := by
  subst hK
  constructor
  intro pins s σ H Q I h
  apply attr_of hb
  apply thn (he.run pins s σ H _ I h)
  rintro u s1 ⟨x, H1, I1, rx, rfl, C, dd, fs, v, rfl, T, hno, rfl, ea, l, q⟩
  obtain rfl : u = Value.ref a := rx
  have pn := (I1.pin (a, oe) (List.mem_append_left _ hp)).1
  obtain ⟨vs, hd⟩ := hf
  obtain ⟨mA, hns, hr⟩ : ObjOk X.prog X.w H1 s1.heap dd (.xd fs) := I1.hok dd _ ea
  obtain ⟨od, ho, hl⟩ := lookIn_ns hns
  have rn := hr n
  rw [l] at rn
  obtain ⟨u, hu, ru⟩ := RelO.some_of (v := v) (o := mA n) rn
  have at_ : PySem.W.InstAt s1.heap a oe C (some od) := ⟨pn, hz.1, by unfold PySem.W.notCls; rw [hd] <;> rfl, by rw [hz.2]; exact ho⟩
  exact HandSPX.exc_get I1.kIn at_ T.ga T.gg T.exC (PySem.W.findObj_own T.hdC hno rfl (by rw [hl, hu])) (handed_of ru) ⟨v, H1, I1.tok _, ru, q⟩
end
/-! ### an own def, called where an exception is pinned -/
structure FnP (P : Program) (w : World) (K : PySem.W.Frag) (mg : Str → Option Value) (base : Heap) (k : Nat) (f : Addr) (fd : FuncData) (ps : List Str) (sp : Addr × Obj → Sp) : Prop where
  len : ∀ p vs H Q E, sp p vs H Q E → vs.length = ps.length
  run : ∀ (A : Around) (outer : List Env) (s : Shared) (H : Hp) (args : Args) (us : List Value) (vs : List V) (Q : VK) (p : Addr × Obj), L2H.RoomH k A → L2H.PinOk outer H s p → Env0 P w K mg base A outer s H → BindsTo s fd args (ps.zip us) → Vals vs us → sp p vs H Q E0 →
    codeAny (model P w) A (.call (.ref f) args) (CR CX0 outer P w H s Q E0) s
section
variable {P : Program} {w : World} {K : PySem.W.Frag} {mg : Str → Option Value} {base : Heap}
theorem Fun.pinned {x qual : Str} {st : Stmt} {f : Addr} {fd : FuncData} {N ps : List Str} {k : Nat} {sp : Addr × Obj → Sp} (F : Fun K x qual st f fd) (S : FnScope N ps (defScope st)) (len : ∀ p vs H Q E, sp p vs H Q E → vs.length = ps.length)
    (hbody : ∀ (cdv : Value) (A : Around) (outer : List Env) (s : Shared) (H : Hp) (vs : List V) (Q : VK) (p : Addr × Obj), L2H.RoomH k (A.deeper (envOfC qual (defScope st) s.heap.objs.size f cdv)) → sp p vs H Q E0 →
      ∃ t, PSs (L2H.cxH CX0 P w K mg base N qual (defScope st) f cdv A outer s H E0 p) (defBody st) t ∧ t { nx := fun _ H' => Q .non H', rt := Q } (L2.start N vs) H) : FnP P w K mg base (k + 1) f fd ps sp := by
  obtain ⟨oc, od, kV, doc, pm, an, cdv, ct, osl, rfl, lk, hcd⟩ := F.ex
  constructor
  · exact len
  intro A outer s H args us vs Q p hr hpin e0 hb r hsp
  have hl := len _ _ _ _ _ hsp
  have KX : K.In s.heap := e0.mod.kin.keeps fun b o e => (e0.bs b o e).1
  have lim : s.heap.NoLimit := e0.mod.nolimit.keeps fun b o e => (e0.bs b o e).1
  have kinds : ∀ y ∈ ps.zip us, (defScope st).names.lookup y.1 = some .local ∨ ((defScope st).names.lookup y.1 = some .cell ∧ ((cellsFrom (s.heap.objs.size + 1) (defScope st).names []).lookup y.1).isSome = true) := by
    rintro ⟨n, v⟩ hy
    cases S.par n (List.of_mem_zip hy).1 with
    | inl q => exact .inl q
    | inr q => exact .inr ⟨q, PySem.W.cellsFrom_some _ _ _ (.inl q)⟩
  apply codeAny_call_function hr.depth (KX _ _ lk) rfl S.co S.gen rfl (PySem.W.codeRec_of KX hcd)
  apply hb
  apply wpAny_newFunctionEnv_cells S.kind kinds
  rintro env rfl s1 x
  refine ⟨lim.keeps x.toInCall.keep, codeAny_func ?_⟩
  obtain ⟨t, ht, hq⟩ := hbody cdv A outer s H vs Q p (hr.deeper _) hsp
  have I := L2H.inv_startH (CX := CX0) (E := E0) (f := f) (cd := cdv) S hpin e0 hl r x
  apply wpAny_mono (ht.run [] s1 (L2.start N vs) H _ I hq)
  · intro fl s' hs
    cases fl with
    | ret u =>
      obtain ⟨v, σ', H', J, rv, q⟩ := hs
      exact ⟨v, H', J.os, J.bare, J.base, J.hok, rv, q⟩
    | next =>
      obtain ⟨σ', H', J, q⟩ := hs
      exact ⟨V.non, H', J.os, J.bare, J.base, J.hok, rfl, q⟩
    | brk =>
      obtain ⟨_, _, _, q⟩ := hs
      exact q.elim
    | cont =>
      obtain ⟨_, _, _, q⟩ := hs
      exact q.elim
  · exact fun e s' hs => hs
end
structure HasP (P : Program) (w : World) (K : PySem.W.Frag) (mg : Str → Option Value) (base : Heap) (k : Nat) (x : Str) (ps : List Str) (sp : Addr × Obj → Sp) : Prop where
  ex : ∃ (f : Addr) (fd : FuncData), FnP P w K mg base k f fd ps sp ∧ mg x = some (.ref f) ∧ PySem.W.keepIn K (.ref f) = true ∧ Binds K fd ps []
section
variable {X : Cx} {k : Nat} {x : Str} {ps : List Str} {sp : Addr × Obj → Sp} {p : Addr × Obj} {ps1 pos : Pos} {e : Expr} {es : List Expr} {t : TA}
theorem pe_ownP (h : HasP X.prog X.w X.K X.mg X.base k x ps sp) (hr : L2H.RoomH k X.A) (hp : p ∈ X.pn) {sp1 : Sp} (hs : ∀ vs H Q, sp1 vs H Q E0 → sp p vs H Q E0) (hg : Gl X x) (ha : PA X (e :: es) t) (hdb : (x == ("__debug__" : Str)) = false := by decide)
    (he : starEach (e :: es) X.env = (false, eval e X.env) :: starEach es X.env := by rfl) (hpl : (backTo pos (starEach es X.env)).any (·.1) = false := by rfl) : PE X (.Call (.Name x ps1) (e :: es) [] pos) (tCall sp1 [] E0 t) := by
  obtain ⟨f, fd, F, m, kp, hb⟩ := h.ex
  constructor
  intro pins s σ H Q I h
  apply wpAny_Call_Name_kw (ld_glob I hg m ?_ hdb)
  apply PySem.W.callWith_K (h₀ := X.base) I.ok.mod.kin kp _ he hpl
  apply thn (ha.run pos pins s σ H _ I h)
  rintro us s1 ⟨vs, H1, I1, r, q⟩
  rw [List.append_nil] at q
  replace q := hs _ _ _ q
  refine ⟨I1.kIn, ?_⟩
  have b := hb s1 us I1.kIn (by rw [List.append_nil, ← r.length]; exact F.len _ _ _ _ _ q)
  rw [List.append_nil] at b
  have P1 := I1.pin p (List.mem_append_left _ hp)
  have pok : L2H.PinOk X.stack H1 s1 p := ⟨P1.1, P1.2.1, fun hm => (List.mem_cons.mp (I1.stkSub p.1 hm)).elim P1.2.2.1 P1.2.2.2.1, P1.2.2.2.2⟩
  apply wpAny_call
  apply codeAny_mono (F.run X.A X.stack s1 H1 ⟨us, []⟩ us vs Q p hr pok I1.env0 b r q)
  intro r s' hq
  cases r with
  | error e => exact (show False from hq).elim
  | ok fl =>
    cases fl with
    | ret u => exact I1.after hq
    | next => exact False.elim hq
    | brk => exact False.elim hq
    | cont => exact False.elim hq
end
/-! ### except (x1, x2, x3) as n, one of which always fits -/
theorem fly_push {B h : Heap} {l : List Env} {e : Addr} {Z : Obj → Prop} (x : HandSPX.FlyingZ B l e Z h) (o : Obj) : HandSPX.FlyingZ B l e Z (h.push o) := by
  have k : ∀ b u, h.get? b = some u → (h.push o).get? b = some u := fun b u z => Heap.get?_push_of_some _ z
  obtain ⟨x1, x2, x3, oe, vs, T, oT, ts, y1, y2, y3, y4, y5, y6, y7, y8, y9⟩ := x
  exact ⟨fun b u z => k b u (x1 b u z), x2, Heap.FunFrames.of_keeps (fun b u z _ => ⟨u, k b u z, rfl⟩) x3, oe, vs, T, oT, ts, k _ _ y1, y2, y3, y4, y5, y6, k _ _ y7, y8, y9⟩
def endsOff (i : Nat) (D : Ends) : Ends := { nx := fun σ' H' => D.nx (σ'.set i none) H', rt := D.rt, bk := fun σ' H' => D.bk (σ'.set i none) H', ct := fun σ' H' => D.ct (σ'.set i none) H' }
/-- the wish for an exception that some of the classes cs takes -/
def wTup (K : PySem.W.Frag) (cs : List Value) (len i : Nat) (ts : Addr → Value → Option Addr → TS) (D : Ends) : WX := fun cls d σ H => PySem.W.exmAny K cls cs = some true ∧ ∀ a, H a = none → σ.length = len → ts a cls d (endsOff i D) (σ.set i (some (.ref a))) H
section
variable {X : Cx} {x1 x2 x3 n : Str} {c1 c2 c3 : Value} {i j : Nat} {body suite : List Stmt} {b₀ : Stmt} {p1 p2 p3 p4 pos pos' : Pos} {tb : WX → TS} {ts : Addr → Value → Option Addr → TS}
theorem ps_try_tup3 (hs : X.stack = X.env :: X.outer) (hf : X.env.frame = some X.env.locals) (hN : X.N.Nodup) (hi : X.N[i]? = some n) (hln : X.env.kindOf n = some .local) (n1 : Names X x1 c1) (n2 : Names X x2 c2) (n3 : Names X x3 c3)
    (hb : ∀ (W : WX) (pn : List (Addr × Obj)) (xe : Value → Shared → Prop), Takes (X.tr pn xe) W → PassesOwn (model X.prog X.w) X.A X.env xe → PSs (X.tr pn xe) body (tb W))
    (hsu : ∀ (a : Addr) (oe : Obj) (cls : Value) (d : Option Addr) (pn : List (Addr × Obj)), Zc cls d oe → (∃ vs, oe.data = .fields vs) → PSs (X.suite a ((a, oe) :: pn)) (b₀ :: suite) (ts a cls d)) :
    PS X (.Try body [.ExceptHandler (some (.Tuple [.Name x1 p1, .Name x2 p2, .Name x3 p3] j p4)) (some n) (b₀ :: suite) pos'] [] [] pos) (fun D σ H => tb (wTup X.K [c1, c2, c3] X.N.length i ts D) D σ H) := by
  constructor
  intro pins s σ H D I h
  have ok := I.ok
  have hfr : X.A.frames = some (X.env :: X.outer) := by rw [ok.frames, hs]
  apply wpAny_Try_except
  generalize hh : ExceptHandler.ExceptHandler (some (Expr.Tuple [.Name x1 p1, .Name x2 p2, .Name x3 p3] j p4)) (some n) (b₀ :: suite) pos' = hd
  have run := (hb (wTup X.K [c1, c2, c3] X.N.length i ts D) (X.pn ++ pins) (fun e s₁ => wpAny (model X.prog X.w) X.A (noteFrame e X.env) (fun _ s₂ => wpAny (model X.prog X.w) X.A (setFlight e none) (fun _ s₃ =>
    wpAny (model X.prog X.w) X.A (handleBy e X.env [hd]) (SP X pins D) X.xe s₃) X.xe s₂) X.xe s₁) ?tk PassesOwn.looking).run [] s σ H D (I.toTry _) h
  case tk =>
    rintro u s' ⟨a, B, sI, pins', σ', H', cls, d, rfl, J', nb, up, sky, na, os, ag, hm, hyes⟩
    have J : Inv X pins σ' H' sI := J'.ofTry ok
    have sky' : Sky B (X.env :: X.outer) a (Zc cls d) X.env.locals s'.heap := by rw [← hs]; exact sky
    show wpAny (model X.prog X.w) X.A (noteFrame (.ref a) X.env) _ _ _
    apply Sky.land Zc.steady hfr hf sky'
    intro h3 fl3 up3
    obtain ⟨oe3, vs3, he3, hz3, hd3⟩ := fl3.there
    have out : a ∉ frs (X.env :: X.outer) := fun hm => by
      obtain ⟨_, o', e', hnf⟩ := fl3.2.2.1.mem hm
      rw [he3] at e'
      cases e'
      exact hnf _ hd3
    have nL : a ≠ X.env.locals := fun z => out (List.mem_filterMap.mpr ⟨X.env, List.mem_cons_self, by rw [hf, z]⟩)
    have nF : a ∉ X.fs := fun hm => by
      obtain ⟨e, he, q⟩ := List.mem_filterMap.mp hm
      exact out (List.mem_filterMap.mpr ⟨e, List.mem_cons_of_mem _ he, q⟩)
    have J3 : Inv X pins σ' H' { s' with heap := h3 } := J.landed nb fl3.1 (up.trans up3) os ag
    have S3 := J3.suite he3 hd3 na nL nF
    subst hh
    refine wpAny_handleBy_cons (codeAny_handlers_test ?_) (by intro q; cases q)
    have nm : ∀ {x : Str} {c : Value} {p : Pos} {Q : Value → Shared → Prop} {E : Value → Shared → Prop}, Names X x c → Q c { s' with heap := h3 } → wpAny (model X.prog X.w) (X.A.mark (some (.ref a))) (eval (.Name x p) X.env) Q E { s' with heap := h3 } := by
      rintro x c p Q E ⟨hg, hdbg, hm | ⟨hm, hv, hnn⟩⟩ q
      · exact ld_glob (X := X.suite a ((a, oe3) :: (X.pn ++ pins))) S3 hg hm q hdbg
      · exact ld_blt (X := X.suite a ((a, oe3) :: (X.pn ++ pins))) S3 hg hm hv q hnn hdbg
    apply wpAny_Tuple
    refine wpAny_items_cons (nm n1 (wpAny_items_cons (nm n2 (wpAny_items_cons (nm n3 (wpAny_items_nil ⟨by show 3 ≤ sizeLine; decide, ?_⟩))))))
    have fl5 := fly_push fl3 { cls := .type "tuple", data := .seq [c1, c2, c3].toArray }
    have up5 : s'.heap.UpToSlots (h3.push { cls := .type "tuple", data := .seq [c1, c2, c3].toArray }) := up3.trans (Heap.UpToSlots.of_keeps fun b o e => Heap.get?_push_of_some _ e)
    have J5 : Inv X pins σ' H' { s' with heap := h3.push { cls := .type "tuple", data := .seq [c1, c2, c3].toArray } } := J.landed nb fl5.1 (up.trans up5) os ag
    have LT : PySem.W.Looks (model X.prog X.w) (h3.push { cls := .type "tuple", data := .seq [c1, c2, c3].toArray }) (typeOf (.ref a)) cls := fun A Q E s k q => wpAny_typeOf_ref (k _ _ (Heap.get?_push_of_some _ he3)) (by rw [hz3.1]; exact q)
    have LM := PySem.W.exm_tup3 (M := model X.prog X.w) (J5.kIn) LT (Heap.get?_push_size _ rfl) hm
    apply LM.here
    apply codeAny_handlers_suite_as
    apply HandSPX.lands_againZ fl5
    intro h4 fl4 up4
    have J4 : Inv X pins σ' H' { s' with heap := h4 } := J.landed nb fl4.1 ((up.trans up5).trans up4) os ag
    obtain ⟨oe4, vs4, he4, hz4, hd4⟩ := fl4.there
    have S4 := J4.suite he4 hd4 na nL nF
    refine store_ok (X := X.suite a ((a, oe4) :: (X.pn ++ pins))) (v := .ref a) S4 hN hi (.inl hln) rfl (fun s5 S5 => ?_) (.inr hln)
    apply wpAny_mono ((hsu a oe4 cls d (X.pn ++ pins) hz4 ⟨_, hd4⟩).run [] s5 _ H' _ S5 (hyes a na J.len))
    · have off : ∀ {σ6 : L2.St} {H6 : Hp} {s6 : Shared} {Q : Shared → Prop}, Inv (X.suite a ((a, oe4) :: (X.pn ++ pins))) [] σ6 H6 s6 → (∀ s7, Inv X pins (σ6.set i none) H6 s7 → Q s7) →
          wpAny (model X.prog X.w) X.A (do bindName X.env n .none; unbindBehindTheSuite X.env n pos') (fun _ s7 => Q s7) X.xe s6 := fun S6 hq => gone_ok (S6.unsuite ok) hN hi hln hq
      intro f s6 hsp
      cases f with
      | ret u =>
        obtain ⟨v6, σ6, H6, S6, r6, q6⟩ := hsp
        exact off S6 fun s7 J7 => ⟨_, _, _, J7, r6, q6⟩
      | next =>
        obtain ⟨σ6, H6, S6, q6⟩ := hsp
        exact off S6 fun s7 J7 => ⟨_, _, J7, q6⟩
      | brk =>
        obtain ⟨σ6, H6, S6, q6⟩ := hsp
        exact off S6 fun s7 J7 => ⟨_, _, J7, q6⟩
      | cont =>
        obtain ⟨σ6, H6, S6, q6⟩ := hsp
        exact off S6 fun s7 J7 => ⟨_, _, J7, q6⟩
    · exact fun _ _ z => z.elim
  refine wpAny_mono run (fun f s1 hsp => ?_) (fun e s1 he => he)
  cases f with
  | next =>
    obtain ⟨σ', H', J', q⟩ := hsp
    exact wpAny_execs_nil ⟨σ', H', J'.ofTry ok, q⟩
  | ret u =>
    obtain ⟨v, σ', H', J', r, q⟩ := hsp
    exact ⟨v, σ', H', J'.ofTry ok, r, q⟩
  | brk =>
    obtain ⟨σ', H', J', q⟩ := hsp
    exact ⟨σ', H', J'.ofTry ok, q⟩
  | cont =>
    obtain ⟨σ', H', J', q⟩ := hsp
    exact ⟨σ', H', J'.ofTry ok, q⟩
end
end My
namespace My
open PySem PySem.Spec PyProof.Rows L2
/-! ### which field an error's code tells -/
abbrev cGiven : List V := [.str "InvalidNumber", .str "InvalidThing", .str "InvalidRing", .str "InvalidName", .str "InvalidOrder", .str "WrongCount"]
abbrev cAt : List V := [.str "InvalidTerm", .str "InvalidLine", .str "InvalidProduct", .str "InvalidCommand", .str "DegreeTooHigh", .str "NotWhole", .str "NotStraight", .str "NoUnit"]
abbrev cNumber : List V := [.str "NoInverse", .str "Unsound", .str "InUse", .str "Broken", .str "UnknownNumber"]
abbrev cName : List V := [.str "Unused", .str "DuplicateName", .str "UnknownName"]
abbrev cMost : List V := [.str "TooMany", .str "TooGreat", .str "Full"]
def fieldName (q : Str) : Option Str :=
  if inV (.str q) cGiven then some "given" else if inV (.str q) cAt then some "at" else if inV (.str q) cNumber then some "number" else if inV (.str q) cName then some "name" else if inV (.str q) cMost then some "most" else if q = "InvalidHead" then some "part" else if q = "InvalidTable" then some "rule" else if q = "InvalidText" then some "line" else none
/-- an error of an own class at C, its dict fs: its code, the field that the code tells -/
structure ErrAt (K : PySem.W.Frag) (cls : Value) (d : Option Addr) (H : Hp) (q : Str) (v : V) : Prop where
  ex : ∃ (C dd : Addr) (fs : List (Str × V)) (f : Str), cls = .ref C ∧ XfC K C ∧ d = some dd ∧ H dd = some (.xd fs) ∧ PySem.W.findIn K (.ref C) "code" = some none ∧ fs.lookup ("code" : Str) = some (V.str q) ∧
    fieldName q = some f ∧ PySem.W.findIn K (.ref C) f = some none ∧ fs.lookup f = some v
theorem ErrAt.same {K : PySem.W.Frag} {cls : Value} {d : Option Addr} {H H' : Hp} {q : Str} {v : V} (h : ErrAt K cls d H q v) (s : Same H H') : ErrAt K cls d H' q v := by
  obtain ⟨C, dd, fs, f, a, b, c, e, r⟩ := h.ex
  exact ⟨C, dd, fs, f, a, b, c, s _ _ e, r⟩
def spField (K : PySem.W.Frag) (p : Addr × Obj) : Sp := fun vs H Q _ => ∃ (cls : Value) (d : Option Addr) (q : Str) (v : V), vs = [.ref p.1] ∧ Zc cls d p.2 ∧ (∃ ws, p.2.data = .fields ws) ∧ ErrAt K cls d H q v ∧ ∀ H', Same H H' → Q v H'
section
variable {P : Program} {w : World} {K : PySem.W.Frag} {mg : Str → Option Value} {base : Heap}
theorem ok_field (F : Fn K mg "_law_field" s_l_field ["_law_e"]) : HasP P w K mg base 1 "_law_field" ["_law_e"] (spField K) := by
  obtain ⟨f, fd, F, m, b⟩ := F.ex
  refine ⟨f, fd, Fun.pinned F sc_l_field (fun p vs H Q E h => ?_) (fun cdv A outer s H vs Q p hr h => ?_), m, F.kp, b⟩
  · obtain ⟨cls, d, q, v, rfl, _⟩ := h
    rfl
  obtain ⟨cls, d, q, v, rfl, hz, hf, er, hq⟩ := h
  refine ⟨_, (pss_cons (ps_if (pt_cmpR op_in_seq (pe_xg (K := K) (List.mem_cons_self) hz hf (pv 0)) (pe_lst (pa_cons pe_str (pa_cons pe_str (pa_cons pe_str (pa_cons pe_str (pa_cons pe_str (pa_cons pe_str pa_nil))))))) rfl)
        (pss_one (ps_ret (pe_xg (K := K) (List.mem_cons_self) hz hf (pv 0))))
        pss_nil)
      (pss_cons (ps_if (pt_cmpR op_in_seq (pe_xg (K := K) (List.mem_cons_self) hz hf (pv 0)) (pe_lst (pa_cons pe_str (pa_cons pe_str (pa_cons pe_str (pa_cons pe_str (pa_cons pe_str (pa_cons pe_str (pa_cons pe_str (pa_cons pe_str pa_nil))))))))) rfl)
        (pss_one (ps_ret (pe_xg (K := K) (List.mem_cons_self) hz hf (pv 0))))
        pss_nil)
      (pss_cons (ps_if (pt_cmpR op_in_seq (pe_xg (K := K) (List.mem_cons_self) hz hf (pv 0)) (pe_lst (pa_cons pe_str (pa_cons pe_str (pa_cons pe_str (pa_cons pe_str (pa_cons pe_str pa_nil)))))) rfl)
        (pss_one (ps_ret (pe_xg (K := K) (List.mem_cons_self) hz hf (pv 0))))
        pss_nil)
      (pss_cons (ps_if (pt_cmpR op_in_seq (pe_xg (K := K) (List.mem_cons_self) hz hf (pv 0)) (pe_lst (pa_cons pe_str (pa_cons pe_str (pa_cons pe_str pa_nil)))) rfl)
        (pss_one (ps_ret (pe_xg (K := K) (List.mem_cons_self) hz hf (pv 0))))
        pss_nil)
      (pss_cons (ps_if (pt_cmpR op_in_seq (pe_xg (K := K) (List.mem_cons_self) hz hf (pv 0)) (pe_lst (pa_cons pe_str (pa_cons pe_str (pa_cons pe_str pa_nil)))) rfl)
        (pss_one (ps_ret (pe_xg (K := K) (List.mem_cons_self) hz hf (pv 0))))
        pss_nil)
      (pss_cons (ps_if (pt_cmpR op_eq (pe_xg (K := K) (List.mem_cons_self) hz hf (pv 0)) pe_str (nomark _))
        (pss_one (ps_ret (pe_tup (pa_cons (pe_xg (K := K) (List.mem_cons_self) hz hf (pv 0)) (pa_cons (pe_xg (K := K) (List.mem_cons_self) hz hf (pv 0)) pa_nil)))))
        pss_nil)
      (pss_cons (ps_if (pt_cmpR op_eq (pe_xg (K := K) (List.mem_cons_self) hz hf (pv 0)) pe_str (nomark _))
        (pss_one (ps_ret (pe_xg (K := K) (List.mem_cons_self) hz hf (pv 0))))
        pss_nil)
      (pss_cons (ps_if (pt_cmpR op_eq (pe_xg (K := K) (List.mem_cons_self) hz hf (pv 0)) pe_str (nomark _))
        (pss_one (ps_ret (pe_xg (K := K) (List.mem_cons_self) hz hf (pv 0))))
        pss_nil)
      (pss_one (ps_ret (pe_ifExp (pt_cmpR op_eq (pe_xg (K := K) (List.mem_cons_self) hz hf (pv 0)) pe_str (nomark _)) (pe_xg (K := K) (List.mem_cons_self) hz hf (pv 0)) pe_non))))))))))), ?_⟩
  obtain ⟨C, dd, fs, fn, rfl, T, rfl, hd, noC, lC, hfn, noF, lF⟩ := er.ex
  have step : ∀ {H' : Hp} {l : Addr} {o : HO}, H' dd = some (.xd fs) → H' l = none → upd H' l o dd = some (.xd fs) := fun e n => by rw [upd_ne (ne_of_none e n)]; exact e
  unfold fieldName at hfn
  refine ⟨_, rfl, rfl, C, dd, fs, _, rfl, T, noC, rfl, hd, lC, (by show 6 ≤ sizeLine; decide), fun l1 h1 => ⟨l1, cGiven, rfl, .inl (SqL.of upd_same), rfl, rfl, ?_⟩⟩
  have d1 := step (o := .lst cGiven) hd h1
  have m1 : Same H (upd H l1 (.lst cGiven)) := same_upd h1
  cases i1 : inV (.str q) cGiven with
  | true =>
    rw [i1] at hfn
    cases hfn
    exact ⟨_, rfl, iteT ⟨_, rfl, rfl, C, dd, fs, _, rfl, T, noF, rfl, d1, lF, hq _ m1⟩⟩
  | false =>
  rw [i1] at hfn
  refine ⟨_, rfl, iteF ?_⟩
  refine ⟨_, rfl, rfl, C, dd, fs, _, rfl, T, noC, rfl, d1, lC, (by show 8 ≤ sizeLine; decide), fun l2 h2 => ⟨l2, cAt, rfl, .inl (SqL.of upd_same), rfl, rfl, ?_⟩⟩
  have d2 := step (o := .lst cAt) d1 h2
  have m2 := m1.trans (same_upd (o := .lst cAt) h2)
  cases i2 : inV (.str q) cAt with
  | true =>
    rw [i2] at hfn
    cases hfn
    exact ⟨_, rfl, iteT ⟨_, rfl, rfl, C, dd, fs, _, rfl, T, noF, rfl, d2, lF, hq _ m2⟩⟩
  | false =>
  rw [i2] at hfn
  refine ⟨_, rfl, iteF ?_⟩
  refine ⟨_, rfl, rfl, C, dd, fs, _, rfl, T, noC, rfl, d2, lC, (by show 5 ≤ sizeLine; decide), fun l3 h3 => ⟨l3, cNumber, rfl, .inl (SqL.of upd_same), rfl, rfl, ?_⟩⟩
  have d3 := step (o := .lst cNumber) d2 h3
  have m3 := m2.trans (same_upd (o := .lst cNumber) h3)
  cases i3 : inV (.str q) cNumber with
  | true =>
    rw [i3] at hfn
    cases hfn
    exact ⟨_, rfl, iteT ⟨_, rfl, rfl, C, dd, fs, _, rfl, T, noF, rfl, d3, lF, hq _ m3⟩⟩
  | false =>
  rw [i3] at hfn
  refine ⟨_, rfl, iteF ?_⟩
  refine ⟨_, rfl, rfl, C, dd, fs, _, rfl, T, noC, rfl, d3, lC, (by show 3 ≤ sizeLine; decide), fun l4 h4 => ⟨l4, cName, rfl, .inl (SqL.of upd_same), rfl, rfl, ?_⟩⟩
  have d4 := step (o := .lst cName) d3 h4
  have m4 := m3.trans (same_upd (o := .lst cName) h4)
  cases i4 : inV (.str q) cName with
  | true =>
    rw [i4] at hfn
    cases hfn
    exact ⟨_, rfl, iteT ⟨_, rfl, rfl, C, dd, fs, _, rfl, T, noF, rfl, d4, lF, hq _ m4⟩⟩
  | false =>
  rw [i4] at hfn
  refine ⟨_, rfl, iteF ?_⟩
  refine ⟨_, rfl, rfl, C, dd, fs, _, rfl, T, noC, rfl, d4, lC, (by show 3 ≤ sizeLine; decide), fun l5 h5 => ⟨l5, cMost, rfl, .inl (SqL.of upd_same), rfl, rfl, ?_⟩⟩
  have d5 := step (o := .lst cMost) d4 h5
  have m5 := m4.trans (same_upd (o := .lst cMost) h5)
  cases i5 : inV (.str q) cMost with
  | true =>
    rw [i5] at hfn
    cases hfn
    exact ⟨_, rfl, iteT ⟨_, rfl, rfl, C, dd, fs, _, rfl, T, noF, rfl, d5, lF, hq _ m5⟩⟩
  | false =>
  rw [i5] at hfn
  have hfn : (if q = "InvalidHead" then some ("part" : Str) else if q = "InvalidTable" then some ("rule" : Str) else if q = "InvalidText" then some ("line" : Str) else none) = some fn := hfn
  have ev : ∀ z : Str, q ≠ z → (decide (V.str q = V.str z)) = false := fun z n => decide_eq_false fun e => n (V.str.inj e)
  refine ⟨_, rfl, iteF ?_⟩
  have nS : q ≠ "InvalidStep" := fun z => by
    subst z
    have : (none : Option Str) = some fn := hfn
    cases this
  refine ⟨_, rfl, rfl, C, dd, fs, _, rfl, T, noC, rfl, d5, lC, rfl, _, rfl, ite_no (by rw [ev _ nS]; decide) ?_⟩
  refine ⟨_, rfl, rfl, C, dd, fs, _, rfl, T, noC, rfl, d5, lC, rfl, _, rfl, ?_⟩
  by_cases z1 : q = "InvalidHead"
  · rw [if_pos z1] at hfn
    cases hfn
    exact ite_of (decide_eq_true (congrArg V.str z1)) ⟨_, rfl, rfl, C, dd, fs, _, rfl, T, noF, rfl, d5, lF, hq _ m5⟩
  rw [if_neg z1] at hfn
  refine ite_no (by rw [ev _ z1]; decide) ?_
  refine ⟨_, rfl, rfl, C, dd, fs, _, rfl, T, noC, rfl, d5, lC, rfl, _, rfl, ?_⟩
  by_cases z2 : q = "InvalidTable"
  · rw [if_pos z2] at hfn
    cases hfn
    exact ite_of (decide_eq_true (congrArg V.str z2)) ⟨_, rfl, rfl, C, dd, fs, _, rfl, T, noF, rfl, d5, lF, hq _ m5⟩
  rw [if_neg z2] at hfn
  refine ite_no (by rw [ev _ z2]; decide) ?_
  refine ⟨_, rfl, rfl, C, dd, fs, _, rfl, T, noC, rfl, d5, lC, rfl, _, rfl, ?_⟩
  by_cases z3 : q = "InvalidText"
  · rw [if_pos z3] at hfn
    cases hfn
    exact ite_of (decide_eq_true (congrArg V.str z3)) ⟨_, rfl, rfl, C, dd, fs, _, rfl, T, noF, rfl, d5, lF, hq _ m5⟩
  rw [if_neg z3] at hfn
  cases hfn
end
/-! ### ask and tell: a value with no code, or an error's code and field -/
/-- what is wished of the exceptions that ask() lets out -/
def ErrWish (K : PySem.W.Frag) (cs : List Value) (Q : VK) : XK := fun cls d H => PySem.W.exmAny K cls cs = some true ∧ ∃ (q : Str) (v : V), ErrAt K cls d H q v ∧ ∀ H2 p, Same H H2 → H2 p = none → Q (.ref p) (upd H2 p (.tup [.str q, v]))
def spField1 (K : PySem.W.Frag) (a : Addr) (cls : Value) (d : Option Addr) : Sp := fun vs H Q _ => ∃ (q : Str) (v : V), vs = [.ref a] ∧ ErrAt K cls d H q v ∧ ∀ H', Same H H' → Q v H'
theorem pe_fld {Y : Cx} (K : PySem.W.Frag) {a : Addr} {oe : Obj} {cls : Value} {d : Option Addr} {ps1 pos : Pos} {e : Expr} {es : List Expr} {t : TA} (G : HasP Y.prog Y.w Y.K Y.mg Y.base 1 "_law_field" ["_law_e"] (spField Y.K)) (hr : L2H.RoomH 1 Y.A) (hp : (a, oe) ∈ Y.pn)
    (hz : Zc cls d oe) (hf : ∃ vs, oe.data = .fields vs) (hg : Gl Y "_law_field") (ha : PA Y (e :: es) t) (hK : Y.K = K := by rfl) (he : starEach (e :: es) Y.env = (false, eval e Y.env) :: starEach es Y.env := by rfl) (hpl : (backTo pos (starEach es Y.env)).any (·.1) = false := by rfl) :
    PE Y (.Call (.Name "_law_field" ps1) (e :: es) [] pos) (tCall (spField1 K a cls d) [] E0 t) := by
  subst hK
  exact pe_ownP G hr hp (fun vs H Q ⟨q, v, e, r⟩ => ⟨cls, d, q, v, e, hz, hf, r⟩) hg ha (by decide) he hpl
def TGot (K : PySem.W.Frag) (cs : List Value) : (XK → Hp → VK → Prop) → Hp → VK → Prop := fun tl H Q => tl (ErrWish K cs Q) H fun v H1 => 2 ≤ sizeLine ∧ ∀ p, H1 p = none → Q (.ref p) (upd H1 p (.tup [.str "", v]))
section
variable {X : Cx}
theorem got_gives {g : Addr} {cdg : Value} {q : Str} {C1 C2 C3 : Value} {k : Nat} (hr : Room (k + 2) X.A) (G_l_field : HasP X.prog X.w X.K X.mg X.base 1 "_law_field" ["_law_e"] (spField X.K)) (m1 : X.mg "RingError" = some C1) (m2 : X.mg "Missing" = some C2) (m3 : X.mg "NothingLeft" = some C3) :
    LamX.GivesTo X N_l_got "_law_got" (defScope s_l_got) g cdg (defBody s_l_got) "_law_ask" q (TGot X.K [C1, C2, C3]) := by
  intro f c' s H Q tl act hc h
  have hr1 : Room (k + 1) (X.A.deeper (envOfC "_law_got" (defScope s_l_got) s.heap.objs.size g cdg)) := hr.deeper _
  have hr2 : ∀ a : Addr, L2H.RoomH 1 ((X.A.deeper (envOfC "_law_got" (defScope s_l_got) s.heap.objs.size g cdg)).mark (some (.ref a))) := fun a => by
    have r := hr1.mono (Nat.succ_le_succ (Nat.zero_le k))
    exact ⟨r.dp, r.un⟩
  refine ⟨_, pss_one (ps_try_tup3 (X := (cxOf C8.CX0 X.prog X.w X.K X.mg X.base N_l_got "_law_got" (defScope s_l_got) g cdg X.A X.stack s H C8.E0).nox) (i := 1) (c1 := C1) (c2 := C2) (c3 := C3)
      (tb := fun W D σ H => ∃ Ech : XK, (∀ cls d σ' H', Ech cls d H' → W cls d σ' H') ∧ σ[0]? = some (some (.ref f)) ∧ H c' = some (LamX.CodeO c' q) ∧ tl Ech H (fun v H1 => 2 ≤ sizeLine ∧ ∀ p, H1 p = none → D.rt (.ref p) (upd H1 p (.tup [.str "", v]))))
      rfl rfl sc_l_got.nd rfl rfl ⟨rfl, by decide, .inl m1⟩ ⟨rfl, by decide, .inl m2⟩ ⟨rfl, by decide, .inl m3⟩ (fun W pn xe tk _ => ?_) (fun a oe cls d pn hz hf => pss_one (ps_ret (pe_tup (pa_cons (pe_xg (K := X.K) (List.mem_cons_self) hz hf (pv 1)) (pa_cons (pe_fld (Y := Cx.suite (cxOf C8.CX0 X.prog X.w X.K X.mg X.base N_l_got "_law_got" (defScope s_l_got) g cdg X.A X.stack s H C8.E0).nox a ((a, oe) :: pn)) X.K G_l_field (hr2 a) (List.mem_cons_self) hz hf rfl (pa_cons (pv 1) pa_nil)) pa_nil)))))), ?_⟩
  · constructor
    intro pins s' σ H' D I h'
    obtain ⟨Ech, hW, h1, h2, h3⟩ := h'
    have hp := fun p1 p2 => act W pn xe Ech p1 p2 tk hW
    exact (pss_one (ps_ret (pe_tup (pa_cons pe_str (pa_cons (hp _ _) pa_nil))))).run pins s' σ H' D I ⟨h1, h2, h3⟩
  · refine ⟨ErrWish X.K [C1, C2, C3] Q, fun cls d σ' H' ⟨hm, qq, v, er, hQ⟩ => ⟨hm, fun a na hl => ?_⟩, rfl, hc, h⟩
    obtain ⟨C, dd, fs, fn, rfl, T, rfl, hd, noC, lC, hfn, noF, lF⟩ := er.ex
    have hv : (σ'.set 1 (some (.ref a)))[1]? = some (some (V.ref a)) := List.getElem?_set_self (by rw [hl]; show 1 < N_l_got.length; decide)
    exact ⟨_, hv, rfl, C, dd, fs, _, rfl, T, noC, rfl, hd, lC, _, hv, qq, v, rfl, er, fun H2 s2 => ⟨by show 2 ≤ sizeLine; decide, fun p hp => hQ H2 p s2 hp⟩⟩
end
end My
namespace My
open PySem PySem.Spec PyProof.Rows L2
/-! ### a def that may raise, by its name -/
structure HasX (P : Program) (w : World) (K : PySem.W.Frag) (mg : Str → Option Value) (base : Heap) (k : Nat) (x : Str) (ps : List Str) (sp : Sp) : Prop where
  ex : ∃ (f : Addr) (fd : FuncData), FnOk P w K mg base (L2.CX P w) k f fd ps sp ∧ mg x = some (.ref f) ∧ PySem.W.keepIn K (.ref f) = true ∧ Binds K fd ps []
section
variable {X : Cx} {k : Nat} {x : Str} {ps : List Str} {sp : Sp} {p pos : Pos} {e : Expr} {es : List Expr} {t : TA}
/-- called where it raises nothing -/
theorem pe_ownX (h : HasX X.prog X.w X.K X.mg X.base k x ps sp) (hr : Room k X.A) (hg : Gl X x) (ha : PA X (e :: es) t) (hdb : (x == ("__debug__" : Str)) = false := by decide)
    (he : starEach (e :: es) X.env = (false, eval e X.env) :: starEach es X.env := by rfl) (hpl : (backTo pos (starEach es X.env)).any (·.1) = false := by rfl) : PE X (.Call (.Name x p) (e :: es) [] pos) (tCall sp [] E0 t) := by
  obtain ⟨f, fd, F, m, kp, b⟩ := h.ex
  exact pe_call F hr hg m kp b .nil passL ha hdb he hpl
/-- called where what it raises is taken by E -/
theorem pe_ownE {E : XK} (h : HasX X.prog X.w X.K X.mg X.base k x ps sp) (tk : Takes X (fun cls d _ H => E cls d H)) (hr : Room k X.A) (hg : Gl X x) (ha : PA X (e :: es) t) (hdb : (x == ("__debug__" : Str)) = false := by decide)
    (he : starEach (e :: es) X.env = (false, eval e X.env) :: starEach es X.env := by rfl) (hpl : (backTo pos (starEach es X.env)).any (·.1) = false := by rfl) : PE X (.Call (.Name x p) (e :: es) [] pos) (tCall sp [] E t) := by
  obtain ⟨f, fd, F, m, kp, b⟩ := h.ex
  exact pe_call F hr hg m kp b .nil (passes_call tk fun _ _ _ _ h => h) ha hdb he hpl
end
/-! ### a maker by position that may raise -/
structure HasCX (P : Program) (w : World) (K : PySem.W.Frag) (mg : Str → Option Value) (base : Heap) (k : Nat) (x : Str) (C : Addr) (ps : List Str) (sp : Sp) : Prop where
  ex : ∃ (f : Addr) (fd : FuncData), Mk K C f ∧ FnOk P w K mg base (L2.CX P w) k f fd ps sp ∧ mg x = some (.ref C) ∧ Binds K fd ps []
section
variable {X : Cx} {k : Nat} {x : Str} {C : Addr} {ps : List Str} {sp : Sp} {p pos : Pos} {e : Expr} {es : List Expr} {t : TA} {E : XK}
theorem pe_mkX (h : HasCX X.prog X.w X.K X.mg X.base k x C ps sp) (hr : Room (k + 1) X.A) (hg : Gl X x) (ha : PA X (e :: es) t)
    (hdb : (x == ("__debug__" : Str)) = false := by decide) (he : starEach (e :: es) X.env = (false, eval e X.env) :: starEach es X.env := by rfl) (hpl : (backTo pos (starEach es X.env)).any (·.1) = false := by rfl) : PE X (.Call (.Name x p) (e :: es) [] pos) (tMake C sp [] E0 t) := by
  obtain ⟨f, fd, M, F, m, b⟩ := h.ex
  exact pe_make M F hr hg m b .nil passL ha hdb he hpl
theorem pe_mkE (h : HasCX X.prog X.w X.K X.mg X.base k x C ps sp) (tk : Takes X (fun cls d _ H => E cls d H)) (hr : Room (k + 1) X.A) (hg : Gl X x) (ha : PA X (e :: es) t)
    (hdb : (x == ("__debug__" : Str)) = false := by decide) (he : starEach (e :: es) X.env = (false, eval e X.env) :: starEach es X.env := by rfl) (hpl : (backTo pos (starEach es X.env)).any (·.1) = false := by rfl) : PE X (.Call (.Name x p) (e :: es) [] pos) (tMake C sp [] E t) := by
  obtain ⟨f, fd, M, F, m, b⟩ := h.ex
  exact pe_make M F hr hg m b .nil (passes_call tk fun _ _ _ _ h => h) ha hdb he hpl
end
end My
/-! numbers, sizes: the forms that raise -/
namespace My
open PySem PySem.Spec PyProof.Rows L2
structure Txt (mg : Str → Option Value) : Prop where
  m_MOST_SIZE : ∃ t, mg "MOST_SIZE" = some (.int 36 t)
  m_MOST_PRODUCTS : ∃ t, mg "MOST_PRODUCTS" = some (.int 400 t)
def spIsInt : Sp := fun vs H Q _ => ∃ (x : V) (t : String), vs = [x] ∧ Typ H x t ∧ Q (.bl (isIntV x)) H
def spBetween : Sp := fun vs H Q _ => ∃ (x : V) (t : String) (lo hi : Int), vs = [x, .int lo, .int hi] ∧ Typ H x t ∧ Q (.bl (match x with | .int i => decide (lo ≤ i) && decide (i ≤ hi) | _ => false)) H
abbrev twoT : List V := [.ty "list", .ty "tuple"]
theorem isi_pr : Paired ClsV twoT [.type "list", .type "tuple"] := .cons (.ty _) (.cons (.ty _) .nil)
theorem isi_kit {K : PySem.W.Frag} : PySem.W.kitAny K (.type "list") [.type "list", .type "tuple"] = some true := kitAny_cons (b := true) (kit_ty (by decide +kernel)) (fun z => by cases z) (fun _ => rfl)
/-! ### what a scheme is made of -/
abbrev Row := List Int
abbrev Trip := Row × Row × Row
abbrev Siz := Nat × Nat × Nat
def RowL (H : Hp) (a : Addr) (xs : Row) : Prop := H a = some (.lst (xs.map V.int))
def RowT (H : Hp) (a : Addr) (xs : Row) : Prop := H a = some (.tup (xs.map V.int))
def TripL (H : Hp) (a : Addr) (t : Trip) : Prop := ∃ x y z, H a = some (.tup [.ref x, .ref y, .ref z]) ∧ RowL H x t.1 ∧ RowL H y t.2.1 ∧ RowL H z t.2.2
def TripT (H : Hp) (a : Addr) (t : Trip) : Prop := ∃ x y z, H a = some (.tup [.ref x, .ref y, .ref z]) ∧ RowT H x t.1 ∧ RowT H y t.2.1 ∧ RowT H z t.2.2
def SizAt (H : Hp) (S : Addr) (sz : Siz) : Prop := H S = some (.tup [.int sz.1, .int sz.2.1, .int sz.2.2])
def Fits (sz : Siz) (t : Trip) : Prop := t.1.length = sz.1 ∧ t.2.1.length = sz.2.1 ∧ t.2.2.length = sz.2.2
def GivenAt (H : Hp) (p : Addr) (tr : List Trip) : Prop := ∃ ps, H p = some (.lst (ps.map V.ref)) ∧ Paired (TripL H) ps tr
structure SmallS (sz : Siz) (tr : List Trip) : Prop where
  fits : ∀ t ∈ tr, Fits sz t
  l1 : 1 ≤ sz.1
  l2 : sz.1 ≤ 36
  r1 : 1 ≤ sz.2.1
  r2 : sz.2.1 ≤ 36
  s1 : 1 ≤ sz.2.2
  s2 : sz.2.2 ≤ 36
  len : tr.length ≤ 400
def SchemeAt (C : Addr) (H : Hp) (a : Addr) (sz : Siz) (tr : List Trip) : Prop := ∃ dx S T ts, H a = some (.ins C dx [("_sizes", .ref S), ("_triples", .ref T)]) ∧ SizAt H S sz ∧ H T = some (.tup (ts.map V.ref)) ∧ Paired (TripT H) ts tr ∧ SmallS sz tr
theorem TripL.same {H H' : Hp} {a : Addr} {t : Trip} (h : TripL H a t) (s : Same H H') : TripL H' a t := by
  obtain ⟨x, y, z, h0, h1, h2, h3⟩ := h
  exact ⟨x, y, z, s _ _ h0, s _ _ h1, s _ _ h2, s _ _ h3⟩
theorem TripT.same {H H' : Hp} {a : Addr} {t : Trip} (h : TripT H a t) (s : Same H H') : TripT H' a t := by
  obtain ⟨x, y, z, h0, h1, h2, h3⟩ := h
  exact ⟨x, y, z, s _ _ h0, s _ _ h1, s _ _ h2, s _ _ h3⟩
theorem GivenAt.same {H H' : Hp} {p : Addr} {tr : List Trip} (h : GivenAt H p tr) (s : Same H H') : GivenAt H' p tr := by
  obtain ⟨ps, h1, h2⟩ := h
  exact ⟨ps, s _ _ h1, pmono (fun a t e => e.same s) h2⟩
theorem SchemeAt.same {C : Addr} {H H' : Hp} {a : Addr} {sz : Siz} {tr : List Trip} (h : SchemeAt C H a sz tr) (s : Same H H') : SchemeAt C H' a sz tr := by
  obtain ⟨dx, S, T, ts, h1, h2, h3, h4, h5⟩ := h
  exact ⟨dx, S, T, ts, s _ _ h1, s _ _ h2, s _ _ h3, pmono (fun a t e => e.same s) h4, h5⟩
/-- all that was tracked but lists of b's kind stays: keeping under a change of the list at b -/
theorem kp_tup {H H' : Hp} {b a : Addr} {xs ys : List V} (k : Kp b H H') (hb : H b = some (.lst ys)) (h : H a = some (.tup xs)) : H' a = some (.tup xs) := k _ _ (ne_of h hb (by intro z; cases z)) h
def betw (x : V) (lo hi : Int) : Bool := match x with | .int i => decide (lo ≤ i) && decide (i ≤ hi) | _ => false
/-- the error InvalidNumber of a value, raised at a heap -/
def NumErr (CE : Addr) (E : XK) (x : V) (H : Hp) : Prop := ∀ H' d, Same H H' → H' d = none → E (.ref CE) (some d) (upd H' d (.xd (errD "given" "InvalidNumber" x)))
theorem NumErr.same {CE : Addr} {E : XK} {x : V} {H H' : Hp} (h : NumErr CE E x H) (s : Same H H') : NumErr CE E x H' := fun H2 d k n => h H2 d (s.trans k) n
def spNumX (CE : Addr) : Sp := fun vs H Q E => ∃ (x : V) (t : String) (lo hi : Int), vs = [x, .int lo, .int hi] ∧ Typ H x t ∧ ((betw x lo hi = true ∧ Q .non H) ∨ (betw x lo hi = false ∧ NumErr CE E x H))
def NoTrip (H : Hp) (v : V) : Prop := ∀ S xs, v = .ref S → H S = some (.tup xs) → xs.length ≠ 3 ∧ xs.length ≤ 100
theorem noTrip_same {H H' : Hp} {v : V} {t : String} (h : NoTrip H v) (ty : Typ H v t) (s : Same H H') : NoTrip H' v := by
  intro S xs e h'
  subst e
  cases ty with
  | lst g =>
    rw [s _ _ g] at h'
    cases h'
  | tup g =>
    rw [s _ _ g] at h'
    cases h'
    exact h S _ rfl g
def SzBad (CE : Addr) (v : V) (H : Hp) (E : XK) : Prop := (∃ t, Typ H v t ∧ NoTrip H v ∧ NumErr CE E v H) ∨ ∃ (S : Addr) (x : V) (t : String) (y : Int), v = .ref S ∧ H S = some (.tup [.int 1, x, .int y]) ∧ Typ H x t ∧ betw x 1 36 = false ∧ NumErr CE E x H
theorem SzBad.same {CE : Addr} {v : V} {H H' : Hp} {E : XK} (h : SzBad CE v H E) (s : Same H H') : SzBad CE v H' E := by
  rcases h with ⟨t, a, b, c⟩ | ⟨S, x, t, y, e, a, b, c, d⟩
  · exact .inl ⟨t, a.same s, noTrip_same b a s, c.same s⟩
  · exact .inr ⟨S, x, t, y, e, s _ _ a, b.same s, c, d.same s⟩
def spSizesX (CE : Addr) : Sp := fun vs H Q E => ∃ v, vs = [v] ∧ ((∃ (S : Addr) (sz : Siz), v = .ref S ∧ SizAt H S sz ∧ 1 ≤ sz.1 ∧ sz.1 ≤ 36 ∧ 1 ≤ sz.2.1 ∧ sz.2.1 ≤ 36 ∧ 1 ≤ sz.2.2 ∧ sz.2.2 ≤ 36 ∧ Q .non H) ∨ SzBad CE v H E)
section
variable {P : Program} {w : World} {K : PySem.W.Frag} {mg : Str → Option Value} {base : Heap} {CE fI cc cd : Addr}
theorem ok_is_int (F : Fn K mg "is_int" s_is_int ["value"]) (B : Blt mg) : Has P w K mg base 1 "is_int" ["value"] spIsInt := by
  refine F.has sc_is_int (fun vs H Q E h => ?_) (fun f cdv A outer s H vs Q E hr h => ?_)
  · obtain ⟨a, t, rfl, _⟩ := h
    rfl
  obtain ⟨x, t, rfl, ht, q⟩ := h
  refine ⟨_, (pss_one (ps_ret (pe_and (pe_callB call_isi (by rfl) B.isinstance bb_isinstance (pa_cons (pv 0) (pa_cons (pe_bltn (v := .ty "int") (by rfl) B.int bb_int rfl) pa_nil))) (pe_one (pe_not (pe_callB call_isi (by rfl) B.isinstance bb_isinstance (pa_cons (pv 0) (pa_cons (pe_bltn (v := .ty "bool") (by rfl) B.bool bb_bool rfl) pa_nil)))))))), ?_⟩
  have ty := ht.tyx (K := K)
  cases ht with
  | non => exact ⟨_, rfl, _, .ty "int", _, .type "int", false, rfl, .ty _, ty, kit_ty (by decide +kernel), _, rfl, iteF q⟩
  | bl x => exact ⟨_, rfl, _, .ty "int", _, .type "int", true, rfl, .ty _, ty, kit_ty (by decide +kernel), _, rfl, iteT ⟨_, rfl, _, .ty "bool", _, .type "bool", true, rfl, .ty _, ty, kit_ty (by decide +kernel), _, rfl, q⟩⟩
  | int i => exact ⟨_, rfl, _, .ty "int", _, .type "int", true, rfl, .ty _, ty, kit_ty (by decide +kernel), _, rfl, iteT ⟨_, rfl, _, .ty "bool", _, .type "bool", false, rfl, .ty _, ty, kit_ty (by decide +kernel), _, rfl, q⟩⟩
  | str z => exact ⟨_, rfl, _, .ty "int", _, .type "int", false, rfl, .ty _, ty, kit_ty (by decide +kernel), _, rfl, iteF q⟩
  | lst h => exact ⟨_, rfl, _, .ty "int", _, .type "int", false, rfl, .ty _, ty, kit_ty (by decide +kernel), _, rfl, iteF q⟩
  | tup h => exact ⟨_, rfl, _, .ty "int", _, .type "int", false, rfl, .ty _, ty, kit_ty (by decide +kernel), _, rfl, iteF q⟩
theorem ok_is_between (F : Fn K mg "is_between" s_is_between ["value", "least", "most"]) (G_is_int : Has P w K mg base 1 "is_int" ["value"] spIsInt) : Has P w K mg base 2 "is_between" ["value", "least", "most"] spBetween := by
  refine F.has sc_is_between (fun vs H Q E h => ?_) (fun f cdv A outer s H vs Q E hr h => ?_)
  · obtain ⟨a, t, lo, hi, rfl, _⟩ := h
    rfl
  obtain ⟨x, t, lo, hi, rfl, ht, q⟩ := h
  refine ⟨_, (pss_one (ps_ret (pe_and (pe_own G_is_int (hr.mono (by decide)) (by rfl) (pa_cons (pv 0) pa_nil)) (pe_one (pe_chain op_le op_le (pv 1) (pv 0) (pv 2)))))), ?_⟩
  refine ⟨_, rfl, x, t, rfl, ht, ?_⟩
  cases ht with
  | int i =>
    refine ⟨_, rfl, iteT ⟨_, rfl, _, rfl, _, _, rfl, rfl, _, rfl, ?_⟩⟩
    have q' : Q (.bl (decide (lo ≤ i) && decide (i ≤ hi))) H := q
    by_cases h1 : lo ≤ i
    · refine ite_of (decide_eq_true h1) ⟨_, rfl, _, _, rfl, rfl, ?_⟩
      rw [decide_eq_true h1] at q'
      exact q'
    · refine ite_no (by simp [h1]) ?_
      rw [decide_eq_false h1] at q'
      exact q'
  | _ => exact ⟨_, rfl, iteF q⟩
theorem ok_check_numberX (F : Fn K mg "check_number" s_check_number ["value", "least", "most"]) (E_InvalidNumber : ErrX.ErrTxt P K mg "InvalidNumber" "given" "InvalidNumber" CE fI cc cd) (G_is_between : Has P w K mg base 2 "is_between" ["value", "least", "most"] spBetween) :
    HasX P w K mg base 3 "check_number" ["value", "least", "most"] (spNumX CE) := by
  obtain ⟨f, fd, F, m, b⟩ := F.ex
  refine ⟨f, fd, F.okX sc_check_number (fun vs H Q E h => ?_) (fun cdv A outer s H vs Q E hr h => ?_), m, F.kp, b⟩
  · obtain ⟨a, t, lo, hi, rfl, _⟩ := h
    rfl
  obtain ⟨x, t, lo, hi, rfl, ht, h⟩ := h
  have TK : Takes (cxOf (L2.CX P w) P w K mg base N_check_number "check_number" (defScope s_check_number) f cdv A outer s H E) (fun cls d _ H => E cls d H) := takes_of rfl rfl rfl rfl
  refine ⟨_, (pss_one (ps_if (pt_not (pt_val (pe_own G_is_between (hr.mono (by decide)) (by rfl) (pa_cons (pv 0) (pa_cons (pv 1) (pa_cons (pv 2) pa_nil))))))
        (pss_one (ps_raise rfl TK (pmk_err E_InvalidNumber hr (pa_cons (pv 0) pa_nil) (by rfl))))
        pss_nil)), ?_⟩
  refine ⟨_, rfl, _, rfl, _, rfl, x, t, lo, hi, rfl, ht, ?_⟩
  rcases h with ⟨hb, q⟩ | ⟨hb, q⟩
  · exact ⟨true, congrArg V.bl hb, iteF q⟩
  · exact ⟨false, congrArg V.bl hb, iteT ⟨_, rfl, x, rfl, fun d hd => q H d (Same.refl _) hd⟩⟩
theorem ok_check_sizesX (F : Fn K mg "check_sizes" s_check_sizes ["sizes"]) (B : Blt mg) (T : Txt mg) (E_InvalidNumber : ErrX.ErrTxt P K mg "InvalidNumber" "given" "InvalidNumber" CE fI cc cd) (G_check_number : HasX P w K mg base 3 "check_number" ["value", "least", "most"] (spNumX CE)) :
    HasX P w K mg base 4 "check_sizes" ["sizes"] (spSizesX CE) := by
  obtain ⟨f, fd, F, m, b⟩ := F.ex
  refine ⟨f, fd, F.okX sc_check_sizes (fun vs H Q E h => ?_) (fun cdv A outer s H vs Q E hr h => ?_), m, F.kp, b⟩
  · obtain ⟨v, rfl, _⟩ := h
    rfl
  obtain ⟨v, rfl, h⟩ := h
  have TK : Takes (cxOf (L2.CX P w) P w K mg base N_check_sizes "check_sizes" (defScope s_check_sizes) f cdv A outer s H E) (fun cls d _ H => E cls d H) := takes_of rfl rfl rfl rfl
  refine ⟨_, (pss_cons (ps_if (PW.pt (pw_or (pt_not (pt_val (pe_callB call_isi (by rfl) B.isinstance bb_isinstance (pa_cons (pv 0) (pa_cons (pe_bltn (v := .ty "tuple") (by rfl) B.tuple bb_tuple rfl) pa_nil))))) (pw_or1 (pt_cmpR op_ne (pe_callB call_len (by rfl) B.len bb_len (pa_cons (pv 0) pa_nil)) pe_int (nomark _)))))
        (pss_one (ps_raise rfl TK (pmk_err E_InvalidNumber hr (pa_cons (pv 0) pa_nil) (by rfl))))
        pss_nil)
      (pss_one (ps_for (passes_of rfl) rfl (pi_tup (pv 0)) (pg_name (i := 1) sc_check_sizes.nd rfl (Or.inl rfl))
        (pss_one (ps_expr (pe_ownE G_check_number TK (hr.mono (by decide)) (by rfl) (pa_cons (pv 1) (pa_cons pe_int (pa_cons (pe_gint T.m_MOST_SIZE (by rfl)) pa_nil))))))))), ?_⟩
  have notT : ∀ {t : String}, Typ H v t → (∀ S xs, v = .ref S → H S ≠ some (.tup xs)) → ∃ C, TyX K H v C ∧ PySem.W.kitOne K C (.type "tuple") = some false := by
    intro t ht hn
    have ty := ht.tyx (K := K)
    cases ht with
    | tup g => exact absurd g (hn _ _ rfl)
    | _ => exact ⟨_, ty, kit_ty (by decide +kernel)⟩
  rcases h with ⟨S, ⟨l, r, u⟩, rfl, hS, h1, h2, h3, h4, h5, h6, q⟩ | ⟨t, ht, hn, q⟩ | ⟨S, x, t, y, rfl, hS, ht, hb, q⟩
  · simp only at h1 h2 h3 h4 h5 h6
    have hS : H S = some (.tup [.int l, .int r, .int u]) := hS
    refine ⟨_, rfl, _, .ty "tuple", _, .type "tuple", true, rfl, .ty _, (Typ.tup hS).tyx, kit_ty (by decide +kernel), _, rfl, iteF ?_⟩
    refine ⟨_, rfl, .ref S, 3, rfl, .inr ⟨_, SqT.of hS, rfl⟩, rfl, _, rfl, ite_no (by decide) ?_⟩
    refine ⟨_, rfl, S, rfl, ⟨_, SqT.of hS⟩, for_tup (xs := [.int l, .int r, .int u]) (fun i σ H' => ∃ y, σ = [some (.ref S), y] ∧ H' = H) ⟨_, rfl, rfl⟩ (fun i σ H' _ e => by obtain ⟨_, _, rfl⟩ := e; exact SqT.of hS) ?_ ?_⟩
    · rintro i v σ H' hv ⟨y, rfl, rfl⟩
      obtain ⟨n, rfl, n1, n2⟩ : ∃ n : Nat, v = .int n ∧ 1 ≤ n ∧ n ≤ 36 := by
        have := List.mem_of_getElem? hv
        simp only [List.mem_cons, List.not_mem_nil, or_false] at this
        rcases this with rfl | rfl | rfl
        · exact ⟨l, rfl, h1, h2⟩
        · exact ⟨r, rfl, h3, h4⟩
        · exact ⟨u, rfl, h5, h6⟩
      refine ⟨_, rfl, .int n, _, 1, 36, rfl, .int _, .inl ⟨?_, _, rfl, rfl⟩⟩
      show (decide ((1 : Int) ≤ (n : Int)) && decide ((n : Int) ≤ 36)) = true
      rw [Bool.and_eq_true]
      exact ⟨decide_eq_true (by omega), decide_eq_true (by omega)⟩
    · rintro σ H' ⟨y, rfl, rfl⟩
      exact q
  · by_cases hT : ∃ S xs, v = .ref S ∧ H S = some (.tup xs)
    · obtain ⟨S, xs, rfl, hS⟩ := hT
      obtain ⟨n3, nl⟩ := hn S xs rfl hS
      refine ⟨_, rfl, _, .ty "tuple", _, .type "tuple", true, rfl, .ty _, (Typ.tup hS).tyx, kit_ty (by decide +kernel), _, rfl, iteF ?_⟩
      refine ⟨_, rfl, .ref S, xs.length, rfl, .inr ⟨_, SqT.of hS, rfl⟩, rfl, _, rfl, ite_of ?_ ⟨_, rfl, .ref S, rfl, fun d hd => q H d (Same.refl _) hd⟩⟩
      show (!decide (V.int (xs.length : Nat) = V.int 3)) = true
      rw [decI, decide_eq_false (by omega)]
      rfl
    · obtain ⟨Cv, ty, kt⟩ := notT ht fun S xs e g => hT ⟨S, xs, e, g⟩
      exact ⟨_, rfl, _, .ty "tuple", _, .type "tuple", false, rfl, .ty _, ty, kt, _, rfl, iteT ⟨_, rfl, v, rfl, fun d hd => q H d (Same.refl _) hd⟩⟩
  · refine ⟨_, rfl, _, .ty "tuple", _, .type "tuple", true, rfl, .ty _, (Typ.tup hS).tyx, kit_ty (by decide +kernel), _, rfl, iteF ?_⟩
    refine ⟨_, rfl, .ref S, 3, rfl, .inr ⟨_, SqT.of hS, rfl⟩, rfl, _, rfl, ite_no (by decide) ?_⟩
    refine ⟨_, rfl, S, rfl, ⟨_, SqT.of hS⟩, for_tup (xs := [.int 1, x, .int y]) (fun i σ H' => i ≤ 1 ∧ ∃ y, σ = [some (.ref S), y] ∧ H' = H) ⟨Nat.zero_le _, _, rfl, rfl⟩ (fun i σ H' _ e => by obtain ⟨_, _, _, rfl⟩ := e; exact SqT.of hS) ?_ ?_⟩
    · rintro i v σ H' hv ⟨hi, y', rfl, rfl⟩
      have : i = 0 ∨ i = 1 := by omega
      rcases this with rfl | rfl
      · cases hv
        exact ⟨_, rfl, .int 1, _, 1, 36, rfl, .int _, .inl ⟨rfl, by omega, _, rfl, rfl⟩⟩
      · cases hv
        exact ⟨_, rfl, x, t, 1, 36, rfl, ht, .inr ⟨hb, q⟩⟩
    · rintro σ H' ⟨hi, _⟩
      simp at hi
end
end My
/-! rows, products, tables, right ones and wrong ones -/
namespace My
open PySem PySem.Spec PyProof.Rows L2
/-- what is no container is no list and no tuple -/
theorem leaf_kit {K : PySem.W.Frag} {v : V} (h : leafV v) (H : Hp) : ∃ t : String, Typ H v t ∧ PySem.W.kitAny K (.type t) [.type "list", .type "tuple"] = some false := by
  cases v with
  | non => exact ⟨_, .non, kitAny_cons (b := false) (kit_ty (by decide +kernel)) (fun _ => kitAny_cons (b := false) (kit_ty (by decide +kernel)) (fun _ => rfl) (fun z => by cases z)) (fun z => by cases z)⟩
  | bl x => exact ⟨_, .bl x, kitAny_cons (b := false) (kit_ty (by decide +kernel)) (fun _ => kitAny_cons (b := false) (kit_ty (by decide +kernel)) (fun _ => rfl) (fun z => by cases z)) (fun z => by cases z)⟩
  | int x => exact ⟨_, .int x, kitAny_cons (b := false) (kit_ty (by decide +kernel)) (fun _ => kitAny_cons (b := false) (kit_ty (by decide +kernel)) (fun _ => rfl) (fun z => by cases z)) (fun z => by cases z)⟩
  | str x => exact ⟨_, .str x, kitAny_cons (b := false) (kit_ty (by decide +kernel)) (fun _ => kitAny_cons (b := false) (kit_ty (by decide +kernel)) (fun _ => rfl) (fun z => by cases z)) (fun z => by cases z)⟩
  | byt x => exact h.elim
  | flt x => exact h.elim
  | ref x => exact h.elim
  | ty x => exact h.elim
/-- a row as it is given: no container, or a list of things that are no containers -/
def RowI (H : Hp) (v : V) : Option (List V) → Prop
  | none => leafV v
  | some xs => ∃ a, v = .ref a ∧ H a = some (.lst xs) ∧ xs.length ≤ 1000 ∧ ∀ x ∈ xs, ∃ t, ∀ Hx, Typ Hx x t
theorem RowI.same {H H' : Hp} {v : V} {r : Option (List V)} (h : RowI H v r) (s : Same H H') : RowI H' v r := by
  cases r with
  | none => exact h
  | some xs =>
    obtain ⟨a, e, g, l, t⟩ := h
    exact ⟨a, e, s _ _ g, l, t⟩
def rowOk : Option (List V) → Nat → Bool
  | none, _ => false
  | some xs, n => decide (xs.length = n) && xs.all isIntV
def ProdI (H : Hp) (x : V) (sz : Siz) (ok : Bool) : Prop :=
  (ok = false ∧ ∃ t, Typ H x t ∧ ∀ c xs, x = .ref c → H c ≠ some (.tup xs)) ∨ (ok = false ∧ ∃ c xs, x = .ref c ∧ H c = some (.tup xs) ∧ xs.length ≠ 3 ∧ xs.length ≤ 100) ∨
  ∃ c a b d ra rb rd, x = .ref c ∧ H c = some (.tup [a, b, d]) ∧ RowI H a ra ∧ RowI H b rb ∧ RowI H d rd ∧ ok = ([rowOk ra sz.1, rowOk rb sz.2.1, rowOk rd sz.2.2].all id)
theorem ProdI.same {H H' : Hp} {x : V} {sz : Siz} {ok : Bool} (h : ProdI H x sz ok) (s : Same H H') : ProdI H' x sz ok := by
  rcases h with ⟨e, t, ht, n⟩ | ⟨e, c, xs, e1, e2, e3, e4⟩ | ⟨c, a, b, d, ra, rb, rd, e1, e2, e3, e4, e5, e6⟩
  · refine .inl ⟨e, t, ht.same s, fun c xs e1 e2 => ?_⟩
    subst e1
    cases ht with
    | lst g =>
      rw [s _ _ g] at e2
      cases e2
    | tup g => exact n _ _ rfl g
  · exact .inr (.inl ⟨e, c, xs, e1, s _ _ e2, e3, e4⟩)
  · exact .inr (.inr ⟨c, a, b, d, ra, rb, rd, e1, s _ _ e2, e3.same s, e4.same s, e5.same s, e6⟩)
def spListOfA : Sp := fun vs H Q _ => ∃ (v : V) (n : Int), vs = [v, .int n] ∧ ((leafV v ∧ ∀ H', Same H H' → Q (.bl false) H') ∨ (∃ (a : Addr) (xs : List V), v = .ref a ∧ H a = some (.lst xs) ∧ ∀ H', Same H H' → Q (.bl (decide ((xs.length : Int) = n))) H'))
def spListOfG : Sp := fun vs H Q _ => ∃ (v : V) (r : Option (List V)) (n : Int), vs = [v, .int n] ∧ RowI H v r ∧ ∀ H', Same H H' → Q (.bl (match r with | none => false | some xs => decide ((xs.length : Int) = n))) H'
def spRowG : Sp := fun vs H Q _ => ∃ (v : V) (r : Option (List V)) (n : Nat), vs = [v, .int n] ∧ RowI H v r ∧ ∀ H', Same H H' → Q (.bl (rowOk r n)) H'
def spProductG : Sp := fun vs H Q _ => ∃ (x : V) (S : Addr) (sz : Siz) (ok : Bool), vs = [x, .ref S] ∧ SizAt H S sz ∧ ProdI H x sz ok ∧ ∀ H', Same H H' → Q (.bl ok) H'
/-! the good cases alone -/
def spListOf : Sp := fun vs H Q _ => ∃ (a : Addr) (xs : List V) (n : Int), vs = [.ref a, .int n] ∧ H a = some (.lst xs) ∧ ∀ H', Same H H' → Q (.bl (decide ((xs.length : Int) = n))) H'
def spRow : Sp := fun vs H Q _ => ∃ (a : Addr) (xs : Row), vs = [.ref a, .int (xs.length : Nat)] ∧ RowL H a xs ∧ xs.length ≤ 1000 ∧ ∀ H', Same H H' → Q (.bl true) H'
theorem leaf_typ {v : V} (h : leafV v) (H : Hp) : ∃ t, Typ H v t := by
  obtain ⟨t, h, _⟩ := leaf_kit (K := ([] : PySem.W.Frag)) h H
  exact ⟨t, h⟩
section
variable {P : Program} {w : World} {K : PySem.W.Frag} {mg : Str → Option Value} {base : Heap}
theorem Has.imp {k : Nat} {x : Str} {ps : List Str} {sp sp' : Sp} (F : Has P w K mg base k x ps sp) (h : ∀ vs H Q E, sp' vs H Q E → sp vs H Q E) : Has P w K mg base k x ps sp' := by
  obtain ⟨f, fd, F, r⟩ := F.ex
  exact ⟨f, fd, FnOk.imp F h, r⟩
theorem ok_is_list_ofA (F : Fn K mg "is_list_of" s_is_list_of ["value", "size"]) (B : Blt mg) : Has P w K mg base 1 "is_list_of" ["value", "size"] spListOfA := by
  refine F.has sc_is_list_of (fun vs H Q E h => ?_) (fun f cdv A outer s H vs Q E hr h => ?_)
  · obtain ⟨a, n, rfl, _⟩ := h
    rfl
  obtain ⟨v, n, rfl, h⟩ := h
  refine ⟨_, (pss_one (ps_ret (pe_and (pe_callB call_isiT (by rfl) B.isinstance bb_isinstance (pa_cons (pv 0) (pa_cons (pe_tup (pa_cons (pe_bltn (v := .ty "list") (by rfl) B.list bb_list rfl) (pa_cons (pe_bltn (v := .ty "tuple") (by rfl) B.tuple bb_tuple rfl) pa_nil))) pa_nil))) (pe_one (pe_cmpR op_eq (pe_callB call_len (by rfl) B.len bb_len (pa_cons (pv 0) pa_nil)) (pv 1) (nomark _)))))), ?_⟩
  refine ⟨_, rfl, by show 2 ≤ sizeLine; decide, fun t ht => ?_⟩
  have s1 : Same H (upd H t (.tup [.ty "list", .ty "tuple"])) := same_upd ht
  rcases h with ⟨hv, q⟩ | ⟨a, xs, rfl, ha, q⟩
  · obtain ⟨ty, h1, h2⟩ := leaf_kit (K := K) hv (upd H t (.tup [.ty "list", .ty "tuple"]))
    exact ⟨v, t, twoT, .type ty, _, false, rfl, upd_same, isi_pr, h1.tyx, h2, _, rfl, iteF (q _ s1)⟩
  · refine ⟨.ref a, t, twoT, .type "list", _, true, rfl, upd_same, isi_pr, (Typ.lst (s1 _ _ ha)).tyx, isi_kit, _, rfl, iteT ?_⟩
    refine ⟨_, rfl, .ref a, xs.length, rfl, .inl ⟨_, SqL.of (s1 _ _ ha), rfl⟩, _, rfl, rfl, ?_⟩
    rw [decI]
    exact q _ s1
theorem ok_is_list_ofG (G : Has P w K mg base 1 "is_list_of" ["value", "size"] spListOfA) : Has P w K mg base 1 "is_list_of" ["value", "size"] spListOfG :=
  G.imp fun vs H Q E h => by
    obtain ⟨v, r, n, rfl, hv, q⟩ := h
    cases r with
    | none => exact ⟨v, n, rfl, .inl ⟨hv, q⟩⟩
    | some xs =>
      obtain ⟨a, rfl, ha, _⟩ := hv
      exact ⟨_, n, rfl, .inr ⟨a, xs, rfl, ha, q⟩⟩
theorem ok_is_list_of (G : Has P w K mg base 1 "is_list_of" ["value", "size"] spListOfA) : Has P w K mg base 1 "is_list_of" ["value", "size"] spListOf :=
  G.imp fun vs H Q E h => by
    obtain ⟨a, xs, n, rfl, ha, q⟩ := h
    exact ⟨_, n, rfl, .inr ⟨a, xs, rfl, ha, q⟩⟩
theorem ok_is_row (G : Has P w K mg base 2 "is_row" ["value", "size"] spRowG) : Has P w K mg base 2 "is_row" ["value", "size"] spRow :=
  G.imp fun vs H Q E h => by
    obtain ⟨a, xs, rfl, ha, hl, q⟩ := h
    refine ⟨.ref a, some (xs.map V.int), xs.length, rfl, ⟨a, rfl, ha, by rw [List.length_map]; exact hl, fun x hx => ?_⟩, fun H' s => ?_⟩
    · obtain ⟨i, _, rfl⟩ := List.mem_map.mp hx
      exact ⟨_, fun Hx => .int i⟩
    · rw [show rowOk (some (xs.map V.int)) xs.length = true by
        show (decide ((xs.map V.int).length = xs.length) && (xs.map V.int).all isIntV) = true
        rw [List.length_map, decide_eq_true rfl, List.all_map]
        simp [isIntV]]
      exact q H' s
theorem ok_is_rowG (F : Fn K mg "is_row" s_is_row ["value", "size"]) (B : Blt mg) (G_is_list_of : Has P w K mg base 1 "is_list_of" ["value", "size"] spListOfG) (G_is_int : Has P w K mg base 1 "is_int" ["value"] spIsInt) : Has P w K mg base 2 "is_row" ["value", "size"] spRowG := by
  refine F.has sc_is_row (fun vs H Q E h => ?_) (fun f cdv A outer s H vs Q E hr h => ?_)
  · obtain ⟨a, n, g, rfl, _⟩ := h
    rfl
  obtain ⟨v, r, n, rfl, hv, q⟩ := h
  refine ⟨_, (pss_one (ps_ret (pe_and (pe_own G_is_list_of (hr.mono (by decide)) (by rfl) (pa_cons (pv 0) (pa_cons (pv 1) pa_nil))) (pe_one (pe_callB (cr_all rfl) (by rfl) B.all bb_all (pa_cons (pe_lc (own := [("entry", 2)]) (g := gName 2) (tt := tYes) (by rfl) sc_is_row.nd (pi_list (pv 0)) (blkOk_by (own := [("entry", 2)]) (N := N_is_row) (sc := defScope s_is_row) (by decide +kernel)) (fun _ _ _ _ _ => (pg_name (i := 2) sc_is_row.nd rfl (Or.inl rfl))) (fun _ _ _ _ _ => pts_nil) (fun _ _ _ _ _ => (pe_own G_is_int (hr.mono (by decide)) (by rfl) (pa_cons (pv 2) pa_nil)))) pa_nil)))))), ?_⟩
  refine ⟨_, rfl, _, rfl, v, r, n, rfl, hv, fun H1 s1 => ⟨_, rfl, ?_⟩⟩
  cases r with
  | none => exact iteF (q _ s1)
  | some xs =>
    obtain ⟨a, rfl, ha, hl, hx⟩ := hv
    by_cases hn : xs.length = n
    · refine ite_of (decide_eq_true (by omega)) ⟨_, rfl, a, rfl, ⟨_, SqL.of (s1 _ _ ha)⟩, fun D hD => ?_⟩
      refine lc_it (walk_list (xs := xs)) (fun i H' => Same H1 H' ∧ H' D = some (.lst (((xs.take i).map isIntV).map V.bl))) ⟨same_upd hD, upd_same⟩ (fun i H' _ e => SqL.of (e.1 _ _ (s1 _ _ ha))) ?_ ?_
      · rintro i v Ha Hb hi ⟨sa, ea⟩ ⟨rfl, hv⟩
        obtain ⟨t, ht⟩ := hx v (List.mem_of_getElem? hv)
        refine ⟨rfl, tYes_ok ⟨_, rfl, v, t, rfl, ht _, _, ea, small1000 (by simp; omega), fun c o hc => ?_, ?_⟩⟩
        · rw [upd_ne (ne_of_none hc hD)]
          exact sa _ _ hc
        · rw [upd_same, take_snoc hv]
          simp
      · rintro H2 ⟨s2, e2⟩
        refine ⟨D, _, rfl, SqL.of e2, ?_⟩
        have z := q _ (s1.trans s2)
        rw [List.take_length]
        rw [show rowOk (some xs) n = (xs.map isIntV).all id by
          show (decide (xs.length = n) && xs.all isIntV) = _
          rw [decide_eq_true hn, List.all_map]
          rfl] at z
        exact z
    · refine ite_no (by show ¬ decide ((xs.length : Int) = (n : Int)) = true; rw [decide_eq_false (by omega)]; decide) ?_
      have z := q _ s1
      rw [show rowOk (some xs) n = false by
        show (decide (xs.length = n) && xs.all isIntV) = _
        rw [decide_eq_false hn]
        rfl] at z
      have e : decide ((xs.length : Int) = (n : Int)) = false := decide_eq_false (by omega)
      first | exact z | (show Q (.bl (decide ((xs.length : Int) = (n : Int)))) H1; rw [e]; exact z)
theorem ok_is_productG (F : Fn K mg "is_product" s_is_product ["value", "sizes"]) (B : Blt mg) (G_is_row : Has P w K mg base 2 "is_row" ["value", "size"] spRowG) : Has P w K mg base 3 "is_product" ["value", "sizes"] spProductG := by
  refine F.has sc_is_product (fun vs H Q E h => ?_) (fun f cdv A outer s H vs Q E hr h => ?_)
  · obtain ⟨a, S, n, t, rfl, _⟩ := h
    rfl
  obtain ⟨x, S, ⟨l, r, u⟩, ok, rfl, hS, hp, q⟩ := h
  have hS : H S = some (.tup [.int l, .int r, .int u]) := hS
  refine ⟨_, (pss_cons (ps_if (PW.pt (pw_or (pt_not (pt_val (pe_callB call_isi (by rfl) B.isinstance bb_isinstance (pa_cons (pv 0) (pa_cons (pe_bltn (v := .ty "tuple") (by rfl) B.tuple bb_tuple rfl) pa_nil))))) (pw_or1 (pt_cmpR op_ne (pe_callB call_len (by rfl) B.len bb_len (pa_cons (pv 0) pa_nil)) pe_int (nomark _)))))
        (pss_one (ps_ret pe_bl))
        pss_nil)
      (pss_one (ps_ret (pe_callB (cr_all rfl) (by rfl) B.all bb_all (pa_cons (pe_lc (own := [("row", 2), ("size", 3)]) (g := gTup K 2 (gCons (gName 2) (gCons (gName 3) gNil))) (tt := tYes) (by rfl) sc_is_product.nd (RZ.pi_zipA (by rfl) B.zip (pa_cons (pv 0) (pa_cons (pv 1) pa_nil))) (blkOk_by (own := [("row", 2), ("size", 3)]) (N := N_is_product) (sc := defScope s_is_product) (by decide +kernel)) (fun _ _ _ _ _ => (pg_tup rfl (pgs_cons (pg_name (i := 2) sc_is_product.nd rfl (Or.inl rfl)) (pgs_cons (pg_name (i := 3) sc_is_product.nd rfl (Or.inl rfl)) pgs_nil)))) (fun _ _ _ _ _ => pts_nil) (fun _ _ _ _ _ => (pe_own G_is_row (hr.mono (by decide)) (by rfl) (pa_cons (pv 2) (pa_cons (pv 3) pa_nil))))) pa_nil))))), ?_⟩
  rcases hp with ⟨rfl, t, ht, n⟩ | ⟨rfl, c, xs, rfl, hc, n3, nl⟩ | ⟨c, a, b, d, ra, rb, rd, rfl, hc, h1, h2, h3, rfl⟩
  · have ty := ht.tyx (K := K)
    cases ht with
    | tup g => exact absurd g (n _ _ rfl)
    | _ => exact ⟨_, rfl, _, .ty "tuple", _, .type "tuple", false, rfl, .ty _, ty, kit_ty (by decide +kernel), _, rfl, iteT (q _ (Same.refl _))⟩
  · refine ⟨_, rfl, _, .ty "tuple", _, .type "tuple", true, rfl, .ty _, (Typ.tup hc).tyx, kit_ty (by decide +kernel), _, rfl, iteF ?_⟩
    refine ⟨_, rfl, .ref c, xs.length, rfl, .inr ⟨_, SqT.of hc, rfl⟩, rfl, _, rfl, ite_of ?_ (q _ (Same.refl _))⟩
    show (!decide (V.int (xs.length : Nat) = V.int 3)) = true
    rw [decI, decide_eq_false (by omega)]
    rfl
  · refine ⟨_, rfl, _, .ty "tuple", _, .type "tuple", true, rfl, .ty _, (Typ.tup hc).tyx, kit_ty (by decide +kernel), _, rfl, iteF ?_⟩
    refine ⟨_, rfl, .ref c, 3, rfl, .inr ⟨_, SqT.of hc, rfl⟩, rfl, _, rfl, ite_no (by decide) ?_⟩
    refine ⟨_, rfl, _, rfl, c, S, _, _, rfl, .inr ⟨SqT.of hc, SqT.of hS, fun D hD => ?_⟩⟩
    refine lc_it (walk_zipT (K := K) (xs := [a, b, d]) (ys := [.int l, .int r, .int u]) (n := 3) rfl) (fun i H' => Same H H' ∧ H' D = some (.lst (([rowOk ra l, rowOk rb r, rowOk rd u].take i).map V.bl))) ⟨same_upd hD, upd_same⟩ (fun i H' _ e => ⟨SqT.of (e.1 _ _ hc), SqT.of (e.1 _ _ hS)⟩) ?_ ?_
    · rintro i v Ha Hb hi ⟨sa, ea⟩ ⟨T, v1, v2, rfl, hT, rfl, e1, e2⟩
      have e1 : [a, b, d][i]? = some v1 := e1
      have e2 : [V.int l, .int r, .int u][i]? = some v2 := e2
      obtain ⟨ri, ni, hr1, rfl, hk⟩ : ∃ (ri : Option (List V)) (ni : Nat), RowI H v1 ri ∧ v2 = .int ni ∧ [rowOk ra l, rowOk rb r, rowOk rd u][i]? = some (rowOk ri ni) := by
        match i, e1, e2 with
        | 0, e1, e2 => cases e1; cases e2; exact ⟨ra, l, h1, rfl, rfl⟩
        | 1, e1, e2 => cases e1; cases e2; exact ⟨rb, r, h2, rfl, rfl⟩
        | 2, e1, e2 => cases e1; cases e2; exact ⟨rd, u, h3, rfl, rfl⟩
        | j + 3, _, _ => omega
      have sT := same_upd (o := .tup [v1, .int (ni : Nat)]) hT
      refine ⟨T, [v1, .int (ni : Nat)], rfl, SqT.of upd_same, rfl, v1, [.int (ni : Nat)], rfl, .int (ni : Nat), [], rfl, rfl, rfl, tYes_ok ?_⟩
      refine ⟨_, rfl, _, rfl, v1, ri, ni, rfl, (hr1.same sa).same sT, fun H3 s3 => ⟨_, s3 _ _ (sT _ _ ea), small1000 (by simp; omega), fun d o hd => ?_, ?_⟩⟩
      · rw [upd_ne (ne_of_none hd hD)]
        exact s3 _ _ (sT _ _ (sa _ _ hd))
      · rw [upd_same, take_snoc hk]
        simp
    · rintro H2 ⟨s2, e2⟩
      exact ⟨D, _, rfl, SqL.of e2, q _ s2⟩
end
end My
/-! the adds of rows; a scheme made, its properties -/
namespace My
open PySem PySem.Spec PyProof.Rows L2
def nzB (x : Int) : Bool := !decide (x = 0)
def nz (xs : Row) : Nat := (xs.filter nzB).length
/-- the adds of sums with so many parts each -/
def addsOf (cs : List Nat) : Nat := (cs.map (· - 1)).sum
theorem nz_le (xs : Row) : nz xs ≤ xs.length := List.length_filter_le _ _
theorem filter_snoc {α : Type} {p : α → Bool} {xs : List α} {i : Nat} {x : α} (h : xs[i]? = some x) : (xs.take (i + 1)).filter p = (xs.take i).filter p ++ (if p x = true then [x] else []) := by
  rw [take_snoc h, List.filter_append]
  congr 1
  cases e : p x <;> simp [List.filter, e]
def cols (tr : List Trip) (n : Nat) : List Row := (List.range n).map fun k => tr.map fun t => t.2.2.getD k 0
def fan1 (tr : List Trip) : Nat := addsOf (tr.map fun t => nz t.1)
def fan2 (tr : List Trip) : Nat := addsOf (tr.map fun t => nz t.2.1)
def fan3 (tr : List Trip) (n : Nat) : Nat := addsOf ((cols tr n).map nz)
/-- rows as tuples | as lists -/
def RowsT (H : Hp) (a : Addr) (rs : List Row) : Prop := ∃ ps, H a = some (.lst (ps.map V.ref)) ∧ Paired (RowT H) ps rs
def RowsL (H : Hp) (a : Addr) (rs : List Row) : Prop := ∃ ps, H a = some (.lst (ps.map V.ref)) ∧ Paired (RowL H) ps rs
def spRowAdds : Sp := fun vs H Q _ => ∃ (a : Addr) (rs : List Row), vs = [.ref a] ∧ (RowsT H a rs ∨ RowsL H a rs) ∧ rs.length ≤ 1000 ∧ (∀ r ∈ rs, r.length ≤ 1000) ∧ ∀ H', Same H H' → Q (.int (addsOf (rs.map nz) : Nat)) H'
/-- [count - 1 for count in counts if count > 0], summed -/
theorem sum_pos : ∀ cs : List Nat, (((cs.filter fun c => decide (0 < c)).map fun (c : Nat) => (c : Int) - 1)).sum = ((addsOf cs : Nat) : Int)
  | [] => rfl
  | c :: r => by
    have ih := sum_pos r
    unfold addsOf at ih ⊢
    cases c with
    | zero => simpa using ih
    | succ n =>
      rw [List.filter_cons_of_pos (by simp), List.map_cons, List.sum_cons, ih, List.map_cons, List.sum_cons]
      omega
end My
/-! a scheme: made, its properties, its adds -/
namespace My
open PySem PySem.Spec PyProof.Rows L2
theorem rng0 (k : Nat) : (fun i : Nat => V.int ((0 : Int) + (i : Int))) k = V.int (k : Int) := congrArg V.int (Int.zero_add _)
theorem RowT.same {H H' : Hp} {a : Addr} {xs : Row} (h : RowT H a xs) (s : Same H H') : RowT H' a xs := s _ _ h
theorem RowL.same {H H' : Hp} {a : Addr} {xs : Row} (h : RowL H a xs) (s : Same H H') : RowL H' a xs := s _ _ h
structure SCls (K : PySem.W.Frag) (C : Addr) : Prop where
  cl : Cls K C
  n1 : NoAttr K C "_sizes"
  n2 : NoAttr K C "_triples"
def spSizesP (C : Addr) : Sp := fun vs H Q _ => ∃ (a : Addr) (sz : Siz) (tr : List Trip), vs = [.ref a] ∧ SchemeAt C H a sz tr ∧ ∀ S, SizAt H S sz → Q (.ref S) H
def spProductsP (C : Addr) : Sp := fun vs H Q _ => ∃ (a : Addr) (sz : Siz) (tr : List Trip), vs = [.ref a] ∧ SchemeAt C H a sz tr ∧ ∀ (T : Addr) (ts : List Addr), H T = some (.tup (ts.map V.ref)) → Paired (TripT H) ts tr → Q (.ref T) H
def spLen (C : Addr) : Sp := fun vs H Q _ => ∃ (a : Addr) (sz : Siz) (tr : List Trip), vs = [.ref a] ∧ SchemeAt C H a sz tr ∧ Q (.int (tr.length : Nat)) H
def fanV (sz : Siz) (tr : List Trip) : List V := [.int (fan1 tr : Nat), .int (fan2 tr : Nat), .int (fan3 tr sz.2.2 : Nat)]
def spRoleAdds (C : Addr) : Sp := fun vs H Q _ => ∃ (a : Addr) (sz : Siz) (tr : List Trip), vs = [.ref a] ∧ SchemeAt C H a sz tr ∧ ∀ (H' : Hp) (l : Addr), Same H H' → H l = none → H' l = some (.lst (fanV sz tr)) → Q (.ref l) H'
def addsT (sz : Siz) (tr : List Trip) : Nat := fan1 tr + fan2 tr + fan3 tr sz.2.2
def spAddsP (C : Addr) : Sp := fun vs H Q _ => ∃ (a : Addr) (sz : Siz) (tr : List Trip), vs = [.ref a] ∧ SchemeAt C H a sz tr ∧ ∀ H', Same H H' → Q (.int (addsT sz tr : Nat)) H'
def spInit (C : Addr) : Sp := fun vs H Q _ => ∃ (a dx S p : Addr) (sz : Siz) (tr : List Trip), vs = [.ref a, .ref S, .ref p] ∧ H a = some (.ins C dx []) ∧ SizAt H S sz ∧ GivenAt H p tr ∧ SmallS sz tr ∧
  ∀ H', Kp a H H' → SchemeAt C H' a sz tr → Q .non H'
/-- what the making of a scheme asks -/
theorem init_at {C : Addr} {H : Hp} {Qx : Hp → Prop} {S p : Addr} {sz : Siz} {tr : List Trip} {x dx : Addr} (hx : H x = none) (hdx : H dx = none) (ne : dx ≠ x) (hS : SizAt H S sz) (hp : GivenAt H p tr) (hm : SmallS sz tr) (q : ∀ H' : Hp, Same H H' → SchemeAt C H' x sz tr → Qx H') :
    spInit C [.ref x, .ref S, .ref p] (upd (upd H dx (.own x)) x (.ins C dx [])) (fun v H2 => v = .non ∧ Qx H2) E0 := by
  have s1 : Same H (upd (upd H dx (.own x)) x (.ins C dx [])) := fun b o e => by
    rw [upd_ne (ne_of_none e hx), upd_ne (ne_of_none e hdx)]
    exact e
  exact ⟨x, dx, S, p, sz, tr, rfl, upd_same, s1 _ _ hS, hp.same s1, hm, fun H' kp A => ⟨rfl, q H' (fun b u e => kp b u (ne_of_none e hx) (s1 b u e)) A⟩⟩
section
variable {P : Program} {w : World} {K : PySem.W.Frag} {mg : Str → Option Value} {base : Heap} {C : Addr}
theorem ok_sizes {f p : Addr} {fd : FuncData} (R : SCls K C) (F : Fun K "sizes" "Scheme.sizes" s_Scheme_sizes f fd) (pr : PropOf K C "sizes" p f) (b : Binds K fd ["self"] []) : HasPr P w K mg base 1 C "sizes" (spSizesP C) := by
  refine ⟨p, f, fd, pr, F.ok sc_Scheme_sizes (fun vs H Q E h => ?_) (fun cdv A outer s H vs Q E hr h => ?_), b⟩
  · obtain ⟨a, d, o, rfl, _⟩ := h
    rfl
  obtain ⟨a, sz, tr, rfl, ⟨dx, S, T, ts, h1, h2, h3, h4, h5⟩, q⟩ := h
  refine ⟨_, (pss_one (ps_ret (L2.pe_fld (pv 0) rfl))), ?_⟩
  exact ⟨_, rfl, a, C, dx, _, _, rfl, h1, R.cl, R.n1, rfl, q S h2⟩
theorem ok_products {f p : Addr} {fd : FuncData} (R : SCls K C) (F : Fun K "products" "Scheme.products" s_Scheme_products f fd) (pr : PropOf K C "products" p f) (b : Binds K fd ["self"] []) : HasPr P w K mg base 1 C "products" (spProductsP C) := by
  refine ⟨p, f, fd, pr, F.ok sc_Scheme_products (fun vs H Q E h => ?_) (fun cdv A outer s H vs Q E hr h => ?_), b⟩
  · obtain ⟨a, d, o, rfl, _⟩ := h
    rfl
  obtain ⟨a, sz, tr, rfl, ⟨dx, S, T, ts, h1, h2, h3, h4, h5⟩, q⟩ := h
  refine ⟨_, (pss_one (ps_ret (L2.pe_fld (pv 0) rfl))), ?_⟩
  exact ⟨_, rfl, a, C, dx, _, _, rfl, h1, R.cl, R.n2, rfl, q T ts h3 h4⟩
theorem ok_len {f : Addr} {fd : FuncData} (R : SCls K C) (B : Blt mg) (F : Fun K "__len__" "Scheme.__len__" s_Scheme_len f fd) : FnOk P w K mg base CX0 1 f fd ["self"] (spLen C) := by
  refine F.ok sc_Scheme_len (fun vs H Q E h => ?_) (fun cdv A outer s H vs Q E hr h => ?_)
  · obtain ⟨a, d, o, rfl, _⟩ := h
    rfl
  obtain ⟨a, sz, tr, rfl, ⟨dx, S, T, ts, h1, h2, h3, h4, h5⟩, q⟩ := h
  refine ⟨_, (pss_one (ps_ret (pe_callB call_len (by rfl) B.len bb_len (pa_cons (L2.pe_fld (pv 0) rfl) pa_nil)))), ?_⟩
  exact ⟨_, rfl, a, C, dx, _, _, rfl, h1, R.cl, R.n2, rfl, .ref T, tr.length, rfl, .inr ⟨_, SqT.of h3, by rw [List.length_map, plen h4]⟩, q⟩
end
end My
/-! Scheme.__init__, with its errors -/
namespace My
open PySem PySem.Spec PyProof.Rows L2
structure Bnd (sz : Siz) : Prop where
  l1 : 1 ≤ sz.1
  l2 : sz.1 ≤ 36
  r1 : 1 ≤ sz.2.1
  r2 : sz.2.1 ≤ 36
  s1 : 1 ≤ sz.2.2
  s2 : sz.2.2 ≤ 36
def InitBad (CE CP CT : Addr) (xs : List V) (H : Hp) (E : XK) : Prop :=
  (∃ v w, xs = [v, w] ∧ SzBad CE v H E) ∨
  (∃ (S p : Addr) (sz : Siz) (ys : List V), xs = [.ref S, .ref p] ∧ SizAt H S sz ∧ Bnd sz ∧ H p = some (.lst ys) ∧ 400 < ys.length ∧ ys.length ≤ 1000 ∧ ∀ H' d, Same H H' → H' d = none → E (.ref CT) (some d) (upd H' d (.xd (errD "most" "TooMany" (.int 400))))) ∨
  (∃ (S p : Addr) (sz : Siz) (ys : List V) (n : Nat) (x : V), xs = [.ref S, .ref p] ∧ SizAt H S sz ∧ Bnd sz ∧ H p = some (.lst ys) ∧ ys.length ≤ 400 ∧ ys[n]? = some x ∧ (∀ j y, j < n → ys[j]? = some y → ProdI H y sz true) ∧ ProdI H x sz false ∧
    ∀ H' d, Same H H' → H' d = none → E (.ref CP) (some d) (upd H' d (.xd (errD "at" "InvalidProduct" (.int (n : Nat))))))
theorem InitBad.same {CE CP CT : Addr} {xs : List V} {H H' : Hp} {E : XK} (h : InitBad CE CP CT xs H E) (s : Same H H') : InitBad CE CP CT xs H' E := by
  rcases h with ⟨v, w, e, b⟩ | ⟨S, p, sz, ys, e, h1, h2, h3, h4, h5, h6⟩ | ⟨S, p, sz, ys, n, x, e, h1, h2, h3, h4, h5, h6, h7, h8⟩
  · exact .inl ⟨v, w, e, b.same s⟩
  · exact .inr (.inl ⟨S, p, sz, ys, e, s _ _ h1, h2, s _ _ h3, h4, h5, fun H2 d k n => h6 H2 d (s.trans k) n⟩)
  · exact .inr (.inr ⟨S, p, sz, ys, n, x, e, s _ _ h1, h2, s _ _ h3, h4, h5, fun j y hj hy => (h6 j y hj hy).same s, h7.same s, fun H2 d k m => h8 H2 d (s.trans k) m⟩)
def spInitX (C CE CP CT : Addr) : Sp := fun vs H Q E => ∃ (a dx : Addr) (xs : List V), vs = .ref a :: xs ∧ H a = some (.ins C dx []) ∧
  ((∃ (S p : Addr) (sz : Siz) (tr : List Trip), xs = [.ref S, .ref p] ∧ SizAt H S sz ∧ GivenAt H p tr ∧ SmallS sz tr ∧ ∀ H', Kp a H H' → SchemeAt C H' a sz tr → Q .non H') ∨ InitBad CE CP CT xs H E)
theorem rowOk_ints (xs : Row) : rowOk (some (xs.map V.int)) xs.length = true := by
  show (decide ((xs.map V.int).length = xs.length) && (xs.map V.int).all isIntV) = true
  rw [List.length_map, decide_eq_true rfl, List.all_map]
  simp [isIntV]
theorem RowL.info {H : Hp} {a : Addr} {xs : Row} (h : RowL H a xs) (l : xs.length ≤ 1000) : RowI H (.ref a) (some (xs.map V.int)) := ⟨a, rfl, h, by rw [List.length_map]; exact l, fun x hx => by
  obtain ⟨i, _, rfl⟩ := List.mem_map.mp hx
  exact ⟨_, fun Hx => .int i⟩⟩
theorem TripL.info {H : Hp} {c : Addr} {t : Trip} {sz : Siz} (h : TripL H c t) (f : Fits sz t) (b : Bnd sz) : ProdI H (.ref c) sz true := by
  obtain ⟨x, y, z, h0, h1, h2, h3⟩ := h
  obtain ⟨f1, f2, f3⟩ := f
  have b1 := b.l2
  have b2 := b.r2
  have b3 := b.s2
  refine .inr (.inr ⟨c, .ref x, .ref y, .ref z, _, _, _, rfl, h0, h1.info (by omega), h2.info (by omega), h3.info (by omega), ?_⟩)
  rw [← f1, ← f2, ← f3, rowOk_ints, rowOk_ints, rowOk_ints]
  rfl
section
variable {P : Program} {w : World} {K : PySem.W.Frag} {mg : Str → Option Value} {base : Heap} {C CE CP CT fE xE dE fP xP dP fT xT dT : Addr}
theorem TripL.kp {H H' : Hp} {a x C dx : Addr} {fs : List (Str × V)} {t : Trip} (h : TripL H x t) (ha : H a = some (.ins C dx fs)) (k : Kp a H H') : TripL H' x t := by
  obtain ⟨x, y, z, h0, h1, h2, h3⟩ := h
  exact ⟨x, y, z, k _ _ (ne_of h0 ha (by intro q; cases q)) h0, k _ _ (ne_of h1 ha (by intro q; cases q)) h1, k _ _ (ne_of h2 ha (by intro q; cases q)) h2, k _ _ (ne_of h3 ha (by intro q; cases q)) h3⟩
theorem ok_initX {f : Addr} {fd : FuncData} (R : SCls K C) (B : Blt mg) (T : Txt mg) (E_InvalidProduct : ErrX.ErrTxt P K mg "InvalidProduct" "at" "InvalidProduct" CP fP xP dP) (E_TooMany : ErrX.ErrTxt P K mg "TooMany" "most" "TooMany" CT fT xT dT)
    (F : Fun K "__init__" "Scheme.__init__" s_Scheme_init f fd) (G_check_sizes : HasX P w K mg base 4 "check_sizes" ["sizes"] (spSizesX CE))
    (G_is_product : Has P w K mg base 3 "is_product" ["value", "sizes"] spProductG) : FnOk P w K mg base (L2.CX P w) 5 f fd ["self", "sizes", "products"] (spInitX C CE CP CT) := by
  refine F.okX sc_Scheme_init (fun vs H Q E h => ?_) (fun cdv A outer s H vs Q E hr h => ?_)
  · obtain ⟨a, d, xs, rfl, _, h⟩ := h
    rcases h with ⟨S, p, sz, tr, rfl, _⟩ | ⟨v, w, rfl, _⟩ | ⟨S, p, sz, ys, rfl, _⟩ | ⟨S, p, sz, ys, n, x, rfl, _⟩ <;> rfl
  obtain ⟨a, dx, xs, rfl, ha, h⟩ := h
  have TK : Takes (cxOf (L2.CX P w) P w K mg base N_Scheme_init "Scheme.__init__" (defScope s_Scheme_init) f cdv A outer s H E) (fun cls d _ H => E cls d H) := takes_of rfl rfl rfl rfl
  refine ⟨_, (pss_cons (ps_expr (pe_ownE G_check_sizes TK (hr.mono (by decide)) (by rfl) (pa_cons (pv 1) pa_nil)))
      (pss_cons (ps_if (pt_cmpR op_gt (pe_callB call_len (by rfl) B.len bb_len (pa_cons (pv 2) pa_nil)) (pe_gint T.m_MOST_PRODUCTS (by rfl)) (nomark _))
        (pss_one (ps_raise rfl TK (pmk_err E_TooMany hr (pa_cons (pe_gint T.m_MOST_PRODUCTS (by rfl)) pa_nil) (by rfl))))
        pss_nil)
      (pss_cons (ps_for (passes_of rfl) rfl (pi_enum (by rfl) B.enumerate (pa_cons (pv 2) pa_nil)) (pg_tup rfl (pgs_cons (pg_name (i := 3) sc_Scheme_init.nd rfl (Or.inl rfl)) (pgs_cons (pg_name (i := 4) sc_Scheme_init.nd rfl (Or.inl rfl)) pgs_nil)))
        (pss_one (ps_if (pt_not (pt_val (pe_own G_is_product (hr.mono (by decide)) (by rfl) (pa_cons (pv 4) (pa_cons (pv 1) pa_nil)))))
        (pss_one (ps_raise rfl TK (pmk_err E_InvalidProduct hr (pa_cons (pv 3) pa_nil) (by rfl))))
        pss_nil)))
      (pss_cons (ps_fld (pv 0) (pv 1) rfl)
      (pss_one (ps_fld (pv 0) (pe_callTy call_tuple_of (by rfl) B.tuple bb_tuple (pa_cons (pe_lc (own := [("triple", 4)]) (g := gName 4) (tt := tYes) (by rfl) sc_Scheme_init.nd (pi_list (pv 2)) (blkOk_by (own := [("triple", 4)]) (N := N_Scheme_init) (sc := defScope s_Scheme_init) (by decide +kernel)) (fun _ _ _ _ _ => (pg_name (i := 4) sc_Scheme_init.nd rfl (Or.inl rfl))) (fun _ _ _ _ _ => pts_nil) (fun _ _ _ _ _ => (pe_callTy (NK.call_tuple_ofK K rfl) (by rfl) B.tuple bb_tuple (pa_cons (pe_lc (own := [("row", 5)]) (g := gName 5) (tt := tYes) (by rfl) sc_Scheme_init.nd (NK.pi_tupK K rfl (pv 4)) (blkOk_by (own := [("row", 5)]) (N := N_Scheme_init) (by rfl)) (fun _ _ _ _ _ => (pg_name (i := 5) sc_Scheme_init.nd rfl (Or.inl rfl))) (fun _ _ _ _ _ => pts_nil) (fun _ _ _ _ _ => (pe_callTy (NK.call_tuple_ofK K rfl) (by rfl) B.tuple bb_tuple (pa_cons (pv 5) pa_nil)))) pa_nil)))) pa_nil)) rfl)))))), ?_⟩
  rcases h with ⟨S, p, sz, tr, rfl, hS, ⟨ps, hp, pp⟩, hm, q⟩ | ⟨v, w', rfl, hb⟩ | ⟨S, p, sz, ys, rfl, hS, hb, hp, h4, h5, q⟩ | ⟨S, p, sz, ys, n, x, rfl, hS, hb, hp, hl, hx, hj, hw, q⟩
  rotate_left
  · exact ⟨_, rfl, v, rfl, .inr hb⟩
  · refine ⟨_, rfl, .ref S, rfl, .inl ⟨S, sz, rfl, hS, hb.l1, hb.l2, hb.r1, hb.r2, hb.s1, hb.s2, ?_⟩⟩
    refine ⟨_, rfl, .ref p, _, rfl, .inl ⟨_, SqL.of hp, rfl⟩, _, _, rfl, rfl, _, rfl, ite_of (decide_eq_true (by omega)) ⟨.int 400, rfl, fun d hd => q H d (Same.refl _) hd⟩⟩
  · refine ⟨_, rfl, .ref S, rfl, .inl ⟨S, sz, rfl, hS, hb.l1, hb.l2, hb.r1, hb.r2, hb.s1, hb.s2, ?_⟩⟩
    refine ⟨_, rfl, .ref p, _, rfl, .inl ⟨_, SqL.of hp, rfl⟩, _, _, rfl, rfl, _, rfl, ite_no (by simp; omega) ?_⟩
    refine ⟨_, rfl, p, _, rfl, SqL.of hp, for_it (walk_enum (xs := ys)) (fun i σ H' => i ≤ n ∧ ∃ y3 y4 y5, σ = [some (.ref a), some (.ref S), some (.ref p), y3, y4, y5] ∧ Same H H') ⟨Nat.zero_le _, _, _, _, rfl, Same.refl _⟩ (fun i σ H' _ e => by obtain ⟨_, _, _, _, _, e⟩ := e; exact SqL.of (e _ _ hp)) ?_ ?_⟩
    · rintro i v σ Ha Hb hi ⟨hin, y3, y4, y5, rfl, sa⟩ ⟨U, x1, y, rfl, hU, rfl, hx1, hy⟩
      have hy : ys[i]? = some y := hy
      have ex : x1 = V.int (i : Nat) := (Option.some.inj hx1).symm
      subst ex
      have sU := same_upd (o := .tup [.int (i : Nat), y]) hU
      refine ⟨U, [.int (i : Nat), y], rfl, SqT.of upd_same, rfl, .int (i : Nat), [y], rfl, y, [], rfl, rfl, ?_⟩
      by_cases e : i = n
      · subst e
        rw [hx] at hy
        cases hy
        refine ⟨_, rfl, _, rfl, x, S, sz, false, rfl, sU _ _ (sa _ _ hS), (hw.same sa).same sU, fun H3 s3 => ⟨false, rfl, iteT ⟨_, rfl, .int (i : Nat), rfl, fun d hd => q _ d (sa.trans (sU.trans s3)) hd⟩⟩⟩
      · refine ⟨_, rfl, _, rfl, y, S, sz, true, rfl, sU _ _ (sa _ _ hS), ((hj i y (by omega) hy).same sa).same sU, fun H3 s3 => ⟨true, rfl, iteF ⟨by omega, _, _, _, rfl, sa.trans (sU.trans s3)⟩⟩⟩
    · rintro σ H1 ⟨hin, _⟩
      have := (List.getElem?_eq_some_iff.mp hx).1
      omega
  have hb : Bnd sz := ⟨hm.l1, hm.l2, hm.r1, hm.r2, hm.s1, hm.s2⟩
  have lp := plen pp
  have hl := hm.len
  refine ⟨_, rfl, .ref S, rfl, .inl ⟨S, sz, rfl, hS, hm.l1, hm.l2, hm.r1, hm.r2, hm.s1, hm.s2, ?_⟩⟩
  refine ⟨_, rfl, .ref p, _, rfl, .inl ⟨_, SqL.of hp, rfl⟩, _, _, rfl, rfl, _, rfl, ite_no (by rw [List.length_map]; simp; omega) ?_⟩
  refine ⟨_, rfl, p, _, rfl, SqL.of hp, for_it (walk_enum (xs := ps.map V.ref)) (fun i σ H' => ∃ y3 y4 y5, σ = [some (.ref a), some (.ref S), some (.ref p), y3, y4, y5] ∧ Same H H') ⟨_, _, _, rfl, Same.refl _⟩ (fun i σ H' _ e => by obtain ⟨_, _, _, _, e⟩ := e; exact SqL.of (e _ _ hp)) ?_ ?_⟩
  · rintro i v σ Ha Hb hi ⟨y3, y4, y5, rfl, sa⟩ ⟨U, x, y, rfl, hU, rfl, hx, hy⟩
    have hy : (ps.map V.ref)[i]? = some y := hy
    obtain ⟨c, hc, rfl⟩ := at_map hy
    have hi : i < tr.length := by simp at hi; omega
    obtain ⟨c', t, hc', ht, htr⟩ := pat pp hi
    rw [hc] at hc'
    cases hc'
    have ex : x = V.int (i : Nat) := (Option.some.inj hx).symm
    subst ex
    have sU := same_upd (o := .tup [.int (i : Nat), .ref c]) hU
    refine ⟨U, [.int (i : Nat), .ref c], rfl, SqT.of upd_same, rfl, .int (i : Nat), [.ref c], rfl, .ref c, [], rfl, rfl, ?_⟩
    refine ⟨_, rfl, _, rfl, .ref c, S, sz, true, rfl, sU _ _ (sa _ _ hS), ((htr.same sa).same sU).info (hm.fits t (List.mem_of_getElem? ht)) hb, fun H3 s3 => ⟨true, rfl, iteF ⟨_, _, _, rfl, sa.trans (sU.trans s3)⟩⟩⟩
  · rintro σ H1 ⟨y3, y4, y5, rfl, s1⟩
    refine ⟨_, rfl, _, rfl, a, C, dx, [], rfl, s1 _ _ ha, R.cl, R.n1, by decide, ?_⟩
    -- the triples
    obtain ⟨H2, hH2⟩ : ∃ H2, H2 = upd H1 a (.ins C dx [("_sizes", .ref S)]) := ⟨_, rfl⟩
    have k2 : Kp a H H2 := by rw [hH2]; exact (Kp.of s1).trans Kp.upd
    have ha2 : H2 a = some (.ins C dx [("_sizes", .ref S)]) := by rw [hH2]; exact upd_same
    have hp2 : H2 p = some (.lst (ps.map V.ref)) := k2 _ _ (ne_of hp ha (by intro z; cases z)) hp
    have pp2 : Paired (TripL H2) ps tr := pmono (fun x t h => TripL.kp h ha k2) pp
    have hS2 : SizAt H2 S sz := k2 _ _ (ne_of (show H S = some _ from hS) ha (by intro z; cases z)) hS
    show _
    refine ⟨_, rfl, p, rfl, ⟨_, SqL.of (by first | exact hp2 | (rw [hH2] at hp2; exact hp2))⟩, fun D hD => ?_⟩
    have hD : H2 D = none := by rw [hH2]; exact hD
    refine lc_it (walk_list (xs := ps.map V.ref)) (fun i H' => Same H2 H' ∧ ∃ ts : List Addr, H' D = some (.lst (ts.map V.ref)) ∧ Paired (TripT H') ts (tr.take i)) ⟨by rw [hH2] at hD ⊢; exact same_upd hD, [], upd_same, .nil⟩ (fun i H' _ e => SqL.of (e.1 _ _ hp2)) ?_ ?_
    · rintro i v Ha Hb hi ⟨sa, ts, ea, pt⟩ ⟨rfl, hv⟩
      obtain ⟨c, hc, rfl⟩ := at_map hv
      have hi : i < tr.length := by simp at hi; omega
      obtain ⟨c', ⟨tx, ty, tz⟩, hc', ht, htr⟩ := pat pp2 hi
      rw [hc] at hc'
      cases hc'
      obtain ⟨x, y, z, g0, g1, g2, g3⟩ := htr.same sa
      refine ⟨rfl, tYes_ok ⟨_, rfl, c, rfl, ⟨_, SqT.of g0⟩, fun D2 hD2 => ?_⟩⟩
      refine lc_it (walk_tup (xs := [.ref x, .ref y, .ref z])) (fun j H' => Same Hb H' ∧ ∃ us : List Addr, H' D2 = some (.lst (us.map V.ref)) ∧ Paired (RowT H') us ([tx, ty, tz].take j)) ⟨same_upd hD2, [], upd_same, .nil⟩ (fun i H' _ e => SqT.of (e.1 _ _ g0)) ?_ ?_
      · rintro j v Hc Hd hj ⟨sc, us, ec, pu⟩ ⟨rfl, hv⟩
        obtain ⟨d, r, rfl, hr1, hd⟩ : ∃ (d : Addr) (r : Row), v = .ref d ∧ [tx, ty, tz][j]? = some r ∧ RowL Hb d r := by
          match j, hv with
          | 0, hv => cases hv; exact ⟨x, tx, rfl, rfl, g1⟩
          | 1, hv => cases hv; exact ⟨y, ty, rfl, rfl, g2⟩
          | 2, hv => cases hv; exact ⟨z, tz, rfl, rfl, g3⟩
          | j + 3, _ => exact absurd (show j + 3 < 3 from hj) (by omega)
        have hj3 : j < 3 := hj
        refine ⟨rfl, tYes_ok ⟨_, rfl, d, _, rfl, .inl ⟨SqL.of (hd.same sc), fun l hl => ⟨_, same_upd hl _ _ ec, small1000 ?_, fun e o he => ?_, us ++ [l], ?_, ?_⟩⟩⟩⟩
        · have := plen pu
          simp at this ⊢
          omega
        · rw [upd_ne (ne_of_none he hD2)]
          exact same_upd hl _ _ (sc _ _ he)
        · rw [upd_same]
          simp
        · rw [take_snoc hr1]
          have nl : l ≠ D2 := (ne_of_none ec hl).symm
          refine (pmono (fun e r h => ?_) pu).snoc ?_
          · have h : Hd e = some (.tup (r.map V.int)) := h
            show upd (upd Hd l _) D2 _ e = some _
            rw [upd_ne (ne_of h ec (by intro q; cases q)), upd_ne (ne_of_none h hl)]
            exact h
          · show upd (upd Hd l _) D2 _ l = some _
            rw [upd_ne nl, upd_same]
      · rintro Hc ⟨sc, us, ec, pu⟩
        match us, pu, ec with
        | [u1, u2, u3], .cons w1 (.cons w2 (.cons w3 .nil)), ec =>
        refine ⟨D2, _, rfl, .inl ⟨SqL.of ec, fun l hl => ?_⟩⟩
        have sl := same_upd (o := .tup [.ref u1, .ref u2, .ref u3]) hl
        refine ⟨_, sl _ _ (sc _ _ ea), small1000 ?_, fun e o he => ?_, ts ++ [l], ?_, ?_⟩
        · have := plen pt
          simp at this ⊢
          omega
        · rw [upd_ne (ne_of_none he hD)]
          exact sl _ _ (sc _ _ (sa _ _ he))
        · rw [upd_same]
          simp
        · rw [take_snoc ht]
          have eD := sl _ _ (sc _ _ ea)
          have put : ∀ {x : Addr} {t : Trip}, TripT (upd Hc l (.tup [.ref u1, .ref u2, .ref u3])) x t → TripT (upd (upd Hc l (.tup [.ref u1, .ref u2, .ref u3])) D (.lst (ts.map V.ref ++ [.ref l]))) x t := fun h => by
            obtain ⟨x, y, z, q0, q1, q2, q3⟩ := h
            refine ⟨x, y, z, ?_, ?_, ?_, ?_⟩
            · rw [upd_ne (ne_of q0 eD (by intro q; cases q))]; exact q0
            · show upd _ D _ x = some _
              rw [upd_ne (ne_of q1 eD (by intro q; cases q))]; exact q1
            · show upd _ D _ y = some _
              rw [upd_ne (ne_of q2 eD (by intro q; cases q))]; exact q2
            · show upd _ D _ z = some _
              rw [upd_ne (ne_of q3 eD (by intro q; cases q))]; exact q3
          refine (pmono (fun e r h => put ((h.same sc).same sl)) pt).snoc (put ?_)
          exact ⟨u1, u2, u3, upd_same, RowT.same w1 sl, RowT.same w2 sl, RowT.same w3 sl⟩
    · rintro H3 ⟨s3, ts, e3, pt⟩
      rw [List.take_of_length_le (by simp; omega)] at pt
      refine ⟨D, _, rfl, .inl ⟨SqL.of e3, fun l hl => ?_⟩⟩
      have sl := same_upd (o := .tup (ts.map V.ref)) hl
      have ha3 := sl _ _ (s3 _ _ ha2)
      refine ⟨_, rfl, a, C, dx, _, rfl, ha3, R.cl, R.n2, by show 1 < 1000; decide, ?_⟩
      have kf : Kp a H (upd (upd H3 l (.tup (ts.map V.ref))) a (.ins C dx [("_sizes", .ref S), ("_triples", .ref l)])) := k2.trans ((Kp.of (s3.trans sl)).trans Kp.upd)
      refine q _ kf ⟨dx, S, l, ts, upd_same, ?_, ?_, ?_, hm⟩
      · exact kf _ _ (ne_of (show H S = some _ from hS) ha (by intro z; cases z)) hS
      · rw [upd_ne (ne_of upd_same ha3 (by intro z; cases z)), upd_same]
      · refine pmono (fun x t h => ?_) pt
        obtain ⟨u, v, z, q0, q1, q2, q3⟩ := TripT.same h sl
        refine ⟨u, v, z, ?_, ?_, ?_, ?_⟩
        · rw [upd_ne (ne_of q0 ha3 (by intro q; cases q))]; exact q0
        · show upd _ a _ u = some _
          rw [upd_ne (ne_of q1 ha3 (by intro q; cases q))]; exact q1
        · show upd _ a _ v = some _
          rw [upd_ne (ne_of q2 ha3 (by intro q; cases q))]; exact q2
        · show upd _ a _ z = some _
          rw [upd_ne (ne_of q3 ha3 (by intro q; cases q))]; exact q3
end
end My
/-! the law's schemes -/
namespace My
open PySem PySem.Spec PyProof.Rows L2
def Tiny (t : Trip) : Prop := ∀ x, x ∈ t.1 ∨ x ∈ t.2.1 ∨ x ∈ t.2.2 → x.natAbs ≤ 9
def SzOk (most : Nat) (sz : Siz) : Prop := 1 ≤ sz.1 ∧ sz.1 ≤ most ∧ 1 ≤ sz.2.1 ∧ sz.2.1 ≤ most ∧ 1 ≤ sz.2.2 ∧ sz.2.2 ≤ most
def spLScheme : Sp := fun vs H Q _ => ∃ (b c : Addr) (most long : Nat), vs = [.ref b, .int most, .int long] ∧ Bg H b c ∧ 1 ≤ most ∧ most ≤ 30 ∧ long ≤ 100 ∧
  ∀ (H' : Hp) (T S R : Addr) (sz : Siz) (tr : List Trip), Kp b H H' → Bg H' b c → H' T = some (.tup [.ref S, .ref R]) → SizAt H' S sz → GivenAt H' R tr → R ≠ b → SzOk most sz → (∀ t ∈ tr, Fits sz t ∧ Tiny t) → tr.length ≤ long → Q (.ref T) H'
def spLSchemeF : Sp := fun vs H Q _ => ∃ (b c : Addr) (most long : Nat), vs = [.ref b, .int most, .int long] ∧ Bg H b c ∧ 1 ≤ most ∧ most ≤ 30 ∧ long ≤ 100 ∧
  ∀ (H' : Hp) (T S R : Addr) (sz : Siz) (tr : List Trip), Kp b H H' → Bg H' b c → H' T = some (.tup [.ref S, .ref R]) → SizAt H' S sz → GivenAt H' R tr → R ≠ b → H R = none → SzOk most sz → (∀ t ∈ tr, Fits sz t ∧ Tiny t) → tr.length ≤ long → Q (.ref T) H'
theorem len3 {α : Type} {l : List α} (h : l.length = 3) : ∃ a b c, l = [a, b, c] := by
  match l, h with
  | [a, b, c], _ => exact ⟨a, b, c, rfl⟩
/-- the list holds no number in front -/
def NoNum (ys : List V) : Prop := ∀ (n : Int) (r : List V), ys ≠ .int n :: r
theorem noNum_refs (ps : List Addr) : NoNum (ps.map V.ref) := fun n r z => by cases ps <;> cases z
theorem Bg.noNum {H : Hp} {b c : Addr} (h : Bg H b c) : ∃ ys, H b = some (.lst ys) ∧ NoNum ys := by
  obtain ⟨r, e⟩ := h.sel
  exact ⟨_, e, fun n r z => by cases z⟩
theorem row_ne {H : Hp} {a b : Addr} {xs : Row} {ys : List V} (h : RowL H a xs) (hx : 0 < xs.length) (hb : H b = some (.lst ys)) (hn : NoNum ys) : a ≠ b := by
  intro z
  have h : H a = some (.lst (xs.map V.int)) := h
  rw [z, hb] at h
  cases xs with
  | nil => simp at hx
  | cons x r =>
    injection h with h
    injection h with h
    exact hn _ _ h
theorem RowL.kp {H H' : Hp} {a b : Addr} {xs : Row} {ys : List V} (h : RowL H a xs) (hx : 0 < xs.length) (hb : H b = some (.lst ys)) (hn : NoNum ys) (k : Kp b H H') : RowL H' a xs := k _ _ (row_ne h hx hb hn) h
theorem TripL.kl {H H' : Hp} {a b : Addr} {t : Trip} {sz : Siz} {ys : List V} {m : Nat} (h : TripL H a t) (f : Fits sz t) (o : SzOk m sz) (hb : H b = some (.lst ys)) (hn : NoNum ys) (k : Kp b H H') : TripL H' a t := by
  obtain ⟨x, y, z, h0, h1, h2, h3⟩ := h
  obtain ⟨f1, f2, f3⟩ := f
  obtain ⟨o1, _, o2, _, o3, _⟩ := o
  exact ⟨x, y, z, k _ _ (ne_of h0 hb (by intro q; cases q)) h0, h1.kp (by omega) hb hn k, h2.kp (by omega) hb hn k, h3.kp (by omega) hb hn k⟩
section
variable {P : Program} {w : World} {K : PySem.W.Frag} {mg : Str → Option Value} {base : Heap} {C : Addr}
theorem ok_l_schemeF (F : Fn K mg "_law_scheme" s_l_scheme ["_law_bag_here", "_law_most", "_law_long"]) (B : Blt mg) (G_l_draw : Has P w K mg base 1 "_law_draw" ["_law_bag_here", "_law_many"] spDraw) (G_l_pick : Has P w K mg base 2 "_law_pick" ["_law_bag_here", "_law_some"] (spPick K)) :
    Has P w K mg base 3 "_law_scheme" ["_law_bag_here", "_law_most", "_law_long"] spLSchemeF := by
  refine F.has sc_l_scheme (fun vs H Q E h => ?_) (fun f cdv A outer s H vs Q E hr h => ?_)
  · obtain ⟨a, c, n, t, rfl, _⟩ := h
    rfl
  obtain ⟨b, c, most, long, rfl, hB, m1, m2, l1, q⟩ := h
  refine ⟨_, (pss_cons (ps_set (i := 3) sc_l_scheme.nd rfl (Or.inl rfl) (pe_callTy call_tuple_of (by rfl) B.tuple bb_tuple (pa_cons (pe_lc (own := [("_law_k", 4)]) (g := gName 4) (tt := tYes) (by rfl) sc_l_scheme.nd (pi_range1 (by rfl) B.range (pa_cons pe_int pa_nil)) (blkOk_by (own := [("_law_k", 4)]) (N := N_l_scheme) (sc := defScope s_l_scheme) (by decide +kernel)) (fun _ _ _ _ _ => (pg_name (i := 4) sc_l_scheme.nd rfl (Or.inl rfl))) (fun _ _ _ _ _ => pts_nil) (fun _ _ _ _ _ => (pe_op op_add pe_int (pe_own G_l_draw (hr.mono (by decide)) (by rfl) (pa_cons (pv 0) (pa_cons (pv 1) pa_nil)))))) pa_nil)))
      (pss_cons (ps_set (i := 5) sc_l_scheme.nd rfl (Or.inl rfl) (pe_lst pa_nil))
      (pss_cons (ps_for PassesOwn.never rfl (pi_range1 (by rfl) B.range (pa_cons (pe_own G_l_draw (hr.mono (by decide)) (by rfl) (pa_cons (pv 0) (pa_cons (pe_op op_add (pv 2) pe_int) pa_nil))) pa_nil)) (pg_name (i := 4) sc_l_scheme.nd rfl (Or.inl rfl))
        (pss_one (ps_expr (pe_bm PySem.F.plainAttrs_list PySem.F.slot_list_append PySem.F.type_list_append mt_append (pv 5) (pa_cons (pe_callTy call_tuple_of (by rfl) B.tuple bb_tuple (pa_cons (pe_lc (own := [("_law_size", 7)]) (g := gName 7) (tt := tYes) (by rfl) sc_l_scheme.nd (pi_tup (pv 3)) (blkOk_by (own := [("_law_size", 7)]) (N := N_l_scheme) (sc := defScope s_l_scheme) (by decide +kernel)) (fun _ _ _ _ _ => (pg_name (i := 7) sc_l_scheme.nd rfl (Or.inl rfl))) (fun _ _ _ _ _ => pts_nil) (fun _ _ _ _ _ => (pe_lc (own := [("_law_j", 6)]) (g := gName 6) (tt := tYes) (by rfl) sc_l_scheme.nd (pi_range1 (by rfl) B.range (pa_cons (pv 7) pa_nil)) (blkOk_by (own := [("_law_j", 6)]) (N := N_l_scheme) (by rfl)) (fun _ _ _ _ _ => (pg_name (i := 6) sc_l_scheme.nd rfl (Or.inl rfl))) (fun _ _ _ _ _ => pts_nil) (fun _ _ _ _ _ => (pe_own G_l_pick (hr.mono (by decide)) (by rfl) (pa_cons (pv 0) (pa_cons (pe_lst (pa_cons pe_int (pa_cons pe_int (pa_cons pe_int (pa_cons (pe_un un_neg pe_int) (pa_cons pe_int (pa_cons (pe_op op_sub (pe_own G_l_draw (hr.mono (by decide)) (by rfl) (pa_cons (pv 0) (pa_cons pe_int pa_nil))) pe_int) pa_nil))))))) pa_nil))))))) pa_nil)) pa_nil)))))
      (pss_one (ps_ret (pe_tup (pa_cons (pv 3) (pa_cons (pv 5) pa_nil)))))))), ?_⟩
  -- the sizes
  refine ⟨3, rfl, by decide, by decide, fun D hD => ?_⟩
  have nDb := hB.ne_new hD
  have nDc := hB.ne_new2 hD
  refine lc_it walk_range (fun i H' => ∃ zs : List Nat, zs.length = i ∧ (∀ z ∈ zs, 1 ≤ z ∧ z ≤ most) ∧ Kp b H H' ∧ Bg H' b c ∧ H' D = some (.lst (zs.map fun (n : Nat) => V.int n))) ⟨[], rfl, by simp, Kp.of (same_upd hD), hB.same (same_upd hD), upd_same⟩ (fun _ _ _ _ => True.intro) ?_ ?_
  · rintro i v Ha Hb hi ⟨zs, rfl, hz, ka, Ba, ea⟩ ⟨rfl, hv⟩
    refine ⟨rfl, tYes_ok ⟨_, rfl, _, rfl, b, c, most, rfl, Ba, by omega, by omega, fun v1 H1 v0 v9 k1 B1 => ⟨_, _, rfl, rfl, _, k1 _ _ nDb ea, small1000 ?_, zs ++ [(1 + v1).toNat], by simp, ?_, ?_, B1.kp (d := D) nDb nDc Kp.upd, ?_⟩⟩⟩
    · have : zs.length < 3 := hi
      simp
      omega
    · intro z hz'
      rcases List.mem_append.mp hz' with hz' | hz'
      · exact hz z hz'
      · rw [List.mem_singleton.mp hz']
        omega
    · exact fun x o nx hx => by
        have := ka x o nx hx
        by_cases e : x = D
        · rw [e] at hx
          rw [hD] at hx
          cases hx
        · rw [upd_ne e]
          exact k1 _ _ nx this
    · rw [upd_same, List.map_append]
      simp
      omega
  rintro H1 ⟨zs, hl, hz, k1, B1, e1⟩
  have hl : zs.length = 3 := hl
  match zs, hl, hz, e1 with
  | [l, r, u], _, hz, e1 =>
  have hso : SzOk most (l, r, u) := by
    have h1 := hz l (by simp)
    have h2 := hz r (by simp)
    have h3 := hz u (by simp)
    exact ⟨h1.1, h1.2, h2.1, h2.2, h3.1, h3.2⟩
  refine ⟨D, _, rfl, .inl ⟨SqL.of e1, fun S hS => ?_⟩⟩
  have sS := same_upd (o := .tup [.int l, .int r, .int u]) hS
  have B2 := B1.same sS
  refine ⟨(by show 0 ≤ sizeLine; decide), fun R hR => ?_⟩
  have sR := same_upd (o := .lst []) hR
  have B3 := B2.same sR
  have nRb := B2.ne_new hR
  have nRc := B2.ne_new2 hR
  have nSR : S ≠ R := (ne_of_none upd_same hR)
  refine ⟨_, rfl, _, rfl, _, _, rfl, rfl, b, c, (long : Int) + 1, rfl, B3, by omega, by omega, fun v1 H4 v0 v9 k4 B4 => ?_⟩
  refine ⟨v1, rfl, by omega, by omega, ?_⟩
  have kH4 : Kp b H H4 := k1.trans ((Kp.of (sS.trans sR)).trans k4)
  have hS4 : SizAt H4 S (l, r, u) := by
    obtain ⟨_, hb3⟩ := B3.sel
    refine k4 _ _ (ne_of (sR _ _ upd_same) hb3 (by intro z; cases z)) (sR _ _ upd_same)
  have hR4 : H4 R = some (.lst []) := k4 _ _ nRb upd_same
  refine for_range (n := v1.toNat) (fun i σ H' => ∃ (y4 : Option V) (ps : List Addr) (tr : List Trip), σ = [some (.ref b), some (.int most), some (.int long), some (.ref S), y4, some (.ref R), none, none] ∧ tr.length = i ∧ Kp b H H' ∧ Bg H' b c ∧ SizAt H' S (l, r, u) ∧ H' R = some (.lst (ps.map V.ref)) ∧
      Paired (TripL H') ps tr ∧ ∀ t ∈ tr, Fits (l, r, u) t ∧ Tiny t) ⟨_, [], [], rfl, rfl, kH4, B4, hS4, hR4, .nil, by simp⟩ ?_ ?_
  · rintro i σ H' hi ⟨y4, ps, tr, rfl, ht, kH, Bi, hSi, hRi, pt, gt⟩
    have hSi' : H' S = some (.tup [.int l, .int r, .int u]) := hSi
    refine ⟨_, rfl, .inl ⟨rfl, _, SqL.of hRi⟩, _, rfl, S, rfl, ⟨_, SqT.of hSi'⟩, fun D2 hD2 => ?_⟩
    have nD2b := Bi.ne_new hD2
    have nD2c := Bi.ne_new2 hD2
    have nD2R : D2 ≠ R := (ne_of_none hRi hD2).symm
    -- the three rows
    refine lc_it (walk_tup (xs := [.int l, .int r, .int u])) (fun j Hj => ∃ (us : List Addr) (rs : List Row), Kp b H' Hj ∧ Bg Hj b c ∧ Hj D2 = some (.lst (us.map V.ref)) ∧ Paired (RowL Hj) us rs ∧ rs.map List.length = [l, r, u].take j ∧ ∀ rw' ∈ rs, ∀ x ∈ rw', x.natAbs ≤ 9)
      ⟨[], [], Kp.of (same_upd hD2), Bi.same (same_upd hD2), upd_same, .nil, rfl, by simp⟩ (fun j Hj _ h => by
        obtain ⟨us, rs, kj, Bj, _⟩ := h
        obtain ⟨_, hbi⟩ := Bi.sel
        exact SqT.of (kj _ _ (ne_of hSi' hbi (by intro z; cases z)) hSi')) ?_ ?_
    · rintro j v Ha Hb hj ⟨us, rs, kj, Bj, eD2, pu, hrs, hti⟩ ⟨rfl, hv⟩
      obtain ⟨m, rfl, hm, m1', m2'⟩ : ∃ m : Nat, v = .int m ∧ [l, r, u][j]? = some m ∧ 1 ≤ m ∧ m ≤ 30 := by
        obtain ⟨o1, o2, o3, o4, o5, o6⟩ := hso
        simp only at o1 o2 o3 o4 o5 o6
        match j, hv with
        | 0, hv => cases hv; exact ⟨l, rfl, rfl, by omega, by omega⟩
        | 1, hv => cases hv; exact ⟨r, rfl, rfl, by omega, by omega⟩
        | 2, hv => cases hv; exact ⟨u, rfl, rfl, by omega, by omega⟩
        | j + 3, _ => exact absurd (show j + 3 < 3 from hj) (by omega)
      have hj3 : j < 3 := hj
      refine ⟨rfl, tYes_ok ⟨_, rfl, (m : Int), rfl, by omega, by omega, fun D3 hD3 => ?_⟩⟩
      have nD3b := Bj.ne_new hD3
      have nD3c := Bj.ne_new2 hD3
      have nD3D2 : D3 ≠ D2 := (ne_of_none eD2 hD3).symm
      refine lc_it (walk_range (n := m)) (fun i Hi => ∃ zs : Row, zs.length = i ∧ (∀ z ∈ zs, z.natAbs ≤ 9) ∧ Kp b Hb Hi ∧ Bg Hi b c ∧ Hi D3 = some (.lst (zs.map V.int))) ⟨[], rfl, by simp, Kp.of (same_upd hD3), Bj.same (same_upd hD3), upd_same⟩ (fun _ _ _ _ => True.intro) ?_ ?_
      · rintro k v Hc Hd hk ⟨zs, rfl, hz9, kz, Bz, ez⟩ ⟨rfl, hv⟩
        refine ⟨rfl, tYes_ok ⟨_, rfl, _, rfl, _, rfl, b, c, 19, rfl, Bz, by decide, by decide, fun v1 H5 v0 v9 k5 B5 => ⟨_, _, rfl, rfl, (by show 6 ≤ sizeLine; decide), fun l6 n6 => ?_⟩⟩⟩
        refine ⟨b, c, .ref l6, rfl, B5.same (same_upd n6), .inl ⟨l6, _, rfl, B5.ne_new n6, upd_same, by simp, (by show 6 ≤ 1000; decide), fun v7 H7 m7 k7 B7 => ?_⟩⟩
        obtain ⟨g, rfl, hg⟩ : ∃ g : Int, v7 = .int g ∧ g.natAbs ≤ 9 := by
          simp only [List.mem_cons, List.not_mem_nil, or_false] at m7
          rcases m7 with rfl | rfl | rfl | rfl | rfl | rfl
          · exact ⟨0, rfl, by decide⟩
          · exact ⟨1, rfl, by decide⟩
          · exact ⟨1, rfl, by decide⟩
          · exact ⟨-1, rfl, by decide⟩
          · exact ⟨2, rfl, by decide⟩
          · exact ⟨_, rfl, by omega⟩
        have kd : Kp b Hd H7 := k5.trans ((Kp.of (same_upd n6)).trans k7)
        refine ⟨_, kd _ _ nD3b ez, small1000 ?_, zs ++ [g], by simp, ?_, ?_, B7.kp (d := D3) nD3b nD3c Kp.upd, ?_⟩
        · rw [List.length_map]
          omega
        · intro z hz'
          rcases List.mem_append.mp hz' with hz' | hz'
          · exact hz9 z hz'
          · rw [List.mem_singleton.mp hz']
            exact hg
        · exact fun x o nx hx => by
            have e2 := kz x o nx hx
            have nx3 : x ≠ D3 := fun e => by rw [e, hD3] at hx; cases hx
            rw [upd_ne nx3]
            exact kd _ _ nx e2
        · rw [upd_same, List.map_append]
          rfl
      · rintro Hc ⟨zs, hzl, hz9, kz, Bz, ez⟩
        obtain ⟨ys, hby, hnn⟩ := Bj.noNum
        have eD2' := kz _ _ nD2b eD2
        refine ⟨_, eD2', small1000 ?_, us ++ [D3], rs ++ [zs], ?_, Bz.kp (d := D2) nD2b nD2c Kp.upd, ?_, ?_, ?_, ?_⟩
        · have h1 := plen pu
          have h2 := congrArg List.length hrs
          simp at h2 ⊢
          omega
        · exact fun x o nx hx => by
            have nx2 : x ≠ D2 := fun e => by rw [e, hD2] at hx; cases hx
            rw [upd_ne nx2]
            exact kz _ _ nx (kj _ _ nx hx)
        · rw [upd_same]
          simp
        · have pos : ∀ rw' ∈ rs, 0 < rw'.length := fun rw' h => by
            have : rw'.length ∈ [l, r, u].take j := by
              rw [← hrs]
              exact List.mem_map_of_mem h
            have := List.mem_of_mem_take this
            obtain ⟨o1, o2, o3, o4, o5, o6⟩ := hso
            simp only [List.mem_cons, List.not_mem_nil, or_false] at this
            simp only at o1 o3 o5
            omega
          have put : ∀ {x : Addr} {rw' : Row}, RowL Hc x rw' → 0 < rw'.length → RowL (upd Hc D2 (.lst (us.map V.ref ++ [.ref D3]))) x rw' := fun h hp => by
            show upd Hc D2 _ _ = some _
            rw [upd_ne (row_ne h hp eD2' (noNum_refs us))]
            exact h
          refine Paired.snoc ?_ (put ez (by rw [hzl]; omega))
          refine pmem pu fun x rw' hm h => put (h.kp (pos _ hm) hby hnn kz) (pos _ hm)
        · rw [List.map_append, hrs, take_snoc hm, ← hzl]
          rfl
        · intro rw' hr' x hx
          rcases List.mem_append.mp hr' with hr' | hr'
          · exact hti rw' hr' x hx
          · rw [List.mem_singleton.mp hr'] at hx
            exact hz9 x hx
    · rintro Hj ⟨us, rs, kj, Bj, eD2, pu, hrs, hti⟩
      have hrs : rs.map List.length = [l, r, u] := hrs
      obtain ⟨tx, ty, tz, rfl⟩ := len3 (by have h3 := congrArg List.length hrs; simpa using h3)
      match us, pu, eD2 with
      | [x, y, z], .cons g1 (.cons g2 (.cons g3 .nil)), eD2 =>
      simp only [List.map_cons, List.map_nil, List.cons.injEq, and_true] at hrs
      obtain ⟨f1, f2, f3⟩ := hrs
      have fit : Fits (l, r, u) (tx, ty, tz) := ⟨f1, f2, f3⟩
      have tiny : Tiny (tx, ty, tz) := fun x hx => by
        rcases hx with hx | hx | hx
        · exact hti tx (by simp) x hx
        · exact hti ty (by simp) x hx
        · exact hti tz (by simp) x hx
      refine ⟨D2, _, rfl, .inl ⟨SqL.of eD2, fun p hp => ?_⟩⟩
      have sp := same_upd (o := .tup [.ref x, .ref y, .ref z]) hp
      have eR := sp _ _ (kj _ _ nRb hRi)
      obtain ⟨ys, hby, hnn⟩ := Bi.noNum
      have Bp := Bj.same sp
      refine ⟨R, _, _, rfl, rfl, eR, small1000 ?_, ?_⟩
      · have := plen pt
        simp
        omega
      have kR : Kp R (upd Hj p (.tup [.ref x, .ref y, .ref z])) (upd (upd Hj p (.tup [.ref x, .ref y, .ref z])) R (.lst (ps.map V.ref ++ [.ref p]))) := Kp.upd
      refine ⟨_, ps ++ [p], tr ++ [(tx, ty, tz)], rfl, by simp [ht], ?_, Bp.kp (d := R) nRb nRc Kp.upd, ?_, ?_, ?_, ?_⟩
      · exact fun e o ne he => by
          have h1 := kH _ _ ne he
          have h2 := sp _ _ (kj _ _ ne h1)
          by_cases z : e = R
          · exfalso
            have hRnone : H R = none := by
              cases hh : H R with
              | none => rfl
              | some o =>
                have w1 := sS _ _ (k1 _ _ nRb hh)
                have w2 := w1.symm.trans hR
                cases w2
            rw [z, hRnone] at he
            cases he
          · rw [upd_ne z]
            exact h2
      · show upd _ R _ S = some _
        rw [upd_ne nSR]
        obtain ⟨_, hbi⟩ := Bi.sel
        exact sp _ _ (kj _ _ (ne_of hSi' hbi (by intro z; cases z)) hSi')
      · rw [upd_same]
        simp
      · refine Paired.snoc ?_ (TripL.kl (sz := (l, r, u)) (m := most) ?_ fit hso eR (noNum_refs ps) kR)
        · refine pmem pt fun x t hm h => ?_
          exact ((h.kl (gt _ hm).1 hso hby hnn kj).same sp).kl (gt _ hm).1 hso eR (noNum_refs ps) kR
        · exact ⟨x, y, z, upd_same, g1.same sp, g2.same sp, g3.same sp⟩
      · intro t hm
        rcases List.mem_append.mp hm with hm | hm
        · exact gt t hm
        · rw [List.mem_singleton.mp hm]
          exact ⟨fit, tiny⟩
  · rintro σ H' ⟨y4, ps, tr, rfl, ht, kH, Bi, hSi, hRi, pt, gt⟩
    refine ⟨_, rfl, _, rfl, (by show 2 ≤ sizeLine; decide), fun T hT => ?_⟩
    have sT := same_upd (o := .tup [.ref S, .ref R]) hT
    exact q _ T S R (l, r, u) tr (kH.trans (Kp.of sT)) (Bi.same sT) upd_same (sT _ _ hSi) ⟨ps, sT _ _ hRi, pmono (fun x t h => h.same sT) pt⟩ nRb (by
      cases hh : H R with
      | none => rfl
      | some o =>
        have w2 := (sS _ _ (k1 _ _ nRb hh)).symm.trans hR
        cases w2) hso gt (by omega)
theorem ok_l_scheme (F : Fn K mg "_law_scheme" s_l_scheme ["_law_bag_here", "_law_most", "_law_long"]) (B : Blt mg) (G_l_draw : Has P w K mg base 1 "_law_draw" ["_law_bag_here", "_law_many"] spDraw) (G_l_pick : Has P w K mg base 2 "_law_pick" ["_law_bag_here", "_law_some"] (spPick K)) :
    Has P w K mg base 3 "_law_scheme" ["_law_bag_here", "_law_most", "_law_long"] spLScheme := by
  obtain ⟨f, fd, F, r⟩ := (ok_l_schemeF F B G_l_draw G_l_pick).ex
  exact ⟨f, fd, FnOk.imp F fun vs H Q E ⟨b, c, most, long, e, hB, m1, m2, l1, q⟩ => ⟨b, c, most, long, e, hB, m1, m2, l1, fun H' T S R sz tr k B' e1 e2 e3 n _ => q H' T S R sz tr k B' e1 e2 e3 n⟩, r⟩
end
end My
/-! the table of a scheme -/
namespace My
open PySem PySem.Spec PyProof.Rows L2
/-- lists of rows at ps: g i j k -/
def Cells (H : Hp) (ps : List Addr) (r u : Nat) (g : Nat → Nat → Nat → Int) : Prop :=
  ∀ i p, ps[i]? = some p → ∃ cs : List Addr, H p = some (.lst (cs.map V.ref)) ∧ cs.length = r ∧ ∀ j c, cs[j]? = some c → RowL H c ((List.range u).map (g i j))
def CubeF (H : Hp) (a : Addr) (l r u : Nat) (g : Nat → Nat → Nat → Int) : Prop := ∃ ps : List Addr, ps.length = l ∧ H a = some (.lst (ps.map V.ref)) ∧ Cells H ps r u g
theorem Cells.same {H H' : Hp} {ps : List Addr} {r u : Nat} {g : Nat → Nat → Nat → Int} (h : Cells H ps r u g) (s : Same H H') : Cells H' ps r u g := fun i p e => by
  obtain ⟨cs, g1, g2, g3⟩ := h i p e
  exact ⟨cs, s _ _ g1, g2, fun j c e => (g3 j c e).same s⟩
theorem CubeF.same {H H' : Hp} {a : Addr} {l r u : Nat} {g : Nat → Nat → Nat → Int} (h : CubeF H a l r u g) (s : Same H H') : CubeF H' a l r u g := by
  obtain ⟨ps, h1, h2, h3⟩ := h
  exact ⟨ps, h1, s _ _ h2, h3.same s⟩
theorem Cells.congr {H : Hp} {ps : List Addr} {r u : Nat} {g g' : Nat → Nat → Nat → Int} (h : Cells H ps r u g) (e : ∀ i j k, i < ps.length → j < r → k < u → g i j k = g' i j k) : Cells H ps r u g' := fun i p ei => by
  obtain ⟨cs, g1, g2, g3⟩ := h i p ei
  refine ⟨cs, g1, g2, fun j c ej => ?_⟩
  have hi : i < ps.length := (List.getElem?_eq_some_iff.mp ei).1
  have hj : j < r := by rw [← g2]; exact (List.getElem?_eq_some_iff.mp ej).1
  have : (List.range u).map (g i j) = (List.range u).map (g' i j) := List.map_congr_left fun k hk => e i j k hi hj (List.mem_range.mp hk)
  rw [← this]
  exact g3 j c ej
/-- the part of a triple at i, j, k -/
def term (t : Trip) (i j k : Nat) : Int := t.1.getD i 0 * t.2.1.getD j 0 * t.2.2.getD k 0
def tensor (tr : List Trip) (i j k : Nat) : Int := (tr.map fun t => term t i j k).sum
theorem tensor_snoc {tr : List Trip} {m : Nat} {t : Trip} (h : tr[m]? = some t) (i j k : Nat) : tensor (tr.take (m + 1)) i j k = tensor (tr.take m) i j k + term t i j k := by
  unfold tensor
  rw [take_snoc h, List.map_append, List.sum_append]
  simp
/-- one cell is changed -/
theorem Cells.put {H : Hp} {p c : Addr} {r u i j : Nat} {g : Nat → Nat → Nat → Int} {ps cs : List Addr} {f : Nat → Int} (nd : ps.Nodup) (all : Cells H ps r u g) (hu : 0 < u)
    (hp : ps[i]? = some p) (hcs : H p = some (.lst (cs.map V.ref))) (hlc : cs.length = r) (hc : RowL H c ((List.range u).map f)) :
    Cells (upd H p (.lst ((cs.set j c).map V.ref))) ps r u (fun i' j' k => if i' = i ∧ j' = j then f k else g i' j' k) := by
  have row : ∀ {x : Addr} {xs : Row}, RowL H x xs → 0 < xs.length → RowL (upd H p (.lst ((cs.set j c).map V.ref))) x xs := fun h hx => by
    show upd H p _ _ = some _
    rw [upd_ne (row_ne h hx hcs (noNum_refs cs))]
    exact h
  intro i' p' e
  by_cases z : p' = p
  · subst z
    have ei : i' = i := (List.getElem?_inj (by exact (List.getElem?_eq_some_iff.mp e).1) nd).mp (e.trans hp.symm)
    subst ei
    refine ⟨cs.set j c, upd_same, by rw [List.length_set]; exact hlc, fun j' d ej => ?_⟩
    obtain ⟨cs2, q1, q2, q3⟩ := all i' p' e
    rw [hcs] at q1
    have : cs2 = cs := by
      have := Option.some.inj q1
      injection this with this
      exact ((List.map_inj_right (fun x y z => by injection z)).mp this).symm
    subst this
    by_cases zj : j' = j
    · subst zj
      have hj : j' < cs2.length := by
        have := (List.getElem?_eq_some_iff.mp ej).1
        simpa using this
      rw [List.getElem?_set_self hj] at ej
      cases ej
      rw [show (List.range u).map (fun k => if i' = i' ∧ j' = j' then f k else g i' j' k) = (List.range u).map f from List.map_congr_left fun k _ => if_pos ⟨rfl, rfl⟩]
      exact row hc (by simp; omega)
    · rw [List.getElem?_set_ne (fun e => zj e.symm)] at ej
      rw [show (List.range u).map (fun k => if i' = i' ∧ j' = j then f k else g i' j' k) = (List.range u).map (g i' j') from List.map_congr_left fun k _ => if_neg (fun q => zj q.2)]
      exact row (q3 j' d ej) (by simp; omega)
  · have ei : i' ≠ i := fun q => z (by
      rw [q, hp] at e
      exact (Option.some.inj e).symm)
    obtain ⟨cs2, q1, q2, q3⟩ := all i' p' e
    refine ⟨cs2, by rw [upd_ne z]; exact q1, q2, fun j' d ej => ?_⟩
    rw [show (List.range u).map (fun k => if i' = i ∧ j' = j then f k else g i' j' k) = (List.range u).map (g i' j') from List.map_congr_left fun k _ => if_neg (fun q => ei q.1)]
    exact row (q3 j' d ej) (by simp; omega)
theorem nat_ix {n j : Nat} (h : j < n) : ixN n (j : Int) = some j := by
  unfold ixN
  rw [if_pos (by omega), if_pos (by omega), Int.toNat_natCast]
/-- entries that the products bear -/
def Mid (t : Trip) : Prop := ∀ x, x ∈ t.1 ∨ x ∈ t.2.1 ∨ x ∈ t.2.2 → x.natAbs < 2 ^ 60
theorem Tiny.mid {t : Trip} (h : Tiny t) : Mid t := fun x hx => Nat.lt_of_le_of_lt (h x hx) (by decide)
def spTable (C : Addr) : Sp := fun vs H Q _ => ∃ (a : Addr) (sz : Siz) (tr : List Trip), vs = [.ref a] ∧ SchemeAt C H a sz tr ∧ (∀ t ∈ tr, Mid t) ∧ ∀ (H' : Hp) (D : Addr), Same H H' → H D = none → CubeF H' D sz.1 sz.2.1 sz.2.2 (tensor tr) → (∀ ps : List Addr, H' D = some (.lst (ps.map V.ref)) → ∀ p ∈ ps, H p = none) → Q (.ref D) H'
section
variable {P : Program} {w : World} {K : PySem.W.Frag} {mg : Str → Option Value} {base : Heap} {C : Addr}
theorem ok_table {f : Addr} {fd : FuncData} (R : SCls K C) (B : Blt mg) (F : Fun K "table" "Scheme.table" s_Scheme_table f fd) (M : Meth K C "table" f) (b : Binds K fd ["self"] []) : HasM P w K mg base 1 C "table" ["self"] (spTable C) := by
  refine ⟨f, fd, F.ok sc_Scheme_table (fun vs H Q E h => ?_) (fun cdv A outer s H vs Q E hr h => ?_), M, b⟩
  · obtain ⟨a, c, n, rfl, _⟩ := h
    rfl
  obtain ⟨a, ⟨l, r, u⟩, tr, rfl, hA, hmid, q⟩ := h
  refine ⟨_, (pss_cons (ps_asg (L2.pe_fld (pv 0) rfl) (pg_tup rfl (pgs_cons (pg_name (i := 1) sc_Scheme_table.nd rfl (Or.inl rfl)) (pgs_cons (pg_name (i := 2) sc_Scheme_table.nd rfl (Or.inr rfl)) (pgs_cons (pg_name (i := 3) sc_Scheme_table.nd rfl (Or.inr rfl)) pgs_nil)))))
      (pss_cons (ps_setLc (i := 4) (own := [("_", 5)]) (g := gName 5) (tt := tYes) (by rfl) sc_Scheme_table.nd rfl rfl (sw_true rfl rfl rfl (by decide +kernel)) (pi_range1 (by rfl) B.range (pa_cons (pv 1) pa_nil)) (blkOk_by (own := [("_", 5)]) (N := N_Scheme_table) (sc := defScope s_Scheme_table) (by decide +kernel)) (fun _ _ _ _ _ => (pg_name (i := 5) sc_Scheme_table.nd rfl (Or.inl rfl))) (fun _ _ _ _ _ => pts_nil) (fun _ _ _ _ _ => (pe_lc (own := [("_", 5)]) (g := gName 5) (tt := tYes) (by rfl) sc_Scheme_table.nd (pi_range1 (by rfl) B.range (pa_cons (pv 2) pa_nil)) (blkOk_by (own := [("_", 5)]) (N := N_Scheme_table) (by rfl)) (fun _ _ _ _ _ => (pg_name (i := 5) sc_Scheme_table.nd rfl (Or.inl rfl))) (fun _ _ _ _ _ => pts_nil) (fun _ _ _ _ _ => (pe_op op_rep (pe_lst (pa_cons pe_int pa_nil)) (pv 3))))))
      (pss_cons (ps_for PassesOwn.never rfl (pi_tup (L2.pe_fld (pv 0) rfl)) (pg_tup rfl (pgs_cons (pg_name (i := 6) sc_Scheme_table.nd rfl (Or.inl rfl)) (pgs_cons (pg_name (i := 7) sc_Scheme_table.nd rfl (Or.inl rfl)) (pgs_cons (pg_name (i := 8) sc_Scheme_table.nd rfl (Or.inl rfl)) pgs_nil))))
        (pss_one (ps_for PassesOwn.never rfl (EM.pi_enumT K rfl (by rfl) B.enumerate (pa_cons (pv 6) pa_nil)) (pg_tup rfl (pgs_cons (pg_name (i := 9) sc_Scheme_table.nd rfl (Or.inl rfl)) (pgs_cons (pg_name (i := 10) sc_Scheme_table.nd rfl (Or.inr rfl)) pgs_nil)))
        (pss_one (ps_for PassesOwn.never rfl (EM.pi_enumT K rfl (by rfl) B.enumerate (pa_cons (pv 7) pa_nil)) (pg_tup rfl (pgs_cons (pg_name (i := 11) sc_Scheme_table.nd rfl (Or.inl rfl)) (pgs_cons (pg_name (i := 12) sc_Scheme_table.nd rfl (Or.inr rfl)) pgs_nil)))
        (pss_one (ps_if (PW.pt (pw_and (pt_cmpR op_ne (pv 10) pe_int (nomark _)) (pw_and1 (pt_cmpR op_ne (pv 12) pe_int (nomark _)))))
        (pss_one (ps_asg (pe_lc (own := [("entry", 13), ("z", 14)]) (g := gTup K 2 (gCons (gName 13) (gCons (gName 14) gNil))) (tt := tYes) (by rfl) sc_Scheme_table.nd (ZM.pi_zipM K rfl (by rfl) B.zip (pa_cons (pe_ix ix_list (pe_ix ix_list (pv 4) (pv 9) (fun _ _ => rfl)) (pv 11) (fun _ _ => rfl)) (pa_cons (pv 8) pa_nil))) (blkOk_by (own := [("entry", 13), ("z", 14)]) (N := N_Scheme_table) (sc := defScope s_Scheme_table) (by decide +kernel)) (fun _ _ _ _ _ => (pg_tup rfl (pgs_cons (pg_name (i := 13) sc_Scheme_table.nd rfl (Or.inl rfl)) (pgs_cons (pg_name (i := 14) sc_Scheme_table.nd rfl (Or.inl rfl)) pgs_nil)))) (fun _ _ _ _ _ => pts_nil) (fun _ _ _ _ _ => (pe_op op_add (pv 13) (pe_op op_mul (pe_op op_mul (pv 10) (pv 12)) (pv 14))))) (pg_sub (pe_ix ix_list (pv 4) (pv 9) (fun _ _ => rfl)) (pv 11) set_list)))
        pss_nil)))))))
      (pss_one (ps_ret (pv 4)))))), ?_⟩
  obtain ⟨dx, S, T, ts, h1, h2, h3, h4, h5⟩ := id hA
  have h2 : H S = some (.tup [.int l, .int r, .int u]) := h2
  have l1 : 1 ≤ l := h5.l1
  have l2 : l ≤ 36 := h5.l2
  have r1 : 1 ≤ r := h5.r1
  have r2 : r ≤ 36 := h5.r2
  have u1 : 1 ≤ u := h5.s1
  have u2 : u ≤ 36 := h5.s2
  have hlen := plen h4
  refine ⟨_, rfl, a, C, dx, _, _, rfl, h1, R.cl, R.n1, rfl, S, _, rfl, SqT.of h2, rfl, _, _, rfl, _, _, rfl, _, _, rfl, rfl, ?_⟩
  -- zeros
  refine ⟨_, rfl, (l : Int), rfl, by omega, by omega, fun D hD => ?_⟩
  have zr : (List.replicate u 0 : List Int) = (List.range u).map fun _ => 0 := by
    rw [List.map_const', List.length_range]
  refine lc_it (walk_range (n := l)) (fun i H' => Same H H' ∧ ∃ ps : List Addr, H' D = some (.lst (ps.map V.ref)) ∧ ps.length = i ∧ ps.Nodup ∧ D ∉ ps ∧ (∀ p ∈ ps, H p = none) ∧ Cells H' ps r u (fun _ _ _ => 0))
    ⟨same_upd hD, [], upd_same, rfl, List.nodup_nil, by simp, by simp, fun i p e => by simp at e⟩ (fun _ _ _ _ => True.intro) ?_ ?_
  · rintro i v Ha Hb hi ⟨sa, ps, ea, lp, nd, nD, fr, cel⟩ ⟨rfl, hv⟩
    refine ⟨rfl, tYes_ok ⟨_, rfl, (r : Int), rfl, by omega, by omega, fun D2 hD2 => ?_⟩⟩
    have n2 : D2 ≠ D := (ne_of_none ea hD2).symm
    refine lc_it (walk_range (n := r)) (fun j H' => Same Hb H' ∧ ∃ cs : List Addr, H' D2 = some (.lst (cs.map V.ref)) ∧ cs.length = j ∧ ∀ c ∈ cs, RowL H' c ((List.range u).map fun _ => 0)) ⟨same_upd hD2, [], upd_same, rfl, by simp⟩ (fun _ _ _ _ => True.intro) ?_ ?_
    · rintro j v Hc Hd hj ⟨sc, cs, ec, lc, hcs⟩ ⟨rfl, hv⟩
      refine ⟨rfl, tYes_ok ⟨(by show 1 ≤ sizeLine; decide), fun z hz => ?_⟩⟩
      have sz := same_upd (o := .lst [.int 0]) hz
      refine ⟨_, rfl, z, (u : Int), _, rfl, rfl, upd_same, by omega, by omega, Nat.le_of_lt (small1000 (by simp; omega)), fun c hc => ?_⟩
      have e0 : (List.replicate ((u : Nat) : Int).toNat [V.int 0]).flatten = ((List.range u).map fun _ => (0 : Int)).map V.int := by
        rw [← zr, Int.toNat_natCast, List.map_replicate]
        exact List.flatten_replicate_singleton
      rw [e0]
      have sc2 := same_upd (o := .lst (((List.range u).map fun _ => (0 : Int)).map V.int)) hc
      have eD2 := sc2 _ _ (sz _ _ ec)
      refine ⟨_, eD2, small1000 (by simp; omega), fun d o hd => ?_, cs ++ [c], ?_, by simp [lc], fun d hd => ?_⟩
      · rw [upd_ne (ne_of_none hd hD2)]
        exact sc2 _ _ (sz _ _ (sc _ _ hd))
      · rw [upd_same]
        simp
      · have ok : RowL (upd (upd Hd z (.lst [.int 0])) c (.lst (((List.range u).map fun _ => (0 : Int)).map V.int))) d ((List.range u).map fun _ => 0) := by
          rcases List.mem_append.mp hd with hd | hd
          · exact ((hcs d hd).same sz).same sc2
          · rw [List.mem_singleton.mp hd]
            exact upd_same
        show upd _ D2 _ d = some _
        rw [upd_ne (row_ne ok (by simp; omega) eD2 (noNum_refs cs))]
        exact ok
    · rintro Hc ⟨sc, cs, ec, lc, hcs⟩
      have eD := sc _ _ ea
      have nps : D2 ∉ ps := fun m => by
        obtain ⟨k, hk⟩ := List.mem_iff_getElem?.mp m
        obtain ⟨cs', q1, _⟩ := cel k D2 hk
        rw [hD2] at q1
        cases q1
      refine ⟨_, eD, small1000 (by simp; omega), fun d o hd => ?_, ps ++ [D2], ?_, by simp [lp], ?_, ?_, fun p hp => ?_, fun k p hk => ?_⟩
      · rw [upd_ne (ne_of_none hd hD)]
        exact sc _ _ (sa _ _ hd)
      · rw [upd_same]
        simp
      · rw [List.nodup_append]
        exact ⟨nd, by simp, fun x hx y hy => by rw [List.mem_singleton.mp hy]; exact fun z => nps (z ▸ hx)⟩
      · intro m
        rcases List.mem_append.mp m with m | m
        · exact nD m
        · exact n2 (List.mem_singleton.mp m).symm
      · rcases List.mem_append.mp hp with hp | hp
        · exact fr p hp
        · rw [List.mem_singleton.mp hp]
          exact sa.free hD2
      · have row : ∀ {x : Addr}, RowL Hc x ((List.range u).map fun _ => 0) → RowL (upd Hc D (.lst (ps.map V.ref ++ [.ref D2]))) x ((List.range u).map fun _ => 0) := fun h => by
          show upd _ D _ _ = some _
          rw [upd_ne (row_ne h (by simp; omega) eD (noNum_refs ps))]
          exact h
        by_cases lt : k < ps.length
        · rw [List.getElem?_append_left lt] at hk
          obtain ⟨cs', q1, q2, q3⟩ := cel k p hk
          have npD : p ≠ D := fun z => nD (by rw [← z]; exact List.mem_of_getElem? hk)
          exact ⟨cs', by rw [upd_ne npD]; exact sc _ _ q1, q2, fun j c e => row ((q3 j c e).same sc)⟩
        · have hk2 : k = ps.length := by
            have := (List.getElem?_eq_some_iff.mp hk).1
            simp at this
            omega
          subst hk2
          rw [List.getElem?_append_right (Nat.le_refl _), Nat.sub_self] at hk
          have hk : D2 = p := by simpa using hk
          subst hk
          exact ⟨cs, by rw [upd_ne n2]; exact ec, lc, fun j c e => row (hcs c (List.mem_of_getElem? e))⟩
  rintro H1 ⟨s1, ps, e1, lp, nd, nD, fr, cel⟩
  have lp : ps.length = l := lp
  -- the triples
  obtain ⟨dx', S', T', ts', h1', h2', h3', h4', h5'⟩ := hA.same s1
  have hlen' := plen h4'
  have frame : ∀ {H' : Hp} {p : Addr} {o : HO}, Same H1 H' ∨ Same H H' → Same H H' := fun h => by
    rcases h with h | h
    · exact s1.trans h
    · exact h
  refine ⟨_, rfl, a, C, dx', _, _, rfl, h1', R.cl, R.n2, rfl, T', rfl, ⟨_, SqT.of h3'⟩, for_tup (xs := ts'.map V.ref) (fun m σ H' => ∃ (y6 y7 y8 y9 y10 y11 y12 : Option V), σ = [some (.ref a), some (.int l), some (.int r), some (.int u), some (.ref D), none, y6, y7, y8, y9, y10, y11, y12, none, none] ∧
    (∀ x o, H1 x = some o → x ∉ ps → H' x = some o) ∧ Cells H' ps r u (tensor (tr.take m))) ⟨_, _, _, _, _, _, _, rfl, fun x o h _ => h, ?_⟩ ?_ ?_ ?_⟩
  · exact cel.congr fun i j k _ _ _ => by simp [tensor]
  · rintro m σ H' _ ⟨y6, y7, y8, y9, y10, y11, y12, rfl, kp, _⟩
    refine SqT.of (kp _ _ h3' fun z => ?_)
    obtain ⟨k, hk⟩ := List.mem_iff_getElem?.mp z
    obtain ⟨cs', q1, _⟩ := cel k T' hk
    rw [h3'] at q1
    cases q1
  · rintro m v σ H' hv ⟨y6, y7, y8, y9, y10, y11, y12, rfl, kp, cl⟩
    obtain ⟨c, hc, rfl⟩ := at_map hv
    have hm : m < tr.length := by
      have := (List.getElem?_eq_some_iff.mp hc).1
      omega
    obtain ⟨c', ⟨tx, ty, tz⟩, hc', ht, x, y, z, g0, g1, g2, g3⟩ := pat h4' hm
    rw [hc] at hc'
    cases hc'
    have htm := List.mem_of_getElem? ht
    have hfit := h5.fits _ htm
    have hmd := hmid _ htm
    obtain ⟨f1, f2, f3⟩ := hfit
    simp only at f1 f2 f3
    have tupNot : ∀ {x : Addr} {xs : List V}, H1 x = some (.tup xs) → x ∉ ps := fun hx z => by
      obtain ⟨k, hk⟩ := List.mem_iff_getElem?.mp z
      obtain ⟨cs', q1, _⟩ := cel k _ hk
      rw [hx] at q1
      cases q1
    have g1 : H1 x = some (.tup (tx.map V.int)) := g1
    have g2 : H1 y = some (.tup (ty.map V.int)) := g2
    have g3 : H1 z = some (.tup (tz.map V.int)) := g3
    refine ⟨c, _, rfl, SqT.of (kp _ _ g0 (tupNot g0)), rfl, _, _, rfl, _, _, rfl, _, _, rfl, rfl, ?_⟩
    refine ⟨_, rfl, x, _, rfl, SqT.of (kp _ _ g1 (tupNot g1)), for_it (EM.walk_enumT (xs := tx.map V.int)) (fun i σ H' => ∃ (y9 y10 y11 y12 : Option V), σ = [some (.ref a), some (.int l), some (.int r), some (.int u), some (.ref D), none, some (.ref x), some (.ref y), some (.ref z), y9, y10, y11, y12, none, none] ∧
      (∀ x o, H1 x = some o → x ∉ ps → H' x = some o) ∧ Cells H' ps r u (fun i' j' k => tensor (tr.take m) i' j' k + if i' < i then term (tx, ty, tz) i' j' k else 0)) ⟨_, _, _, _, rfl, kp, cl.congr fun i j k _ _ _ => by simp⟩ ?_ ?_ ?_⟩
    · rintro i σ H' _ ⟨y9, y10, y11, y12, rfl, kp, _⟩
      exact SqT.of (kp _ _ g1 (tupNot g1))
    · rintro i v σ Ha Hb hi ⟨y9, y10, y11, y12, rfl, kpa, cla⟩ ⟨U, vi, vx, rfl, hU, rfl, hvi, hvx⟩
      obtain rfl : vi = V.int (i : Nat) := (Option.some.inj hvi).symm
      obtain ⟨xi, hxi, rfl⟩ := at_map (show (tx.map V.int)[i]? = some vx from hvx)
      have sU := same_upd (o := .tup [.int (i : Nat), .int xi]) hU
      have hil : i < l := by
        have := (List.getElem?_eq_some_iff.mp hxi).1
        omega
      have gxi : tx.getD i 0 = xi := by rw [List.getD_eq_getElem?_getD, hxi]; rfl
      have bx := hmd xi (.inl (List.mem_of_getElem? hxi))
      refine ⟨U, [.int (i : Nat), .int xi], rfl, SqT.of upd_same, rfl, .int (i : Nat), [.int xi], rfl, .int xi, [], rfl, rfl, ?_⟩
      refine ⟨_, rfl, y, _, rfl, SqT.of (sU _ _ (kpa _ _ g2 (tupNot g2))), for_it (EM.walk_enumT (xs := ty.map V.int)) (fun j σ H' => ∃ (y11 y12 : Option V), σ = [some (.ref a), some (.int l), some (.int r), some (.int u), some (.ref D), none, some (.ref x), some (.ref y), some (.ref z), some (.int (i : Nat)), some (.int xi), y11, y12, none, none] ∧
        (∀ x o, H1 x = some o → x ∉ ps → H' x = some o) ∧ Cells H' ps r u (fun i' j' k => tensor (tr.take m) i' j' k + if i' < i ∨ (i' = i ∧ j' < j) then term (tx, ty, tz) i' j' k else 0)) ⟨_, _, rfl, fun x o h n => sU _ _ (kpa x o h n), ?_⟩ ?_ ?_ ?_⟩
      · exact (cla.same sU).congr fun i' j' k _ _ _ => by simp
      · rintro j σ H' _ ⟨y11, y12, rfl, kp, _⟩
        exact SqT.of (kp _ _ g2 (tupNot g2))
      · rintro j v σ Hc Hd hj ⟨y11, y12, rfl, kpc, clc⟩ ⟨W, vj, vy, rfl, hW, rfl, hvj, hvy⟩
        obtain rfl : vj = V.int (j : Nat) := (Option.some.inj hvj).symm
        obtain ⟨yj, hyj, rfl⟩ := at_map (show (ty.map V.int)[j]? = some vy from hvy)
        have sW := same_upd (o := .tup [.int (j : Nat), .int yj]) hW
        have hjr : j < r := by
          have := (List.getElem?_eq_some_iff.mp hyj).1
          omega
        have gyj : ty.getD j 0 = yj := by rw [List.getD_eq_getElem?_getD, hyj]; rfl
        have byj := hmd yj (.inr (.inl (List.mem_of_getElem? hyj)))
        have trm : ∀ k, term (tx, ty, tz) i j k = xi * yj * tz.getD k 0 := fun k => by
          unfold term
          simp only [gxi, gyj]
        refine ⟨W, [.int (j : Nat), .int yj], rfl, SqT.of upd_same, rfl, .int (j : Nat), [.int yj], rfl, .int yj, [], rfl, rfl, ?_⟩
        have skip : xi * yj = 0 → ∃ (y11 y12 : Option V), [some (V.ref a), some (.int l), some (.int r), some (.int u), some (.ref D), none, some (.ref x), some (.ref y), some (.ref z), some (.int (i : Nat)), some (.int xi), some (.int (j : Nat)), some (.int yj), none, none] = [some (.ref a), some (.int l), some (.int r), some (.int u), some (.ref D), none, some (.ref x), some (.ref y), some (.ref z), some (.int (i : Nat)), some (.int xi), y11, y12, none, none] ∧
            (∀ x o, H1 x = some o → x ∉ ps → (upd Hc W (.tup [.int (j : Nat), .int yj])) x = some o) ∧ Cells (upd Hc W (.tup [.int (j : Nat), .int yj])) ps r u (fun i' j' k => tensor (tr.take m) i' j' k + if i' < i ∨ (i' = i ∧ j' < j + 1) then term (tx, ty, tz) i' j' k else 0) := fun e0 => by
          refine ⟨_, _, rfl, fun x o h n => sW _ _ (kpc x o h n), (clc.same sW).congr fun i' j' k _ _ _ => ?_⟩
          by_cases q : i' = i ∧ j' = j
          · obtain ⟨rfl, rfl⟩ := q
            rw [trm, e0]
            simp
          · have : (i' < i ∨ i' = i ∧ j' < j) ↔ (i' < i ∨ i' = i ∧ j' < j + 1) := by omega
            simp only [this]
        refine ⟨_, rfl, rfl, _, rfl, ?_⟩
        rw [decI]
        by_cases x0 : xi = 0
        · refine ite_no (by simp [x0]) (ite_no (by decide) (skip (by rw [x0, Int.zero_mul])))
        refine ite_of (by simp [x0]) ⟨_, rfl, rfl, _, rfl, ?_⟩
        rw [decI]
        by_cases y0 : yj = 0
        · refine ite_no (by simp [y0]) (skip (by rw [y0, Int.mul_zero]))
        refine ite_of (by simp [y0]) ?_
        -- the cell
        obtain ⟨p, hp⟩ : ∃ p, ps[i]? = some p := ⟨_, List.getElem?_eq_getElem (by omega)⟩
        have clW := clc.same sW
        obtain ⟨cs, q1, q2, q3⟩ := clW i p hp
        obtain ⟨cc, hcc⟩ : ∃ cc, cs[j]? = some cc := ⟨_, List.getElem?_eq_getElem (by omega)⟩
        have hrow : RowL (upd Hc W (.tup [.int (j : Nat), .int yj])) cc ((List.range u).map (fun k => tensor (tr.take m) i j k + 0)) := by
          have := q3 j cc hcc
          simpa using this
        have hrow' : (upd Hc W (.tup [.int (j : Nat), .int yj])) cc = some (.lst (((List.range u).map (fun k => tensor (tr.take m) i j k + 0)).map V.int)) := hrow
        have eDw : (upd Hc W (.tup [.int (j : Nat), .int yj])) D = some (.lst (ps.map V.ref)) := sW _ _ (kpc _ _ e1 nD)
        have ezw : (upd Hc W (.tup [.int (j : Nat), .int yj])) z = some (.tup (tz.map V.int)) := sW _ _ (kpc _ _ g3 (tupNot g3))
        refine ⟨_, rfl, _, rfl, D, _, _, _, rfl, rfl, SqL.of eDw, atI_nat (j := i) (at_some hp), _, rfl, p, _, _, _, rfl, rfl, SqL.of q1, atI_nat (j := j) (at_some hcc), _, rfl, cc, z, _, _, rfl, SqL.of hrow', SqT.of ezw, fun D3 hD3 => ?_⟩
        refine lc_it (ZM.walk_zipM (K := K) (xs := ((List.range u).map (fun k => tensor (tr.take m) i j k + 0)).map V.int) (ys := tz.map V.int) (n := u) (by simp; omega)) (fun k H' => Same (upd Hc W (.tup [.int (j : Nat), .int yj])) H' ∧ H' D3 = some (.lst (((List.range k).map (fun k => tensor (tr.take m) i j k + xi * yj * tz.getD k 0)).map V.int))) ⟨same_upd hD3, upd_same⟩
          (fun k H' _ e => ⟨SqL.of (e.1 _ _ hrow'), SqT.of (e.1 _ _ ezw)⟩) ?_ ?_
        · rintro k v He Hf hk ⟨sf, ef⟩ ⟨X, ve, vz, rfl, hX, rfl, hve, hvz⟩
          obtain ⟨en, hen, rfl⟩ := at_map (show (((List.range u).map (fun k => tensor (tr.take m) i j k + 0)).map V.int)[k]? = some ve from hve)
          obtain ⟨zk, hzk, rfl⟩ := at_map (show (tz.map V.int)[k]? = some vz from hvz)
          rw [List.getElem?_map, List.getElem?_range hk] at hen
          obtain rfl := Option.some.inj hen
          have gzk : tz.getD k 0 = zk := by rw [List.getD_eq_getElem?_getD, hzk]; rfl
          have sX := same_upd (o := .tup [.int (tensor (tr.take m) i j k + 0), .int zk]) hX
          have bz := hmd zk (.inr (.inr (List.mem_of_getElem? hzk)))
          refine ⟨X, [.int (tensor (tr.take m) i j k + 0), .int zk], rfl, SqT.of upd_same, rfl, .int (tensor (tr.take m) i j k + 0), [.int zk], rfl, .int zk, [], rfl, rfl, rfl, tYes_ok ?_⟩
          refine ⟨_, rfl, _, rfl, _, rfl, _, _, rfl, rfl, .inl ⟨by omega, by omega⟩, _, rfl, _, _, rfl, rfl, .inr ⟨by omega, by omega⟩, _, _, rfl, rfl, _, sX _ _ ef, small1000 (by simp; omega), fun d o hd => ?_, ?_⟩
          · rw [upd_ne (ne_of_none hd hD3)]
            exact sX _ _ (sf _ _ hd)
          · rw [upd_same, List.range_succ, List.map_append, List.map_append, List.map_singleton, List.map_singleton, gzk, Int.add_zero]
        · rintro He ⟨sf, ef⟩
          have eDe := sf _ _ eDw
          refine ⟨_, rfl, _, rfl, D, _, _, _, rfl, rfl, SqL.of eDe, atI_nat (j := i) (at_some hp), _, rfl, p, _, _, j, rfl, rfl, sf _ _ q1, ?_, ?_⟩
          · rw [List.length_map, q2]
            exact nat_ix hjr
          have key := Cells.put (f := fun k => tensor (tr.take m) i j k + xi * yj * tz.getD k 0) (j := j) nd (clW.same sf) u1 hp (sf _ _ q1) q2 ef
          refine ⟨_, _, rfl, fun x o h n => ?_, ?_⟩
          · have npx : x ≠ p := fun q => n (by rw [q]; exact List.mem_of_getElem? hp)
            rw [upd_ne npx]
            exact sf _ _ (sW _ _ (kpc x o h n))
          · rw [← List.map_set]
            refine key.congr fun i' j' k _ _ _ => ?_
            by_cases q : i' = i ∧ j' = j
            · obtain ⟨rfl, rfl⟩ := q
              rw [if_pos ⟨rfl, rfl⟩, trm, if_pos (by omega)]
            · rw [if_neg q]
              have : (i' < i ∨ i' = i ∧ j' < j) ↔ (i' < i ∨ i' = i ∧ j' < j + 1) := by omega
              simp only [this]
      · rintro σ Hc ⟨y11, y12, rfl, kpc, clc⟩
        refine ⟨_, _, _, _, rfl, kpc, clc.congr fun i' j' k _ hj' _ => ?_⟩
        have : (i' < i ∨ i' = i ∧ j' < (ty.map V.int).length) ↔ i' < i + 1 := by
          rw [List.length_map, f2]
          omega
        simp only [this]
    · rintro σ Ha ⟨y9, y10, y11, y12, rfl, kpa, cla⟩
      refine ⟨_, _, _, _, _, _, _, rfl, kpa, cla.congr fun i' j' k hi' _ _ => ?_⟩
      rw [tensor_snoc ht, if_pos (by rw [List.length_map, f1]; omega)]
  · rintro σ H2 ⟨y6, y7, y8, y9, y10, y11, y12, rfl, kp, cl⟩
    rw [List.take_of_length_le (by simp; omega)] at cl
    refine ⟨_, rfl, q H2 D (fun x o h => ?_) hD ⟨ps, lp, kp _ _ e1 nD, cl⟩ fun ps' e p hp => fr p ?_⟩
    · exact kp x o (s1 x o h) fun z => by rw [fr x z] at h; cases h
    · rw [kp _ _ e1 nD] at e
      have e := Option.some.inj e
      injection e with e
      rw [(List.map_inj_right (fun x y z => by injection z)).mp e]
      exact hp
end
end My
/-! repr and == of schemes -/
namespace My
open PySem PySem.Spec PyProof.Rows L2
theorem un64 {k : Nat} {A : Around} (r : Room k A) : A.units + 64 < cLine := by
  have := r.un
  omega
/-! ### lists of whole numbers as data -/
abbrev dNats (xs : List Nat) : List PyData := xs.map fun (x : Nat) => PyData.int x
abbrev vNats (xs : List Nat) : List V := xs.map fun (x : Nat) => V.int x
theorem dp_nats {K : PySem.W.Frag} {H : Hp} : ∀ xs : List Nat, DpAll K H (vNats xs) (dNats xs)
  | [] => .nil
  | x :: xs => .cons (.int _) (dp_nats xs)
theorem lay_nats : ∀ xs : List Nat, PyData.canLayAll0 (dNats xs) = true
  | [] => by simp [PyData.canLayAll0]
  | x :: xs => by
    have h := lay_nats xs
    simp only [dNats, List.map_cons, PyData.canLayAll0, PyData.canLay0, Bool.true_and]
    exact h
theorem depth_nats : ∀ xs : List Nat, PyData.depthAll (dNats xs) = 0
  | [] => by simp [PyData.depthAll]
  | x :: xs => by
    have h := depth_nats xs
    simp only [dNats, List.map_cons, PyData.depthAll, PyData.depth]
    rw [show PyData.depthAll (xs.map fun (x : Nat) => PyData.int x) = 0 from h]
    rfl
theorem shaped_nats (xs : List Nat) : SeqAt.shaped (.list (dNats xs)) = true := by
  have h1 := depth_nats xs
  show (PyData.canLay0 (.list (dNats xs)) && decide (PyData.depth (.list (dNats xs)) ≤ 64)) = true
  rw [Bool.and_eq_true]
  refine ⟨by simp only [PyData.canLay0]; exact lay_nats xs, decide_eq_true ?_⟩
  simp only [PyData.depth]
  omega
theorem shapedT (xs : List Nat) : SeqAt.shaped (.tuple (dNats xs)) = true := by
  have h1 := depth_nats xs
  show (PyData.canLay0 (.tuple (dNats xs)) && decide (PyData.depth (.tuple (dNats xs)) ≤ 64)) = true
  rw [Bool.and_eq_true]
  refine ⟨by simp only [PyData.canLay0]; exact lay_nats xs, decide_eq_true ?_⟩
  simp only [PyData.depth]
  omega
theorem eqvA_nats : ∀ xs ys : List Nat, xs.length = ys.length → PyData.eqvAll (dNats xs) (dNats ys) = decide (xs = ys)
  | [], [], _ => by simp [PyData.eqvAll]
  | x :: xs, y :: ys, h => by
    have ih := eqvA_nats xs ys (by simpa using h)
    simp only [dNats, List.map_cons, PyData.eqvAll, PyData.eqv] at ih ⊢
    rw [show PyData.eqvAll (xs.map fun (x : Nat) => PyData.int x) (ys.map fun (x : Nat) => PyData.int x) = decide (xs = ys) from ih]
    by_cases e : x = y
    · subst e
      by_cases e2 : xs = ys <;> simp [e2]
    · have : ((x : Int) == (y : Int)) = false := by
        rw [beq_eq_false_iff_ne]
        omega
      simp [e, this]
theorem eqvT_nats (xs ys : List Nat) (h : xs.length = ys.length) : PyData.eqv (.tuple (dNats xs)) (.tuple (dNats ys)) = decide (xs = ys) := by
  rw [← eqvA_nats xs ys h]
  simp [PyData.eqv]
/-! ### products as data -/
def dRow (xs : Row) : PyData := .tuple (xs.map PyData.int)
def dTrip (t : Trip) : PyData := .tuple [dRow t.1, dRow t.2.1, dRow t.2.2]
theorem dp_ints {K : PySem.W.Frag} {H : Hp} : ∀ xs : Row, DpAll K H (xs.map V.int) (xs.map PyData.int)
  | [] => .nil
  | x :: xs => .cons (.int _) (dp_ints xs)
theorem dp_row {K : PySem.W.Frag} {H : Hp} {a : Addr} {xs : Row} (h : RowT H a xs) : Dp K H (.ref a) (dRow xs) := .tup (SqT.of h) (dp_ints xs)
theorem dp_trip {K : PySem.W.Frag} {H : Hp} {a : Addr} {t : Trip} (h : TripT H a t) : Dp K H (.ref a) (dTrip t) := by
  obtain ⟨x, y, z, h0, h1, h2, h3⟩ := h
  exact .tup (SqT.of h0) (.cons (dp_row h1) (.cons (dp_row h2) (.cons (dp_row h3) .nil)))
theorem dp_trips {K : PySem.W.Frag} {H : Hp} : ∀ {ts : List Addr} {tr : List Trip}, Paired (TripT H) ts tr → DpAll K H (ts.map V.ref) (tr.map dTrip)
  | _, _, .nil => .nil
  | _, _, .cons r t => .cons (dp_trip r) (dp_trips t)
theorem lay_ints : ∀ xs : Row, PyData.canLayAll0 (xs.map PyData.int) = true
  | [] => by simp [PyData.canLayAll0]
  | x :: xs => by
    have h := lay_ints xs
    simp only [List.map_cons, PyData.canLayAll0, PyData.canLay0, Bool.true_and]
    exact h
theorem lay_row (xs : Row) : (dRow xs).canLay0 = true := by
  simp only [dRow, PyData.canLay0]
  exact lay_ints xs
theorem lay_trip (t : Trip) : (dTrip t).canLay0 = true := by
  simp only [dTrip, PyData.canLay0, PyData.canLayAll0, lay_row, Bool.and_self]
theorem lay_trips : ∀ tr : List Trip, PyData.canLayAll0 (tr.map dTrip) = true
  | [] => by simp [PyData.canLayAll0]
  | x :: xs => by
    have h := lay_trips xs
    simp only [List.map_cons, PyData.canLayAll0, lay_trip, Bool.true_and]
    exact h
theorem dep_ints : ∀ xs : Row, PyData.depthAll (xs.map PyData.int) = 0
  | [] => by simp [PyData.depthAll]
  | x :: xs => by
    have h := dep_ints xs
    simp only [List.map_cons, PyData.depthAll, PyData.depth, h]
    rfl
theorem dep_row (xs : Row) : (dRow xs).depth = 1 := by
  simp only [dRow, PyData.depth, dep_ints]
theorem dep_trip (t : Trip) : (dTrip t).depth = 2 := by
  simp only [dTrip, PyData.depth, PyData.depthAll, dep_row]
  rfl
theorem dep_trips : ∀ tr : List Trip, PyData.depthAll (tr.map dTrip) ≤ 2
  | [] => by simp [PyData.depthAll]
  | x :: xs => by
    have h := dep_trips xs
    simp only [List.map_cons, PyData.depthAll, dep_trip]
    omega
theorem shaped_trips (tr : List Trip) : SeqAt.shaped (.tuple (tr.map dTrip)) = true := by
  have h1 := dep_trips tr
  show (PyData.canLay0 (.tuple (tr.map dTrip)) && decide (PyData.depth (.tuple (tr.map dTrip)) ≤ 64)) = true
  rw [Bool.and_eq_true]
  refine ⟨by simp only [PyData.canLay0]; exact lay_trips tr, decide_eq_true ?_⟩
  simp only [PyData.depth]
  omega
theorem eqv_trips (tr : List Trip) : PyData.eqv (.tuple (tr.map dTrip)) (.tuple (tr.map dTrip)) = true := by first | exact PySem.SeqAt.eqv_refl _ (by simp only [PyData.canLay0]; exact lay_trips tr) | exact SeqAt.eqv_refl _ (by simp only [PyData.canLay0]; exact lay_trips tr) | exact PySem.eqv_refl _ (by simp only [PyData.canLay0]; exact lay_trips tr)
theorem eqv_none (tr : List Trip) : PyData.eqv (.tuple (tr.map dTrip)) (.tuple []) = tr.isEmpty := by
  cases tr with
  | nil => simp [PyData.eqv, PyData.eqvAll]
  | cons x xs => simp [PyData.eqv, PyData.eqvAll]
/-- products whose rows are lists -/
def dTripL (t : Trip) : PyData := .tuple [.list (t.1.map PyData.int), .list (t.2.1.map PyData.int), .list (t.2.2.map PyData.int)]
theorem dp_tripL {K : PySem.W.Frag} {H : Hp} {a : Addr} {t : Trip} (h : TripL H a t) : Dp K H (.ref a) (dTripL t) := by
  obtain ⟨x, y, z, h0, h1, h2, h3⟩ := h
  exact .tup (SqT.of h0) (.cons (.lst (SqL.of h1) (dp_ints _)) (.cons (.lst (SqL.of h2) (dp_ints _)) (.cons (.lst (SqL.of h3) (dp_ints _)) .nil)))
theorem dp_tripsL {K : PySem.W.Frag} {H : Hp} : ∀ {ts : List Addr} {tr : List Trip}, Paired (TripL H) ts tr → DpAll K H (ts.map V.ref) (tr.map dTripL)
  | _, _, .nil => .nil
  | _, _, .cons r t => .cons (dp_tripL r) (dp_tripsL t)
theorem shaped_tripsL (tr : List Trip) : SeqAt.shaped (.list (tr.map dTripL)) = true := by
  have lay1 : ∀ t : Trip, (dTripL t).canLay0 = true := fun t => by
    simp only [dTripL, PyData.canLay0, PyData.canLayAll0, lay_ints, Bool.and_self]
  have dep1 : ∀ t : Trip, (dTripL t).depth = 2 := fun t => by
    simp only [dTripL, PyData.depth, PyData.depthAll, dep_ints]
    rfl
  have lay2 : ∀ tr : List Trip, PyData.canLayAll0 (tr.map dTripL) = true := fun tr => by
    induction tr with
    | nil => simp [PyData.canLayAll0]
    | cons x xs ih =>
      simp only [List.map_cons, PyData.canLayAll0, lay1, Bool.true_and]
      exact ih
  have dep2 : ∀ tr : List Trip, PyData.depthAll (tr.map dTripL) ≤ 2 := fun tr => by
    induction tr with
    | nil => simp [PyData.depthAll]
    | cons x xs ih =>
      simp only [List.map_cons, PyData.depthAll, dep1]
      omega
  have h1 := dep2 tr
  show (PyData.canLay0 (.list (tr.map dTripL)) && decide (PyData.depth (.list (tr.map dTripL)) ≤ 64)) = true
  rw [Bool.and_eq_true]
  refine ⟨by simp only [PyData.canLay0]; exact lay2 tr, decide_eq_true ?_⟩
  simp only [PyData.depth]
  omega
theorem eqv_noneL (tr : List Trip) : PyData.eqv (.list (tr.map dTripL)) (.list []) = tr.isEmpty := by
  cases tr with
  | nil => simp [PyData.eqv, PyData.eqvAll]
  | cons x xs => simp [PyData.eqv, PyData.eqvAll]
/-! ### __eq__ -/
structure SEq (K : PySem.W.Frag) (C : Addr) : Prop where
  ha : PySem.W.findIn K (.ref C) "__class__" = some (some (.builtin "object.__class__"))
  hn : PySem.W.specialIn K (.builtin "object.__class__") "__get__" = some (some (.builtin "getset_descriptor.__get__"))
  htk : PySem.W.takesIn K (.builtin "object.__class__") = some true
  hm : PySem.W.mroIn K C (.type "object") = some true
  k1 : PySem.W.kitOne K (.ref C) (.ref C) = some true
  k0 : PySem.W.kitOne K (.type "int") (.ref C) = some false
  nf : PySem.W.notFirst K C (.type "int") = true
def spEqS (C : Addr) : Sp := fun vs H Q _ => ∃ (a : Addr) (sz : Siz) (tr : List Trip) (y : V), vs = [.ref a, y] ∧ SchemeAt C H a sz tr ∧
  ((∃ b, y = .ref b ∧ SchemeAt C H b sz tr ∧ Q (.bl true) H) ∨ (∃ b sz', y = .ref b ∧ SchemeAt C H b sz' [] ∧ Q (.bl (decide (sz = sz') && tr.isEmpty)) H) ∨ (∃ i : Int, y = .int i ∧ Q (.bl false) H))
def dSiz (sz : Siz) : PyData := .tuple (dNats [sz.1, sz.2.1, sz.2.2])
theorem dp_siz {K : PySem.W.Frag} {H : Hp} {S : Addr} {sz : Siz} (h : SizAt H S sz) : Dp K H (.ref S) (dSiz sz) := .tup (SqT.of h) (dp_nats [sz.1, sz.2.1, sz.2.2])
theorem eqv_siz (a b : Siz) : PyData.eqv (dSiz a) (dSiz b) = decide (a = b) := by
  rw [show PyData.eqv (dSiz a) (dSiz b) = _ from eqvT_nats [a.1, a.2.1, a.2.2] [b.1, b.2.1, b.2.2] rfl]
  obtain ⟨a1, a2, a3⟩ := a
  obtain ⟨b1, b2, b3⟩ := b
  by_cases h : (a1, a2, a3) = (b1, b2, b3)
  · rw [decide_eq_true h, decide_eq_true]
    injection h with h1 h2
    injection h2 with h2 h3
    simp only [h1, h2, h3]
  · rw [decide_eq_false h, decide_eq_false]
    intro z
    simp only [List.cons.injEq, and_true] at z
    exact h (by rw [z.1, z.2.1, z.2.2])
section
variable {P : Program} {w : World} {K : PySem.W.Frag} {mg : Str → Option Value} {base : Heap} {C : Addr}
theorem ok_eqS {f : Addr} {fd : FuncData} (R : SCls K C) (E : SEq K C) (gC : mg "Scheme" = some (.ref C)) (B : Blt mg) (F : Fun K "__eq__" "Scheme.__eq__" s_Scheme_eq f fd) : FnOk P w K mg base CX0 1 f fd ["self", "other"] (spEqS C) := by
  refine F.ok sc_Scheme_eq (fun vs H Q E h => ?_) (fun cdv A outer s H vs Q E' hr h => ?_)
  · obtain ⟨a, sz, tr, y, rfl, _⟩ := h
    rfl
  obtain ⟨a, sz, tr, y, rfl, ⟨dx, S, T, ts, a1, a2, a3, a4, a5⟩, h⟩ := h
  have tyC : ∀ {b dy : Addr} {fs : List (Str × V)}, H b = some (.ins C dy fs) → TyX K H (.ref b) (.ref C) := fun e => .base (.ins e R.cl E.ha E.hn E.htk E.hm)
  refine ⟨_, (pss_one (ps_ret (pe_and (pe_callB call_isi (by rfl) B.isinstance bb_isinstance (pa_cons (pv 1) (pa_cons (pe_gref gC (by rfl)) pa_nil))) (pe_and (pe_cmpR (op_eqD (un64 hr)) (L2.pe_fld (pv 0) rfl) (L2.pe_fld (pv 1) rfl) (nomark _)) (pe_one (pe_cmpR (op_eqD (un64 hr)) (L2.pe_fld (pv 0) rfl) (L2.pe_fld (pv 1) rfl) (nomark _))))))), ?_⟩
  rcases h with ⟨b, rfl, ⟨dy, S', T', ts', b1, b2, b3, b4, b5⟩, q⟩ | ⟨b, sz', rfl, ⟨dy, S', T', ts', b1, b2, b3, b4, b5⟩, q⟩ | ⟨i, rfl, q⟩
  · refine ⟨_, rfl, _, .ref C, .ref C, .ref C, true, rfl, .own C, tyC b1, E.k1, _, rfl, iteT ?_⟩
    refine ⟨_, rfl, a, C, dx, _, _, rfl, a1, R.cl, R.n1, rfl, _, rfl, b, C, dy, _, _, rfl, b1, R.cl, R.n1, rfl, dSiz sz, dSiz sz, dp_siz a2, dp_siz b2, shapedT _, shapedT _, ?_⟩
    rw [eqv_siz, decide_eq_true rfl]
    refine ⟨_, rfl, iteT ⟨_, rfl, a, C, dx, _, _, rfl, a1, R.cl, R.n2, rfl, _, rfl, b, C, dy, _, _, rfl, b1, R.cl, R.n2, rfl, _, _, .tup (SqT.of a3) (dp_trips a4), .tup (SqT.of b3) (dp_trips b4), shaped_trips tr, shaped_trips tr, ?_⟩⟩
    rw [eqv_trips]
    exact q
  · refine ⟨_, rfl, _, .ref C, .ref C, .ref C, true, rfl, .own C, tyC b1, E.k1, _, rfl, iteT ?_⟩
    refine ⟨_, rfl, a, C, dx, _, _, rfl, a1, R.cl, R.n1, rfl, _, rfl, b, C, dy, _, _, rfl, b1, R.cl, R.n1, rfl, dSiz sz, dSiz sz', dp_siz a2, dp_siz b2, shapedT _, shapedT _, ?_⟩
    rw [eqv_siz]
    by_cases e : sz = sz'
    · rw [decide_eq_true e, Bool.true_and] at q
      rw [decide_eq_true e]
      refine ⟨_, rfl, iteT ⟨_, rfl, a, C, dx, _, _, rfl, a1, R.cl, R.n2, rfl, _, rfl, b, C, dy, _, _, rfl, b1, R.cl, R.n2, rfl, _, _, .tup (SqT.of a3) (dp_trips a4), .tup (SqT.of b3) (dp_trips b4), shaped_trips tr, shaped_trips [], ?_⟩⟩
      have z := eqv_none tr
      rw [show PyData.eqv (.tuple (tr.map dTrip)) (.tuple ([].map dTrip)) = tr.isEmpty from z]
      exact q
    · rw [decide_eq_false e, Bool.false_and] at q
      rw [decide_eq_false e]
      exact ⟨_, rfl, iteF q⟩
  · exact ⟨_, rfl, _, .ref C, .type "int", .ref C, false, rfl, .own C, .base (.int i), E.k0, _, rfl, iteF q⟩
end
end My
/-! making schemes; tables compared; what stays when lists are cleared -/
namespace My
open PySem PySem.Spec PyProof.Rows L2
theorem addsOf_le {B : Nat} : ∀ {cs : List Nat}, (∀ c ∈ cs, c ≤ B) → addsOf cs ≤ cs.length * B
  | [], _ => by simp [addsOf]
  | c :: r, h => by
    have ih := addsOf_le (cs := r) fun x hx => h x (List.mem_cons_of_mem _ hx)
    have hc := h c List.mem_cons_self
    have e : addsOf (c :: r) = (c - 1) + addsOf r := by simp [addsOf]
    rw [e, List.length_cons, Nat.succ_mul]
    omega
theorem fan_le {sz : Siz} {tr : List Trip} (h : SmallS sz tr) : fan1 tr ≤ 14400 ∧ fan2 tr ≤ 14400 ∧ fan3 tr sz.2.2 ≤ 14400 := by
  have hl := h.len
  have b1 := h.l2
  have b2 := h.r2
  have b3 := h.s2
  refine ⟨?_, ?_, ?_⟩
  · have e := addsOf_le (B := 36) (cs := tr.map fun t => nz t.1) fun c hc => by
      obtain ⟨t, ht, rfl⟩ := List.mem_map.mp hc
      have := nz_le t.1
      rw [(h.fits t ht).1] at this
      omega
    rw [List.length_map] at e
    have : tr.length * 36 ≤ 400 * 36 := Nat.mul_le_mul hl (Nat.le_refl _)
    exact Nat.le_trans e (by omega)
  · have e := addsOf_le (B := 36) (cs := tr.map fun t => nz t.2.1) fun c hc => by
      obtain ⟨t, ht, rfl⟩ := List.mem_map.mp hc
      have := nz_le t.2.1
      rw [(h.fits t ht).2.1] at this
      omega
    rw [List.length_map] at e
    have : tr.length * 36 ≤ 400 * 36 := Nat.mul_le_mul hl (Nat.le_refl _)
    exact Nat.le_trans e (by omega)
  · have e := addsOf_le (B := 400) (cs := (cols tr sz.2.2).map nz) fun c hc => by
      obtain ⟨r, hr, rfl⟩ := List.mem_map.mp hc
      obtain ⟨k, _, rfl⟩ := List.mem_map.mp hr
      have := nz_le (tr.map fun t => t.2.2.getD k 0)
      rw [List.length_map] at this
      omega
    have e2 : ((cols tr sz.2.2).map nz).length = sz.2.2 := by simp [cols]
    rw [e2] at e
    have : sz.2.2 * 400 ≤ 36 * 400 := Nat.mul_le_mul b3 (Nat.le_refl _)
    exact Nat.le_trans e (by omega)
theorem made_same {C : Addr} {H : Hp} {x dx : Addr} (hx : H x = none) (hdx : H dx = none) : Same H (upd (upd H dx (.own x)) x (.ins C dx [])) := fun b o e => by
  rw [upd_ne (ne_of_none e hx), upd_ne (ne_of_none e hdx)]
  exact e
theorem init_atX {C CE CP CT : Addr} {H : Hp} {Qx : Hp → Prop} {S p : Addr} {sz : Siz} {tr : List Trip} {x dx : Addr} {E : XK} (hx : H x = none) (hdx : H dx = none) (ne : dx ≠ x) (hS : SizAt H S sz) (hp : GivenAt H p tr) (hm : SmallS sz tr) (q : ∀ H' : Hp, Same H H' → SchemeAt C H' x sz tr → Qx H') :
    spInitX C CE CP CT [.ref x, .ref S, .ref p] (upd (upd H dx (.own x)) x (.ins C dx [])) (fun v H2 => v = .non ∧ Qx H2) E := by
  have s1 := made_same (C := C) hx hdx
  exact ⟨x, dx, _, rfl, upd_same, .inl ⟨S, p, sz, tr, rfl, s1 _ _ hS, hp.same s1, hm, fun H' kp A => ⟨rfl, q H' (fun b u e => kp b u (ne_of_none e hx) (s1 b u e)) A⟩⟩⟩
theorem init_badX {C CE CP CT : Addr} {H : Hp} {Q : VK} {x dx : Addr} {E : XK} {xs : List V} (hx : H x = none) (hdx : H dx = none) (h : InitBad CE CP CT xs H E) : spInitX C CE CP CT (.ref x :: xs) (upd (upd H dx (.own x)) x (.ins C dx [])) Q E :=
  ⟨x, dx, _, rfl, upd_same, .inr (h.same (made_same hx hdx))⟩
theorem sl_listK {X : Cx} (K : PySem.W.Frag) (hK : X.K = K) : SlR X (rSlL K) := by
  subst hK
  exact sl_list
/-- all but lists stays -/
def NL (H H' : Hp) : Prop := ∀ b o, H b = some o → (∀ xs, o ≠ .lst xs) → H' b = some o
theorem NL.refl (H : Hp) : NL H H := fun _ _ h _ => h
theorem NL.trans {H H1 H2 : Hp} (a : NL H H1) (b : NL H1 H2) : NL H H2 := fun c o h n => b c o (a c o h n) n
theorem NL.of {H H' : Hp} (s : Same H H') : NL H H' := fun b o h _ => s b o h
theorem NL.upd {H : Hp} {a : Addr} {xs ys : List V} (h : H a = some (.lst xs)) : NL H (L2.upd H a (.lst ys)) := fun b o e n => by
  by_cases z : b = a
  · rw [z, h] at e
    exact absurd (Option.some.inj e).symm (n xs)
  · rw [upd_ne z]
    exact e
theorem TripT.nl {H H' : Hp} {a : Addr} {t : Trip} (h : TripT H a t) (k : NL H H') : TripT H' a t := by
  obtain ⟨x, y, z, h0, h1, h2, h3⟩ := h
  exact ⟨x, y, z, k _ _ h0 (by intro ys q; cases q), k _ _ h1 (by intro ys q; cases q), k _ _ h2 (by intro ys q; cases q), k _ _ h3 (by intro ys q; cases q)⟩
theorem SchemeAt.nl {C : Addr} {H H' : Hp} {a : Addr} {sz : Siz} {tr : List Trip} (h : SchemeAt C H a sz tr) (k : NL H H') : SchemeAt C H' a sz tr := by
  obtain ⟨dx, S, T, ts, h1, h2, h3, h4, h5⟩ := h
  exact ⟨dx, S, T, ts, k _ _ h1 (by intro ys q; cases q), k _ _ h2 (by intro ys q; cases q), k _ _ h3 (by intro ys q; cases q), pmono (fun x t e => e.nl k) h4, h5⟩
theorem tabs_nl {H H' : Hp} {P : Addr} {q : Str} (h : LamX.TabS H P q) (k : NL H H') : LamX.TabS H' P q := by
  obtain ⟨ps, e, t, a⟩ := h
  refine ⟨ps, k _ _ e (by intro ys z; cases z), t, fun pos cv hc => ?_⟩
  obtain ⟨c, ec, hco⟩ := a pos cv hc
  exact ⟨c, ec, k _ _ hco (by intro ys z; unfold LamX.CodeO at z; cases z)⟩
theorem tabs_kp {H H' : Hp} {b P : Addr} {q : Str} {xs : List V} (h : LamX.TabS H P q) (hb : H b = some (.lst xs)) (k : Kp b H H') : LamX.TabS H' P q := by
  obtain ⟨ps, e, t, a⟩ := h
  refine ⟨ps, k _ _ (ne_of e hb fun z => by cases z) e, t, fun pos cv hc => ?_⟩
  obtain ⟨c, ec, hco⟩ := a pos cv hc
  exact ⟨c, ec, k _ _ (ne_of hco hb fun z => by unfold LamX.CodeO at z; cases z) hco⟩
theorem bg_ext {H H' : Hp} {b c : Addr} (h : Bg H b c) (e : LamX.ExtN H H') : Bg H' b c := by
  obtain ⟨ns, i, r, m, g⟩ := h
  exact ⟨ns, i, r, m, e _ _ g.hb (fun ps z => by cases z), e _ _ g.hc (fun ps z => by cases z), g.len, g.i0, g.r0, g.m0, g.m1⟩
theorem siz_ext {H H' : Hp} {S : Addr} {sz : Siz} (h : SizAt H S sz) (e : LamX.ExtN H H') : SizAt H' S sz := e _ _ h fun ps z => by cases z
theorem given_ext {H H' : Hp} {p : Addr} {tr : List Trip} (h : GivenAt H p tr) (e : LamX.ExtN H H') : GivenAt H' p tr := by
  obtain ⟨ps, h1, h2⟩ := h
  refine ⟨ps, e _ _ h1 (fun ps z => by cases z), pmono (fun a t ⟨x, y, z, g0, g1, g2, g3⟩ => ?_) h2⟩
  exact ⟨x, y, z, e _ _ g0 (fun ps z => by cases z), e _ _ g1 (fun ps z => by cases z), e _ _ g2 (fun ps z => by cases z), e _ _ g3 (fun ps z => by cases z)⟩
theorem typ_ext {H H' : Hp} {v : V} {t : String} (h : Typ H v t) (e : LamX.ExtN H H') : Typ H' v t := by
  cases h with
  | non => exact .non
  | bl x => exact .bl x
  | int i => exact .int i
  | str z => exact .str z
  | lst g => exact .lst (e _ _ g fun ps z => by cases z)
  | tup g => exact .tup (e _ _ g fun ps z => by cases z)
theorem rowI_ext {H H' : Hp} {v : V} {r : Option (List V)} (h : RowI H v r) (e : LamX.ExtN H H') : RowI H' v r := by
  cases r with
  | none => exact h
  | some xs =>
    obtain ⟨a, e1, g, l, t⟩ := h
    exact ⟨a, e1, e _ _ g (fun ps z => by cases z), l, t⟩
theorem prodI_ext {H H' : Hp} {x : V} {sz : Siz} {ok : Bool} (h : ProdI H x sz ok) (s : LamX.ExtN H H') : ProdI H' x sz ok := by
  rcases h with ⟨e, t, ht, n⟩ | ⟨e, c, xs, e1, e2, e3, e4⟩ | ⟨c, a, b, d, ra, rb, rd, e1, e2, e3, e4, e5, e6⟩
  · refine .inl ⟨e, t, typ_ext ht s, fun c xs e1 e2 => ?_⟩
    subst e1
    cases ht with
    | lst g =>
      rw [s _ _ g (fun ps z => by cases z)] at e2
      cases e2
    | tup g => exact n _ _ rfl g
  · exact .inr (.inl ⟨e, c, xs, e1, s _ _ e2 (fun ps z => by cases z), e3, e4⟩)
  · exact .inr (.inr ⟨c, a, b, d, ra, rb, rd, e1, s _ _ e2 (fun ps z => by cases z), rowI_ext e3 s, rowI_ext e4 s, rowI_ext e5 s, e6⟩)
theorem cut_lo {xs : List V} {k : Nat} (h : k ≤ xs.length) : cutV xs none (some (k : Int)) = xs.take k := by
  unfold cutV
  rw [HT.sIx_none, HT.sIx_nat, List.drop_zero, Nat.sub_zero, Nat.min_eq_left h]
theorem eqd_ints {H : Hp} {n : Nat} (xs : Row) : Paired (Eqd H (n + 1)) (xs.map V.int) (xs.map V.int) := paired_refl fun x hx => by
  obtain ⟨i, _, rfl⟩ := List.mem_map.mp hx
  exact Eqd.leaf True.intro
theorem paired_ix {F : V → V → Prop} : ∀ {xs ys : List V}, xs.length = ys.length → (∀ (i : Nat) (x y : V), xs[i]? = some x → ys[i]? = some y → F x y) → Paired F xs ys
  | [], [], _, _ => .nil
  | x :: xs, y :: ys, hl, h => .cons (h 0 x y rfl rfl) (paired_ix (by simpa using hl) fun i a b ha hb => h (i + 1) a b (by simpa using ha) (by simpa using hb))
  | [], _ :: _, hl, _ => by simp at hl
  | _ :: _, [], hl, _ => by simp at hl
/-- two lists of lists of rows of the same numbers -/
theorem cube_eqd {H : Hp} {a b : Addr} {l r u : Nat} {g : Nat → Nat → Nat → Int} (ha : CubeF H a l r u g) (hb : CubeF H b l r u g) (hl : l ≤ 1000) (hr : r ≤ 1000) (hu : u ≤ 1000) : Eqd H 4 (.ref a) (.ref b) := by
  obtain ⟨ps, p1, p2, p3⟩ := ha
  obtain ⟨qs, q1, q2, q3⟩ := hb
  refine Eqd.lst p2 q2 (by rw [List.length_map]; omega) (paired_ix (by simp; omega) fun i x y hx hy => ?_)
  obtain ⟨p, hp, rfl⟩ := at_map hx
  obtain ⟨q, hq, rfl⟩ := at_map hy
  obtain ⟨cs, c1, c2, c3⟩ := p3 i p hp
  obtain ⟨ds, d1, d2, d3⟩ := q3 i q hq
  refine Eqd.lst c1 d1 (by rw [List.length_map]; omega) (paired_ix (by simp; omega) fun j x y hx hy => ?_)
  obtain ⟨c, hc, rfl⟩ := at_map hx
  obtain ⟨d, hd, rfl⟩ := at_map hy
  exact Eqd.lst (c3 j c hc) (d3 j d hd) (by simp; omega) (eqd_ints _)
/-- two tuples of products of the same numbers -/
theorem trips_eqd {H : Hp} {a b : Addr} {ts us : List Addr} {tr : List Trip} {sz : Siz} (ha : H a = some (.tup (ts.map V.ref))) (hb : H b = some (.tup (us.map V.ref))) (p : Paired (TripT H) ts tr) (q : Paired (TripT H) us tr) (hm : SmallS sz tr) : Eqd H 4 (.ref a) (.ref b) := by
  have l1 := plen p
  have l2 := plen q
  have l3 := hm.len
  have b1 := hm.l2
  have b2 := hm.r2
  have b3 := hm.s2
  refine Eqd.tup ha hb (by rw [List.length_map]; omega) (paired_ix (by simp; omega) fun i x y hx hy => ?_)
  obtain ⟨c, hc, rfl⟩ := at_map hx
  obtain ⟨d, hd, rfl⟩ := at_map hy
  have hi : i < tr.length := by rw [← l1]; exact (List.getElem?_eq_some_iff.mp hc).1
  obtain ⟨c', t, hc', ht, h1⟩ := pat p hi
  obtain ⟨d', t', hd', ht', h2⟩ := pat q hi
  rw [hc] at hc'
  cases hc'
  rw [hd] at hd'
  cases hd'
  rw [ht] at ht'
  cases ht'
  obtain ⟨f1, f2, f3⟩ := hm.fits t (List.mem_of_getElem? ht)
  obtain ⟨x1, y1, z1, e0, e1, e2, e3⟩ := h1
  obtain ⟨x2, y2, z2, g0, g1, g2, g3⟩ := h2
  exact Eqd.tup e0 g0 (by show 3 ≤ 1000; decide) (.cons (Eqd.tup e1 g1 (by simp; omega) (eqd_ints _)) (.cons (Eqd.tup e2 g2 (by simp; omega) (eqd_ints _)) (.cons (Eqd.tup e3 g3 (by simp; omega) (eqd_ints _)) .nil)))
end My
/-! entries, tables held against a scheme -/
namespace My
open PySem PySem.Spec PyProof.Rows L2
structure TxtG (mg : Str → Option Value) : Prop where
  m_gcd : mg "gcd" = some (.builtin "math.gcd")
def gcdI (a b : Int) : Int := ((Nat.gcd a.natAbs b.natAbs : Nat) : Int)
def gcdAll (ns : List Int) : Int := ns.foldl gcdI 0
theorem gcd_zeros : ∀ n : Nat, gcdAll (List.replicate n 0) = 0
  | 0 => rfl
  | n + 1 => by
    have ih := gcd_zeros n
    unfold gcdAll at ih ⊢
    rw [List.replicate_succ, List.foldl_cons]
    exact ih
def spCommonN : Sp := fun vs H Q _ => ∃ ns : List Int, vs = ns.map V.int ∧ ns.length ≤ 1000000 ∧ ∀ H', Same H H' → Q (.int (gcdAll ns)) H'
def flatC (l r u : Nat) (g : Nat → Nat → Nat → Int) : List Int := (List.range l).flatMap fun i => (List.range r).flatMap fun j => (List.range u).map (g i j)
theorem flatR_len {α : Type} {m : Nat} (f : Nat → List α) (h : ∀ x, (f x).length = m) : ∀ j : Nat, ((List.range j).flatMap f).length = j * m
  | 0 => by simp
  | j + 1 => by
    rw [List.range_succ, List.flatMap_append, List.length_append, flatR_len f h j, Nat.succ_mul]
    simp [h]
theorem flatC_len (l r u : Nat) (g : Nat → Nat → Nat → Int) : (flatC l r u g).length = l * (r * u) := flatR_len _ (fun i => flatR_len _ (fun j => by simp) r) l
theorem flat_succ {α : Type} (j : Nat) (f : Nat → List α) : (List.range (j + 1)).flatMap f = (List.range j).flatMap f ++ f j := by
  rw [List.range_succ, List.flatMap_append]
  simp
def spEntries : Sp := fun vs H Q _ => ∃ (a : Addr) (l r u : Nat) (g : Nat → Nat → Nat → Int), vs = [.ref a] ∧ CubeF H a l r u g ∧ l ≤ 36 ∧ r ≤ 36 ∧ u ≤ 36 ∧ ∀ (H' : Hp) (D : Addr), Same H H' → H D = none → H' D = some (.lst ((flatC l r u g).map V.int)) → Q (.ref D) H'
def spIsTable : Sp := fun vs H Q _ => ∃ (a S : Addr) (l r u : Nat) (g : Nat → Nat → Nat → Int), vs = [.ref a, .ref S] ∧ CubeF H a l r u g ∧ SizAt H S (l, r, u) ∧ l ≤ 36 ∧ r ≤ 36 ∧ u ≤ 36 ∧ ∀ H', Same H H' → Q (.bl true) H'
section
variable {P : Program} {w : World} {K : PySem.W.Frag} {mg : Str → Option Value} {base : Heap} {C : Addr}
theorem ok_common (F : ∃ (f : Addr) (fd : FuncData), Fun K "common" "common" s_common f fd ∧ mg "common" = some (.ref f)) (T : TxtG mg) : HasR P w K mg base 1 "common" spCommonN := by
  obtain ⟨f, fd, F, m⟩ := F
  have kp := F.kp
  obtain ⟨oc, od, kV, doc, pm, an, cdv, ct, osl, rfl, lk, hcd⟩ := F.ex
  have R := StX.fn_star (P := P) (w := w) (mg := mg) (base := base) (CX := CX0) (k := 0) (sp := fun vs H Q _ => ∃ (p : Addr) (ns : List Int), vs = [.ref p] ∧ H p = some (.tup (ns.map V.int)) ∧ Q (.int (gcdAll ns)) H) (ps := []) (pv := "numbers") (N := N_common) lk hcd sc_common StX.cxUp_none (fun us rest hl => match us, rest, hl with | [], [], _ => rfl | [], _ :: _, _ => rfl) (fun A outer s H vs Q E hr h => by
    obtain ⟨p, ns, rfl, hp, q⟩ := h
    refine ⟨_, PSs.nox (pss_cons (ps_set (i := 1) sc_common.nd rfl (Or.inl rfl) pe_int)
      (pss_cons (ps_for PassesOwn.never rfl (pi_tup (pv 0)) (pg_name (i := 2) sc_common.nd rfl (Or.inl rfl))
        (pss_one (ps_set (i := 1) sc_common.nd rfl (Or.inl rfl) (pe_callBfun cr_gcd (by rfl) T.m_gcd (pa_cons (pv 1) (pa_cons (pv 2) pa_nil))))))
      (pss_one (ps_ret (pv 1))))), ?_⟩
    refine ⟨_, rfl, p, rfl, ⟨_, SqT.of hp⟩, for_tup (fun i σ H' => ∃ y, σ = [some (.ref p), some (.int (gcdAll (ns.take i))), y] ∧ H' = H) ⟨none, rfl, rfl⟩ (fun i σ H' _ ⟨_, _, e⟩ => e ▸ SqT.of hp) ?_ ?_⟩
    · rintro i x σ H' hx ⟨y, rfl, rfl⟩
      obtain ⟨m, hm, rfl⟩ := at_map hx
      refine ⟨_, rfl, _, rfl, _, _, rfl, some (.int m), ?_, rfl⟩
      unfold gcdAll
      rw [take_snoc hm, List.foldl_append]
      rfl
    · rintro σ H' ⟨y, rfl, rfl⟩
      rw [List.length_map, List.take_length]
      exact ⟨_, rfl, q⟩)
  refine ⟨f, R.imp fun vs H Q E ⟨ns, ev, hn, q⟩ => ⟨[], vs, rfl, rfl, ?_, fun p hp => ⟨p, ns, rfl, ?_, q _ (same_upd hp)⟩⟩, m, kp⟩
  · rw [ev, List.length_map]
    exact Nat.le_of_lt (LcN.small100 (by omega))
  · rw [ev]
    exact upd_same
theorem ok_entries (F : Fn K mg "entries" s_entries ["table"]) : Has P w K mg base 1 "entries" ["table"] spEntries := by
  refine F.has sc_entries (fun vs H Q E h => ?_) (fun f cdv A outer s H vs Q E hr h => ?_)
  · obtain ⟨a, l, r, u, g, rfl, _⟩ := h
    rfl
  obtain ⟨a, l, r, u, g, rfl, ⟨ps, lp, ha, cel⟩, l2, r2, u2, q⟩ := h
  refine ⟨_, (pss_one (ps_ret (LcN.pe_lcN (own := [("face", 1), ("row", 2), ("entry", 3)]) (ws := [2, 3]) (g := gName 1) (tt := tYes) rfl sc_entries.nd (pi_list (pv 0)) (blkOk_by (own := [("face", 1), ("row", 2), ("entry", 3)]) (N := N_entries) (sc := defScope s_entries) (by decide +kernel)) (by decide) (.inr ⟨_, _, _, rfl⟩) (fun _ _ _ _ _ => (pg_name (i := 1) sc_entries.nd rfl (Or.inl rfl))) (fun _ _ _ _ _ => pts_nil) (fun _ _ _ _ _ => (LcN.inner_more (g := gName 2) (tt := tYes) (vs := [2, 3]) rfl rfl rfl (.inr ⟨_, _, _, rfl⟩) (NK.pi_listK K rfl (pv 1)) (pg_name (i := 2) sc_entries.nd rfl (Or.inl rfl)) pts_nil
          (LcN.inner_more (g := gName 3) (tt := tYes) (vs := [3]) rfl rfl rfl (.inl rfl) (NK.pi_listK K rfl (pv 2)) (pg_name (i := 3) sc_entries.nd rfl (Or.inl rfl)) pts_nil
          (LcN.inner_last rfl rfl (pv 3)) (by decide) (fun _ => rfl)) (by decide) (fun _ => rfl)))))), ?_⟩
  refine ⟨_, rfl, a, rfl, ⟨_, SqL.of ha⟩, fun D hD => ?_⟩
  have up : ∀ {x : Addr} {o : HO} (acc : List V), H x = some o → (upd H D (.lst acc)) x = some o := fun acc h => by
    rw [upd_ne (ne_of_none h hD)]
    exact h
  have sz : ∀ {n : Nat}, n ≤ 36 * (36 * 36) → n < sizeLine := fun h => LcN.small100 (by omega)
  refine LcN.clause_it (walk_list (xs := ps.map V.ref)) (fun i H' => H' = upd H D (.lst (((List.range i).flatMap fun i => (List.range r).flatMap fun j => (List.range u).map (g i j)).map V.int))) rfl (fun i H' _ e => by rw [e]; exact SqL.of (up _ ha)) ?_ ?_
  · rintro i v H1 H2 hi rfl ⟨rfl, hv⟩
    obtain ⟨p, hp, rfl⟩ := at_map hv
    obtain ⟨cs, q1, q2, q3⟩ := cel i p hp
    have hil : i < l := by rw [← lp]; exact (List.getElem?_eq_some_iff.mp hp).1
    refine ⟨rfl, tYes_ok ⟨_, rfl, p, rfl, ⟨_, SqL.of (up _ q1)⟩, ?_⟩⟩
    have pl : ((List.range i).flatMap fun i => (List.range r).flatMap fun j => (List.range u).map (g i j)).length = i * (r * u) := flatR_len _ (fun i => flatR_len _ (fun j => by simp) r) i
    refine LcN.clause_it (walk_list (xs := cs.map V.ref)) (fun j H' => H' = upd H D (.lst ((((List.range i).flatMap fun i => (List.range r).flatMap fun j => (List.range u).map (g i j)) ++ ((List.range j).flatMap fun j => (List.range u).map (g i j))).map V.int))) (by simp) (fun i H' _ e => by rw [e]; exact SqL.of (up _ q1)) ?_ ?_
    · rintro j v H1 H2 hj rfl ⟨rfl, hv⟩
      obtain ⟨c, hc, rfl⟩ := at_map hv
      have hrow : H c = some (.lst (((List.range u).map (g i j)).map V.int)) := q3 j c hc
      have hjr : j < r := by rw [← q2]; exact (List.getElem?_eq_some_iff.mp hc).1
      have pl2 : ((List.range j).flatMap fun j => (List.range u).map (g i j)).length = j * u := flatR_len _ (fun j => by simp) j
      refine ⟨rfl, tYes_ok ⟨_, rfl, c, rfl, ⟨_, SqL.of (up _ hrow)⟩, ?_⟩⟩
      refine LcN.clause_it (walk_list (xs := ((List.range u).map (g i j)).map V.int)) (fun k H' => H' = upd H D (.lst ((((List.range i).flatMap fun i => (List.range r).flatMap fun j => (List.range u).map (g i j)) ++ ((List.range j).flatMap fun j => (List.range u).map (g i j)) ++ (List.range k).map (g i j)).map V.int))) (by simp) (fun i H' _ e => by rw [e]; exact SqL.of (up _ hrow)) ?_ ?_
      · rintro k v H1 H2 hk rfl ⟨rfl, hv⟩
        have hk : k < u := by simpa using hk
        obtain ⟨x, hx, rfl⟩ := at_map hv
        rw [List.getElem?_map, List.getElem?_range hk] at hx
        obtain rfl := Option.some.inj hx
        refine ⟨rfl, tYes_ok ⟨_, rfl, _, upd_same, sz ?_, ?_⟩⟩
        · rw [List.length_map, List.length_append, List.length_append, pl, pl2, List.length_map, List.length_range]
          have e1 : i * (r * u) ≤ 35 * (36 * 36) := Nat.mul_le_mul (by omega) (Nat.mul_le_mul r2 u2)
          have e2 : j * u ≤ 35 * 36 := Nat.mul_le_mul (by omega) u2
          omega
        · show upd (upd H D _) D _ = upd H D _
          rw [upd_upd]
          refine congrArg (fun z => upd H D (.lst z)) ?_
          simp [List.range_succ]
      · rintro H1 rfl
        rw [flat_succ, List.length_map, List.length_map, List.length_range, ← List.append_assoc]
    · rintro H1 rfl
      rw [flat_succ, List.length_map, q2]
  · rintro H1 rfl
    refine q _ D (same_upd hD) hD ?_
    rw [upd_same, List.length_map, lp]
    rfl
theorem ok_is_table (F : Fn K mg "is_table" s_is_table ["value", "sizes"]) (B : Blt mg) (G_is_list_of : Has P w K mg base 1 "is_list_of" ["value", "size"] spListOf) (G_is_row : Has P w K mg base 2 "is_row" ["value", "size"] spRow) : Has P w K mg base 3 "is_table" ["value", "sizes"] spIsTable := by
  refine F.has sc_is_table (fun vs H Q E h => ?_) (fun f cdv A outer s H vs Q E hr h => ?_)
  · obtain ⟨a, S, l, r, u, g, rfl, _⟩ := h
    rfl
  obtain ⟨a, S, l, r, u, g, rfl, ⟨ps, lp, ha, cel⟩, hS, l2, r2, u2, q⟩ := h
  have hS : H S = some (.tup [.int l, .int r, .int u]) := hS
  refine ⟨_, (pss_cons (ps_asg (pv 1) (pg_tup rfl (pgs_cons (pg_name (i := 2) sc_is_table.nd rfl (Or.inl rfl)) (pgs_cons (pg_name (i := 3) sc_is_table.nd rfl (Or.inr rfl)) (pgs_cons (pg_name (i := 4) sc_is_table.nd rfl (Or.inr rfl)) pgs_nil)))))
      (pss_cons (ps_if (PW.pt (pw_or (pt_not (pt_val (pe_own G_is_list_of (hr.mono (by decide)) (by rfl) (pa_cons (pv 0) (pa_cons (pv 2) pa_nil))))) (pw_or1 (pt_not (pt_val (pe_callB (cr_all rfl) (by rfl) B.all bb_all (pa_cons (pe_lc (own := [("face", 5)]) (g := gName 5) (tt := tYes) (by rfl) sc_is_table.nd (pi_list (pv 0)) (blkOk_by (own := [("face", 5)]) (N := N_is_table) (sc := defScope s_is_table) (by decide +kernel)) (fun _ _ _ _ _ => (pg_name (i := 5) sc_is_table.nd rfl (Or.inl rfl))) (fun _ _ _ _ _ => pts_nil) (fun _ _ _ _ _ => (pe_own G_is_list_of (hr.mono (by decide)) (by rfl) (pa_cons (pv 5) (pa_cons (pv 3) pa_nil))))) pa_nil)))))))
        (pss_one (ps_ret pe_bl))
        pss_nil)
      (pss_one (ps_ret (pe_callB (cr_all rfl) (by rfl) B.all bb_all (pa_cons (LcN.pe_lcN (own := [("face", 5), ("row", 6)]) (ws := [6]) (g := gName 5) (tt := tYes) rfl sc_is_table.nd (pi_list (pv 0)) (blkOk_by (own := [("face", 5), ("row", 6)]) (N := N_is_table) (sc := defScope s_is_table) (by decide +kernel)) (by decide) (.inr ⟨_, _, _, rfl⟩) (fun _ _ _ _ _ => (pg_name (i := 5) sc_is_table.nd rfl (Or.inl rfl))) (fun _ _ _ _ _ => pts_nil) (fun _ _ _ _ _ => (LcN.inner_more (g := gName 6) (tt := tYes) (vs := [6]) rfl rfl rfl (.inl rfl) (NK.pi_listK K rfl (pv 5)) (pg_name (i := 6) sc_is_table.nd rfl (Or.inl rfl)) pts_nil
          (LcN.inner_last rfl rfl (pe_own G_is_row (hr.mono (by decide)) (by rfl) (pa_cons (pv 6) (pa_cons (pv 4) pa_nil)))) (by decide) (fun _ => rfl)))) pa_nil)))))), ?_⟩
  refine ⟨_, rfl, S, _, rfl, SqT.of hS, rfl, _, _, rfl, _, _, rfl, _, _, rfl, rfl, ?_⟩
  refine ⟨_, rfl, _, rfl, a, _, _, rfl, ha, fun H1 s1 => ⟨_, rfl, ?_⟩⟩
  rw [List.length_map, lp, decide_eq_true rfl]
  refine iteF ?_
  refine ⟨_, rfl, a, rfl, ⟨_, SqL.of (s1 _ _ ha)⟩, fun D hD => ?_⟩
  refine lc_it (walk_list (xs := ps.map V.ref)) (fun i H' => Same H1 H' ∧ H' D = some (.lst ((List.replicate i true).map V.bl))) ⟨same_upd hD, upd_same⟩ (fun i H' _ e => SqL.of (e.1 _ _ (s1 _ _ ha))) ?_ ?_
  · rintro i v Ha Hb hi ⟨sa, ea⟩ ⟨rfl, hv⟩
    obtain ⟨p, hp, rfl⟩ := at_map hv
    obtain ⟨cs, q1, q2, q3⟩ := cel i p hp
    have hi : i < ps.length := by simpa using hi
    refine ⟨rfl, tYes_ok ⟨_, rfl, _, rfl, p, _, _, rfl, sa _ _ (s1 _ _ q1), fun H3 s3 => ⟨_, s3 _ _ ea, small1000 (by simp; omega), fun d o hd => ?_, ?_⟩⟩⟩
    · rw [upd_ne (ne_of_none hd hD)]
      exact s3 _ _ (sa _ _ hd)
    · rw [upd_same, List.length_map, q2, decide_eq_true rfl, List.replicate_succ']
      simp
  rintro H2 ⟨s2, e2⟩
  refine ⟨D, _, rfl, SqL.of e2, ⟨_, rfl, ?_⟩⟩
  rw [show (List.replicate (ps.map V.ref).length true).all id = true by simp]
  refine iteF ?_
  have s12 := s1.trans s2
  refine ⟨_, rfl, a, rfl, ⟨_, SqL.of (s12 _ _ ha)⟩, fun D2 hD2 => ?_⟩
  refine LcN.clause_it (walk_list (xs := ps.map V.ref)) (fun i H' => Same H2 H' ∧ ∃ n, n ≤ i * r ∧ H' D2 = some (.lst ((List.replicate n true).map V.bl))) ⟨same_upd hD2, 0, by simp, upd_same⟩ (fun i H' _ e => SqL.of (e.1 _ _ (s12 _ _ ha))) ?_ ?_
  · rintro i v Ha Hb hi ⟨sa, n, hn, ea⟩ ⟨rfl, hv⟩
    obtain ⟨p, hp, rfl⟩ := at_map hv
    obtain ⟨cs, q1, q2, q3⟩ := cel i p hp
    have hi : i < ps.length := by simpa using hi
    refine ⟨rfl, tYes_ok ⟨_, rfl, p, rfl, ⟨_, SqL.of (sa _ _ (s12 _ _ q1))⟩, ?_⟩⟩
    refine LcN.clause_it (walk_list (xs := cs.map V.ref)) (fun j H' => Same H2 H' ∧ ∃ n, n ≤ i * r + j ∧ H' D2 = some (.lst ((List.replicate n true).map V.bl))) ⟨sa, n, by omega, ea⟩ (fun i H' _ e => SqL.of (e.1 _ _ (s12 _ _ q1))) ?_ ?_
    · rintro j v Hc Hd hj ⟨sc, n, hn, ec⟩ ⟨rfl, hv⟩
      obtain ⟨c, hc, rfl⟩ := at_map hv
      have hj : j < cs.length := by simpa using hj
      have hrow := ((q3 j c hc).same s12).same sc
      have bd : i * r + j ≤ 36 * 36 + 36 := by
        have := Nat.mul_le_mul (show i ≤ 36 by omega) r2
        omega
      refine ⟨rfl, tYes_ok ⟨_, rfl, _, rfl, c, _, by simp, hrow, by simp; omega, fun H3 s3 => ⟨_, s3 _ _ ec, LcN.small100 (by simp; omega), fun d o hd => ?_, n + 1, by omega, ?_⟩⟩⟩
      · rw [upd_ne (ne_of_none hd hD2)]
        exact s3 _ _ (sc _ _ hd)
      · rw [upd_same, List.replicate_succ']
        simp
    · rintro Hc ⟨sc, n, hn, ec⟩
      refine ⟨sc, n, ?_, ec⟩
      rw [List.length_map, q2] at hn
      rw [Nat.succ_mul]
      exact hn
  · rintro H3 ⟨s3, n, _, e3⟩
    refine ⟨D2, _, rfl, SqL.of e3, ?_⟩
    rw [show (List.replicate n true).all id = true by simp]
    exact q _ (s12.trans s3)
end
end My
/-! tables, right ones and wrong ones; a scheme held against a table -/
namespace My
open PySem PySem.Spec PyProof.Rows L2
/-- what is no table: no container, a list of another length, or (of sizes 1) a list of a list of no row -/
def TabBad (H : Hp) (v : V) (l r u : Nat) : Prop :=
  leafV v ∨ (∃ a xs, v = .ref a ∧ H a = some (.lst xs) ∧ xs.length ≠ l) ∨
  (l = 1 ∧ r = 1 ∧ ∃ a f x rx, v = .ref a ∧ H a = some (.lst [.ref f]) ∧ H f = some (.lst [x]) ∧ RowI H x rx ∧ rowOk rx u = false)
theorem TabBad.same {H H' : Hp} {v : V} {l r u : Nat} (h : TabBad H v l r u) (s : Same H H') : TabBad H' v l r u := by
  rcases h with h | ⟨a, xs, e, h, n⟩ | ⟨e1, e2, a, f, x, rx, e, h1, h2, h3, h4⟩
  · exact .inl h
  · exact .inr (.inl ⟨a, xs, e, s _ _ h, n⟩)
  · exact .inr (.inr ⟨e1, e2, a, f, x, rx, e, s _ _ h1, s _ _ h2, h3.same s, h4⟩)
def spIsTableX : Sp := fun vs H Q _ => ∃ (v : V) (S : Addr) (l r u : Nat), vs = [v, .ref S] ∧ SizAt H S (l, r, u) ∧ l ≤ 36 ∧ r ≤ 36 ∧ u ≤ 36 ∧
  ((∃ a g, v = .ref a ∧ CubeF H a l r u g ∧ ∀ H', Same H H' → Q (.bl true) H') ∨ (TabBad H v l r u ∧ ∀ H', Same H H' → Q (.bl false) H'))
/-- the error InvalidTable("form") -/
def TabErr (CB : Addr) (E : XK) (H : Hp) : Prop := ∀ H' d, Same H H' → H' d = none → E (.ref CB) (some d) (upd H' d (.xd (errD "rule" "InvalidTable" (.str "form"))))
def spCheckTableX (C CB : Addr) : Sp := fun vs H Q E => ∃ (v : V) (a : Addr) (sz : Siz) (tr : List Trip), vs = [v, .ref a] ∧ SchemeAt C H a sz tr ∧
  ((∃ t g, v = .ref t ∧ CubeF H t sz.1 sz.2.1 sz.2.2 g ∧ ∀ H', Same H H' → Q .non H') ∨ (TabBad H v sz.1 sz.2.1 sz.2.2 ∧ TabErr CB E H))
section
variable {P : Program} {w : World} {K : PySem.W.Frag} {mg : Str → Option Value} {base : Heap} {C CB fB xB dB : Addr}
theorem ok_is_tableX (F : Fn K mg "is_table" s_is_table ["value", "sizes"]) (B : Blt mg) (G_is_list_of : Has P w K mg base 1 "is_list_of" ["value", "size"] spListOfA) (G_is_row : Has P w K mg base 2 "is_row" ["value", "size"] spRowG) : Has P w K mg base 3 "is_table" ["value", "sizes"] spIsTableX := by
  refine F.has sc_is_table (fun vs H Q E h => ?_) (fun f cdv A outer s H vs Q E hr h => ?_)
  · obtain ⟨a, S, l, r, u, rfl, _⟩ := h
    rfl
  obtain ⟨v, S, l, r, u, rfl, hS, l2, r2, u2, h⟩ := h
  have hS : H S = some (.tup [.int l, .int r, .int u]) := hS
  refine ⟨_, (pss_cons (ps_asg (pv 1) (pg_tup rfl (pgs_cons (pg_name (i := 2) sc_is_table.nd rfl (Or.inl rfl)) (pgs_cons (pg_name (i := 3) sc_is_table.nd rfl (Or.inr rfl)) (pgs_cons (pg_name (i := 4) sc_is_table.nd rfl (Or.inr rfl)) pgs_nil)))))
      (pss_cons (ps_if (PW.pt (pw_or (pt_not (pt_val (pe_own G_is_list_of (hr.mono (by decide)) (by rfl) (pa_cons (pv 0) (pa_cons (pv 2) pa_nil))))) (pw_or1 (pt_not (pt_val (pe_callB (cr_all rfl) (by rfl) B.all bb_all (pa_cons (pe_lc (own := [("face", 5)]) (g := gName 5) (tt := tYes) (by rfl) sc_is_table.nd (pi_list (pv 0)) (blkOk_by (own := [("face", 5)]) (N := N_is_table) (sc := defScope s_is_table) (by decide +kernel)) (fun _ _ _ _ _ => (pg_name (i := 5) sc_is_table.nd rfl (Or.inl rfl))) (fun _ _ _ _ _ => pts_nil) (fun _ _ _ _ _ => (pe_own G_is_list_of (hr.mono (by decide)) (by rfl) (pa_cons (pv 5) (pa_cons (pv 3) pa_nil))))) pa_nil)))))))
        (pss_one (ps_ret pe_bl))
        pss_nil)
      (pss_one (ps_ret (pe_callB (cr_all rfl) (by rfl) B.all bb_all (pa_cons (LcN.pe_lcN (own := [("face", 5), ("row", 6)]) (ws := [6]) (g := gName 5) (tt := tYes) rfl sc_is_table.nd (pi_list (pv 0)) (blkOk_by (own := [("face", 5), ("row", 6)]) (N := N_is_table) (sc := defScope s_is_table) (by decide +kernel)) (by decide) (.inr ⟨_, _, _, rfl⟩) (fun _ _ _ _ _ => (pg_name (i := 5) sc_is_table.nd rfl (Or.inl rfl))) (fun _ _ _ _ _ => pts_nil) (fun _ _ _ _ _ => (LcN.inner_more (g := gName 6) (tt := tYes) (vs := [6]) rfl rfl rfl (.inl rfl) (NK.pi_listK K rfl (pv 5)) (pg_name (i := 6) sc_is_table.nd rfl (Or.inl rfl)) pts_nil
          (LcN.inner_last rfl rfl (pe_own G_is_row (hr.mono (by decide)) (by rfl) (pa_cons (pv 6) (pa_cons (pv 4) pa_nil)))) (by decide) (fun _ => rfl)))) pa_nil)))))), ?_⟩
  refine ⟨_, rfl, S, _, rfl, SqT.of hS, rfl, _, _, rfl, _, _, rfl, _, _, rfl, rfl, ?_⟩
  rcases h with ⟨a, g, rfl, ⟨ps, lp, ha, cel⟩, q⟩ | ⟨hb, q⟩
  rotate_left
  · rcases hb with hv | ⟨a, xs, rfl, ha, hn⟩ | ⟨rfl, rfl, a, f1, x, rx, rfl, ha, hf, hx, hbad⟩
    · refine ⟨_, rfl, _, rfl, v, _, rfl, .inl ⟨hv, fun H1 s1 => ⟨_, rfl, iteT (q _ s1)⟩⟩⟩
    · refine ⟨_, rfl, _, rfl, _, _, rfl, .inr ⟨a, xs, rfl, ha, fun H1 s1 => ⟨_, rfl, ?_⟩⟩⟩
      rw [decide_eq_false (by omega)]
      exact iteT (q _ s1)
    · refine ⟨_, rfl, _, rfl, _, _, rfl, .inr ⟨a, _, rfl, ha, fun H1 s1 => ⟨_, rfl, ?_⟩⟩⟩
      refine iteF ?_
      refine ⟨_, rfl, a, rfl, ⟨_, SqL.of (s1 _ _ ha)⟩, fun D hD => ?_⟩
      refine lc_it (walk_list (xs := [.ref f1])) (fun i H' => Same H1 H' ∧ H' D = some (.lst ((List.replicate i true).map V.bl))) ⟨same_upd hD, upd_same⟩ (fun i H' _ e => SqL.of (e.1 _ _ (s1 _ _ ha))) ?_ ?_
      · rintro i v Ha Hb hi ⟨sa, ea⟩ ⟨rfl, hv⟩
        have hi : i < 1 := hi
        obtain rfl : i = 0 := by omega
        cases hv
        refine ⟨rfl, tYes_ok ⟨_, rfl, _, rfl, _, _, rfl, .inr ⟨f1, _, rfl, sa _ _ (s1 _ _ hf), fun H3 s3 => ⟨_, s3 _ _ ea, small1000 (by simp), fun d o hd => ?_, ?_⟩⟩⟩⟩
        · rw [upd_ne (ne_of_none hd hD)]
          exact s3 _ _ (sa _ _ hd)
        · rw [upd_same]
          rfl
      rintro H2 ⟨s2, e2⟩
      refine ⟨D, _, rfl, SqL.of e2, ⟨_, rfl, iteF ?_⟩⟩
      have s12 := s1.trans s2
      refine ⟨_, rfl, a, rfl, ⟨_, SqL.of (s12 _ _ ha)⟩, fun D2 hD2 => ?_⟩
      refine LcN.clause_it (walk_list (xs := [.ref f1])) (fun i H' => Same H2 H' ∧ H' D2 = some (.lst ((List.replicate i false).map V.bl))) ⟨same_upd hD2, upd_same⟩ (fun i H' _ e => SqL.of (e.1 _ _ (s12 _ _ ha))) ?_ ?_
      · rintro i v Ha Hb hi ⟨sa, ea⟩ ⟨rfl, hv⟩
        have hi : i < 1 := hi
        obtain rfl : i = 0 := by omega
        cases hv
        refine ⟨rfl, tYes_ok ⟨_, rfl, f1, rfl, ⟨_, SqL.of (sa _ _ (s12 _ _ hf))⟩, ?_⟩⟩
        refine LcN.clause_it (walk_list (xs := [x])) (fun j H' => Same H2 H' ∧ H' D2 = some (.lst ((List.replicate j false).map V.bl))) ⟨sa, ea⟩ (fun i H' _ e => SqL.of (e.1 _ _ (s12 _ _ hf))) ?_ ?_
        · rintro j v Hc Hd hj ⟨sc, ec⟩ ⟨rfl, hv⟩
          have hj : j < 1 := hj
          obtain rfl : j = 0 := by omega
          cases hv
          refine ⟨rfl, tYes_ok ⟨_, rfl, _, rfl, x, rx, u, rfl, (hx.same s12).same sc, fun H3 s3 => ⟨_, s3 _ _ ec, small1000 (by simp), fun d o hd => ?_, ?_⟩⟩⟩
          · rw [upd_ne (ne_of_none hd hD2)]
            exact s3 _ _ (sc _ _ hd)
          · rw [upd_same, hbad]
            rfl
        · rintro Hc ⟨sc, ec⟩
          exact ⟨sc, ec⟩
      · rintro H3 ⟨s3, e3⟩
        exact ⟨D2, _, rfl, SqL.of e3, q _ (s12.trans s3)⟩
  refine ⟨_, rfl, _, rfl, _, _, rfl, .inr ⟨a, _, rfl, ha, fun H1 s1 => ⟨_, rfl, ?_⟩⟩⟩
  rw [List.length_map, lp, decide_eq_true rfl]
  refine iteF ?_
  refine ⟨_, rfl, a, rfl, ⟨_, SqL.of (s1 _ _ ha)⟩, fun D hD => ?_⟩
  refine lc_it (walk_list (xs := ps.map V.ref)) (fun i H' => Same H1 H' ∧ H' D = some (.lst ((List.replicate i true).map V.bl))) ⟨same_upd hD, upd_same⟩ (fun i H' _ e => SqL.of (e.1 _ _ (s1 _ _ ha))) ?_ ?_
  · rintro i v Ha Hb hi ⟨sa, ea⟩ ⟨rfl, hv⟩
    obtain ⟨p, hp, rfl⟩ := at_map hv
    obtain ⟨cs, q1, q2, q3⟩ := cel i p hp
    have hi : i < ps.length := by simpa using hi
    refine ⟨rfl, tYes_ok ⟨_, rfl, _, rfl, _, _, rfl, .inr ⟨p, _, rfl, sa _ _ (s1 _ _ q1), fun H3 s3 => ⟨_, s3 _ _ ea, small1000 (by simp; omega), fun d o hd => ?_, ?_⟩⟩⟩⟩
    · rw [upd_ne (ne_of_none hd hD)]
      exact s3 _ _ (sa _ _ hd)
    · rw [upd_same, List.length_map, q2, decide_eq_true rfl, List.replicate_succ']
      simp
  rintro H2 ⟨s2, e2⟩
  refine ⟨D, _, rfl, SqL.of e2, ⟨_, rfl, ?_⟩⟩
  rw [show (List.replicate (ps.map V.ref).length true).all id = true by simp]
  refine iteF ?_
  have s12 := s1.trans s2
  refine ⟨_, rfl, a, rfl, ⟨_, SqL.of (s12 _ _ ha)⟩, fun D2 hD2 => ?_⟩
  refine LcN.clause_it (walk_list (xs := ps.map V.ref)) (fun i H' => Same H2 H' ∧ ∃ n, n ≤ i * r ∧ H' D2 = some (.lst ((List.replicate n true).map V.bl))) ⟨same_upd hD2, 0, by simp, upd_same⟩ (fun i H' _ e => SqL.of (e.1 _ _ (s12 _ _ ha))) ?_ ?_
  · rintro i v Ha Hb hi ⟨sa, n, hn, ea⟩ ⟨rfl, hv⟩
    obtain ⟨p, hp, rfl⟩ := at_map hv
    obtain ⟨cs, q1, q2, q3⟩ := cel i p hp
    have hi : i < ps.length := by simpa using hi
    refine ⟨rfl, tYes_ok ⟨_, rfl, p, rfl, ⟨_, SqL.of (sa _ _ (s12 _ _ q1))⟩, ?_⟩⟩
    refine LcN.clause_it (walk_list (xs := cs.map V.ref)) (fun j H' => Same H2 H' ∧ ∃ n, n ≤ i * r + j ∧ H' D2 = some (.lst ((List.replicate n true).map V.bl))) ⟨sa, n, by omega, ea⟩ (fun i H' _ e => SqL.of (e.1 _ _ (s12 _ _ q1))) ?_ ?_
    · rintro j v Hc Hd hj ⟨sc, n, hn, ec⟩ ⟨rfl, hv⟩
      obtain ⟨c, hc, rfl⟩ := at_map hv
      have hj : j < cs.length := by simpa using hj
      have hrow := ((q3 j c hc).same s12).same sc
      have bd : i * r + j ≤ 36 * 36 + 36 := by
        have := Nat.mul_le_mul (show i ≤ 36 by omega) r2
        omega
      have hu : ((List.range u).map (g i j)).length = u := by simp
      have hri : rowOk (some (((List.range u).map (g i j)).map V.int)) u = true := by
        have := rowOk_ints ((List.range u).map (g i j))
        rw [hu] at this
        exact this
      refine ⟨rfl, tYes_ok ⟨_, rfl, _, rfl, .ref c, _, u, rfl, RowL.info hrow (by simp; omega), fun H3 s3 => ⟨_, s3 _ _ ec, LcN.small100 (by simp; omega), fun d o hd => ?_, n + 1, by omega, ?_⟩⟩⟩
      · rw [upd_ne (ne_of_none hd hD2)]
        exact s3 _ _ (sc _ _ hd)
      · rw [upd_same, hri, List.replicate_succ']
        simp
    · rintro Hc ⟨sc, n, hn, ec⟩
      refine ⟨sc, n, ?_, ec⟩
      rw [List.length_map, q2] at hn
      rw [Nat.succ_mul]
      exact hn
  · rintro H3 ⟨s3, n, _, e3⟩
    refine ⟨D2, _, rfl, SqL.of e3, ?_⟩
    rw [show (List.replicate n true).all id = true by simp]
    exact q _ (s12.trans s3)
theorem ok_check_tableX (F : Fn K mg "check_table" s_check_table ["table", "scheme"]) (B : Blt mg) (R : SCls K C) (E_InvalidTable : ErrX.ErrTxt P K mg "InvalidTable" "rule" "InvalidTable" CB fB xB dB)
    (G_is_table : Has P w K mg base 3 "is_table" ["value", "sizes"] spIsTableX) (PR_sizes : HasPr P w K mg base 1 C "sizes" (spSizesP C)) : HasX P w K mg base 4 "check_table" ["table", "scheme"] (spCheckTableX C CB) := by
  obtain ⟨f, fd, F, m, b⟩ := F.ex
  refine ⟨f, fd, F.okX sc_check_table (fun vs H Q E h => ?_) (fun cdv A outer s H vs Q E hr h => ?_), m, F.kp, b⟩
  · obtain ⟨t, a, sz, tr, rfl, _⟩ := h
    rfl
  obtain ⟨v, a, sz, tr, rfl, hA, h⟩ := h
  have cl_ := R.cl
  have TK : Takes (cxOf (L2.CX P w) P w K mg base N_check_table "check_table" (defScope s_check_table) f cdv A outer s H E) (fun cls d _ H => E cls d H) := takes_of rfl rfl rfl rfl
  refine ⟨_, (pss_one (ps_if (pt_not (pt_val (pe_own G_is_table (hr.mono (by decide)) (by rfl) (pa_cons (pv 0) (pa_cons (pe_pr cl_ PR_sizes (hr.mono (by decide)) (pv 1) rfl) pa_nil)))))
        (pss_one (ps_raise rfl TK (pmk_err E_InvalidTable hr (pa_cons pe_str pa_nil) (by rfl))))
        pss_nil)), ?_⟩
  obtain ⟨dx, S, T, ts, h1, h2, h3, h4, h5⟩ := id hA
  refine ⟨_, rfl, _, rfl, a, dx, _, rfl, h1, a, sz, tr, rfl, hA, fun S' hS' => ⟨v, S', sz.1, sz.2.1, sz.2.2, rfl, hS', h5.l2, h5.r2, h5.s2, ?_⟩⟩
  rcases h with ⟨t, g, rfl, hC, q⟩ | ⟨hb, q⟩
  · exact .inl ⟨t, g, rfl, hC, fun H' s => ⟨true, rfl, iteF (q H' s)⟩⟩
  · exact .inr ⟨hb, fun H' s => ⟨false, rfl, iteT ⟨.str "form", rfl, fun d hd => q H' d s hd⟩⟩⟩
end
end My
namespace My
open PySem PySem.Spec PyProof.Rows L2
/-! ### a def by its positional values, with *args, that may raise -/
structure HasRX (P : Program) (w : World) (K : PySem.W.Frag) (mg : Str → Option Value) (base : Heap) (k : Nat) (x : Str) (sp : Sp) : Prop where
  ex : ∃ f : Addr, FnR P w K mg base (L2.CX P w) k f sp ∧ mg x = some (.ref f) ∧ PySem.W.keepIn K (.ref f) = true
section
variable {X : Cx} {k : Nat} {x : Str} {sp : Sp} {p pos : Pos} {e : Expr} {es : List Expr} {t : TA} {te : TE} {E : XK}
theorem pe_ownRE (h : HasRX X.prog X.w X.K X.mg X.base k x sp) (tk : Takes X (fun cls d _ H => E cls d H)) (hr : Room k X.A) (hg : Gl X x) (ha : PA X (e :: es) t) (hdb : (x == ("__debug__" : Str)) = false := by decide)
    (he : starEach (e :: es) X.env = (false, eval e X.env) :: starEach es X.env := by rfl) (hpl : (backTo pos (starEach es X.env)).any (·.1) = false := by rfl) : PE X (.Call (.Name x p) (e :: es) [] pos) (fun σ H Q => t σ H fun vs H1 => sp vs H1 Q E) := by
  obtain ⟨f, F, m, kp⟩ := h.ex
  constructor
  intro pins s σ H Q I h
  apply wpAny_Call_Name_kw (ld_glob I hg m ?_ hdb)
  apply PySem.W.callWith_K (h₀ := X.base) I.ok.mod.kin kp _ he hpl
  apply thn (ha.run pos pins s σ H _ I h)
  rintro us s1 ⟨vs, H1, I1, r, q⟩
  exact ⟨I1.kIn, wpAny_call (run_fnR F hr (passes_call tk fun _ _ _ _ h => h) I1 r q)⟩
theorem pe_ownRE0 (h : HasRX X.prog X.w X.K X.mg X.base k x sp) (tk : Takes X (fun cls d _ H => E cls d H)) (hr : Room k X.A) (hg : Gl X x) (hdb : (x == ("__debug__" : Str)) = false := by decide) : PE X (.Call (.Name x p) [] [] pos) (fun σ H Q => sp [] H Q E) := by
  obtain ⟨f, F, m, kp⟩ := h.ex
  constructor
  intro pins s σ H Q I h
  apply wpAny_Call_Name_kw (ld_glob I hg m ?_ hdb)
  exact PySem.W.callWith_K0 I.kIn kp (wpAny_call (run_fnR F hr (passes_call tk fun _ _ _ _ h => h) I .nil h))
/-- x(e, .., *y) that raises nothing -/
theorem pe_ownS2 (h : HasR X.prog X.w X.K X.mg X.base k x sp) (hr : Room k X.A) (hg : Gl X x) (ha : PA X (e :: es) t) (hdb : (x == ("__debug__" : Str)) = false := by decide)
    (he : starEach (e :: es) X.env = (false, eval e X.env) :: starEach es X.env := by rfl) (hst : (backTo pos (starEach es X.env)).any (·.1) = true := by rfl) : PE X (.Call (.Name x p) (e :: es) [] pos) (fun σ H Q => t σ H fun vs H1 => sp vs H1 Q E0) := by
  obtain ⟨f, F, m, kp⟩ := h.ex
  exact StX.pe_callS2 F hr kp hg m pass0 ha hdb he hst
end
/-! ### a def that may raise, also called with its arguments by name alone -/
def swapL {α : Type} : List α → List α → List α
  | [], [a, b] => [b, a]
  | _, _ => []
theorem swap_rel {vs zs : List V} {us ws : List Value} (r : Vals vs us) (rz : Vals zs ws) : Vals (swapL vs zs) (swapL us ws) := by
  cases r with
  | cons _ _ => exact .nil
  | nil =>
    cases rz with
    | nil => exact .nil
    | cons r1 rz =>
      cases rz with
      | nil => exact .nil
      | cons r2 rz =>
        cases rz with
        | nil => exact .cons r2 (.cons r1 .nil)
        | cons _ _ => exact .nil
structure HasXK (P : Program) (w : World) (K : PySem.W.Frag) (mg : Str → Option Value) (base : Heap) (k : Nat) (x : Str) (ps ks : List Str) (g : List Value → List Value → List Value) (gV : List V → List V → List V) (sp : Sp) : Prop where
  ex : ∃ (f : Addr) (fd : FuncData), FnOk P w K mg base (L2.CX P w) k f fd ps sp ∧ mg x = some (.ref f) ∧ PySem.W.keepIn K (.ref f) = true ∧ Binds K fd ps [] ∧ KBinds K fd ps ks g gV
theorem HasXK.has {P : Program} {w : World} {K : PySem.W.Frag} {mg : Str → Option Value} {base : Heap} {k : Nat} {x : Str} {ps ks : List Str} {g : List Value → List Value → List Value} {gV : List V → List V → List V} {sp : Sp} (h : HasXK P w K mg base k x ps ks g gV sp) : HasX P w K mg base k x ps sp := by
  obtain ⟨f, fd, F, m, kp, b, _⟩ := h.ex
  exact ⟨f, fd, F, m, kp, b⟩
section
variable {X : Cx} {k : Nat} {x : Str} {ps ks : List Str} {g : List Value → List Value → List Value} {gV : List V → List V → List V} {sp : Sp} {p pos : Pos} {kws : List Keyword} {t : TA} {E : XK}
theorem pe_ownKE (h : HasXK X.prog X.w X.K X.mg X.base k x ps ks g gV sp) (tk : Takes X (fun cls d _ H => E cls d H)) (hr : Room k X.A) (hg : Gl X x) (hkw : PK X kws t) (hdb : (x == ("__debug__" : Str)) = false := by decide) (hall : (backToKw pos (keywordEach kws X.env)).all (·.1.isSome) = true := by rfl)
    (hks : (backToKw pos (keywordEach kws X.env)).filterMap (·.1) = ks := by rfl) (hpl : ((backTo pos (starEach [] X.env)).any (·.1) || (backToKw pos (keywordEach kws X.env)).any (·.1.isNone)) = false := by rfl) :
    PE X (.Call (.Name x p) [] kws pos) (fun σ H Q => t σ H fun zs H1 => sp (gV [] zs) H1 Q E) := by
  obtain ⟨f, fd, F, m, kp, _, b⟩ := h.ex
  constructor
  intro pins s σ H Q I h
  apply wpAny_Call_Name_kw (ld_glob I hg m ?_ hdb)
  apply PySem.W.callWith_KW0 (h₀ := X.base) I.ok.mod.kin kp hall _ hpl
  apply thn (hkw.run pos pins s σ H _ I h)
  rintro us s1 ⟨zs, H1, I1, rz, q⟩
  refine ⟨I1.kIn, ?_⟩
  rw [hks]
  exact run_fnk F hr b (passes_call tk fun _ _ _ _ h => h) I1 .nil rz q
end
/-- its proof from the body -/
theorem star_has {P : Program} {w : World} {K : PySem.W.Frag} {mg : Str → Option Value} {base : Heap} {x pv : Str} {st : Stmt} {N : List Str} {k : Nat} {sp : Sp} (F : ∃ (f : Addr) (fd : FuncData), Fun K x x st f fd ∧ mg x = some (.ref f)) (S : FnScope N [pv] (defScope st))
    (hb : ∀ (rest : List Value) (kV doc pm cdv ct : Value) (an : Option Addr), bindArgs (PySem.W.fnOf x x (defArgs st) (defBody st) (defScope st) .none kV doc pm an cdv ct) ⟨rest, []⟩ = (newTuple rest >>= fun t => pure [(pv, t)]))
    (hbody : ∀ (f : Addr) (cdv : Value) (A : Around) (outer : List Env) (s : Shared) (H : Hp) (vs : List V) (Q : VK) (E : XK), Room k (A.deeper (envOfC x (defScope st) s.heap.objs.size f cdv)) → sp vs H Q E →
      ∃ t, PSs (cxOf (L2.CX P w) P w K mg base N x (defScope st) f cdv A outer s H E) (defBody st) t ∧ t { nx := fun _ H' => Q .non H', rt := Q } (start N vs) H) :
    HasRX P w K mg base (k + 1) x (fun vs H Q E => vs.length ≤ sizeLine ∧ ∀ p, H p = none → sp [V.ref p] (upd H p (.tup vs)) Q E) := by
  obtain ⟨f, fd, F, m⟩ := F
  have kp := F.kp
  obtain ⟨oc, od, kV, doc, pm, an, cdv, ct, osl, rfl, lk, hcd⟩ := F.ex
  have R := StX.fn_star (P := P) (w := w) (mg := mg) (base := base) (CX := L2.CX P w) (k := k) (sp := sp) (ps := []) (pv := pv) (N := N) lk hcd S StX.cxUp (fun us rest hl => match us, hl with | [], _ => (by rw [List.nil_append, hb]; rfl)) (fun A outer s H vs Q E hr h => hbody f cdv A outer s H vs Q E hr h)
  exact ⟨f, R.imp fun vs H Q E ⟨hz, h⟩ => ⟨[], vs, rfl, rfl, hz, h⟩, m, kp⟩
end My
/-! o != y for an own class with its own __eq__ and object's __ne__ -/
namespace PySem.W
open PyProof.Rows
section
variable {prog : Program} {w : World} {A : Around} {E : Value → Shared → Prop} {s : Shared} {K : Frag} {x C L f : Addr} {h₀ : Heap} {m : Str → Option Value} {ox : Obj} {od : Option Obj} {b tb : Value}
theorem objNe_K (X : K.In s.heap) (I : InstAt s.heap x ox C od) (hs : findIn K (.ref C) "__eq__" = some (some (.ref f))) (hf : isFn K (.ref f) = true) (hu : A.units < cLine) {Q : Fin → Shared → Prop}
    (hcall : wpAny (model prog w) A (call (.ref f) [.ref x, b]) (fun v s' => ∃ r, v = .bool r ∧ Q (.done (.ret (.bool (!r)))) s') E s) :
    wpAny (model prog w) A (Builtin.«object.__ne__» ⟨[.ref x, b], []⟩) Q E s := by
  obtain ⟨h, g, d, t, os⟩ := s
  unfold Builtin.«object.__ne__»
  repeat (first
    | with_reducible refine wpAny_cRoomFor hu ?_
    | (refine wpAny_bind (m := callSpecialIfBound? (.ref x) (Str.ofString "__eq__") [b])
        (ifBound_K X I hs hf (wpAny_mono hcall (fun r s' hr => by
          obtain ⟨b, rfl, hq⟩ := hr
          repeat (first | exact hq | exact wpAny_pure hq | exact wpAny_truthy_bool hq | (refine wpAny_bind (m := truthy (.bool _)) (wpAny_truthy_bool ?_)) | wp_step)) fun _ _ e => e)))
    | wp_step)
theorem ne_slot : Slot "object" "__ne__" "object.__ne__" :=
  .of (owner := "object") (n := "__ne__") (by rw [typeLookup_type, builtinLookup_eq_fast]; kernel_rfl) (by decide +kernel) (by decide +kernel) (by decide +kernel)
    (by first | exact .inl (by decide +kernel) | exact .inr (by decide +kernel)) (by rw [isSubtype_type]; kernel_rfl)
theorem ifBound_B {M : Model} {name : Str} {id : String} {T : String} {args : List Value} {Q : Option Value → Shared → Prop} (X : K.In s.heap) (I : InstAt s.heap x ox C od) (hs : findIn K (.ref C) name = some (some (.builtin id))) (S : Slot T name id)
    (h : wpAny M A (call (.builtin id) (.ref x :: args)) (fun v => Q (some v)) E s) : wpAny M A (callSpecialIfBound? (.ref x) name args) Q E s := by
  simp only [callSpecialIfBound?, bindSpecialIfBound?]
  refine wpAny_holding (wpAny_bind (wpAny_bind (wpAny_bind (I.type.here ((looks_findIn X hs).here ?_)))))
  simp only [S.bind]
  refine wpAny_bind (wpAny_askSetting (wpAny_ite ?_))
  have fin : wpAny M A (call (.builtin id) ([.ref x] ++ args) >>= fun v => pure (some v)) Q E s := wpAny_bind (wpAny_mono h (fun v s' h' => wpAny_pure h') fun _ _ h' => h')
  split
  · exact wpAny_bind (wpAny_pure (wpAny_pure (by exact fin)))
  · exact wpAny_tryCatch (wpAny_bind (wpAny_pure (wpAny_pure (by exact fin))))
theorem cmpNe_K {Q : Value → Shared → Prop} (hu : A.units + 1 < cLine) (Fh : Fr h₀ L s.heap m) (X₀ : K.In h₀) (I : InstAt s.heap x ox C od) (hb : Looks (model prog w) s.heap (typeOf b) tb) (hn : notFirst K C tb = true)
    (hne : findIn K (.ref C) "__ne__" = some (some (.builtin "object.__ne__"))) (hs : findIn K (.ref C) "__eq__" = some (some (.ref f))) (hf : isFn K (.ref f) = true) (ho : subIn K (.ref C) (.type "object") = some true)
    (h : wpAny (model prog w) A.in1 (call (.ref f) [.ref x, b]) (fun v s' => ∃ r, v = .bool r ∧ Q (.bool (!r)) s') E s) : wpAny (model prog w) A (richCompare .NotEq (.ref x) b) Q E s := by
  have X := X₀.keeps Fh.keep
  have one : wpAny (model prog w) A (tryCompare (.ref x) "__ne__" b) (fun r s' => ∃ v, r = some v ∧ Q v s') E s := by
    simp only [tryCompare]
    refine wpAny_bind (ifBound_B X I hne ne_slot (wpAny_call (codeAny_call_builtin ne_slot.plain F.cmpEntry_ne
      (check_slot F.cmpKind_ne F.cmpSplit_ne ((I.type).andThen (looks_subIn X ho)) (F.cmpArgs_ne _ _)
        (objNe_K (A := A.in1) X I hs hf hu (wpAny_mono h (fun v s' hv => ?_) fun _ _ e => e))))))
    obtain ⟨r, rfl, hq⟩ := hv
    first | exact ⟨r, rfl, wpAny_pure ⟨_, rfl, hq⟩⟩ | exact ⟨r, rfl, wpAny_pure (wpAny_pure ⟨_, rfl, hq⟩)⟩ | exact ⟨r, rfl, ⟨_, rfl, hq⟩⟩
  unfold richCompare
  simp only [oneThing_ref]
  refine wpAny_holding (wpAny_bind (wpAny_cRoomFor (Nat.lt_of_succ_lt hu) ?_))
  refine wpAny_bind (I.type.here (wpAny_bind (hb.here ?_)))
  rw [cmpInfo_NotEq]
  dsimp only
  split
  · rename_i q
    have e : subIn K tb (.ref C) = some false := by
      rcases Bool.or_eq_true_iff.mp hn with e | e
      · rw [beq_iff_eq.mp e] at q; simp at q
      · exact beq_iff_eq.mp e
    refine wpAny_bind ((looks_subIn X e).here ?_)
    simp only [Bool.false_eq_true, if_false]
    refine wpAny_bind (wpAny_mono one (fun r s' z => ?_) fun _ _ e => e)
    obtain ⟨v, rfl, hq⟩ := z
    exact wpAny_pure hq
  · refine wpAny_bind (wpAny_pure ?_)
    simp only [Bool.false_eq_true, if_false]
    refine wpAny_bind (wpAny_mono one (fun r s' z => ?_) fun _ _ e => e)
    obtain ⟨v, rfl, hq⟩ := z
    exact wpAny_pure hq
end
end PySem.W
namespace OwO
open PySem PySem.Spec PyProof.Rows L2
section
variable {X : Cx} {K0 : PySem.W.Frag} {k : Nat} {C f : Addr} {fd : FuncData} {ps : List Str} {sp : Sp}
/-- o != y, by an own __eq__ and object's __ne__ -/
def rNeO (K : PySem.W.Frag) (C : Addr) (sp : Sp) : R2 := fun x y H Q => ∃ a dx fs t, x = .ref a ∧ H a = some (.ins C dx fs) ∧ TyX K H y t ∧ PySem.W.notFirst K C t = true ∧ sp [.ref a, y] H (fun v H' => ∃ b : Bool, v = .bl b ∧ Q (.bl (!b)) H') E0
theorem op_neO {m : Str} (hm : m = "__eq__") (S : Spc X.K C m f) (hne : PySem.W.findIn X.K (.ref C) "__ne__" = some (some (.builtin "object.__ne__"))) (ho : PySem.W.subIn X.K (.ref C) (.type "object") = some true)
    (F : FnOk X.prog X.w X.K X.mg X.base CX0 k f fd ps sp) (hb : Binds X.K fd ps []) (hr : Room (k + 1) X.A) (hu : X.A.units + 1 < cLine) (hK : X.K = K0) : OpR X (compareOp .NotEq) (rNeO K0 C sp) := by
  subst hm hK
  intro pins s σ H x y u v Q I rx ry h
  obtain ⟨a, dx, fs, t, rfl, ha, ty, hn, hsp⟩ := h
  obtain rfl : u = Value.ref a := rx
  obtain ⟨mA, J, _⟩ := ins_get I.hok ha
  obtain ⟨od, J, _⟩ := J.look
  obtain ⟨m, hF⟩ := I.fr
  obtain ⟨P, kx, hP, _⟩ := kit_of I ry ty
  have hl := F.len _ _ _ _ hsp
  show wpAny _ _ (richCompare .NotEq (.ref a) v) _ _ _
  refine PySem.W.cmpNe_K hu hF I.ok.mod.kin J (kx.ty _ _ I.kIn hP) hn hne S.at_ S.fn ho ?_
  refine wpAny_call (codeAny_mono (F.run X.A.in1 X.stack s H ⟨[.ref a, v], []⟩ [.ref a, v] [.ref a, y] _ E0 hr.in1 I.env0.in1 (by
    have z := hb s [.ref a, v] I.kIn (by simpa using hl)
    simpa using z) (.cons rfl (.cons ry .nil)) hsp) fun r s' hq => ?_)
  cases r with
  | error e => exact (show False from hq).elim
  | ok fl =>
    cases fl with
    | ret w =>
      obtain ⟨z, H', I', rv, b, rfl, q⟩ := I.after hq
      cases rv
      exact ⟨b, rfl, .bl (!b), H', I', rfl, q⟩
    | next => exact False.elim hq
    | brk => exact False.elim hq
    | cont => exact False.elim hq
end
end OwO
/-! t.index(n) for a tuple of ints -/
namespace OwO
open PySem PySem.Spec PyProof.Rows L2
theorem flat_intsT (ys : List Int) : (ys.map V.int).all flatV = true := by
  rw [List.all_map]
  exact List.all_eq_true.mpr fun _ _ => rfl
section
variable {X : Cx}
/-- t.index(n), the first place -/
theorem mt_tup_indexI (K : PySem.W.Frag) (hK : X.K = K) : MtR X "tuple.index" (fun x xs H Q => ∃ p, ∃ ys : List Int, ∃ z j, x = .ref p ∧ xs = [.int z] ∧ SqT K H p (ys.map V.int) ∧ ys[j]? = some z ∧ (∀ m, m < j → ys[m]? ≠ some z) ∧ Q (.int (j : Nat)) H) := by
  subst hK
  intro pins s σ H x xs v us Q I rx rs h
  obtain ⟨p, ys, z, j, rfl, rfl, hq, hy, hno, q⟩ := h
  cases rx
  obtain ⟨u, rfl, t, rfl⟩ := vals1 rs
  obtain ⟨its, r, pl, hz⟩ := I.tuple hq
  obtain ⟨⟨cls, dd, dt, sl⟩, ho, hc, n, hd⟩ := pl
  simp only at hc hd
  subst hc
  subst hd
  have hl : its.toArray.size = ys.length := by rw [List.size_toArray, ← r.length, List.length_map]
  have hj : j < its.toArray.size := by rw [hl]; exact (List.getElem?_eq_some_iff.mp hy).1
  have at' : ∀ (m : Nat) (hm : m < its.toArray.size), ∃ y t', ys[m]? = some y ∧ its.toArray[m] = Value.int y t' := fun m hm => by
    have hm' : m < ys.length := by rw [← hl]; exact hm
    obtain ⟨w, hw, t', hw'⟩ := r.get (i := m) (x := .int ys[m]) (by simp [hm'])
    refine ⟨ys[m], t', List.getElem?_eq_getElem hm', ?_⟩
    have e := (List.getElem?_eq_some_iff.mp hw).2
    rw [← hw', ← e]
    simp
  refine call_meets PySem.F.slot_tuple_index ⟨_, ho, rfl⟩ PySem.F.entry_tuple_index (PySem.F.args_tuple_index_2 _ _) (TI.tuple_indexAt p its.toArray n dd sl (.int z t) (eqU (.int z)) j hj ?_ ?_)
    ⟨ho, fun w hw => mem_eqAt (x := .int z) ⟨t, rfl⟩ rfl r (flat_intsT ys) w (by simpa using hw), ⟨.int (j : Nat), H, I.tok _, ⟨_, rfl⟩, q⟩⟩
  · obtain ⟨y, t', h1, h2⟩ := at' j hj
    rw [hy] at h1
    cases h1
    rw [h2]
    show (z == z) = true
    exact beq_self_eq_true z
  · intro m hm hmj
    obtain ⟨y, t', h1, h2⟩ := at' m hm
    rw [h2]
    show (y == z) = false
    rw [beq_eq_false_iff_ne]
    intro e
    subst e
    exact hno m hmj h1
end
end OwO
/-! sorted(t) for a tuple of ints -/
namespace PyProof.Rows
open PySem
section
variable {prog : Program} {w : World} {A : Around} {E : Value → Shared → Prop} {s : Shared}
theorem collect_tupleX {l : Addr} {vs : List Value} {o : Obj} {n : Nat} {Q : List Value → Shared → Prop} (ho : s.heap.get? l = some o) (hc : o.cls = .type "tuple") (hd : o.data = .seq vs.toArray n)
    (h : Q vs { s with heap := (s.heap.push (seqObj "list" #[] 0)).update s.heap.objs.size (Obj.mapSeq (· ++ vs.toArray)) }) (hsz : vs.length ≤ sizeLine) :
    wpAny (model prog w) A (collect (.ref l)) Q E s := by
  unfold collect
  refine wpAny_bind (wpAny_runValue (codeAny_builtin entry_proto_collect' ?_))
  refine wpAny_bind (wpAny_newList (wpAny_pure ⟨Code.quiet_builtin _ (by decide +kernel), codeAny_builtin entry_list_iadd' ?_⟩))
  show wpAny _ _ (Builtin.List.listExtendWith (.ref s.heap.objs.size) (.ref l) (.ref s.heap.objs.size)) _ _ { s with heap := s.heap.push (seqObj "list" #[] 0) }
  unfold Builtin.List.listExtendWith
  have ho' : (s.heap.push (seqObj "list" #[] 0)).get? l = some o := Heap.get?_push_of_some _ ho
  have ht : (Value.type "tuple" == Value.type "tuple") = true := by rfl
  refine wpAny_bind (wpAny_typeOf (T := "tuple") ⟨o, ho', hc⟩ ?_)
  rw [if_pos (by rw [ht]; simp)]
  refine wpAny_bind (listItems_at ho' hd ?_)
  refine wpAny_bind (listItems_at (xs := #[]) (n := 0) (Heap.get?_push_size _ rfl) rfl ?_)
  rw [if_neg (by simp)]
  refine wpAny_bind (listUpdate_at (xs := #[]) (n := 0) (Heap.get?_push_size _ rfl) rfl ?_ (Nat.zero_le _) (by show (#[] ++ vs.toArray).size ≤ sizeLine + 1; simp only [Array.size_append, List.size_toArray, List.length_nil]; omega))
  refine wpAny_pure (wpAny_bind (wpAny_load (get?_update_seq (Heap.get?_push_size _ rfl) _) ?_))
  show wpAny _ _ (pure ((#[] : Array Value) ++ vs.toArray).toList) Q E _
  rw [show ((#[] : Array Value) ++ vs.toArray).toList = vs by simp]
  exact wpAny_pure h
theorem sorted_tupX {l : Addr} {vs : List Value} {o : Obj} {n : Nat} {ns : List Int} {Q : Value → Shared → Prop} (ho : s.heap.get? l = some o) (hc : o.cls = .type "tuple") (hd : o.data = .seq vs.toArray n) (hI : IntsAre vs ns) (h64 : vs.length < 64)
    (h : ∀ (out : Array Value) (ns' : List Int), IntsAre out.toList ns' → ns'.Perm ns → ns'.Pairwise (· ≤ ·) → Q (.ref (s.heap.objs.size + 1)) { s with heap := sortedAll s.heap vs out }) :
    wpAny (model prog w) A (call (.builtin "sorted") [.ref l]) Q E s := by
  have big : vs.length ≤ sizeLine := by rw [sizeLine_eq]; omega
  refine Calls.call_function_entry kind_sorted plain_sorted entry_sorted (args_sorted1 _) ?_
  unfold Builtin.«sorted»
  refine wpAny_bind (m := checkCount "sorted" 1 1 _) (wpAny_pure (wpAny_bind (collect_tupleX ho hc hd (wpAny_bind (wpAny_newList ?_)) big)))
  have e1 : ((s.heap.push (seqObj "list" #[] 0)).update s.heap.objs.size (Obj.mapSeq (· ++ vs.toArray))).objs.size = s.heap.objs.size + 1 := by
    rw [Heap.size_update, size_push']
  have e2 : (((s.heap.push (seqObj "list" #[] 0)).update s.heap.objs.size (Obj.mapSeq (· ++ vs.toArray))).push (seqObj "list" vs.toArray 0)).get? (s.heap.objs.size + 1) = some (seqObj "list" vs.toArray 0) := by
    rw [← e1]; exact Heap.get?_push_size _ rfl
  show wpAny _ _ _ _ _ { s with heap := ((s.heap.push (seqObj "list" #[] 0)).update s.heap.objs.size (Obj.mapSeq (· ++ vs.toArray))).push (seqObj "list" vs.toArray 0) }
  rw [e1]
  exact wpAny_bind (wpAny_holding (wpAny_call_entry slot_list_sort ⟨_, e2, rfl⟩ entry_list_sort (list_sort_tree e2 hI h64 fun out ns' a1 a2 a3 => ⟨_, rfl, wpAny_pure ⟨_, rfl, h out ns' a1 a2 a3⟩⟩) (args_list_sort _)))
end
end PyProof.Rows
namespace OwO
open PySem PySem.Spec PyProof.Rows L2
/-- sorted(t) for a tuple of ints -/
def rSortedT (K : PySem.W.Frag) : List V → Hp → VK → Prop := fun vs H Q => ∃ (a : Addr) (ns : List Int), vs = [V.ref a] ∧ SqT K H a (ns.map V.int) ∧ ns.length < 64 ∧
  ∀ (ns' : List Int) (p : Addr), ns'.Perm ns → ns'.Pairwise (· ≤ ·) → H p = none → Q (.ref p) (upd H p (.lst (ns'.map V.int)))
theorem cr_sortedT {X : Cx} : CallR X (.builtin "sorted") (rSortedT X.K) := by
  intro pins s σ H vs us Q I r h
  obtain ⟨a, ns, rfl, hs, h64, q⟩ := h
  obtain ⟨its, rv, pl, _⟩ := I.tuple hs
  obtain ⟨⟨cls, dd, dt, sl⟩, ho, hc, n, hd⟩ := pl
  rw [Vals.ref1 r]
  have hi := rv.ints
  refine PyProof.Rows.sorted_tupX ho hc hd hi (by rw [hi.length]; exact h64) fun out ns' h1 h2 h3 => ?_
  obtain ⟨ep, he'⟩ := PyProof.Rows.sortedAll_at s.heap its out
  have hlen : (ns'.map V.int).length ≤ sizeLine := by rw [List.length_map, h2.length_eq]; exact small64 h64
  exact ⟨.ref _, upd H (s.heap.objs.size + 1) (.lst (ns'.map V.int)), I.laid (t' := s.toks) (fun _ _ => PyProof.Rows.sortedAll_old) (Nat.le_succ _) ⟨hlen, out.toList, ep, vals_of_ints h1, he'⟩, rfl, q ns' _ h2 h3 (I.hok.fresh (Nat.le_succ _))⟩
end OwO
/-! is_order (of any value that the law asks), Scheme.turned -/
namespace My
open PySem PySem.Spec PyProof.Rows L2
theorem op_eqDK {X : Cx} (K : PySem.W.Frag) (hK : X.K = K) (hu : X.A.units + 64 < cLine) : OpR X (compareOp .Eq) (rEqD K) := by
  subst hK
  exact op_eqD hu
/-- whether three roles are an order: a permutation of 0, 1, 2 -/
def isOrd (ns : List Int) : Bool := decide (ns.Perm [0, 1, 2])
theorem sorted012 {ns ms : List Int} (p : ns.Perm ms) (s : ns.Pairwise (· ≤ ·)) : ns = [0, 1, 2] ↔ ms.Perm [0, 1, 2] := by
  constructor
  · rintro rfl
    exact p.symm
  · intro h
    have q : ns.Perm [0, 1, 2] := p.trans h
    have l := q.length_eq
    match ns, l, s, q with
    | [a, b, c], _, s, q =>
      have hp := List.pairwise_cons.mp s
      have hq := List.pairwise_cons.mp hp.2
      have ab := hp.1 b (by simp)
      have bc := hq.1 c (by simp)
      have ma : ∀ x : Int, x ∈ [a, b, c] ↔ x ∈ [0, 1, 2] := fun x => q.mem_iff
      have m0 := (ma 0).mpr (by simp)
      have m1 := (ma 1).mpr (by simp)
      have m2 := (ma 2).mpr (by simp)
      simp only [List.mem_cons, List.not_mem_nil, or_false] at m0 m1 m2
      have : a = 0 ∧ b = 1 ∧ c = 2 := by omega
      obtain ⟨rfl, rfl, rfl⟩ := this
      rfl
theorem shaped_ints (xs : Row) : SeqAt.shaped (.list (xs.map PyData.int)) = true := by
  show (PyData.canLay0 (.list (xs.map PyData.int)) && decide (PyData.depth (.list (xs.map PyData.int)) ≤ 64)) = true
  rw [Bool.and_eq_true]
  refine ⟨by simp only [PyData.canLay0]; exact lay_ints xs, decide_eq_true ?_⟩
  simp only [PyData.depth, dep_ints]
  decide
theorem eqv_intsA : ∀ xs ys : Row, PyData.eqvAll (xs.map PyData.int) (ys.map PyData.int) = decide (xs = ys)
  | [], [] => by simp [PyData.eqvAll]
  | [], _ :: _ => by simp [PyData.eqvAll]
  | _ :: _, [] => by simp [PyData.eqvAll]
  | x :: xs, y :: ys => by
    have ih := eqv_intsA xs ys
    simp only [List.map_cons, PyData.eqvAll, PyData.eqv, ih]
    by_cases h : x = y
    · subst h
      simp
    · simp [h]
theorem eqv_intsL (xs ys : Row) : PyData.eqv (.list (xs.map PyData.int)) (.list (ys.map PyData.int)) = decide (xs = ys) := by
  rw [← eqv_intsA]
  simp [PyData.eqv]
theorem Rd.sm {H H' : Hp} {a : Addr} {u : HO} (h : Rd H a u) (s : Same H H') : Rd H' a u := by
  rcases h with h | ⟨o, h⟩
  · exact .inl (s _ _ h)
  · exact .inr ⟨o, s _ _ h⟩
theorem Rd.ty {K : PySem.W.Frag} {H : Hp} {a : Addr} {xs : List V} (h : Rd H a (.tup xs)) : TyX K H (.ref a) (.type "tuple") := by
  rcases h with h | ⟨o, h⟩
  · exact (Typ.tup h).tyx
  · exact .fTuple h
def okRole (x : V) : Bool := match x with | .int i => decide (0 ≤ i) && decide (i ≤ 2) | _ => false
theorem ints_of : ∀ {xs : List V}, xs.all okRole = true → ∃ ns : List Int, xs = ns.map V.int
  | [], _ => ⟨[], rfl⟩
  | x :: xs, h => by
    rw [List.all_cons, Bool.and_eq_true] at h
    obtain ⟨ns, e⟩ := ints_of h.2
    cases x with
    | int i => exact ⟨i :: ns, by rw [e]; rfl⟩
    | _ => exact absurd h.1 (by simp [okRole])
def ordV (xs : List V) : Bool := xs.all okRole && isOrd (xs.map fun x => match x with | .int i => i | _ => 0)
def spOrder : Sp := fun vs H Q _ => ∃ (v : V), vs = [v] ∧ ((∃ t : String, Typ H v t ∧ t ≠ "tuple" ∧ ∀ H', Same H H' → Q (.bl false) H') ∨
  ∃ (a : Addr) (xs : List V), v = .ref a ∧ Rd H a (.tup xs) ∧ xs.length ≤ 10 ∧ (∀ x ∈ xs, ∃ t, ∀ H', Same H H' → Typ H' x t) ∧ ∀ H', Same H H' → Q (.bl (ordV xs)) H')
section
variable {P : Program} {w : World} {K : PySem.W.Frag} {mg : Str → Option Value} {base : Heap} {C CE CP CT CO : Addr}
theorem ok_is_order (F : Fn K mg "is_order" s_is_order ["value"]) (B : Blt mg) (G_is_between : Has P w K mg base 2 "is_between" ["value", "least", "most"] spBetween) : Has P w K mg base 3 "is_order" ["value"] spOrder := by
  refine F.has sc_is_order (fun vs H Q E h => ?_) (fun f cdv A outer s H vs Q E hr h => ?_)
  · obtain ⟨v, rfl, _⟩ := h
    rfl
  obtain ⟨v, rfl, h⟩ := h
  refine ⟨_, (pss_cons (ps_if (PW.pt (pw_or (pt_not (pt_val (pe_callB call_isi (by rfl) B.isinstance bb_isinstance (pa_cons (pv 0) (pa_cons (pe_bltn (v := .ty "tuple") (by rfl) B.tuple bb_tuple rfl) pa_nil))))) (pw_or1 (pt_not (pt_val (pe_callB (cr_all rfl) (by rfl) B.all bb_all (pa_cons (pe_lc (own := [("role", 1)]) (g := gName 1) (tt := tYes) (by rfl) sc_is_order.nd (pi_tup (pv 0)) (blkOk_by (own := [("role", 1)]) (N := N_is_order) (sc := defScope s_is_order) (by decide +kernel)) (fun _ _ _ _ _ => (pg_name (i := 1) sc_is_order.nd rfl (Or.inl rfl))) (fun _ _ _ _ _ => pts_nil) (fun _ _ _ _ _ => (pe_own G_is_between (hr.mono (by decide)) (by rfl) (pa_cons (pv 1) (pa_cons pe_int (pa_cons pe_int pa_nil)))))) pa_nil)))))))
        (pss_one (ps_ret pe_bl))
        pss_nil)
      (pss_one (ps_ret (pe_cmpR (op_eqDK K rfl (un64 hr)) (pe_callB OwO.cr_sortedT (by rfl) B.sorted bb_sorted (pa_cons (pv 0) pa_nil)) (pe_lst (pa_cons pe_int (pa_cons pe_int (pa_cons pe_int pa_nil)))) (nomark _))))), ?_⟩
  rcases h with ⟨t, ht, hn, q⟩ | ⟨a, xs, rfl, ha, hl, hty, q⟩
  · have ty := ht.tyx (K := K)
    cases ht with
    | tup g => exact absurd rfl hn
    | _ => exact ⟨_, rfl, _, .ty "tuple", _, .type "tuple", false, rfl, .ty _, ty, kit_ty (by decide +kernel), _, rfl, iteT (q _ (Same.refl _))⟩
  · refine ⟨_, rfl, _, .ty "tuple", _, .type "tuple", true, rfl, .ty _, (Rd.ty ha), kit_ty (by decide +kernel), _, rfl, iteF ?_⟩
    refine ⟨_, rfl, a, rfl, ⟨_, Or.inl ha⟩, fun D hD => ?_⟩
    refine lc_it (walk_tup (xs := xs)) (fun i H' => Same H H' ∧ H' D = some (.lst (((xs.take i).map okRole).map V.bl))) ⟨same_upd hD, upd_same⟩ (fun i H' _ e => Or.inl (Rd.sm ha e.1)) ?_ ?_
    · rintro i v Ha Hb hi ⟨sa, ea⟩ ⟨rfl, hv⟩
      obtain ⟨t, ht⟩ := hty v (List.mem_of_getElem? hv)
      refine ⟨rfl, tYes_ok ⟨_, rfl, v, t, 0, 2, rfl, ht _ sa, _, ea, small1000 (by simp; omega), fun c o hc => ?_, ?_⟩⟩
      · rw [upd_ne (ne_of_none hc hD)]
        exact sa _ _ hc
      · rw [upd_same, take_snoc hv, List.map_append, List.map_append]
        rfl
    · rintro H2 ⟨s2, e2⟩
      rw [List.take_length] at e2
      refine ⟨D, _, rfl, SqL.of e2, ?_⟩
      have ea : (xs.map okRole).all id = xs.all okRole := by rw [List.all_map]; rfl
      rw [ea]
      have q2 := fun H' (s : Same H2 H') => q H' (s2.trans s)
      unfold ordV at q2
      by_cases hx : xs.all okRole = true
      · rw [hx]
        rw [hx, Bool.true_and] at q2
        obtain ⟨ns, rfl⟩ := ints_of hx
        refine ⟨_, rfl, iteF ?_⟩
        refine ⟨_, rfl, a, ns, rfl, Or.inl (Rd.sm ha s2), by rw [List.length_map] at hl; omega, fun ns' p hp hs np => ⟨by show 3 ≤ sizeLine; decide, fun l nl => ?_⟩⟩
        have k1 := same_upd (o := .lst (ns'.map V.int)) np
        have k2 := same_upd (o := .lst [.int 0, .int 1, .int 2]) nl
        refine ⟨.list (ns'.map PyData.int), .list ([0, 1, 2].map PyData.int), .lst (SqL.of (k2 _ _ upd_same)) (dp_ints _), .lst (SqL.of upd_same) (dp_ints [0, 1, 2]), shaped_ints ns', shaped_ints [0, 1, 2], ?_⟩
        rw [eqv_intsL]
        have e := sorted012 hp hs
        have q3 := q2 _ (k1.trans k2)
        rw [List.map_map] at q3
        have em : ns.map ((fun x : V => match x with | .int i => i | _ => 0) ∘ V.int) = ns := by
          conv => rhs; rw [← List.map_id ns]
          rfl
        rw [em] at q3
        have ed : decide (ns' = [0, 1, 2]) = isOrd ns := by
          unfold isOrd
          rw [decide_eq_decide]
          exact e
        rw [ed]
        exact q3
      · have hx : xs.all okRole = false := by simpa using hx
        rw [hx]
        rw [hx, Bool.false_and] at q2
        exact ⟨_, rfl, iteT (q2 _ (Same.refl _))⟩
end
end My
/-! rows that are tuples; a scheme of such products; Scheme.turned -/
namespace My
open PySem PySem.Spec PyProof.Rows L2
structure HasMX (P : Program) (w : World) (K : PySem.W.Frag) (mg : Str → Option Value) (base : Heap) (k : Nat) (C : Addr) (m : Str) (ps : List Str) (sp : Sp) : Prop where
  ex : ∃ (f : Addr) (fd : FuncData), FnOk P w K mg base (L2.CX P w) k f fd ps sp ∧ Meth K C m f ∧ Binds K fd ps []
section
variable {X : Cx} {k : Nat} {m : Str} {ps : List Str} {sp : Sp} {pos apos : Pos} {o e : Expr} {es : List Expr} {ta : TE} {t : TA} {C : Addr} {E : XK}
/-- a method that may raise, where it raises nothing -/
theorem pe_ownMX {pl : Sem Bool} (c : Cls X.K C) (h : HasMX X.prog X.w X.K X.mg X.base k C m ps sp) (hr : Room k X.A) (he : PE X o ta) (ha : PA X (e :: es) t)
    (hst : starEach (e :: es) X.env = (false, eval e X.env) :: starEach es X.env := by rfl) (hpl : (backTo pos (starEach es X.env)).any (·.1) = false := by rfl)
    (ht : eval (.Call (.Attribute o m apos) (e :: es) [] pos) X.env = (do
      let ov ← eval o X.env
      standAt apos.atName
      let (f, first) ← holding [ov] (getMethod ov m pl)
      callWith pos f first (backTo pos (starEach (e :: es) X.env)) (backToKw pos (keywordEach [] X.env))) := by rfl) :
    PE X (.Call (.Attribute o m apos) (e :: es) [] pos) (tMeth C m sp [] E0 ta t) := by
  obtain ⟨f, fd, F, M, b⟩ := h.ex
  exact pe_meth he c M F hr b .nil passL ha hst hpl ht
theorem pe_ownME {pl : Sem Bool} (c : Cls X.K C) (h : HasMX X.prog X.w X.K X.mg X.base k C m ps sp) (tk : Takes X (fun cls d _ H => E cls d H)) (hr : Room k X.A) (he : PE X o ta) (ha : PA X (e :: es) t)
    (hst : starEach (e :: es) X.env = (false, eval e X.env) :: starEach es X.env := by rfl) (hpl : (backTo pos (starEach es X.env)).any (·.1) = false := by rfl)
    (ht : eval (.Call (.Attribute o m apos) (e :: es) [] pos) X.env = (do
      let ov ← eval o X.env
      standAt apos.atName
      let (f, first) ← holding [ov] (getMethod ov m pl)
      callWith pos f first (backTo pos (starEach (e :: es) X.env)) (backToKw pos (keywordEach [] X.env))) := by rfl) :
    PE X (.Call (.Attribute o m apos) (e :: es) [] pos) (tMeth C m sp [] E ta t) := by
  obtain ⟨f, fd, F, M, b⟩ := h.ex
  exact pe_meth he c M F hr b .nil (passes_call tk fun _ _ _ _ h => h) ha hst hpl ht
end
def spListOfU : Sp := fun vs H Q _ => ∃ (a : Addr) (xs : List V) (n : Int), vs = [.ref a, .int n] ∧ H a = some (.tup xs) ∧ ∀ H', Same H H' → Q (.bl (decide ((xs.length : Int) = n))) H'
def spRowU : Sp := fun vs H Q _ => ∃ (a : Addr) (xs : Row), vs = [.ref a, .int (xs.length : Nat)] ∧ RowT H a xs ∧ xs.length ≤ 1000 ∧ ∀ H', Same H H' → Q (.bl true) H'
def spProductU : Sp := fun vs H Q _ => ∃ (a S : Addr) (sz : Siz) (t : Trip), vs = [.ref a, .ref S] ∧ TripT H a t ∧ SizAt H S sz ∧ Fits sz t ∧ Bnd sz ∧ ∀ H', Same H H' → Q (.bl true) H'
def GivenT (H : Hp) (p : Addr) (tr : List Trip) : Prop := ∃ ps, H p = some (.lst (ps.map V.ref)) ∧ Paired (TripT H) ps tr
theorem GivenT.same {H H' : Hp} {p : Addr} {tr : List Trip} (h : GivenT H p tr) (s : Same H H') : GivenT H' p tr := by
  obtain ⟨ps, h1, h2⟩ := h
  exact ⟨ps, s _ _ h1, pmono (fun a t e => e.same s) h2⟩
def spInitU (C : Addr) : Sp := fun vs H Q _ => ∃ (a dx S p : Addr) (sz : Siz) (tr : List Trip), vs = [.ref a, .ref S, .ref p] ∧ H a = some (.ins C dx []) ∧ SizAt H S sz ∧ GivenT H p tr ∧ SmallS sz tr ∧ ∀ H', Kp a H H' → SchemeAt C H' a sz tr → Q .non H'
theorem init_atU {C : Addr} {H : Hp} {Qx : Hp → Prop} {S p : Addr} {sz : Siz} {tr : List Trip} {x dx : Addr} {E : XK} (hx : H x = none) (hdx : H dx = none) (ne : dx ≠ x) (hS : SizAt H S sz) (hp : GivenT H p tr) (hm : SmallS sz tr) (q : ∀ H' : Hp, Same H H' → SchemeAt C H' x sz tr → Qx H') :
    spInitU C [.ref x, .ref S, .ref p] (upd (upd H dx (.own x)) x (.ins C dx [])) (fun v H2 => v = .non ∧ Qx H2) E := by
  have s1 := made_same (C := C) hx hdx
  exact ⟨x, dx, S, p, sz, tr, rfl, upd_same, s1 _ _ hS, hp.same s1, hm, fun H' kp A => ⟨rfl, q H' (fun b u e => kp b u (ne_of_none e hx) (s1 b u e)) A⟩⟩
/-! ### roles exchanged -/
def rol {α : Type} (t : α × α × α) (k : Nat) : α := match k with | 0 => t.1 | 1 => t.2.1 | _ => t.2.2
def turn3 {α : Type} (x y z : Nat) (t : α × α × α) : α × α × α := (rol t x, rol t y, rol t z)
def OrdBad (H : Hp) (v : V) : Prop := (∃ t : String, Typ H v t ∧ t ≠ "tuple") ∨ ∃ (a : Addr) (xs : List V), v = .ref a ∧ H a = some (.tup xs) ∧ xs.length ≤ 10 ∧ (∀ x ∈ xs, ∃ t, ∀ H' : Hp, Typ H' x t) ∧ ordV xs = false
structure Ord3 (x y z : Nat) : Prop where
  hx : x < 3
  hy : y < 3
  hz : z < 3
  xy : x ≠ y
  yz : y ≠ z
  xz : x ≠ z
theorem Ord3.isOrd {x y z : Nat} (h : Ord3 x y z) : ordV [.int x, .int y, .int z] = true := by
  have h1 := h.hx
  have h2 := h.hy
  have h3 := h.hz
  have h4 := h.xy
  have h5 := h.yz
  have h6 := h.xz
  have e1 : x = 0 ∨ x = 1 ∨ x = 2 := by omega
  have e2 : y = 0 ∨ y = 1 ∨ y = 2 := by omega
  have e3 : z = 0 ∨ z = 1 ∨ z = 2 := by omega
  rcases e1 with rfl | rfl | rfl <;> rcases e2 with rfl | rfl | rfl <;> rcases e3 with rfl | rfl | rfl <;> first | decide | omega
def spTurned (C CO : Addr) : Sp := fun vs H Q E => ∃ (a : Addr) (sz : Siz) (tr : List Trip) (v : V), vs = [.ref a, v] ∧ SchemeAt C H a sz tr ∧
  ((∃ (O : Addr) (x y z : Nat), v = .ref O ∧ Rd H O (.tup [.int x, .int y, .int z]) ∧ Ord3 x y z ∧ ∀ (H' : Hp) (N : Addr), Same H H' → SchemeAt C H' N (turn3 x y z sz) (tr.map (turn3 x y z)) → Q (.ref N) H') ∨
   (OrdBad H v ∧ ∀ H' d, Same H H' → H' d = none → E (.ref CO) (some d) (upd H' d (.xd (errD "given" "InvalidOrder" v)))))
theorem rol_cases {α : Type} {P : α → Prop} {t : α × α × α} {k : Nat} (h1 : P t.1) (h2 : P t.2.1) (h3 : P t.2.2) : P (rol t k) := by
  unfold rol
  split
  · exact h1
  · exact h2
  · exact h3
theorem rol_at {α : Type} {t : α × α × α} {k : Nat} (h : k < 3) : [t.1, t.2.1, t.2.2][k]? = some (rol t k) := by
  match k, h with
  | 0, _ => rfl
  | 1, _ => rfl
  | 2, _ => rfl
theorem turn_fits {sz : Siz} {t : Trip} {x y z : Nat} (h : Fits sz t) : Fits (turn3 x y z sz) (turn3 x y z t) := by
  obtain ⟨f1, f2, f3⟩ := h
  have one : ∀ k, (rol t k).length = rol sz k := fun k => by
    unfold rol
    split
    · exact f1
    · exact f2
    · exact f3
  exact ⟨one x, one y, one z⟩
theorem turn_small {sz : Siz} {tr : List Trip} {x y z : Nat} (h : SmallS sz tr) : SmallS (turn3 x y z sz) (tr.map (turn3 x y z)) := by
  have lo : ∀ k, 1 ≤ rol sz k := fun k => rol_cases (P := fun n => 1 ≤ n) h.l1 h.r1 h.s1
  have hi : ∀ k, rol sz k ≤ 36 := fun k => rol_cases (P := fun n => n ≤ 36) h.l2 h.r2 h.s2
  refine ⟨fun t ht => ?_, lo _, hi _, lo _, hi _, lo _, hi _, by rw [List.length_map]; exact h.len⟩
  obtain ⟨u, hu, rfl⟩ := List.mem_map.mp ht
  exact turn_fits (h.fits u hu)
theorem siz_at {sz : Siz} {k : Nat} (h : k < 3) : [V.int sz.1, .int sz.2.1, .int sz.2.2][k]? = some (.int (rol sz k : Nat)) := by
  match k, h with
  | 0, _ => rfl
  | 1, _ => rfl
  | 2, _ => rfl
section
variable {P : Program} {w : World} {K : PySem.W.Frag} {mg : Str → Option Value} {base : Heap} {C CE CP CT CO fO xO dO fP xP dP fT xT dT : Addr}
theorem ok_is_list_ofU (F : Fn K mg "is_list_of" s_is_list_of ["value", "size"]) (B : Blt mg) : Has P w K mg base 1 "is_list_of" ["value", "size"] spListOfU := by
  refine F.has sc_is_list_of (fun vs H Q E h => ?_) (fun f cdv A outer s H vs Q E hr h => ?_)
  · obtain ⟨a, n, g, rfl, _⟩ := h
    rfl
  obtain ⟨a, xs, n, rfl, ha, q⟩ := h
  refine ⟨_, (pss_one (ps_ret (pe_and (pe_callB call_isiT (by rfl) B.isinstance bb_isinstance (pa_cons (pv 0) (pa_cons (pe_tup (pa_cons (pe_bltn (v := .ty "list") (by rfl) B.list bb_list rfl) (pa_cons (pe_bltn (v := .ty "tuple") (by rfl) B.tuple bb_tuple rfl) pa_nil))) pa_nil))) (pe_one (pe_cmpR op_eq (pe_callB call_len (by rfl) B.len bb_len (pa_cons (pv 0) pa_nil)) (pv 1) (nomark _)))))), ?_⟩
  refine ⟨_, rfl, by show 2 ≤ sizeLine; decide, fun t ht => ?_⟩
  have s1 : Same H (upd H t (.tup [.ty "list", .ty "tuple"])) := same_upd ht
  have kit : PySem.W.kitAny K (.type "tuple") [.type "list", .type "tuple"] = some true := kitAny_cons (b := false) (kit_ty (by decide +kernel)) (fun _ => kitAny_cons (b := true) (kit_ty (by decide +kernel)) (fun z => by cases z) (fun _ => rfl)) (fun z => by cases z)
  refine ⟨.ref a, t, twoT, .type "tuple", _, true, rfl, upd_same, isi_pr, (Typ.tup (s1 _ _ ha)).tyx, kit, _, rfl, iteT ?_⟩
  refine ⟨_, rfl, .ref a, xs.length, rfl, .inr ⟨_, SqT.of (s1 _ _ ha), rfl⟩, _, rfl, rfl, ?_⟩
  rw [decI]
  exact q _ s1
theorem ok_is_rowU (F : Fn K mg "is_row" s_is_row ["value", "size"]) (B : Blt mg) (G_is_list_of : Has P w K mg base 1 "is_list_of" ["value", "size"] spListOfU) (G_is_int : Has P w K mg base 1 "is_int" ["value"] spIsInt) : Has P w K mg base 2 "is_row" ["value", "size"] spRowU := by
  refine F.has sc_is_row (fun vs H Q E h => ?_) (fun f cdv A outer s H vs Q E hr h => ?_)
  · obtain ⟨a, n, rfl, _⟩ := h
    rfl
  obtain ⟨a, xs, rfl, ha, hn, q⟩ := h
  have ha : H a = some (.tup (xs.map V.int)) := ha
  refine ⟨_, (pss_one (ps_ret (pe_and (pe_own G_is_list_of (hr.mono (by decide)) (by rfl) (pa_cons (pv 0) (pa_cons (pv 1) pa_nil))) (pe_one (pe_callB (cr_all rfl) (by rfl) B.all bb_all (pa_cons (pe_lc (own := [("entry", 2)]) (g := gName 2) (tt := tYes) (by rfl) sc_is_row.nd (pi_tup (pv 0)) (blkOk_by (own := [("entry", 2)]) (N := N_is_row) (sc := defScope s_is_row) (by decide +kernel)) (fun _ _ _ _ _ => (pg_name (i := 2) sc_is_row.nd rfl (Or.inl rfl))) (fun _ _ _ _ _ => pts_nil) (fun _ _ _ _ _ => (pe_own G_is_int (hr.mono (by decide)) (by rfl) (pa_cons (pv 2) pa_nil)))) pa_nil)))))), ?_⟩
  refine ⟨_, rfl, _, rfl, a, _, _, rfl, ha, fun H1 s1 => ⟨_, rfl, ?_⟩⟩
  rw [List.length_map, decide_eq_true rfl]
  refine iteT ⟨_, rfl, a, rfl, ⟨_, SqT.of (s1 _ _ ha)⟩, fun D hD => ?_⟩
  refine lc_it (walk_tup (xs := xs.map V.int)) (fun i H' => Same H1 H' ∧ H' D = some (.lst ((List.replicate i true).map V.bl))) ⟨same_upd hD, upd_same⟩ (fun i H' _ e => SqT.of (e.1 _ _ (s1 _ _ ha))) ?_ ?_
  · rintro i v Ha Hb hi ⟨sa, ea⟩ ⟨rfl, hv⟩
    obtain ⟨x, _, rfl⟩ := at_map hv
    have hi : i < xs.length := by simpa using hi
    refine ⟨rfl, tYes_ok ⟨_, rfl, .int x, "int", rfl, .int _, _, ea, small1000 (by simp; omega), fun c o hc => ?_, ?_⟩⟩
    · rw [upd_ne (ne_of_none hc hD)]
      exact sa _ _ hc
    · rw [upd_same, List.replicate_succ']
      simp [isIntV]
  · rintro H2 ⟨s2, e2⟩
    refine ⟨D, _, rfl, SqL.of e2, ?_⟩
    rw [show (List.replicate (xs.map V.int).length true).all id = true by simp]
    exact q _ (s1.trans s2)
theorem ok_is_productU (F : Fn K mg "is_product" s_is_product ["value", "sizes"]) (B : Blt mg) (G_is_row : Has P w K mg base 2 "is_row" ["value", "size"] spRowU) : Has P w K mg base 3 "is_product" ["value", "sizes"] spProductU := by
  refine F.has sc_is_product (fun vs H Q E h => ?_) (fun f cdv A outer s H vs Q E hr h => ?_)
  · obtain ⟨a, S, n, t, rfl, _⟩ := h
    rfl
  obtain ⟨a, S, ⟨l, r, u⟩, ⟨tx, ty, tz⟩, rfl, ⟨x, y, z, ha, hx, hy, hz⟩, hS, ⟨f1, f2, f3⟩, bd, q⟩ := h
  have b1 : l ≤ 36 := bd.l2
  have b2 : r ≤ 36 := bd.r2
  have b3 : u ≤ 36 := bd.s2
  simp only at f1 f2 f3 hx hy hz b1 b2 b3
  have hS : H S = some (.tup [.int l, .int r, .int u]) := hS
  refine ⟨_, (pss_cons (ps_if (PW.pt (pw_or (pt_not (pt_val (pe_callB call_isi (by rfl) B.isinstance bb_isinstance (pa_cons (pv 0) (pa_cons (pe_bltn (v := .ty "tuple") (by rfl) B.tuple bb_tuple rfl) pa_nil))))) (pw_or1 (pt_cmpR op_ne (pe_callB call_len (by rfl) B.len bb_len (pa_cons (pv 0) pa_nil)) pe_int (nomark _)))))
        (pss_one (ps_ret pe_bl))
        pss_nil)
      (pss_one (ps_ret (pe_callB (cr_all rfl) (by rfl) B.all bb_all (pa_cons (pe_lc (own := [("row", 2), ("size", 3)]) (g := gTup K 2 (gCons (gName 2) (gCons (gName 3) gNil))) (tt := tYes) (by rfl) sc_is_product.nd (RZ.pi_zipA (by rfl) B.zip (pa_cons (pv 0) (pa_cons (pv 1) pa_nil))) (blkOk_by (own := [("row", 2), ("size", 3)]) (N := N_is_product) (sc := defScope s_is_product) (by decide +kernel)) (fun _ _ _ _ _ => (pg_tup rfl (pgs_cons (pg_name (i := 2) sc_is_product.nd rfl (Or.inl rfl)) (pgs_cons (pg_name (i := 3) sc_is_product.nd rfl (Or.inl rfl)) pgs_nil)))) (fun _ _ _ _ _ => pts_nil) (fun _ _ _ _ _ => (pe_own G_is_row (hr.mono (by decide)) (by rfl) (pa_cons (pv 2) (pa_cons (pv 3) pa_nil))))) pa_nil))))), ?_⟩
  refine ⟨_, rfl, _, .ty "tuple", _, .type "tuple", true, rfl, .ty _, (Typ.tup ha).tyx, kit_ty (by decide +kernel), _, rfl, iteF ?_⟩
  refine ⟨_, rfl, .ref a, 3, rfl, .inr ⟨_, SqT.of ha, rfl⟩, rfl, _, rfl, ite_no (by decide) ?_⟩
  refine ⟨_, rfl, _, rfl, a, S, _, _, rfl, .inr ⟨SqT.of ha, SqT.of hS, fun D hD => ?_⟩⟩
  refine lc_it (walk_zipT (K := K) (xs := [.ref x, .ref y, .ref z]) (ys := [.int l, .int r, .int u]) (n := 3) rfl) (fun i H' => Same H H' ∧ H' D = some (.lst ((List.replicate i true).map V.bl))) ⟨same_upd hD, upd_same⟩ (fun i H' _ e => ⟨SqT.of (e.1 _ _ ha), SqT.of (e.1 _ _ hS)⟩) ?_ ?_
  · rintro i v Ha Hb hi ⟨sa, ea⟩ ⟨T, v1, v2, rfl, hT, rfl, e1, e2⟩
    have e1 : [V.ref x, .ref y, .ref z][i]? = some v1 := e1
    have e2 : [V.int l, .int r, .int u][i]? = some v2 := e2
    obtain ⟨c, rx, rfl, rfl, hc, hl⟩ : ∃ (c : Addr) (rx : Row), v1 = .ref c ∧ v2 = .int (rx.length : Nat) ∧ RowT H c rx ∧ rx.length ≤ 36 := by
      match i, e1, e2 with
      | 0, e1, e2 => cases e1; cases e2; exact ⟨x, tx, rfl, by rw [f1], hx, by omega⟩
      | 1, e1, e2 => cases e1; cases e2; exact ⟨y, ty, rfl, by rw [f2], hy, by omega⟩
      | 2, e1, e2 => cases e1; cases e2; exact ⟨z, tz, rfl, by rw [f3], hz, by omega⟩
      | j + 3, _, _ => omega
    have sT := same_upd (o := .tup [.ref c, .int (rx.length : Nat)]) hT
    refine ⟨T, [.ref c, .int (rx.length : Nat)], rfl, SqT.of upd_same, rfl, .ref c, [.int (rx.length : Nat)], rfl, .int (rx.length : Nat), [], rfl, rfl, rfl, tYes_ok ?_⟩
    refine ⟨_, rfl, _, rfl, c, rx, rfl, sT _ _ (sa _ _ hc), by omega, fun H3 s3 => ⟨_, s3 _ _ (sT _ _ ea), small1000 (by simp; omega), fun d o hd => ?_, ?_⟩⟩
    · rw [upd_ne (ne_of_none hd hD)]
      exact s3 _ _ (sT _ _ (sa _ _ hd))
    · rw [upd_same, List.replicate_succ']
      simp
  · rintro H2 ⟨s2, e2⟩
    exact ⟨D, _, rfl, SqL.of e2, q _ s2⟩
theorem TripT.kp {H H' : Hp} {a x C dx : Addr} {fs : List (Str × V)} {t : Trip} (h : TripT H x t) (ha : H a = some (.ins C dx fs)) (k : Kp a H H') : TripT H' x t := by
  obtain ⟨x, y, z, h0, h1, h2, h3⟩ := h
  exact ⟨x, y, z, k _ _ (ne_of h0 ha (by intro q; cases q)) h0, k _ _ (ne_of h1 ha (by intro q; cases q)) h1, k _ _ (ne_of h2 ha (by intro q; cases q)) h2, k _ _ (ne_of h3 ha (by intro q; cases q)) h3⟩
theorem ok_initU {f : Addr} {fd : FuncData} (R : SCls K C) (B : Blt mg) (T : Txt mg) (E_InvalidProduct : ErrX.ErrTxt P K mg "InvalidProduct" "at" "InvalidProduct" CP fP xP dP) (E_TooMany : ErrX.ErrTxt P K mg "TooMany" "most" "TooMany" CT fT xT dT)
    (F : Fun K "__init__" "Scheme.__init__" s_Scheme_init f fd) (G_check_sizes : HasX P w K mg base 4 "check_sizes" ["sizes"] (spSizesX CE))
    (G_is_product : Has P w K mg base 3 "is_product" ["value", "sizes"] spProductU) : FnOk P w K mg base (L2.CX P w) 5 f fd ["self", "sizes", "products"] (spInitU C) := by
  refine F.okX sc_Scheme_init (fun vs H Q E h => ?_) (fun cdv A outer s H vs Q E hr h => ?_)
  · obtain ⟨a, d, S, p, sz, tr, rfl, _⟩ := h
    rfl
  obtain ⟨a, dx, S, p, sz, tr, rfl, ha, hS, ⟨ps, hp, pp⟩, hm, q⟩ := h
  have TK : Takes (cxOf (L2.CX P w) P w K mg base N_Scheme_init "Scheme.__init__" (defScope s_Scheme_init) f cdv A outer s H E) (fun cls d _ H => E cls d H) := takes_of rfl rfl rfl rfl
  refine ⟨_, (pss_cons (ps_expr (pe_ownE G_check_sizes TK (hr.mono (by decide)) (by rfl) (pa_cons (pv 1) pa_nil)))
      (pss_cons (ps_if (pt_cmpR op_gt (pe_callB call_len (by rfl) B.len bb_len (pa_cons (pv 2) pa_nil)) (pe_gint T.m_MOST_PRODUCTS (by rfl)) (nomark _))
        (pss_one (ps_raise rfl TK (pmk_err E_TooMany hr (pa_cons (pe_gint T.m_MOST_PRODUCTS (by rfl)) pa_nil) (by rfl))))
        pss_nil)
      (pss_cons (ps_for (passes_of rfl) rfl (pi_enum (by rfl) B.enumerate (pa_cons (pv 2) pa_nil)) (pg_tup rfl (pgs_cons (pg_name (i := 3) sc_Scheme_init.nd rfl (Or.inl rfl)) (pgs_cons (pg_name (i := 4) sc_Scheme_init.nd rfl (Or.inl rfl)) pgs_nil)))
        (pss_one (ps_if (pt_not (pt_val (pe_own G_is_product (hr.mono (by decide)) (by rfl) (pa_cons (pv 4) (pa_cons (pv 1) pa_nil)))))
        (pss_one (ps_raise rfl TK (pmk_err E_InvalidProduct hr (pa_cons (pv 3) pa_nil) (by rfl))))
        pss_nil)))
      (pss_cons (ps_fld (pv 0) (pv 1) rfl)
      (pss_one (ps_fld (pv 0) (pe_callTy call_tuple_of (by rfl) B.tuple bb_tuple (pa_cons (pe_lc (own := [("triple", 4)]) (g := gName 4) (tt := tYes) (by rfl) sc_Scheme_init.nd (pi_list (pv 2)) (blkOk_by (own := [("triple", 4)]) (N := N_Scheme_init) (sc := defScope s_Scheme_init) (by decide +kernel)) (fun _ _ _ _ _ => (pg_name (i := 4) sc_Scheme_init.nd rfl (Or.inl rfl))) (fun _ _ _ _ _ => pts_nil) (fun _ _ _ _ _ => (pe_callTy (NK.call_tuple_ofK K rfl) (by rfl) B.tuple bb_tuple (pa_cons (pe_lc (own := [("row", 5)]) (g := gName 5) (tt := tYes) (by rfl) sc_Scheme_init.nd (NK.pi_tupK K rfl (pv 4)) (blkOk_by (own := [("row", 5)]) (N := N_Scheme_init) (by rfl)) (fun _ _ _ _ _ => (pg_name (i := 5) sc_Scheme_init.nd rfl (Or.inl rfl))) (fun _ _ _ _ _ => pts_nil) (fun _ _ _ _ _ => (pe_callTy (NK.call_tuple_ofK K rfl) (by rfl) B.tuple bb_tuple (pa_cons (pv 5) pa_nil)))) pa_nil)))) pa_nil)) rfl)))))), ?_⟩
  have hb : Bnd sz := ⟨hm.l1, hm.l2, hm.r1, hm.r2, hm.s1, hm.s2⟩
  have lp := plen pp
  have hl := hm.len
  refine ⟨_, rfl, .ref S, rfl, .inl ⟨S, sz, rfl, hS, hm.l1, hm.l2, hm.r1, hm.r2, hm.s1, hm.s2, ?_⟩⟩
  refine ⟨_, rfl, .ref p, _, rfl, .inl ⟨_, SqL.of hp, rfl⟩, _, _, rfl, rfl, _, rfl, ite_no (by rw [List.length_map]; simp; omega) ?_⟩
  refine ⟨_, rfl, p, _, rfl, SqL.of hp, for_it (walk_enum (xs := ps.map V.ref)) (fun i σ H' => ∃ y3 y4 y5, σ = [some (.ref a), some (.ref S), some (.ref p), y3, y4, y5] ∧ Same H H') ⟨_, _, _, rfl, Same.refl _⟩ (fun i σ H' _ e => by obtain ⟨_, _, _, _, e⟩ := e; exact SqL.of (e _ _ hp)) ?_ ?_⟩
  · rintro i v σ Ha Hb hi ⟨y3, y4, y5, rfl, sa⟩ ⟨U, x, y, rfl, hU, rfl, hx, hy⟩
    have hy : (ps.map V.ref)[i]? = some y := hy
    obtain ⟨c, hc, rfl⟩ := at_map hy
    have hi : i < tr.length := by simp at hi; omega
    obtain ⟨c', t, hc', ht, htr⟩ := pat pp hi
    rw [hc] at hc'
    cases hc'
    have ex : x = V.int (i : Nat) := (Option.some.inj hx).symm
    subst ex
    have sU := same_upd (o := .tup [.int (i : Nat), .ref c]) hU
    refine ⟨U, [.int (i : Nat), .ref c], rfl, SqT.of upd_same, rfl, .int (i : Nat), [.ref c], rfl, .ref c, [], rfl, rfl, ?_⟩
    refine ⟨_, rfl, _, rfl, c, S, sz, t, rfl, (htr.same sa).same sU, sU _ _ (sa _ _ hS), hm.fits t (List.mem_of_getElem? ht), hb, fun H3 s3 => ⟨true, rfl, iteF ⟨_, _, _, rfl, sa.trans (sU.trans s3)⟩⟩⟩
  · rintro σ H1 ⟨y3, y4, y5, rfl, s1⟩
    refine ⟨_, rfl, _, rfl, a, C, dx, [], rfl, s1 _ _ ha, R.cl, R.n1, by decide, ?_⟩
    obtain ⟨H2, hH2⟩ : ∃ H2, H2 = upd H1 a (.ins C dx [("_sizes", .ref S)]) := ⟨_, rfl⟩
    have k2 : Kp a H H2 := by rw [hH2]; exact (Kp.of s1).trans Kp.upd
    have ha2 : H2 a = some (.ins C dx [("_sizes", .ref S)]) := by rw [hH2]; exact upd_same
    have hp2 : H2 p = some (.lst (ps.map V.ref)) := k2 _ _ (ne_of hp ha (by intro z; cases z)) hp
    have pp2 : Paired (TripT H2) ps tr := pmono (fun x t h => TripT.kp h ha k2) pp
    have hS2 : SizAt H2 S sz := k2 _ _ (ne_of (show H S = some _ from hS) ha (by intro z; cases z)) hS
    show _
    refine ⟨_, rfl, p, rfl, ⟨_, SqL.of (by first | exact hp2 | (rw [hH2] at hp2; exact hp2))⟩, fun D hD => ?_⟩
    have hD : H2 D = none := by rw [hH2]; exact hD
    refine lc_it (walk_list (xs := ps.map V.ref)) (fun i H' => Same H2 H' ∧ ∃ ts : List Addr, H' D = some (.lst (ts.map V.ref)) ∧ Paired (TripT H') ts (tr.take i)) ⟨by rw [hH2] at hD ⊢; exact same_upd hD, [], upd_same, .nil⟩ (fun i H' _ e => SqL.of (e.1 _ _ hp2)) ?_ ?_
    · rintro i v Ha Hb hi ⟨sa, ts, ea, pt⟩ ⟨rfl, hv⟩
      obtain ⟨c, hc, rfl⟩ := at_map hv
      have hi : i < tr.length := by simp at hi; omega
      obtain ⟨c', ⟨tx, ty, tz⟩, hc', ht, htr⟩ := pat pp2 hi
      rw [hc] at hc'
      cases hc'
      obtain ⟨x, y, z, g0, g1, g2, g3⟩ := htr.same sa
      refine ⟨rfl, tYes_ok ⟨_, rfl, c, rfl, ⟨_, SqT.of g0⟩, fun D2 hD2 => ?_⟩⟩
      refine lc_it (walk_tup (xs := [.ref x, .ref y, .ref z])) (fun j H' => Same Hb H' ∧ ∃ us : List Addr, H' D2 = some (.lst (us.map V.ref)) ∧ Paired (RowT H') us ([tx, ty, tz].take j)) ⟨same_upd hD2, [], upd_same, .nil⟩ (fun i H' _ e => SqT.of (e.1 _ _ g0)) ?_ ?_
      · rintro j v Hc Hd hj ⟨sc, us, ec, pu⟩ ⟨rfl, hv⟩
        obtain ⟨d, r, rfl, hr1, hd⟩ : ∃ (d : Addr) (r : Row), v = .ref d ∧ [tx, ty, tz][j]? = some r ∧ RowT Hb d r := by
          match j, hv with
          | 0, hv => cases hv; exact ⟨x, tx, rfl, rfl, g1⟩
          | 1, hv => cases hv; exact ⟨y, ty, rfl, rfl, g2⟩
          | 2, hv => cases hv; exact ⟨z, tz, rfl, rfl, g3⟩
          | j + 3, _ => exact absurd (show j + 3 < 3 from hj) (by omega)
        have hj3 : j < 3 := hj
        refine ⟨rfl, tYes_ok ⟨_, rfl, d, _, rfl, .inr ⟨SqT.of (hd.same sc), _, ec, small1000 ?_, fun e o he => ?_, us ++ [d], ?_, ?_⟩⟩⟩
        · have := plen pu
          simp at this ⊢
          omega
        · rw [upd_ne (ne_of_none he hD2)]
          exact sc _ _ he
        · rw [upd_same]
          simp
        · rw [take_snoc hr1]
          refine (pmono (fun e r h => ?_) pu).snoc ?_
          · have h : Hd e = some (.tup (r.map V.int)) := h
            show upd Hd D2 _ e = some _
            rw [upd_ne (ne_of h ec (by intro q; cases q))]
            exact h
          · have h : Hd d = some (.tup (r.map V.int)) := hd.same sc
            show upd Hd D2 _ d = some _
            rw [upd_ne (ne_of h ec (by intro q; cases q))]
            exact h
      · rintro Hc ⟨sc, us, ec, pu⟩
        match us, pu, ec with
        | [u1, u2, u3], .cons w1 (.cons w2 (.cons w3 .nil)), ec =>
        refine ⟨D2, _, rfl, .inl ⟨SqL.of ec, fun l hl => ?_⟩⟩
        have sl := same_upd (o := .tup [.ref u1, .ref u2, .ref u3]) hl
        refine ⟨_, sl _ _ (sc _ _ ea), small1000 ?_, fun e o he => ?_, ts ++ [l], ?_, ?_⟩
        · have := plen pt
          simp at this ⊢
          omega
        · rw [upd_ne (ne_of_none he hD)]
          exact sl _ _ (sc _ _ (sa _ _ he))
        · rw [upd_same]
          simp
        · rw [take_snoc ht]
          have eD := sl _ _ (sc _ _ ea)
          have put : ∀ {x : Addr} {t : Trip}, TripT (upd Hc l (.tup [.ref u1, .ref u2, .ref u3])) x t → TripT (upd (upd Hc l (.tup [.ref u1, .ref u2, .ref u3])) D (.lst (ts.map V.ref ++ [.ref l]))) x t := fun h => by
            obtain ⟨x, y, z, q0, q1, q2, q3⟩ := h
            refine ⟨x, y, z, ?_, ?_, ?_, ?_⟩
            · rw [upd_ne (ne_of q0 eD (by intro q; cases q))]; exact q0
            · show upd _ D _ x = some _
              rw [upd_ne (ne_of q1 eD (by intro q; cases q))]; exact q1
            · show upd _ D _ y = some _
              rw [upd_ne (ne_of q2 eD (by intro q; cases q))]; exact q2
            · show upd _ D _ z = some _
              rw [upd_ne (ne_of q3 eD (by intro q; cases q))]; exact q3
          refine (pmono (fun e r h => put ((h.same sc).same sl)) pt).snoc (put ?_)
          exact ⟨u1, u2, u3, upd_same, RowT.same w1 sl, RowT.same w2 sl, RowT.same w3 sl⟩
    · rintro H3 ⟨s3, ts, e3, pt⟩
      rw [List.take_of_length_le (by simp; omega)] at pt
      refine ⟨D, _, rfl, .inl ⟨SqL.of e3, fun l hl => ?_⟩⟩
      have sl := same_upd (o := .tup (ts.map V.ref)) hl
      have ha3 := sl _ _ (s3 _ _ ha2)
      refine ⟨_, rfl, a, C, dx, _, rfl, ha3, R.cl, R.n2, by show 1 < 1000; decide, ?_⟩
      have kf : Kp a H (upd (upd H3 l (.tup (ts.map V.ref))) a (.ins C dx [("_sizes", .ref S), ("_triples", .ref l)])) := k2.trans ((Kp.of (s3.trans sl)).trans Kp.upd)
      refine q _ kf ⟨dx, S, l, ts, upd_same, ?_, ?_, ?_, hm⟩
      · exact kf _ _ (ne_of (show H S = some _ from hS) ha (by intro z; cases z)) hS
      · rw [upd_ne (ne_of upd_same ha3 (by intro z; cases z)), upd_same]
      · refine pmono (fun x t h => ?_) pt
        obtain ⟨u, v, z, q0, q1, q2, q3⟩ := TripT.same h sl
        refine ⟨u, v, z, ?_, ?_, ?_, ?_⟩
        · rw [upd_ne (ne_of q0 ha3 (by intro q; cases q))]; exact q0
        · show upd _ a _ u = some _
          rw [upd_ne (ne_of q1 ha3 (by intro q; cases q))]; exact q1
        · show upd _ a _ v = some _
          rw [upd_ne (ne_of q2 ha3 (by intro q; cases q))]; exact q2
        · show upd _ a _ z = some _
          rw [upd_ne (ne_of q3 ha3 (by intro q; cases q))]; exact q3
theorem ok_turned {f : Addr} {fd : FuncData} (R : SCls K C) (B : Blt mg) (E_InvalidOrder : ErrX.ErrTxt P K mg "InvalidOrder" "given" "InvalidOrder" CO fO xO dO) (F : Fun K "turned" "Scheme.turned" s_Scheme_turned f fd) (M : Meth K C "turned" f) (b : Binds K fd ["self", "order"] [])
    (G_is_order : Has P w K mg base 3 "is_order" ["value"] spOrder) (MK_Scheme : HasCX P w K mg base 5 "Scheme" C ["self", "sizes", "products"] (spInitU C)) : HasMX P w K mg base 7 C "turned" ["self", "order"] (spTurned C CO) := by
  refine ⟨f, fd, F.okX sc_Scheme_turned (fun vs H Q E h => ?_) (fun cdv A outer s H vs Q E hr h => ?_), M, b⟩
  · obtain ⟨a, c, n, v, rfl, _⟩ := h
    rfl
  obtain ⟨a, sz, tr, v, rfl, hA, h⟩ := h
  have TK : Takes (cxOf (L2.CX P w) P w K mg base N_Scheme_turned "Scheme.turned" (defScope s_Scheme_turned) f cdv A outer s H E) (fun cls d _ H => E cls d H) := takes_of rfl rfl rfl rfl
  refine ⟨_, (pss_cons (ps_if (pt_not (pt_val (pe_own G_is_order (hr.mono (by decide)) (by rfl) (pa_cons (pv 1) pa_nil))))
        (pss_one (ps_raise rfl TK (pmk_err E_InvalidOrder hr (pa_cons (pv 1) pa_nil) (by rfl))))
        pss_nil)
      (pss_cons (ps_asg (pv 1) (pg_tup rfl (pgs_cons (pg_name (i := 2) sc_Scheme_turned.nd rfl (Or.inr rfl)) (pgs_cons (pg_name (i := 3) sc_Scheme_turned.nd rfl (Or.inr rfl)) (pgs_cons (pg_name (i := 4) sc_Scheme_turned.nd rfl (Or.inr rfl)) pgs_nil)))))
      (pss_cons (ps_set (i := 5) sc_Scheme_turned.nd rfl (Or.inl rfl) (pe_tup (pa_cons (pe_ix ix_tup (L2.pe_fld (pv 0) rfl) (pv 2) (fun _ _ => rfl)) (pa_cons (pe_ix ix_tup (L2.pe_fld (pv 0) rfl) (pv 3) (fun _ _ => rfl)) (pa_cons (pe_ix ix_tup (L2.pe_fld (pv 0) rfl) (pv 4) (fun _ _ => rfl)) pa_nil)))))
      (pss_one (ps_ret (pe_mkX MK_Scheme (hr.mono (by decide)) (by rfl) (pa_cons (pv 5) (pa_cons (pe_lc (own := [("triple", 6)]) (g := gName 6) (tt := tYes) (by rfl) sc_Scheme_turned.nd (pi_tup (L2.pe_fld (pv 0) rfl)) (blkOk_by (own := [("triple", 6)]) (N := N_Scheme_turned) (sc := defScope s_Scheme_turned) (by decide +kernel)) (fun _ _ _ _ _ => (pg_name (i := 6) sc_Scheme_turned.nd rfl (Or.inl rfl))) (fun _ _ _ _ _ => pts_nil) (fun _ _ _ _ _ => (pe_tup (pa_cons (pe_ix (LcN.ix_tupK K rfl) (pv 6) (pv 2) (fun _ _ => rfl)) (pa_cons (pe_ix (LcN.ix_tupK K rfl) (pv 6) (pv 3) (fun _ _ => rfl)) (pa_cons (pe_ix (LcN.ix_tupK K rfl) (pv 6) (pv 4) (fun _ _ => rfl)) pa_nil)))))) pa_nil)))))))), ?_⟩
  rcases h with ⟨O, x, y, z, rfl, hO, ho, q⟩ | ⟨hb, q⟩
  · refine ⟨_, rfl, .ref O, rfl, .inr ⟨O, _, rfl, hO, by show 3 ≤ 10; decide, fun v hv => ?_, fun H1 s1 => ⟨_, rfl, ?_⟩⟩⟩
    · simp only [List.mem_cons, List.not_mem_nil, or_false] at hv
      rcases hv with rfl | rfl | rfl <;> exact ⟨_, fun _ _ => .int _⟩
    rw [ho.isOrd]
    refine iteF ?_
    obtain ⟨dx, S, T, ts, h1, h2, h3, h4, h5⟩ := hA.same s1
    have h2' : H1 S = some (.tup [.int sz.1, .int sz.2.1, .int sz.2.2]) := h2
    refine ⟨_, rfl, O, _, rfl, Or.inl (Rd.sm hO s1), rfl, _, _, rfl, _, _, rfl, _, _, rfl, rfl, ?_⟩
    refine ⟨_, rfl, a, C, dx, _, _, rfl, h1, R.cl, R.n1, rfl, _, rfl, S, _, _, _, rfl, rfl, SqT.of h2', atI_nat (j := x) (siz_at ho.hx), _, rfl, a, C, dx, _, _, rfl, h1, R.cl, R.n1, rfl, _, rfl, S, _, _, _, rfl, rfl, SqT.of h2', atI_nat (j := y) (siz_at ho.hy),
      _, rfl, a, C, dx, _, _, rfl, h1, R.cl, R.n1, rfl, _, rfl, S, _, _, _, rfl, rfl, SqT.of h2', atI_nat (j := z) (siz_at ho.hz), by show 3 ≤ sizeLine; decide, fun S2 nS2 => ?_⟩
    have k2 := same_upd (o := .tup [.int (rol sz x : Nat), .int (rol sz y : Nat), .int (rol sz z : Nat)]) nS2
    have eS2 : (upd H1 S2 (.tup [.int (rol sz x : Nat), .int (rol sz y : Nat), .int (rol sz z : Nat)])) S2 = some (.tup [.int (rol sz x : Nat), .int (rol sz y : Nat), .int (rol sz z : Nat)]) := upd_same
    generalize upd H1 S2 (.tup [.int (rol sz x : Nat), .int (rol sz y : Nat), .int (rol sz z : Nat)]) = H2 at k2 eS2 ⊢
    have g1 := k2 _ _ h1
    have g3 := k2 _ _ h3
    have g4 : Paired (TripT H2) ts tr := pmono (fun a t e => e.same k2) h4
    refine ⟨_, rfl, _, rfl, a, C, dx, _, _, rfl, g1, R.cl, R.n2, rfl, T, rfl, ⟨_, SqT.of g3⟩, fun D hD => ?_⟩
    refine lc_it (walk_tup (xs := ts.map V.ref)) (fun i H' => Same H2 H' ∧ ∃ us : List Addr, H' D = some (.lst (us.map V.ref)) ∧ Paired (TripT H') us ((tr.map (turn3 x y z)).take i)) ⟨same_upd hD, [], upd_same, .nil⟩ (fun i H' _ e => SqT.of (e.1 _ _ g3)) ?_ ?_
    · rintro i v Ha Hb hi ⟨sa, us, ea, pt⟩ ⟨rfl, hv⟩
      obtain ⟨c, hc, rfl⟩ := at_map hv
      have lts := plen g4
      have hi : i < tr.length := by simp at hi; omega
      obtain ⟨c', t, hc', ht, htr⟩ := pat g4 hi
      rw [hc] at hc'
      cases hc'
      obtain ⟨p0, p1, p2, e0, e1, e2, e3⟩ := htr.same sa
      have ct : ∀ {k : Nat}, k < 3 → [V.ref p0, .ref p1, .ref p2][k]? = some (.ref (rol (p0, p1, p2) k)) := fun {k} hk => by
        match k, hk with
        | 0, _ => rfl
        | 1, _ => rfl
        | 2, _ => rfl
      refine ⟨rfl, tYes_ok ⟨_, rfl, _, rfl, c, _, _, _, rfl, rfl, SqT.of e0, atI_nat (j := x) (ct ho.hx), _, rfl, _, rfl, c, _, _, _, rfl, rfl, SqT.of e0, atI_nat (j := y) (ct ho.hy), _, rfl, _, rfl, c, _, _, _, rfl, rfl, SqT.of e0, atI_nat (j := z) (ct ho.hz), by show 3 ≤ sizeLine; decide, fun l hl => ?_⟩⟩
      have sl := same_upd (o := .tup [.ref (rol (p0, p1, p2) x), .ref (rol (p0, p1, p2) y), .ref (rol (p0, p1, p2) z)]) hl
      have eD := sl _ _ ea
      refine ⟨_, eD, small1000 ?_, fun e o he => ?_, us ++ [l], ?_, ?_⟩
      · have := h5.len
        rw [List.length_map, plen pt, List.length_take, List.length_map]
        omega
      · rw [upd_ne (ne_of_none he hD)]
        exact sl _ _ (sa _ _ he)
      · rw [upd_same]
        simp
      · rw [take_snoc (x := turn3 x y z t) (by rw [List.getElem?_map, ht]; rfl)]
        have put : ∀ {q : Addr} {r : Trip}, TripT (upd Hb l (.tup [.ref (rol (p0, p1, p2) x), .ref (rol (p0, p1, p2) y), .ref (rol (p0, p1, p2) z)])) q r → TripT (upd (upd Hb l (.tup [.ref (rol (p0, p1, p2) x), .ref (rol (p0, p1, p2) y), .ref (rol (p0, p1, p2) z)])) D (.lst (us.map V.ref ++ [.ref l]))) q r := fun h => by
          obtain ⟨u, v, w, q0, q1, q2, q3⟩ := h
          refine ⟨u, v, w, ?_, ?_, ?_, ?_⟩
          · rw [upd_ne (ne_of q0 eD (by intro q; cases q))]; exact q0
          · show upd _ D _ u = some _
            rw [upd_ne (ne_of q1 eD (by intro q; cases q))]; exact q1
          · show upd _ D _ v = some _
            rw [upd_ne (ne_of q2 eD (by intro q; cases q))]; exact q2
          · show upd _ D _ w = some _
            rw [upd_ne (ne_of q3 eD (by intro q; cases q))]; exact q3
        have rw3 : ∀ {k : Nat}, k < 3 → RowT Hb (rol (p0, p1, p2) k) (rol t k) := fun {k} hk => by
          match k, hk with
          | 0, _ => exact e1
          | 1, _ => exact e2
          | 2, _ => exact e3
        refine (pmono (fun e r h => put (h.same sl)) pt).snoc (put ?_)
        exact ⟨_, _, _, upd_same, (rw3 ho.hx).same sl, (rw3 ho.hy).same sl, (rw3 ho.hz).same sl⟩
    · rintro H3 ⟨s3, us, e3, pt⟩
      have lts := plen g4
      rw [List.take_of_length_le (by simp; omega)] at pt
      exact fun N dxN nN nd ne => init_atU nN nd ne (show SizAt H3 S2 (turn3 x y z sz) from s3 _ _ eS2) ⟨us, e3, pt⟩ (turn_small h5) fun H4 s4 A4 => q H4 N (s1.trans (k2.trans (s3.trans s4))) A4
  · refine ⟨_, rfl, v, rfl, ?_⟩
    rcases hb with ⟨t, ht, hn⟩ | ⟨O, xs, rfl, hO, hl, hty, ho⟩
    · exact .inl ⟨t, ht, hn, fun H1 s1 => ⟨_, rfl, iteT ⟨_, rfl, _, rfl, fun d hd => q H1 d s1 hd⟩⟩⟩
    · refine .inr ⟨O, xs, rfl, .inl hO, hl, fun x hx => ?_, fun H1 s1 => ⟨_, rfl, ?_⟩⟩
      · obtain ⟨t, ht⟩ := hty x hx
        exact ⟨t, fun H' _ => ht H'⟩
      rw [ho]
      exact iteT ⟨_, rfl, _, rfl, fun d hd => q H1 d s1 hd⟩
end
end My
/-! a table with its places exchanged -/
namespace My
open PySem PySem.Spec PyProof.Rows L2
/-- a tuple display whose object is known to have no dict -/
def tTupF (t : TA) : TE := fun σ H Q => t σ H fun xs H1 => xs.length ≤ sizeLine ∧ ∀ p ob, H1 p = none → ob.dict = none → Q (.ref p) (upd H1 p (.frz ob (.tup xs)))
theorem pe_tupF {X : Cx} {es : List Expr} {x1} {pos : Pos} {t : TA} (h : PA X es t) : PE X (.Tuple es x1 pos) (tTupF t) := by
  refine ⟨fun pins s σ H Q I hq => ?_⟩
  refine wpAny_Tuple_spliced (thn (h.run pos pins s σ H _ I hq) fun us s1 ⟨xs, H1, I1, r, z, q⟩ => ⟨by rw [← r.length]; exact z, ?_⟩)
  have hf : H1 s1.heap.objs.size = none := I1.hok.fresh (Nat.le_refl _)
  refine ⟨.ref s1.heap.objs.size, upd H1 s1.heap.objs.size (.frz { cls := .type "tuple", data := .seq us.toArray } (.tup xs)), I1.laid (t' := s1.toks) (fun b u e => Heap.get?_push_of_some _ e) (Nat.le_refl _) ?_, rfl, q _ _ hf rfl⟩
  exact ⟨Heap.get?_push_size _ rfl, z, us, r, ⟨_, Heap.get?_push_size _ rfl, rfl, _, rfl⟩⟩
def tBMF (r : V → List V → Hp → VK → Prop) (to : TE) (t : TA) : TE := fun σ H Q => to σ H fun x H1 => (∃ p ob xs, x = .ref p ∧ H1 p = some (.frz ob (.tup xs)) ∧ ob.dict = none) ∧ t σ H1 fun xs H2 => r x xs H2 Q
/-- a method of such a tuple -/
theorem pe_bmF {X : Cx} {id : String} {name : Str} {r : V → List V → Hp → VK → Prop} {o e : Expr} {es : List Expr} {to : TE} {t : TA} {apos cpos : Pos} (slot : Slot "tuple" name id) (hty : typeOf (.builtin id) = pure (.type "method_descriptor")) (hm : MtR X id r) (ho : PE X o to) (ha : PA X (e :: es) t)
    (hbase : attributeBase o name X.env (eval o X.env) = eval o X.env := by rfl)
    (hfew : ((backTo cpos (starEach (e :: es) X.env)).all (fun x => !x.1) && (backToKw cpos (keywordEach [] X.env)).all (fun x => x.1.isSome)
      && decide ((e :: es).length + ([] : List Keyword).length + (if ([] : List Keyword).isEmpty then 0 else 1) < 30)) = true := by rfl)
    (hline : (apos.endLine == cpos.line) = true := by rfl) (hs : starEach (e :: es) X.env = (false, eval e X.env) :: starEach es X.env := by rfl) (hplain : (backTo cpos (starEach es X.env)).any (·.1) = false := by rfl) :
    PE X (.Call (.Attribute o name apos) (e :: es) [] cpos) (tBMF r to t) := by
  refine ⟨fun pins s σ H Q I h => ?_⟩
  refine wpAny_Call_method_late hbase hfew hline rfl (thn (ho.run pins s σ H _ I h) fun v s1 ⟨x, H1, I1, r1, ⟨p, ob, ys, ex, hp, hd⟩, q1⟩ => ?_)
  subst ex
  cases (show v = Value.ref p from r1)
  obtain ⟨g, z⟩ := (show ObjOk X.prog X.w H1 s1.heap p (.frz ob (.tup ys)) from I1.hok p _ hp)
  obtain ⟨_, its, _, o2, g2, hc, n, hda⟩ := z
  rw [g] at g2
  cases g2
  refine ⟨"tuple", id, PySem.F.plainAttrs_tuple, slot, hty, ⟨ob, g, hc⟩, fun a e => ?_, ?_⟩
  · cases e
    exact ⟨ob, g, hd⟩
  have hA := ha.run cpos pins s1 σ H1 _ I1 q1
  rw [hs] at hA ⊢
  refine Calls.callWith_builtin (by show (false || (backTo cpos (starEach es X.env)).any (·.1)) = false; rw [hplain] <;> rfl) (Calls.evalArgs_plain ?_)
  exact thn hA fun us s2 ⟨vs, H2, I2, r2, q2⟩ => hm pins s2 σ H2 (V.ref p) vs (Value.ref p) us Q I2 rfl r2 q2
/-- where role k of the old one stands in the new one -/
def bk (x y z k : Nat) : Nat := if x = k then 0 else if y = k then 1 else 2
def turnG (x y z : Nat) (g : Nat → Nat → Nat → Int) (a b c : Nat) : Int := g (rol (a, b, c) (bk x y z 0)) (rol (a, b, c) (bk x y z 1)) (rol (a, b, c) (bk x y z 2))
theorem bk_lt (x y z k : Nat) : bk x y z k < 3 := by
  unfold bk
  split
  · decide
  · split <;> decide
/-- a list of rows that lies apart from D -/
def FaceT (D : Addr) (H : Hp) (p : Addr) (rs : List Row) : Prop := p ≠ D ∧ ∃ cs : List Addr, H p = some (.lst (cs.map V.ref)) ∧ Paired (fun c xs => c ≠ D ∧ RowL H c xs) cs rs
theorem FaceT.kp {D : Addr} {H H' : Hp} {p : Addr} {rs : List Row} (h : FaceT D H p rs) (k : Kp D H H') : FaceT D H' p rs := by
  obtain ⟨n, cs, h1, h2⟩ := h
  exact ⟨n, cs, k _ _ n h1, pmono (fun c xs g => ⟨g.1, k _ _ g.1 g.2⟩) h2⟩
theorem cube_face {D : Addr} {H : Hp} {l r u : Nat} {g : Nat → Nat → Nat → Int} {qs : List Addr} (hD : H D = some (.lst (qs.map V.ref))) (h : Paired (FaceT D H) qs ((List.range l).map fun a => (List.range r).map fun b => (List.range u).map (g a b))) : CubeF H D l r u g := by
  have hl := plen h
  rw [List.length_map, List.length_range] at hl
  refine ⟨qs, hl, hD, fun i p hi => ?_⟩
  have hi' : i < l := by
    rw [← hl]
    exact (List.getElem?_eq_some_iff.mp hi).1
  obtain ⟨p', rs, hp', hrs, hf⟩ := pat h (i := i) (by rw [List.length_map, List.length_range]; exact hi')
  rw [hi] at hp'
  cases hp'
  rw [List.getElem?_map, List.getElem?_range hi'] at hrs
  cases hrs
  obtain ⟨_, cs, h1, h2⟩ := hf
  have hc := plen h2
  rw [List.length_map, List.length_range] at hc
  refine ⟨cs, h1, hc, fun j c hj => ?_⟩
  have hj' : j < r := by
    rw [← hc]
    exact (List.getElem?_eq_some_iff.mp hj).1
  obtain ⟨c', xs, hc', hxs, hr⟩ := pat h2 (i := j) (by rw [List.length_map, List.length_range]; exact hj')
  rw [hj] at hc'
  cases hc'
  rw [List.getElem?_map, List.getElem?_range hj'] at hxs
  cases hxs
  exact hr.2
theorem turn_lt {x y z a b c : Nat} {sz : Siz} (o : Ord3 x y z) (ha : a < rol sz x) (hb : b < rol sz y) (hc : c < rol sz z) {j : Nat} (hj : j < 3) : rol (a, b, c) (bk x y z j) < rol sz j := by
  have h1 := o.hx
  have h2 := o.hy
  have h3 := o.hz
  have h4 := o.xy
  have h5 := o.yz
  have h6 := o.xz
  unfold bk
  by_cases e : x = j
  · subst e
    rw [if_pos rfl]
    exact ha
  · rw [if_neg e]
    by_cases e2 : y = j
    · subst e2
      rw [if_pos rfl]
      exact hb
    · have e3 : z = j := by omega
      subst e3
      rw [if_neg e2]
      exact hc
def spTurnedCube : Sp := fun vs H Q _ => ∃ (S t O : Addr) (sz : Siz) (x y z : Nat) (g : Nat → Nat → Nat → Int) (ob : Obj), vs = [.ref S, .ref t, .ref O] ∧ SizAt H S sz ∧ Bnd sz ∧ CubeF H t sz.1 sz.2.1 sz.2.2 g ∧ H O = some (.frz ob (.tup [.int x, .int y, .int z])) ∧ ob.dict = none ∧ Ord3 x y z ∧
  ∀ (H' : Hp) (D : Addr), Same H H' → CubeF H' D (rol sz x) (rol sz y) (rol sz z) (turnG x y z g) → Q (.ref D) H'
section
variable {P : Program} {w : World} {K : PySem.W.Frag} {mg : Str → Option Value} {base : Heap}
theorem ok_l_turned_cube (F : Fn K mg "_law_turned_cube" s_l_turned_cube ["_law_sizes", "_law_table", "_law_order"]) (B : Blt mg) : Has P w K mg base 1 "_law_turned_cube" ["_law_sizes", "_law_table", "_law_order"] spTurnedCube := by
  refine F.has sc_l_turned_cube (fun vs H Q E h => ?_) (fun f' cdv A outer s H vs Q E hr h => ?_)
  · obtain ⟨a, b, z, t, f, g, o, i, j, rfl, _⟩ := h
    rfl
  obtain ⟨S, t, O, sz, x, y, z, g, ob, rfl, hS, hb, ⟨ps, lps, hF, cellF⟩, hO, hod, ho, q⟩ := h
  have rdO : ∀ {H' : Hp}, Same H H' → SqT K H' O [.int x, .int y, .int z] := fun s => .inl (.inr ⟨ob, s _ _ hO⟩)
  have hS' : H S = some (.tup [.int sz.1, .int sz.2.1, .int sz.2.2]) := hS
  have lo : ∀ k, 1 ≤ rol sz k := fun k => rol_cases (P := fun n => 1 ≤ n) hb.l1 hb.r1 hb.s1
  have hi36 : ∀ k, rol sz k ≤ 36 := fun k => rol_cases (P := fun n => n ≤ 36) hb.l2 hb.r2 hb.s2
  refine ⟨_, (pss_cons (ps_set (i := 3) sc_l_turned_cube.nd rfl (Or.inr rfl) (pe_lc (own := [("_law_k", 4)]) (g := gName 4) (tt := tYes) (by rfl) sc_l_turned_cube.nd (pi_range1 (by rfl) B.range (pa_cons pe_int pa_nil)) (blkOk_by (own := [("_law_k", 4)]) (N := N_l_turned_cube) (sc := defScope s_l_turned_cube) (by decide +kernel)) (fun _ _ _ _ _ => (pg_name (i := 4) sc_l_turned_cube.nd rfl (Or.inl rfl))) (fun _ _ _ _ _ => pts_nil) (fun _ _ _ _ _ => (pe_bmF PySem.F.slot_tuple_index PySem.F.type_tuple_index (OwO.mt_tup_indexI K rfl) (pv 2) (pa_cons (pv 4) pa_nil)))))
      (pss_cons (ps_setLc (i := 5) (own := [("_law_k", 4)]) (g := gName 4) (tt := tYes) (by rfl) sc_l_turned_cube.nd rfl rfl (sw_true rfl rfl rfl (by decide +kernel)) (pi_tup (pv 2)) (blkOk_by (own := [("_law_k", 4)]) (N := N_l_turned_cube) (sc := defScope s_l_turned_cube) (by decide +kernel)) (fun _ _ _ _ _ => (pg_name (i := 4) sc_l_turned_cube.nd rfl (Or.inl rfl))) (fun _ _ _ _ _ => pts_nil) (fun _ _ _ _ _ => (pe_ix (LcN.ix_tupK K rfl) (pv 0) (pv 4) (fun _ _ => rfl))))
      (pss_cons (ps_set (i := 6) sc_l_turned_cube.nd rfl (Or.inl rfl) (pe_lst pa_nil))
      (pss_cons (ps_for PassesOwn.never rfl (pi_range1 (by rfl) B.range (pa_cons (pe_ix ix_list (pv 5) pe_int (fun _ _ => rfl)) pa_nil)) (pg_name (i := 7) sc_l_turned_cube.nd rfl (Or.inr rfl))
        (pss_cons (ps_set (i := 8) sc_l_turned_cube.nd rfl (Or.inl rfl) (pe_lst pa_nil))
      (pss_cons (ps_for PassesOwn.never rfl (pi_range1 (by rfl) B.range (pa_cons (pe_ix ix_list (pv 5) pe_int (fun _ _ => rfl)) pa_nil)) (pg_name (i := 9) sc_l_turned_cube.nd rfl (Or.inr rfl))
        (pss_cons (ps_setLc (i := 10) (own := [("_law_c", 11)]) (g := gName 11) (tt := tYes) (by rfl) sc_l_turned_cube.nd rfl rfl (sw_true rfl rfl rfl (by decide +kernel)) (pi_range1 (by rfl) B.range (pa_cons (pe_ix ix_list (pv 5) pe_int (fun _ _ => rfl)) pa_nil)) (blkOk_by (own := [("_law_c", 11)]) (N := N_l_turned_cube) (sc := defScope s_l_turned_cube) (by decide +kernel)) (fun _ _ _ _ _ => (pg_name (i := 11) sc_l_turned_cube.nd rfl (Or.inl rfl))) (fun _ _ _ _ _ => pts_nil) (fun _ _ _ _ _ => (pe_tup (pa_cons (pv 7) (pa_cons (pv 9) (pa_cons (pv 11) pa_nil))))))
      (pss_one (ps_expr (pe_bm PySem.F.plainAttrs_list PySem.F.slot_list_append PySem.F.type_list_append mt_append (pv 8) (pa_cons (pe_lc (own := [("_law_spot", 12)]) (g := gName 12) (tt := tYes) (by rfl) sc_l_turned_cube.nd (pi_list (pv 10)) (blkOk_by (own := [("_law_spot", 12)]) (N := N_l_turned_cube) (sc := defScope s_l_turned_cube) (by decide +kernel)) (fun _ _ _ _ _ => (pg_name (i := 12) sc_l_turned_cube.nd rfl (Or.inl rfl))) (fun _ _ _ _ _ => pts_nil) (fun _ _ _ _ _ => (pe_ix (LcN.ix_listK K rfl) (pe_ix (LcN.ix_listK K rfl) (pe_ix (LcN.ix_listK K rfl) (pv 1) (pe_ix (LcN.ix_tupK K rfl) (pv 12) (pe_ix (LcN.ix_listK K rfl) (pv 3) pe_int (fun _ _ => rfl)) (fun _ _ => rfl)) (fun _ _ => rfl)) (pe_ix (LcN.ix_tupK K rfl) (pv 12) (pe_ix (LcN.ix_listK K rfl) (pv 3) pe_int (fun _ _ => rfl)) (fun _ _ => rfl)) (fun _ _ => rfl)) (pe_ix (LcN.ix_tupK K rfl) (pv 12) (pe_ix (LcN.ix_listK K rfl) (pv 3) pe_int (fun _ _ => rfl)) (fun _ _ => rfl)) (fun _ _ => rfl)))) pa_nil))))))
      (pss_one (ps_expr (pe_bm PySem.F.plainAttrs_list PySem.F.slot_list_append PySem.F.type_list_append mt_append (pv 6) (pa_cons (pv 8) pa_nil)))))))
      (pss_one (ps_ret (pv 6))))))), ?_⟩
  -- back
  refine ⟨3, rfl, by decide, by decide, fun Bk hB => ?_⟩
  refine lc_it walk_range (fun i H' => Same H H' ∧ H' Bk = some (.lst (((List.range i).map fun k => ((bk x y z k : Nat) : Int)).map V.int))) ⟨same_upd hB, upd_same⟩ (fun _ _ _ _ => True.intro) ?_ ?_
  · rintro i v Ha Hb hi ⟨sa, ea⟩ ⟨rfl, hv⟩
    obtain rfl : v = V.int (i : Int) := hv.trans (rng0 i)
    have hi : i < 3 := hi
    refine ⟨rfl, tYes_ok ⟨_, rfl, ⟨O, ob, _, rfl, sa _ _ hO, hod⟩, _, rfl, O, [(x : Int), y, z], _, bk x y z i, rfl, rfl, rdO sa, ?_, ?_, _, ea, small1000 (by simp; omega), fun x o hx => ?_, ?_⟩⟩
    · have h1 := ho.hx
      have h2 := ho.hy
      have h3 := ho.hz
      have h4 := ho.xy
      have h5 := ho.yz
      have h6 := ho.xz
      unfold bk
      split
      · rename_i e
        rw [e]
        rfl
      · split
        · rename_i e
          rw [e]
          rfl
        · have : z = i := by omega
          rw [this]
          rfl
    · intro m hm e
      unfold bk at hm
      split at hm
      · omega
      · rename_i e0
        have h0 : m = 0 ∨ m = 1 := by
          split at hm <;> omega
        rcases h0 with rfl | rfl
        · have e : ((x : Int)) = (i : Int) := Option.some.inj e
          omega
        · have e : ((y : Int)) = (i : Int) := Option.some.inj e
          split at hm <;> omega
    · rw [upd_ne (ne_of_none hx hB)]
      exact sa _ _ hx
    · rw [upd_same, List.range_succ, List.map_append, List.map_append]
      rfl
  rintro H1 ⟨s1, e1⟩
  have e1 : H1 Bk = some (.lst [.int (bk x y z 0 : Nat), .int (bk x y z 1 : Nat), .int (bk x y z 2 : Nat)]) := e1
  -- new
  refine ⟨_, rfl, O, rfl, ⟨_, rdO s1⟩, fun N hN => ?_⟩
  refine lc_it (walk_tup (xs := [V.int x, .int y, .int z])) (fun i H' => Same H1 H' ∧ H' N = some (.lst (([V.int (rol sz x : Nat), .int (rol sz y : Nat), .int (rol sz z : Nat)].take i)))) ⟨same_upd hN, upd_same⟩ (fun i H' _ e => rdO (s1.trans e.1)) ?_ ?_
  · rintro i v Ha Hb hi ⟨sa, ea⟩ ⟨rfl, hv⟩
    obtain ⟨k, rfl, hk, hn⟩ : ∃ k : Nat, v = .int k ∧ k < 3 ∧ [V.int (rol sz x : Nat), .int (rol sz y : Nat), .int (rol sz z : Nat)][i]? = some (.int (rol sz k : Nat)) := by
      match i, hv with
      | 0, hv => cases hv; exact ⟨x, rfl, ho.hx, rfl⟩
      | 1, hv => cases hv; exact ⟨y, rfl, ho.hy, rfl⟩
      | 2, hv => cases hv; exact ⟨z, rfl, ho.hz, rfl⟩
    refine ⟨rfl, tYes_ok ⟨_, rfl, _, rfl, S, _, _, _, rfl, rfl, SqT.of (sa _ _ (s1 _ _ hS')), atI_nat (j := k) (siz_at hk), _, ea, small1000 (by rw [List.length_take]; have : [V.int (rol sz x : Nat), .int (rol sz y : Nat), .int (rol sz z : Nat)].length = 3 := rfl; omega), fun x o hx => ?_, ?_⟩⟩
    · rw [upd_ne (ne_of_none hx hN)]
      exact sa _ _ hx
    · rw [upd_same, take_snoc hn]
  rintro H2 ⟨s2, e2⟩
  have e2 : H2 N = some (.lst [.int (rol sz x : Nat), .int (rol sz y : Nat), .int (rol sz z : Nat)]) := e2
  have e1 := s2 _ _ e1
  have s12 := s1.trans s2
  clear s1 s2
  refine ⟨by show 0 ≤ sizeLine; decide, fun D hD => ?_⟩
  have sD := same_upd (o := .lst []) hD
  refine ⟨_, rfl, N, _, 0, _, rfl, rfl, SqL.of (sD _ _ e2), atI_nat (j := 0) rfl, ((rol sz x : Nat) : Int), rfl, by omega, by have := hi36 x; omega, ?_⟩
  refine for_range (n := rol sz x) (fun a σ H' => ∃ (y7 y8 y9 y10 y11 y12 : Option V) (us : List Addr), σ = [some (.ref S), some (.ref t), some (.ref O), some (.ref Bk), none, some (.ref N), some (.ref D), y7, y8, y9, y10, y11, y12] ∧ Same H2 H' ∧ H' D = some (.lst (us.map V.ref)) ∧ Paired (FaceT D H') us ((List.range a).map fun a => (List.range (rol sz y)).map fun b => (List.range (rol sz z)).map (turnG x y z g a b))) ⟨_, _, _, _, _, _, [], rfl, sD, upd_same, .nil⟩ ?_ ?_
  · rintro a σ Ha ha ⟨y7, y8, y9, y10, y11, y12, us, rfl, sa, ea, pu⟩
    refine ⟨by show 0 ≤ sizeLine; decide, fun L hL => ?_⟩
    have sL := same_upd (o := .lst []) hL
    have nLD : L ≠ D := (ne_of_none ea hL).symm
    refine ⟨_, rfl, N, _, 1, _, rfl, rfl, SqL.of (sL _ _ (sa _ _ e2)), atI_nat (j := 1) rfl, ((rol sz y : Nat) : Int), rfl, by omega, by have := hi36 y; omega, ?_⟩
    refine for_range (n := rol sz y) (fun b σ H' => ∃ (y9 y10 y11 y12 : Option V) (cs : List Addr), σ = [some (.ref S), some (.ref t), some (.ref O), some (.ref Bk), none, some (.ref N), some (.ref D), some (.int (0 + (a : Int))), some (.ref L), y9, y10, y11, y12] ∧ Same Ha H' ∧ H' L = some (.lst (cs.map V.ref)) ∧ Paired (fun c xs => c ≠ D ∧ c ≠ L ∧ RowL H' c xs) cs ((List.range b).map fun b => (List.range (rol sz z)).map (turnG x y z g a b))) ⟨_, _, _, _, [], rfl, sL, upd_same, .nil⟩ ?_ ?_
    · rintro b σ Hb hb ⟨y9, y10, y11, y12, cs, rfl, sb, eb, pc⟩
      have s2b := sa.trans sb
      refine ⟨_, rfl, N, _, 2, _, rfl, rfl, SqL.of (s2b _ _ e2), atI_nat (j := 2) rfl, ((rol sz z : Nat) : Int), rfl, by omega, by have := hi36 z; omega, fun Sp hSp => ?_⟩
      refine lc_it walk_range (fun i H' => Same Hb H' ∧ ∃ ts : List Addr, H' Sp = some (.lst (ts.map V.ref)) ∧ ts.length = i ∧ ∀ k tt, ts[k]? = some tt → H' tt = some (.tup [.int (0 + (a : Int)), .int (0 + (b : Int)), .int (k : Nat)])) ⟨same_upd hSp, [], upd_same, rfl, fun k tt e => by simp at e⟩ (fun _ _ _ _ => True.intro) ?_ ?_
      · rintro k v Hc Hd hk ⟨sc, ts, ec, lt, ht⟩ ⟨rfl, hv⟩
        obtain rfl : v = V.int (k : Int) := hv.trans (rng0 k)
        have hk : k < rol sz z := hk
        have := hi36 z
        refine ⟨rfl, tYes_ok ⟨_, rfl, _, rfl, _, rfl, by show 3 ≤ sizeLine; decide, fun l hl => ?_⟩⟩
        have sl := same_upd (o := .tup [.int (0 + (a : Int)), .int (0 + (b : Int)), .int (k : Nat)]) hl
        have e2' := sl _ _ ec
        refine ⟨_, e2', small1000 (by rw [List.length_map, lt]; omega), fun x o hx => ?_, ts ++ [l], ?_, by simp [lt], fun j tt e => ?_⟩
        · rw [upd_ne (ne_of_none hx hSp)]
          exact sl _ _ (sc _ _ hx)
        · rw [upd_same]
          simp
        · have base : ∀ {q : Addr} {qs : List V}, upd Hd l (.tup [.int (0 + (a : Int)), .int (0 + (b : Int)), .int (k : Nat)]) q = some (.tup qs) → upd (upd Hd l (.tup [.int (0 + (a : Int)), .int (0 + (b : Int)), .int (k : Nat)])) Sp (.lst (ts.map V.ref ++ [.ref l])) q = some (.tup qs) := fun h => by
            rw [upd_ne (ne_of h e2' (by intro z; cases z))]
            exact h
          by_cases hj : j < ts.length
          · rw [List.getElem?_append_left hj] at e
            exact base (sl _ _ (ht j tt e))
          · have : j = ts.length := by
              have := (List.getElem?_eq_some_iff.mp e).1
              simp at this
              omega
            subst this
            rw [List.getElem?_append_right (Nat.le_refl _), Nat.sub_self] at e
            have e : l = tt := by simpa using e
            subst e
            rw [lt]
            exact base upd_same
      rintro Hc ⟨sc, ts, ec, lt, ht⟩
      have lt : ts.length = rol sz z := lt
      have eL := sc _ _ eb
      have s2c := s2b.trans sc
      have sHc := s12.trans s2c
      refine ⟨_, rfl, .inl ⟨rfl, _, SqL.of eL⟩, _, rfl, Sp, rfl, ⟨_, SqL.of ec⟩, fun D4 hD4 => ?_⟩
      refine lc_it (walk_list (xs := ts.map V.ref)) (fun i H' => Same Hc H' ∧ H' D4 = some (.lst (((List.range i).map (turnG x y z g a b)).map V.int))) ⟨same_upd hD4, upd_same⟩ (fun i H' _ e => SqL.of (e.1 _ _ ec)) ?_ ?_
      · rintro k v Hd He hk ⟨sd, ed⟩ ⟨rfl, hv⟩
        obtain ⟨tt, htt, rfl⟩ := at_map hv
        have hk : k < rol sz z := by rw [← lt]; exact (List.getElem?_eq_some_iff.mp htt).1
        have := hi36 z
        have ett := sd _ _ (ht k tt htt)
        have eB := sd _ _ (s2c _ _ e1)
        have sE := sHc.trans sd
        have spot : ∀ {j : Nat}, j < 3 → [V.int (0 + (a : Int)), .int (0 + (b : Int)), .int (k : Nat)][j]? = some (.int ((rol (a, b, k) j : Nat) : Int)) := fun {j} hj => by
          match j, hj with
          | 0, _ => rw [Int.zero_add]; rfl
          | 1, _ => rw [Int.zero_add (b : Int)]; rfl
          | 2, _ => rfl
        have l0 := turn_lt ho ha hb hk (j := 0) (by decide)
        have l1 := turn_lt ho ha hb hk (j := 1) (by decide)
        have l2 : rol (a, b, k) (bk x y z 2) < sz.2.2 := turn_lt ho ha hb hk (j := 2) (by decide)
        have hp : ps[rol (a, b, k) (bk x y z 0)]? = some (ps[rol (a, b, k) (bk x y z 0)]'(by rw [lps]; exact l0)) := List.getElem?_eq_getElem _
        generalize ps[rol (a, b, k) (bk x y z 0)]'(by rw [lps]; exact l0) = p at hp
        obtain ⟨ds, hds, lds, rows⟩ := cellF _ p hp
        have hd : ds[rol (a, b, k) (bk x y z 1)]? = some (ds[rol (a, b, k) (bk x y z 1)]'(by rw [lds]; exact l1)) := List.getElem?_eq_getElem _
        generalize ds[rol (a, b, k) (bk x y z 1)]'(by rw [lds]; exact l1) = d at hd
        have hr := rows _ d hd
        have hr' : He d = some (.lst (((List.range sz.2.2).map (g (rol (a, b, k) (bk x y z 0)) (rol (a, b, k) (bk x y z 1)))).map V.int)) := sE _ _ hr
        refine ⟨rfl, tYes_ok ⟨_, rfl, _, rfl, _, rfl, Bk, _, _, _, rfl, rfl, SqL.of eB, atI_nat (j := 0) rfl, tt, _, _, _, rfl, rfl, SqT.of ett, atI_nat (j := bk x y z 0) (spot (bk_lt _ _ _ _)), t, _, _, _, rfl, rfl, SqL.of (sE _ _ hF), atI_nat (j := rol (a, b, k) (bk x y z 0)) (by rw [List.getElem?_map, hp]; rfl),
          _, rfl, _, rfl, Bk, _, _, _, rfl, rfl, SqL.of eB, atI_nat (j := 1) rfl, tt, _, _, _, rfl, rfl, SqT.of ett, atI_nat (j := bk x y z 1) (spot (bk_lt _ _ _ _)), p, _, _, _, rfl, rfl, SqL.of (sE _ _ hds), atI_nat (j := rol (a, b, k) (bk x y z 1)) (by rw [List.getElem?_map, hd]; rfl),
          _, rfl, _, rfl, Bk, _, _, _, rfl, rfl, SqL.of eB, atI_nat (j := 2) rfl, tt, _, _, _, rfl, rfl, SqT.of ett, atI_nat (j := bk x y z 2) (spot (bk_lt _ _ _ _)), d, _, _, _, rfl, rfl, SqL.of hr', atI_nat (j := rol (a, b, k) (bk x y z 2)) (by rw [List.getElem?_map, List.getElem?_map, List.getElem?_range l2]; rfl),
          _, ed, small1000 (by simp; omega), fun x o hx => ?_, ?_⟩⟩
        · rw [upd_ne (ne_of_none hx hD4)]
          exact sd _ _ hx
        · rw [upd_same, List.range_succ, List.map_append, List.map_append]
          rfl
      · rintro Hd ⟨sd, ed⟩
        rw [List.length_map, lt] at ed
        have eL' := sd _ _ eL
        have := hi36 y
        have n4D : D4 ≠ D := fun h => by rw [h] at hD4; rw [sc _ _ (sb _ _ ea)] at hD4; cases hD4
        have n4L : D4 ≠ L := fun h => by rw [h] at hD4; rw [eL] at hD4; cases hD4
        refine ⟨L, _, _, rfl, rfl, eL', small1000 ?_, ?_⟩
        · have := plen pc
          rw [List.length_map, List.length_range] at this
          rw [List.length_map]
          omega
        · refine ⟨_, _, _, _, cs ++ [D4], rfl, fun x o hx => ?_, ?_, ?_⟩
          · rw [upd_ne (ne_of_none hx hL)]
            exact sd _ _ (sc _ _ (sb _ _ hx))
          · rw [upd_same]
            simp
          · rw [List.range_succ, List.map_append]
            refine (pmono (fun c xs h => ⟨h.1, h.2.1, ?_⟩) pc).snoc ⟨n4D, n4L, ?_⟩
            · show (upd Hd L _) D4 = _
              rw [upd_ne n4L]
              exact ed
            · show (upd Hd L _) c = _
              rw [upd_ne h.2.1]
              exact sd _ _ (sc _ _ h.2.2)
    · rintro σ Hb ⟨y9, y10, y11, y12, cs, rfl, sb, eb, pc⟩
      have eD := sb _ _ ea
      have := hi36 x
      refine ⟨_, rfl, .inl ⟨rfl, _, SqL.of eD⟩, _, rfl, D, _, _, rfl, rfl, eD, small1000 ?_, ?_⟩
      · have := plen pu
        rw [List.length_map, List.length_range] at this
        rw [List.length_map]
        omega
      · refine ⟨_, _, _, _, _, _, us ++ [L], rfl, fun x o hx => ?_, ?_, ?_⟩
        · rw [upd_ne (ne_of_none hx hD)]
          exact sb _ _ (sa _ _ hx)
        · rw [upd_same]
          simp
        · rw [List.range_succ, List.map_append]
          refine (pmono (fun c xs h => h.kp fun x o nx hx => ?_) pu).snoc ⟨nLD, cs, ?_, pmono (fun c xs h => ⟨h.1, ?_⟩) pc⟩
          · rw [upd_ne nLD]
            exact eb
          · rw [upd_ne nx]
            exact sb _ _ hx
          · show (upd Hb D _) c = _
            rw [upd_ne h.1]
            exact h.2.2
  · rintro σ Ha ⟨y7, y8, y9, y10, y11, y12, us, rfl, sa, ea, pu⟩
    exact ⟨_, rfl, q Ha D (s12.trans sa) (cube_face ea pu)⟩
end
end My
/-! the law's table of a scheme -/
namespace My
open PySem PySem.Spec PyProof.Rows L2
theorem row_at {xs : Row} {i : Nat} (h : i < xs.length) : (xs.map V.int)[i]? = some (V.int (xs.getD i 0)) := by
  rw [List.getElem?_map, List.getElem?_eq_getElem h, List.getD_eq_getElem?_getD, List.getElem?_eq_getElem h]
  rfl
theorem getD_mem {xs : Row} {i : Nat} (h : i < xs.length) : xs.getD i 0 ∈ xs := by
  rw [List.getD_eq_getElem?_getD, List.getElem?_eq_getElem h]
  exact List.getElem_mem h
def spLCube : Sp := fun vs H Q _ => ∃ (S R : Addr) (sz : Siz) (tr : List Trip), vs = [.ref S, .ref R] ∧ SizAt H S sz ∧ GivenAt H R tr ∧ SmallS sz tr ∧ (∀ t ∈ tr, Tiny t) ∧ ∀ (H' : Hp) (D : Addr), Same H H' → H D = none → CubeF H' D sz.1 sz.2.1 sz.2.2 (tensor tr) → Q (.ref D) H'
section
variable {P : Program} {w : World} {K : PySem.W.Frag} {mg : Str → Option Value} {base : Heap}
theorem ok_l_cube (F : Fn K mg "_law_cube" s_l_cube ["_law_sizes", "_law_rows"]) (B : Blt mg) : Has P w K mg base 1 "_law_cube" ["_law_sizes", "_law_rows"] spLCube := by
  refine F.has sc_l_cube (fun vs H Q E h => ?_) (fun f cdv A outer s H vs Q E hr h => ?_)
  · obtain ⟨S, R, sz, tr, rfl, _⟩ := h
    rfl
  obtain ⟨S, R, ⟨l, r, u⟩, tr, rfl, hS, ⟨rs, hR, pp⟩, hm, tiny, q⟩ := h
  have h2 : H S = some (.tup [.int l, .int r, .int u]) := hS
  have l2 : l ≤ 36 := hm.l2
  have r2 : r ≤ 36 := hm.r2
  have u1 : 1 ≤ u := hm.s1
  have u2 : u ≤ 36 := hm.s2
  have hlen := plen pp
  have trl := hm.len
  refine ⟨_, (pss_one (ps_ret (pe_lc (own := [("_law_i", 5)]) (g := gName 5) (tt := tYes) (by rfl) sc_l_cube.nd (pi_range1 (by rfl) B.range (pa_cons (pe_ix ix_tup (pv 0) pe_int (fun _ _ => rfl)) pa_nil)) (blkOk_by (own := [("_law_i", 5)]) (N := N_l_cube) (sc := defScope s_l_cube) (by decide +kernel)) (fun _ _ _ _ _ => (pg_name (i := 5) sc_l_cube.nd rfl (Or.inr rfl))) (fun _ _ _ _ _ => pts_nil) (fun _ _ _ _ _ => (pe_lc (own := [("_law_j", 4)]) (g := gName 4) (tt := tYes) (by rfl) sc_l_cube.nd (pi_range1 (by rfl) B.range (pa_cons (pe_ix (LcN.ix_tupK K rfl) (pv 0) pe_int (fun _ _ => rfl)) pa_nil)) (blkOk_by (own := [("_law_j", 4)]) (N := N_l_cube) (by rfl)) (fun _ _ _ _ _ => (pg_name (i := 4) sc_l_cube.nd rfl (Or.inr rfl))) (fun _ _ _ _ _ => pts_nil) (fun _ _ _ _ _ => (pe_lc (own := [("_law_k", 3)]) (g := gName 3) (tt := tYes) (by rfl) sc_l_cube.nd (pi_range1 (by rfl) B.range (pa_cons (pe_ix (LcN.ix_tupK K rfl) (pv 0) pe_int (fun _ _ => rfl)) pa_nil)) (blkOk_by (own := [("_law_k", 3)]) (N := N_l_cube) (by rfl)) (fun _ _ _ _ _ => (pg_name (i := 3) sc_l_cube.nd rfl (Or.inr rfl))) (fun _ _ _ _ _ => pts_nil) (fun _ _ _ _ _ => (pe_callB (NK.cr_sumK K rfl rfl) (by rfl) B.sum bb_sum (pa_cons (pe_lc (own := [("_law_row", 2)]) (g := gName 2) (tt := tYes) (by rfl) sc_l_cube.nd (NK.pi_listK K rfl (pv 1)) (blkOk_by (own := [("_law_row", 2)]) (N := N_l_cube) (by rfl)) (fun _ _ _ _ _ => (pg_name (i := 2) sc_l_cube.nd rfl (Or.inl rfl))) (fun _ _ _ _ _ => pts_nil) (fun _ _ _ _ _ => (pe_op op_mul (pe_op op_mul (pe_ix (LcN.ix_listK K rfl) (pe_ix (LcN.ix_tupK K rfl) (pv 2) pe_int (fun _ _ => rfl)) (pv 5) (fun _ _ => rfl)) (pe_ix (LcN.ix_listK K rfl) (pe_ix (LcN.ix_tupK K rfl) (pv 2) pe_int (fun _ _ => rfl)) (pv 4) (fun _ _ => rfl))) (pe_ix (LcN.ix_listK K rfl) (pe_ix (LcN.ix_tupK K rfl) (pv 2) pe_int (fun _ _ => rfl)) (pv 3) (fun _ _ => rfl))))) pa_nil)))))))))), ?_⟩
  refine ⟨_, rfl, S, _, _, _, rfl, rfl, SqT.of h2, atI_nat (j := 0) rfl, (l : Int), rfl, by omega, by omega, fun D hD => ?_⟩
  refine lc_it (walk_range (n := l)) (fun i H' => Same H H' ∧ ∃ ps : List Addr, H' D = some (.lst (ps.map V.ref)) ∧ ps.length = i ∧ D ∉ ps ∧ (∀ p ∈ ps, H p = none) ∧ Cells H' ps r u (tensor tr))
    ⟨same_upd hD, [], upd_same, rfl, by simp, by simp, fun i p e => by simp at e⟩ (fun _ _ _ _ => True.intro) ?_ ?_
  · rintro i v Ha Hb hi ⟨sa, ps, ea, lp, nD, fr, cel⟩ ⟨rfl, hv⟩
    obtain rfl : v = V.int (i : Int) := hv.trans (rng0 i)
    have hi : i < l := hi
    refine ⟨rfl, tYes_ok ⟨_, rfl, S, _, _, _, rfl, rfl, SqT.of (sa _ _ h2), atI_nat (j := 1) rfl, (r : Int), rfl, by omega, by omega, fun D2 hD2 => ?_⟩⟩
    have n2 : D2 ≠ D := (ne_of_none ea hD2).symm
    refine lc_it (walk_range (n := r)) (fun j H' => Same Hb H' ∧ ∃ cs : List Addr, H' D2 = some (.lst (cs.map V.ref)) ∧ cs.length = j ∧ ∀ j c, cs[j]? = some c → RowL H' c ((List.range u).map (tensor tr i j))) ⟨same_upd hD2, [], upd_same, rfl, by simp⟩ (fun _ _ _ _ => True.intro) ?_ ?_
    · rintro j v Hc Hd hj ⟨sc, cs, ec, lc, hcs⟩ ⟨rfl, hv⟩
      obtain rfl : v = V.int (j : Int) := hv.trans (rng0 j)
      have hj : j < r := hj
      refine ⟨rfl, tYes_ok ⟨_, rfl, S, _, _, _, rfl, rfl, SqT.of (sc _ _ (sa _ _ h2)), atI_nat (j := 2) rfl, (u : Int), rfl, by omega, by omega, fun D3 hD3 => ?_⟩⟩
      refine lc_it (walk_range (n := u)) (fun k H' => Same Hd H' ∧ H' D3 = some (.lst (((List.range k).map (tensor tr i j)).map V.int))) ⟨same_upd hD3, upd_same⟩ (fun _ _ _ _ => True.intro) ?_ ?_
      · rintro k v He Hf hk ⟨se, ee⟩ ⟨rfl, hv⟩
        obtain rfl : v = V.int (k : Int) := hv.trans (rng0 k)
        have hk : k < u := hk
        have eR := se _ _ (sc _ _ (sa _ _ hR))
        refine ⟨rfl, tYes_ok ⟨_, rfl, R, rfl, ⟨_, SqL.of eR⟩, fun D4 hD4 => ?_⟩⟩
        refine lc_it (walk_list (xs := rs.map V.ref)) (fun m H' => Same Hf H' ∧ H' D4 = some (.lst (((tr.take m).map fun t => term t i j k).map V.int))) ⟨same_upd hD4, upd_same⟩ (fun _ _ _ e => SqL.of (e.1 _ _ eR)) ?_ ?_
        · rintro m v Hg Hh hmm ⟨sg, eg⟩ ⟨rfl, hv⟩
          obtain ⟨c, hc, rfl⟩ := at_map hv
          have hmt : m < tr.length := by simp at hmm; omega
          obtain ⟨c', ⟨tx, ty, tz⟩, hc', ht, htr⟩ := pat pp hmt
          rw [hc] at hc'
          cases hc'
          have mem := List.mem_of_getElem? ht
          obtain ⟨f1, f2, f3⟩ := hm.fits _ mem
          simp only at f1 f2 f3
          obtain ⟨x, y, z, g0, g1, g2, g3⟩ := (((htr.same sa).same sc).same se).same sg
          have hx : i < tx.length := by omega
          have hy : j < ty.length := by omega
          have hz : k < tz.length := by omega
          have t1 := tiny _ mem (tx.getD i 0) (.inl (getD_mem hx))
          have t2 := tiny _ mem (ty.getD j 0) (.inr (.inl (getD_mem hy)))
          have t3 := tiny _ mem (tz.getD k 0) (.inr (.inr (getD_mem hz)))
          refine ⟨rfl, tYes_ok ?_⟩
          refine ⟨_, rfl, c, _, _, _, rfl, rfl, SqT.of g0, atI_nat (j := 0) rfl, _, rfl, x, _, _, _, rfl, rfl, SqL.of g1, atI_nat (j := i) (row_at (xs := tx) hx), ?_⟩
          refine ⟨_, rfl, c, _, _, _, rfl, rfl, SqT.of g0, atI_nat (j := 1) rfl, _, rfl, y, _, _, _, rfl, rfl, SqL.of g2, atI_nat (j := j) (row_at (xs := ty) hy), _, _, rfl, rfl, .inl ⟨by omega, by omega⟩, ?_⟩
          refine ⟨_, rfl, c, _, _, _, rfl, rfl, SqT.of g0, atI_nat (j := 2) rfl, _, rfl, z, _, _, _, rfl, rfl, SqL.of g3, atI_nat (j := k) (row_at (xs := tz) hz), _, _, rfl, rfl, .inr ⟨by omega, by omega⟩, ?_⟩
          refine ⟨_, eg, small1000 (by simp; omega), fun d o hd => ?_, ?_⟩
          · rw [upd_ne (ne_of_none hd hD4)]
            exact sg _ _ hd
          · rw [upd_same, take_snoc ht]
            simp [term]
        · rintro Hg ⟨sg, eg⟩
          rw [List.take_of_length_le (by simp; omega)] at eg
          refine ⟨D4, _, rfl, SqL.of eg, _, sg _ _ ee, small1000 (by simp; omega), fun d o hd => ?_, ?_⟩
          · rw [upd_ne (ne_of_none hd hD3)]
            exact sg _ _ (se _ _ hd)
          · rw [upd_same, List.range_succ]
            simp [tensor]
      · rintro He ⟨se, ee⟩
        have eD2 := se _ _ ec
        refine ⟨_, eD2, small1000 (by simp; omega), fun d o hd => ?_, cs ++ [D3], ?_, by simp [lc], fun j' d hd => ?_⟩
        · rw [upd_ne (ne_of_none hd hD2)]
          exact se _ _ (sc _ _ hd)
        · rw [upd_same]
          simp
        · have ok : RowL He d ((List.range u).map (tensor tr i j')) := by
            by_cases hj' : j' < cs.length
            · rw [List.getElem?_append_left hj'] at hd
              exact (hcs j' d hd).same se
            · rw [List.getElem?_append_right (by omega)] at hd
              have : j' - cs.length = 0 := by
                have := (List.getElem?_eq_some_iff.mp hd).1
                simp at this
                omega
              rw [this] at hd
              cases hd
              obtain rfl : j' = j := by omega
              exact ee
          show upd _ D2 _ d = some _
          rw [upd_ne (row_ne ok (by simp; omega) eD2 (noNum_refs cs))]
          exact ok
    · rintro Hc ⟨sc, cs, ec, lc, hcs⟩
      have eD := sc _ _ ea
      refine ⟨_, eD, small1000 (by simp; omega), fun d o hd => ?_, ps ++ [D2], ?_, by simp [lp], ?_, fun p hp => ?_, fun k p hk => ?_⟩
      · rw [upd_ne (ne_of_none hd hD)]
        exact sc _ _ (sa _ _ hd)
      · rw [upd_same]
        simp
      · intro m
        rcases List.mem_append.mp m with m | m
        · exact nD m
        · exact n2 (List.mem_singleton.mp m).symm
      · rcases List.mem_append.mp hp with hp | hp
        · exact fr p hp
        · rw [List.mem_singleton.mp hp]
          exact sa.free hD2
      · have row : ∀ {x : Addr} {g : Nat → Int}, RowL Hc x ((List.range u).map g) → RowL (upd Hc D (.lst (ps.map V.ref ++ [.ref D2]))) x ((List.range u).map g) := fun h => by
          show upd _ D _ _ = some _
          rw [upd_ne (row_ne h (by simp; omega) eD (noNum_refs ps))]
          exact h
        by_cases hk : k < ps.length
        · rename_i hk0
          rw [List.getElem?_append_left hk] at hk0
          obtain ⟨cs', q1, q2, q3⟩ := (cel.same sc) k p hk0
          have np : p ≠ D := fun z => nD (z ▸ List.mem_of_getElem? hk0)
          exact ⟨cs', by rw [upd_ne np]; exact q1, q2, fun j c hc => row (q3 j c hc)⟩
        · rename_i hk0
          rw [List.getElem?_append_right (by omega)] at hk0
          have e0 : k - ps.length = 0 := by
            have := (List.getElem?_eq_some_iff.mp hk0).1
            simp at this
            omega
          rw [e0] at hk0
          cases hk0
          obtain rfl : k = i := by omega
          exact ⟨cs, by rw [upd_ne n2]; exact ec, by omega, fun j c hc => row (hcs j c hc)⟩
  · rintro Hb ⟨sa, ps, ea, lp, nD, fr, cel⟩
    exact q Hb D sa hD ⟨ps, lp, ea, cel⟩
end
end My
/-! right_ones where nothing is raised; the law's own measures -/
namespace My
open PySem PySem.Spec PyProof.Rows L2
section
variable {X : Cx} {k : Nat} {x : Str} {sp : Sp} {p pos : Pos} {e : Expr} {es : List Expr} {t : TA}
/-- a def with *args, called where it raises nothing -/
theorem pe_ownRX (h : HasRX X.prog X.w X.K X.mg X.base k x sp) (hr : Room k X.A) (hg : Gl X x) (ha : PA X (e :: es) t) (hdb : (x == ("__debug__" : Str)) = false := by decide)
    (he : starEach (e :: es) X.env = (false, eval e X.env) :: starEach es X.env := by rfl) (hpl : (backTo pos (starEach es X.env)).any (·.1) = false := by rfl) : PE X (.Call (.Name x p) (e :: es) [] pos) (fun σ H Q => t σ H fun vs H1 => sp vs H1 Q E0) := by
  obtain ⟨f, F, m, kp⟩ := h.ex
  constructor
  intro pins s σ H Q I h
  apply wpAny_Call_Name_kw (ld_glob I hg m ?_ hdb)
  apply PySem.W.callWith_K (h₀ := X.base) I.ok.mod.kin kp _ he hpl
  apply thn (ha.run pos pins s σ H _ I h)
  rintro us s1 ⟨vs, H1, I1, r, q⟩
  exact ⟨I1.kIn, wpAny_call (run_fnR F hr passL I1 r q)⟩
end
theorem zip_at {α β γ : Type} {f : α → β → γ} {xs : List α} {ys : List β} {i : Nat} {x : α} {y : β} (hx : xs[i]? = some x) (hy : ys[i]? = some y) : (List.zipWith f xs ys)[i]? = some (f x y) := by
  rw [List.getElem?_zipWith, hx, hy]
def gapsOf (sz : Siz) (tr : List Trip) (g : Nat → Nat → Nat → Int) : List Int := List.zipWith (fun x y => x - y) (flatC sz.1 sz.2.1 sz.2.2 (tensor tr)) (flatC sz.1 sz.2.1 sz.2.2 g)
def spRight (C : Addr) : Sp := fun vs H Q _ => ∃ (a t : Addr) (sz : Siz) (tr : List Trip) (g : Nat → Nat → Nat → Int), vs = [.ref a, .ref t] ∧ SchemeAt C H a sz tr ∧ (∀ t ∈ tr, Mid t) ∧ CubeF H t sz.1 sz.2.1 sz.2.2 g ∧ ∀ H', Same H H' → Q (.int (gcdAll (gapsOf sz tr g))) H'
def spGcds : Sp := fun vs H Q _ => ∃ (a : Addr) (ns : List Int), vs = [.ref a] ∧ H a = some (.lst (ns.map V.int)) ∧ Q (.int (gcdAll ns)) H
def spCubeRows : Sp := fun vs H Q _ => ∃ (a : Addr) (l r u : Nat) (g : Nat → Nat → Nat → Int), vs = [.ref a] ∧ CubeF H a l r u g ∧ l ≤ 36 ∧ r ≤ 36 ∧ u ≤ 36 ∧ ∀ (H' : Hp) (D : Addr), Same H H' → H' D = some (.lst ((flatC l r u g).map V.int)) → Q (.ref D) H'
section
variable {P : Program} {w : World} {K : PySem.W.Frag} {mg : Str → Option Value} {base : Heap} {C CB : Addr}
theorem ok_rightX {f : Addr} {fd : FuncData} (R : SCls K C) (B : Blt mg) (F : Fun K "right_ones" "Scheme.right_ones" s_Scheme_right_ones f fd) (M : Meth K C "right_ones" f) (b : Binds K fd ["self", "table"] [])
    (G_check_table : HasX P w K mg base 4 "check_table" ["table", "scheme"] (spCheckTableX C CB)) (M_table : HasM P w K mg base 1 C "table" ["self"] (spTable C)) (G_entries : Has P w K mg base 1 "entries" ["table"] spEntries) (G_common : HasR P w K mg base 1 "common" spCommonN) :
    HasM P w K mg base 5 C "right_ones" ["self", "table"] (spRight C) := by
  refine ⟨f, fd, F.ok sc_Scheme_right_ones (fun vs H Q E h => ?_) (fun cdv A outer s H vs Q E hr h => ?_), M, b⟩
  · obtain ⟨a, c, n, tr, g, rfl, _⟩ := h
    rfl
  obtain ⟨a, t, sz, tr, g, rfl, hA, hm, hC, q⟩ := h
  have cl_ := R.cl
  refine ⟨_, (pss_cons (ps_expr (pe_ownX G_check_table (hr.mono (by decide)) (by rfl) (pa_cons (pv 1) (pa_cons (pv 0) pa_nil))))
      (pss_cons (ps_setLc (i := 2) (own := [("x", 3), ("y", 4)]) (g := gTup K 2 (gCons (gName 3) (gCons (gName 4) gNil))) (tt := tYes) (by rfl) sc_Scheme_right_ones.nd rfl rfl (sw_true rfl rfl rfl (by decide +kernel)) (RZ.pi_zipA (by rfl) B.zip (pa_cons (pe_own G_entries (hr.mono (by decide)) (by rfl) (pa_cons (pe_ownM0 cl_ M_table (hr.mono (by decide)) (pv 0)) pa_nil)) (pa_cons (pe_own G_entries (hr.mono (by decide)) (by rfl) (pa_cons (pv 1) pa_nil)) pa_nil))) (blkOk_by (own := [("x", 3), ("y", 4)]) (N := N_Scheme_right_ones) (sc := defScope s_Scheme_right_ones) (by decide +kernel)) (fun _ _ _ _ _ => (pg_tup rfl (pgs_cons (pg_name (i := 3) sc_Scheme_right_ones.nd rfl (Or.inl rfl)) (pgs_cons (pg_name (i := 4) sc_Scheme_right_ones.nd rfl (Or.inl rfl)) pgs_nil)))) (fun _ _ _ _ _ => pts_nil) (fun _ _ _ _ _ => (pe_op op_sub (pv 3) (pv 4))))
      (pss_one (ps_ret (pe_ownS K rfl G_common (hr.mono (by decide)) (by rfl) (pv 2)))))), ?_⟩
  obtain ⟨dx, S, T, ts, h1, h2, h3, h4, h5⟩ := id hA
  refine ⟨_, rfl, _, rfl, .ref t, a, sz, tr, rfl, hA, .inl ⟨t, g, rfl, hC, fun H1 s1 => ?_⟩⟩
  refine ⟨_, rfl, a, dx, _, rfl, s1 _ _ h1, rfl, a, sz, tr, rfl, hA.same s1, hm, fun H2 D s2 hD hc _ => ?_⟩
  refine ⟨D, sz.1, sz.2.1, sz.2.2, tensor tr, rfl, hc, h5.l2, h5.r2, h5.s2, fun H3 D3 s3 hD3 e3 => ?_⟩
  refine ⟨_, rfl, t, sz.1, sz.2.1, sz.2.2, g, rfl, ((hC.same s1).same s2).same s3, h5.l2, h5.r2, h5.s2, fun H4 D4 s4 hD4 e4 => ?_⟩
  have e3' := s4 _ _ e3
  refine ⟨D3, D4, _, _, rfl, .inl ⟨SqL.of e3', SqL.of e4, fun D5 hD5 => ?_⟩⟩
  have len3 := flatC_len sz.1 sz.2.1 sz.2.2 (tensor tr)
  have len4 := flatC_len sz.1 sz.2.1 sz.2.2 g
  have big : sz.1 * (sz.2.1 * sz.2.2) ≤ 36 * (36 * 36) := Nat.mul_le_mul h5.l2 (Nat.mul_le_mul h5.r2 h5.s2)
  have len5 : (gapsOf sz tr g).length = sz.1 * (sz.2.1 * sz.2.2) := by
    unfold gapsOf
    rw [List.length_zipWith, len3, len4, Nat.min_self]
  refine lc_it (walk_zip (K := K) (xs := (flatC sz.1 sz.2.1 sz.2.2 (tensor tr)).map V.int) (ys := (flatC sz.1 sz.2.1 sz.2.2 g).map V.int) (n := sz.1 * (sz.2.1 * sz.2.2)) (by rw [List.length_map, List.length_map, len3, len4, Nat.min_self])) (fun i H' => Same H4 H' ∧ H' D5 = some (.lst (((gapsOf sz tr g).take i).map V.int))) ⟨same_upd hD5, upd_same⟩
    (fun i H' _ e => ⟨SqL.of (e.1 _ _ e3'), SqL.of (e.1 _ _ e4)⟩) ?_ ?_
  · rintro i v Ha Hb hi ⟨sa, ea⟩ ⟨U, x, y, rfl, hU, rfl, hx, hy⟩
    obtain ⟨xi, hxi, rfl⟩ := at_map (show ((flatC sz.1 sz.2.1 sz.2.2 (tensor tr)).map V.int)[i]? = some x from hx)
    obtain ⟨yi, hyi, rfl⟩ := at_map (show ((flatC sz.1 sz.2.1 sz.2.2 g).map V.int)[i]? = some y from hy)
    have sU := same_upd (o := .tup [.int xi, .int yi]) hU
    refine ⟨U, [.int xi, .int yi], rfl, SqT.of upd_same, rfl, .int xi, [.int yi], rfl, .int yi, [], rfl, rfl, rfl, tYes_ok ⟨_, rfl, _, rfl, _, _, rfl, rfl, _, sU _ _ ea, LcN.small100 (by simp; omega), fun d o hd => ?_, ?_⟩⟩
    · rw [upd_ne (ne_of_none hd hD5)]
      exact sU _ _ (sa _ _ hd)
    · rw [upd_same, take_snoc (show (gapsOf sz tr g)[i]? = some (xi - yi) from zip_at hxi hyi)]
      simp
  · rintro H5 ⟨s5, e5⟩
    rw [List.take_of_length_le (Nat.le_of_eq len5)] at e5
    exact ⟨_, rfl, D5, _, rfl, .inr (SqL.of e5), gapsOf sz tr g, rfl, by omega, fun H6 s6 => q _ (s1.trans (s2.trans (s3.trans (s4.trans (s5.trans s6)))))⟩
theorem ok_l_gcds (F : Fn K mg "_law_gcds" s_l_gcds ["_law_numbers"]) (G_l_gcd : Has P w K mg base 1 "_law_gcd" ["_law_a", "_law_b"] spGcd) : Has P w K mg base 2 "_law_gcds" ["_law_numbers"] spGcds := by
  refine F.has sc_l_gcds (fun vs H Q E h => ?_) (fun f cdv A outer s H vs Q E hr h => ?_)
  · obtain ⟨a, ns, rfl, _⟩ := h
    rfl
  obtain ⟨a, ns, rfl, ha, q⟩ := h
  refine ⟨_, (pss_cons (ps_set (i := 1) sc_l_gcds.nd rfl (Or.inl rfl) pe_int)
      (pss_cons (ps_for PassesOwn.never rfl (pi_list (pv 0)) (pg_name (i := 2) sc_l_gcds.nd rfl (Or.inl rfl))
        (pss_one (ps_set (i := 1) sc_l_gcds.nd rfl (Or.inl rfl) (pe_own G_l_gcd (hr.mono (by decide)) (by rfl) (pa_cons (pv 1) (pa_cons (pv 2) pa_nil))))))
      (pss_one (ps_ret (pv 1))))), ?_⟩
  refine ⟨_, rfl, a, rfl, ⟨_, SqL.of ha⟩, for_list (xs := ns.map V.int) (fun i σ H' => ∃ y, σ = [some (.ref a), some (.int (gcdAll (ns.take i))), y] ∧ H' = H) ⟨_, rfl, rfl⟩ (fun i σ H' _ e => by obtain ⟨_, _, rfl⟩ := e; exact SqL.of ha) ?_ ?_⟩
  · rintro i v σ H' hv ⟨y, rfl, rfl⟩
    obtain ⟨n, hn, rfl⟩ := at_map hv
    refine ⟨_, rfl, _, rfl, gcdAll (ns.take i), n, rfl, some (.int n), ?_, rfl⟩
    unfold gcdAll
    rw [take_snoc hn, List.foldl_append]
    rfl
  · rintro σ H' ⟨y, rfl, rfl⟩
    rw [List.length_map, List.take_length]
    exact ⟨_, rfl, q⟩
theorem ok_l_cube_rows (F : Fn K mg "_law_cube_rows" s_l_cube_rows ["_law_table"]) (B : Blt mg) : Has P w K mg base 1 "_law_cube_rows" ["_law_table"] spCubeRows := by
  refine F.has sc_l_cube_rows (fun vs H Q E h => ?_) (fun f cdv A outer s H vs Q E hr h => ?_)
  · obtain ⟨a, l, r, u, g, rfl, _⟩ := h
    rfl
  obtain ⟨a, l, r, u, g, rfl, ⟨ps, lps, hF, cellF⟩, l36, r36, u36, q⟩ := h
  refine ⟨_, (pss_cons (ps_set (i := 1) sc_l_cube_rows.nd rfl (Or.inl rfl) (pe_lst pa_nil))
      (pss_cons (ps_for PassesOwn.never rfl (pi_list (pv 0)) (pg_name (i := 2) sc_l_cube_rows.nd rfl (Or.inl rfl))
        (pss_one (ps_for PassesOwn.never rfl (pi_list (pv 2)) (pg_name (i := 3) sc_l_cube_rows.nd rfl (Or.inl rfl))
        (pss_one (ps_set (i := 1) sc_l_cube_rows.nd rfl (Or.inl rfl) (pe_op op_cat (pv 1) (pe_callTy call_list_of (by rfl) B.list bb_list (pa_cons (pv 3) pa_nil))))))))
      (pss_one (ps_ret (pv 1))))), ?_⟩
  have big : l * (r * u) ≤ 36 * (36 * 36) := Nat.mul_le_mul l36 (Nat.mul_le_mul r36 u36)
  refine ⟨by show 0 ≤ sizeLine; decide, fun D hD => ?_⟩
  have sD := same_upd (o := .lst []) hD
  refine ⟨_, rfl, a, rfl, ⟨_, SqL.of (sD _ _ hF)⟩, for_list (xs := ps.map V.ref) (fun i σ H' => ∃ (y2 y3 : Option V) (D : Addr), σ = [some (.ref a), some (.ref D), y2, y3] ∧ Same H H' ∧ H' D = some (.lst ((flatC i r u g).map V.int))) ⟨_, _, D, rfl, sD, upd_same⟩ (fun i σ H' _ e => by obtain ⟨_, _, _, _, e, _⟩ := e; exact SqL.of (e _ _ hF)) ?_ ?_⟩
  · rintro i v σ H' hv ⟨y2, y3, D, rfl, s1, e1⟩
    obtain ⟨p, hp, rfl⟩ := at_map hv
    have hi : i < l := by rw [← lps]; exact (List.getElem?_eq_some_iff.mp hp).1
    obtain ⟨cs, hcs, lcs, rows⟩ := cellF i p hp
    refine ⟨_, rfl, p, rfl, ⟨_, SqL.of (s1 _ _ hcs)⟩, for_list (xs := cs.map V.ref) (fun j σ H' => ∃ (y3 : Option V) (D : Addr), σ = [some (.ref a), some (.ref D), some (.ref p), y3] ∧ Same H H' ∧ H' D = some (.lst ((flatC i r u g ++ (List.range j).flatMap fun j => (List.range u).map (g i j)).map V.int))) ⟨_, D, rfl, s1, by simpa using e1⟩ (fun i σ H' _ e => by obtain ⟨_, _, _, e, _⟩ := e; exact SqL.of (e _ _ hcs)) ?_ ?_⟩
    · rintro j v σ H2 hv ⟨y3, D, rfl, s2, e2⟩
      obtain ⟨c, hc, rfl⟩ := at_map hv
      have hj : j < r := by rw [← lcs]; exact (List.getElem?_eq_some_iff.mp hc).1
      have hrow : H2 c = some (.lst (((List.range u).map (g i j)).map V.int)) := s2 _ _ (rows j c hc)
      refine ⟨_, rfl, _, rfl, c, _, rfl, .inl (SqL.of hrow), fun l1 n1 => ?_⟩
      have k1 := same_upd (o := .lst (((List.range u).map (g i j)).map V.int)) n1
      refine ⟨D, l1, _, _, rfl, rfl, k1 _ _ e2, upd_same, Nat.le_of_lt (LcN.small100 ?_), fun l2 n2 => ⟨_, l2, rfl, (s2.trans k1).trans (same_upd n2), ?_⟩⟩
      · rw [List.length_map, List.length_map, List.length_map, List.length_range, List.length_append, flatC_len, flatR_len (m := u) _ (fun x => by simp)]
        have m1 : (i + 1) * (r * u) ≤ l * (r * u) := Nat.mul_le_mul hi (Nat.le_refl _)
        have m2 : (j + 1) * u ≤ r * u := Nat.mul_le_mul hj (Nat.le_refl _)
        rw [Nat.succ_mul] at m1 m2
        omega
      · rw [upd_same, flat_succ]
        simp
    · rintro σ H2 ⟨y3, D, rfl, s2, e2⟩
      refine ⟨_, _, D, rfl, s2, ?_⟩
      rw [e2, List.length_map, lcs]
      unfold flatC
      rw [flat_succ]
  · rintro σ H' ⟨y2, y3, D, rfl, s1, e1⟩
    rw [List.length_map, lps] at e1
    exact ⟨_, rfl, q H' D s1 e1⟩
end
end My
/-! a drawn table with a unit entry -/
namespace My
open PySem PySem.Spec PyProof.Rows L2
theorem kp_push {b D : Addr} {H Hn : Hp} {o : HO} (k : Kp b H Hn) (hD : H D = none) : Kp b H (upd Hn D o) := fun x u nx hx => by
  rw [upd_ne (ne_of_none hx hD)]
  exact k _ _ nx hx
theorem refs_ne_b {H : Hp} {b c p : Addr} {cs : List Addr} (h : H p = some (.lst (cs.map V.ref))) (B : Bg H b c) : p ≠ b := by
  obtain ⟨ns, i, r, m, g⟩ := B
  refine ne_of h g.hb fun e => ?_
  match cs, e with
  | [], e => cases e
  | [_], e => cases e
  | _ :: _ :: _, e => cases e
theorem ints_ne_b {H : Hp} {b c p : Addr} {xs : Row} (h : RowL H p xs) (B : Bg H b c) : p ≠ b := by
  obtain ⟨ns, i, r, m, g⟩ := B
  refine ne_of h g.hb fun e => ?_
  match xs, e with
  | [], e => cases e
  | _ :: _, e => cases e
theorem CubeF.kb {H H' : Hp} {a b c : Addr} {l r u : Nat} {g : Nat → Nat → Nat → Int} (h : CubeF H a l r u g) (B : Bg H b c) (k : Kp b H H') : CubeF H' a l r u g := by
  obtain ⟨ps, lp, h1, cel⟩ := h
  refine ⟨ps, lp, k _ _ (refs_ne_b h1 B) h1, fun i p hi => ?_⟩
  obtain ⟨cs, q1, q2, q3⟩ := cel i p hi
  exact ⟨cs, k _ _ (refs_ne_b q1 B) q1, q2, fun j c' hj => k _ _ (ints_ne_b (q3 j c' hj) B) (q3 j c' hj)⟩
/-- a list of rows apart from D and from the bag -/
def FaceB (b D : Addr) (H0 H : Hp) (p : Addr) (rs : List Row) : Prop := p ≠ D ∧ p ≠ b ∧ ∃ cs : List Addr, H p = some (.lst (cs.map V.ref)) ∧ Paired (fun c xs => c ≠ D ∧ c ≠ b ∧ H0 c = none ∧ RowL H c xs) cs rs
def RowsNew (H0 H : Hp) (D : Addr) : Prop := ∀ (ps : List Addr) (p : Addr) (cs : List Addr) (c : Addr), H D = some (.lst (ps.map V.ref)) → p ∈ ps → H p = some (.lst (cs.map V.ref)) → c ∈ cs → H0 c = none
theorem refs_inj {xs ys : List Addr} (h : (some (HO.lst (xs.map V.ref)) : Option HO) = some (HO.lst (ys.map V.ref))) : xs = ys := by
  injection h with h
  injection h with h
  exact (List.map_inj_right (fun x y z => by injection z)).mp h
theorem Kp.free {b D : Addr} {H H' : Hp} (k : Kp b H H') (n : D ≠ b) (h : H' D = none) : H D = none := by
  cases e : H D with
  | none => rfl
  | some o =>
    rw [k _ _ n e] at h
    cases h
def at3 (fss : List (List Row)) (i j k : Nat) : Int := ((fss.getD i []).getD j []).getD k 0
theorem range_getD (xs : Row) : (List.range xs.length).map (fun k => xs.getD k 0) = xs := by
  apply List.ext_getElem?
  intro i
  rw [List.getElem?_map]
  by_cases h : i < xs.length
  · rw [List.getElem?_range h, List.getElem?_eq_getElem h]
    show some (xs.getD i 0) = _
    rw [List.getD_eq_getElem?_getD, List.getElem?_eq_getElem h]
    rfl
  · rw [List.getElem?_eq_none (by simp; omega), List.getElem?_eq_none (by omega)]
    rfl
theorem cube_of {b D : Addr} {H0 H : Hp} {l r u B : Nat} {us : List Addr} {fss : List (List Row)} (hD : H D = some (.lst (us.map V.ref))) (h : Paired (FaceB b D H0 H) us fss) (hl : fss.length = l) (hf : ∀ fs ∈ fss, fs.length = r ∧ ∀ row ∈ fs, row.length = u ∧ ∀ x ∈ row, x.natAbs ≤ B) :
    CubeF H D l r u (at3 fss) ∧ RowsNew H0 H D ∧ ∀ y ∈ flatC l r u (at3 fss), y.natAbs ≤ B := by
  have get : ∀ {i j : Nat}, i < l → j < r → ∃ fs row, fss[i]? = some fs ∧ fs[j]? = some row ∧ (List.range u).map (at3 fss i j) = row ∧ ∀ x ∈ row, x.natAbs ≤ B := fun {i j} hi hj => by
    have e1 : fss[i]? = some (fss[i]'(by omega)) := List.getElem?_eq_getElem (by omega)
    obtain ⟨f1, f2⟩ := hf _ (List.mem_of_getElem? e1)
    have e2 : (fss[i]'(by omega))[j]? = some ((fss[i]'(by omega))[j]'(by omega)) := List.getElem?_eq_getElem (by omega)
    obtain ⟨g1, g2⟩ := f2 _ (List.mem_of_getElem? e2)
    refine ⟨_, _, e1, e2, ?_, g2⟩
    have e3 : at3 fss i j = fun k => ((fss[i]'(by omega))[j]'(by omega)).getD k 0 := by
      funext k
      unfold at3
      rw [List.getD_eq_getElem?_getD (l := fss), e1]
      show ((fss[i]'_).getD j []).getD k 0 = _
      rw [List.getD_eq_getElem?_getD (l := fss[i]'_), e2]
      rfl
    rw [e3]
    have := range_getD ((fss[i]'(by omega))[j]'(by omega))
    rw [g1] at this
    exact this
  refine ⟨⟨us, (plen h).trans hl, hD, fun i p hi => ?_⟩, fun ps p cs c e1 m1 e2 m2 => ?_, fun y hy => ?_⟩
  · have hi' : i < fss.length := by
      rw [← plen h]
      exact (List.getElem?_eq_some_iff.mp hi).1
    obtain ⟨p', fs, hp', hfs, _, _, cs, c1, c2⟩ := pat h hi'
    rw [hi] at hp'
    cases hp'
    obtain ⟨f1, _⟩ := hf fs (List.mem_of_getElem? hfs)
    refine ⟨cs, c1, (plen c2).trans f1, fun j c hj => ?_⟩
    have hj' : j < fs.length := by
      rw [← plen c2]
      exact (List.getElem?_eq_some_iff.mp hj).1
    obtain ⟨c', row, hc', hrow, _, _, _, hr⟩ := pat c2 hj'
    rw [hj] at hc'
    cases hc'
    obtain ⟨fs', row', q1, q2, q3, _⟩ := get (i := i) (j := j) (by omega) (by omega)
    rw [hfs] at q1
    cases q1
    rw [hrow] at q2
    cases q2
    rw [q3]
    exact hr
  · obtain rfl := refs_inj (e1.symm.trans hD)
    obtain ⟨i, hi⟩ := List.mem_iff_getElem?.mp m1
    obtain ⟨p', fs, hp', hfs, _, _, cs', c1, c2⟩ := pat h (i := i) (by rw [← plen h]; exact (List.getElem?_eq_some_iff.mp hi).1)
    rw [hi] at hp'
    cases hp'
    obtain rfl := refs_inj (e2.symm.trans c1)
    obtain ⟨j, hj⟩ := List.mem_iff_getElem?.mp m2
    obtain ⟨c', row, hc', hrow, _, _, f, _⟩ := pat c2 (i := j) (by rw [← plen c2]; exact (List.getElem?_eq_some_iff.mp hj).1)
    rw [hj] at hc'
    cases hc'
    exact f
  · obtain ⟨i, hi, hy⟩ := List.mem_flatMap.mp hy
    obtain ⟨j, hj, hy⟩ := List.mem_flatMap.mp hy
    obtain ⟨fs, row, q1, q2, q3, q4⟩ := get (List.mem_range.mp hi) (List.mem_range.mp hj)
    rw [q3] at hy
    exact q4 y hy
end My
/-! numbers of turned schemes -/
namespace My
open PySem PySem.Spec PyProof.Rows L2
theorem Ord3.cases {x y z : Nat} (h : Ord3 x y z) : (x = 0 ∧ y = 1 ∧ z = 2) ∨ (x = 0 ∧ y = 2 ∧ z = 1) ∨ (x = 1 ∧ y = 0 ∧ z = 2) ∨ (x = 1 ∧ y = 2 ∧ z = 0) ∨ (x = 2 ∧ y = 0 ∧ z = 1) ∨ (x = 2 ∧ y = 1 ∧ z = 0) := by
  have h1 := h.hx
  have h2 := h.hy
  have h3 := h.hz
  have h4 := h.xy
  have h5 := h.yz
  have h6 := h.xz
  omega
theorem turn_back {α : Type} {x y z : Nat} (o : Ord3 x y z) (t : α × α × α) : turn3 (bk x y z 0) (bk x y z 1) (bk x y z 2) (turn3 x y z t) = t := by
  rcases o.cases with ⟨rfl, rfl, rfl⟩ | ⟨rfl, rfl, rfl⟩ | ⟨rfl, rfl, rfl⟩ | ⟨rfl, rfl, rfl⟩ | ⟨rfl, rfl, rfl⟩ | ⟨rfl, rfl, rfl⟩ <;> rfl
theorem ord_back {x y z : Nat} (o : Ord3 x y z) : Ord3 (bk x y z 0) (bk x y z 1) (bk x y z 2) := by
  rcases o.cases with ⟨rfl, rfl, rfl⟩ | ⟨rfl, rfl, rfl⟩ | ⟨rfl, rfl, rfl⟩ | ⟨rfl, rfl, rfl⟩ | ⟨rfl, rfl, rfl⟩ | ⟨rfl, rfl, rfl⟩ <;> exact ⟨by decide, by decide, by decide, by decide, by decide, by decide⟩
theorem term_turn {x y z : Nat} (o : Ord3 x y z) (t : Trip) (a b c : Nat) : term (turn3 x y z t) a b c = turnG x y z (term t) a b c := by
  obtain ⟨p, q, r⟩ := t
  rcases o.cases with ⟨rfl, rfl, rfl⟩ | ⟨rfl, rfl, rfl⟩ | ⟨rfl, rfl, rfl⟩ | ⟨rfl, rfl, rfl⟩ | ⟨rfl, rfl, rfl⟩ | ⟨rfl, rfl, rfl⟩
  · rfl
  · show p.getD a 0 * r.getD b 0 * q.getD c 0 = p.getD a 0 * q.getD c 0 * r.getD b 0
    rw [Int.mul_assoc, Int.mul_comm (r.getD b 0), ← Int.mul_assoc]
  · show q.getD a 0 * p.getD b 0 * r.getD c 0 = p.getD b 0 * q.getD a 0 * r.getD c 0
    rw [Int.mul_comm (q.getD a 0)]
  · show q.getD a 0 * r.getD b 0 * p.getD c 0 = p.getD c 0 * q.getD a 0 * r.getD b 0
    rw [Int.mul_comm _ (p.getD c 0), ← Int.mul_assoc]
  · show r.getD a 0 * p.getD b 0 * q.getD c 0 = p.getD b 0 * q.getD c 0 * r.getD a 0
    rw [Int.mul_assoc, Int.mul_comm]
  · show r.getD a 0 * q.getD b 0 * p.getD c 0 = p.getD c 0 * q.getD b 0 * r.getD a 0
    rw [Int.mul_comm _ (p.getD c 0), Int.mul_comm (r.getD a 0), ← Int.mul_assoc]
theorem tensor_turn {x y z : Nat} (o : Ord3 x y z) (tr : List Trip) : tensor (tr.map (turn3 x y z)) = turnG x y z (tensor tr) := by
  funext a b c
  unfold tensor turnG
  rw [List.map_map]
  refine congrArg List.sum (List.map_congr_left fun t _ => ?_)
  exact term_turn o t a b c
theorem zip_map2 {α : Type} (f : Int → Int → Int) (p q : α → Int) : ∀ xs : List α, List.zipWith f (xs.map p) (xs.map q) = xs.map fun x => f (p x) (q x)
  | [] => rfl
  | x :: xs => by
    have ih := zip_map2 f p q xs
    simp only [List.map_cons, List.zipWith_cons_cons, ih]
theorem zip_flat {α : Type} (f : Int → Int → Int) (p q : α → List Int) (h : ∀ x, (p x).length = (q x).length) : ∀ xs : List α, List.zipWith f (xs.flatMap p) (xs.flatMap q) = xs.flatMap fun x => List.zipWith f (p x) (q x)
  | [] => rfl
  | x :: xs => by
    have ih := zip_flat f p q h xs
    rw [List.flatMap_cons, List.flatMap_cons, List.flatMap_cons, List.zipWith_append (h x), ih]
theorem gaps_flat (sz : Siz) (tr : List Trip) (g : Nat → Nat → Nat → Int) : gapsOf sz tr g = flatC sz.1 sz.2.1 sz.2.2 fun i j k => tensor tr i j k - g i j k := by
  unfold gapsOf flatC
  rw [zip_flat _ _ _ fun i => by rw [flatR_len _ (fun j => by rw [List.length_map, List.length_range]) sz.2.1, flatR_len _ (fun j => by rw [List.length_map, List.length_range]) sz.2.1]]
  refine congrArg (List.flatMap · (List.range sz.1)) (funext fun i => ?_)
  rw [zip_flat _ _ _ fun j => by rw [List.length_map, List.length_map]]
  exact congrArg (List.flatMap · (List.range sz.2.1)) (funext fun j => zip_map2 _ _ _ _)
theorem mem_flatC {l r u : Nat} {D : Nat → Nat → Nat → Int} {v : Int} : v ∈ flatC l r u D ↔ ∃ i j k, i < l ∧ j < r ∧ k < u ∧ D i j k = v := by
  unfold flatC
  constructor
  · intro h
    obtain ⟨i, hi, h⟩ := List.mem_flatMap.mp h
    obtain ⟨j, hj, h⟩ := List.mem_flatMap.mp h
    obtain ⟨k, hk, h⟩ := List.mem_map.mp h
    exact ⟨i, j, k, List.mem_range.mp hi, List.mem_range.mp hj, List.mem_range.mp hk, h⟩
  · rintro ⟨i, j, k, hi, hj, hk, h⟩
    exact List.mem_flatMap.mpr ⟨i, List.mem_range.mpr hi, List.mem_flatMap.mpr ⟨j, List.mem_range.mpr hj, List.mem_map.mpr ⟨k, List.mem_range.mpr hk, h⟩⟩⟩
theorem turn_mem {x y z : Nat} (o : Ord3 x y z) (sz : Siz) (D : Nat → Nat → Nat → Int) (v : Int) : v ∈ flatC (rol sz x) (rol sz y) (rol sz z) (turnG x y z D) ↔ v ∈ flatC sz.1 sz.2.1 sz.2.2 D := by
  rw [mem_flatC, mem_flatC]
  constructor
  · rintro ⟨a, b, c, ha, hb, hc, h⟩
    exact ⟨_, _, _, turn_lt o ha hb hc (j := 0) (by decide), turn_lt o ha hb hc (j := 1) (by decide), turn_lt o ha hb hc (j := 2) (by decide), h⟩
  · rintro ⟨i, j, k, hi, hj, hk, h⟩
    refine ⟨rol (i, j, k) x, rol (i, j, k) y, rol (i, j, k) z, ?_⟩
    rcases o.cases with ⟨rfl, rfl, rfl⟩ | ⟨rfl, rfl, rfl⟩ | ⟨rfl, rfl, rfl⟩ | ⟨rfl, rfl, rfl⟩ | ⟨rfl, rfl, rfl⟩ | ⟨rfl, rfl, rfl⟩
    · exact ⟨hi, hj, hk, h⟩
    · exact ⟨hi, hk, hj, h⟩
    · exact ⟨hj, hi, hk, h⟩
    · exact ⟨hj, hk, hi, h⟩
    · exact ⟨hk, hi, hj, h⟩
    · exact ⟨hk, hj, hi, h⟩
theorem gcd_dvdI {d : Nat} : ∀ (ns : List Int) (s : Int), (d ∣ (ns.foldl gcdI s).natAbs) ↔ (d ∣ s.natAbs ∧ ∀ n ∈ ns, d ∣ n.natAbs)
  | [], s => by simp
  | n :: ns, s => by
    rw [List.foldl_cons, gcd_dvdI ns (gcdI s n)]
    have : (gcdI s n).natAbs = Nat.gcd s.natAbs n.natAbs := by unfold gcdI; rw [Int.natAbs_natCast]
    rw [this, Nat.dvd_gcd_iff]
    simp only [List.mem_cons, forall_eq_or_imp]
    exact and_assoc
theorem gcd_pos : ∀ ns : List Int, ∃ n : Nat, gcdAll ns = n := by
  intro ns
  have : ∀ (ns : List Int) (m : Nat), ∃ n : Nat, ns.foldl gcdI m = n := by
    intro ns
    induction ns with
    | nil => exact fun m => ⟨m, rfl⟩
    | cons x xs ih => exact fun m => ih _
  exact this ns 0
theorem gcd_mem {xs ys : List Int} (h : ∀ v, v ∈ xs ↔ v ∈ ys) : gcdAll xs = gcdAll ys := by
  obtain ⟨m, hm⟩ := gcd_pos xs
  obtain ⟨n, hn⟩ := gcd_pos ys
  have dm : ∀ d : Nat, d ∣ m ↔ ∀ v ∈ xs, d ∣ v.natAbs := fun d => by
    have := gcd_dvdI (d := d) xs 0
    rw [show xs.foldl gcdI 0 = (m : Int) from hm] at this
    simpa using this
  have dn : ∀ d : Nat, d ∣ n ↔ ∀ v ∈ ys, d ∣ v.natAbs := fun d => by
    have := gcd_dvdI (d := d) ys 0
    rw [show ys.foldl gcdI 0 = (n : Int) from hn] at this
    simpa using this
  have : m = n := Nat.dvd_antisymm ((dn m).mpr fun v hv => (dm m).mp (Nat.dvd_refl m) v ((h v).mpr hv)) ((dm n).mpr fun v hv => (dn n).mp (Nat.dvd_refl n) v ((h v).mp hv))
  rw [hm, hn, this]
/-- the number of a turned scheme and a turned table -/
theorem gaps_turn {x y z : Nat} (o : Ord3 x y z) (sz : Siz) (tr : List Trip) (g : Nat → Nat → Nat → Int) : gcdAll (gapsOf (turn3 x y z sz) (tr.map (turn3 x y z)) (turnG x y z g)) = gcdAll (gapsOf sz tr g) := by
  rw [gaps_flat, gaps_flat, tensor_turn o]
  exact gcd_mem fun v => turn_mem o sz (fun i j k => tensor tr i j k - g i j k) v
end My
namespace My
open PySem PySem.Spec PyProof.Rows L2
theorem un1 {k : Nat} {A : Around} (r : Room k A) : A.units + 1 < cLine := by
  have := r.un
  omega
section
variable {X : Cx}
/-- _law_got(lambda: body) -/
theorem pe_got {c P : Addr} {k : Nat} {cs : List Value} {params : Arguments} {body : Expr} {scope : Scope} {t : XK → TE} {p lpos pos : Pos} (F : Fn X.K X.mg "_law_got" s_l_got ["_law_ask"])
    (GV : ∀ (g : Addr) (cdv : Value), LamX.GivesTo X N_l_got "_law_got" (defScope s_l_got) g cdv (defBody s_l_got) "_law_ask" (X.env.qual ++ "<lambda>") (TGot X.K cs))
    (TB : LamX.TabB X.base X.mg c P) (hcode : X.env.code = .ref c) (hr : Room (k + 2) X.A) (hg : Gl X "_law_got") (L : LamX.LamS X.env.scope scope) (hdef : defaultsOf params X.env = ([], []))
    (hbind : ∀ (q : Str) (cl : List (Str × Addr)) (pm cv ctv : Value), bindArgs (PySem.W.kla_fn "<lambda>" q params body scope cl pm cv ctv) ⟨[], []⟩ = pure [])
    (hbody : ∀ (A : Around) (outer : List Env) (s : Shared) (H : Hp) (E : XK) (f c' : Addr), Room k (A.deeper (LamX.lamEnv X scope s.heap.objs.size f c')) → PE (LamX.lamCx X A outer s H E scope f c') body (t E)) :
    PE X (.Call (.Name "_law_got" p) [.Lambda params body scope lpos] [] pos) (LamX.tLam [(P, X.env.qual ++ "<lambda>")] (TGot X.K cs) t) := by
  obtain ⟨g, fd, F, m, b⟩ := F.ex
  have kp := F.kp
  obtain ⟨oc, od, kV, doc, pm, an, cdv, ct, osl, rfl, lk, hcd⟩ := F.ex
  exact LamX.pe_lamcall hg m kp lk hcd b sc_l_got rfl (Or.inl rfl) (GV g cdv) TB hcode List.mem_cons_self (fun p hp _ => by rw [List.mem_singleton.mp hp]) hr L hdef hbind hbody
end
end My
/-! the law of k68 -/
namespace My
open PySem PySem.Spec PyProof.Rows L2
def OrdAt (H : Hp) (o : Addr) (t : Nat × Nat × Nat) : Prop := ∃ ob, H o = some (.frz ob (.tup [.int t.1, .int t.2.1, .int t.2.2])) ∧ ob.dict = none
theorem OrdAt.same {H H' : Hp} {o : Addr} {t : Nat × Nat × Nat} (h : OrdAt H o t) (s : Same H H') : OrdAt H' o t := by
  obtain ⟨ob, h1, h2⟩ := h
  exact ⟨ob, s _ _ h1, h2⟩
theorem OrdAt.kb {H H' : Hp} {o b : Addr} {ys : List V} {t : Nat × Nat × Nat} (h : OrdAt H o t) (hb : H b = some (.lst ys)) (k : Kp b H H') : OrdAt H' o t := by
  obtain ⟨ob, h1, h2⟩ := h
  exact ⟨ob, k _ _ (ne_of h1 hb (by intro q; cases q)) h1, h2⟩
def ords : List (Nat × Nat × Nat) := [(0, 1, 2), (0, 2, 1), (1, 0, 2), (1, 2, 0), (2, 0, 1), (2, 1, 0)]
def OrdsAt (H : Hp) (l : Addr) : Prop := ∃ os : List Addr, H l = some (.lst (os.map V.ref)) ∧ Paired (OrdAt H) os ords
theorem OrdsAt.same {H H' : Hp} {l : Addr} (h : OrdsAt H l) (s : Same H H') : OrdsAt H' l := by
  obtain ⟨os, h1, h2⟩ := h
  exact ⟨os, s _ _ h1, pmono (fun o t e => e.same s) h2⟩
theorem OrdsAt.kb {H H' : Hp} {l b c : Addr} (h : OrdsAt H l) (B : Bg H b c) (k : Kp b H H') : OrdsAt H' l := by
  obtain ⟨os, h1, h2⟩ := h
  obtain ⟨ys, hb, _⟩ := B.noNum
  exact ⟨os, k _ _ (refs_ne_b h1 B) h1, pmono (fun o t e => e.kb hb k) h2⟩
theorem ords_ok {t : Nat × Nat × Nat} (h : t ∈ ords) : Ord3 t.1 t.2.1 t.2.2 := by
  simp only [ords, List.mem_cons, List.not_mem_nil, or_false] at h
  rcases h with rfl | rfl | rfl | rfl | rfl | rfl <;> exact ⟨by decide, by decide, by decide, by decide, by decide, by decide⟩
theorem SchemeAt.kb {C : Addr} {H H' : Hp} {a b : Addr} {sz : Siz} {tr : List Trip} {ys : List V} (h : SchemeAt C H a sz tr) (hb : H b = some (.lst ys)) (k : Kp b H H') : SchemeAt C H' a sz tr := by
  obtain ⟨dx, S, T, ts, h1, h2, h3, h4, h5⟩ := h
  have tp : ∀ {x : Addr} {xs : List V}, H x = some (.tup xs) → H' x = some (.tup xs) := fun e => k _ _ (ne_of e hb (by intro q; cases q)) e
  refine ⟨dx, S, T, ts, k _ _ (ne_of h1 hb (by intro q; cases q)) h1, tp h2, tp h3, pmono (fun x t ⟨u, v, w, e0, e1, e2, e3⟩ => ⟨u, v, w, tp e0, tp e1, tp e2, tp e3⟩) h4, h5⟩
theorem given_kb {H H' : Hp} {R b c : Addr} {m : Nat} {sz : Siz} {tr : List Trip} (h : GivenAt H R tr) (B : Bg H b c) (f : ∀ t ∈ tr, Fits sz t) (o : SzOk m sz) (k : Kp b H H') : GivenAt H' R tr := by
  obtain ⟨ps, h1, h2⟩ := h
  obtain ⟨ys, hb, hn⟩ := B.noNum
  exact ⟨ps, k _ _ (refs_ne_b h1 B) h1, pmem h2 fun a t ht e => e.kl (f t ht) o hb hn k⟩
theorem le_sum : ∀ {xs : List Nat} {x : Nat}, x ∈ xs → x ≤ xs.sum
  | y :: ys, x, h => by
    rw [List.sum_cons]
    rcases List.mem_cons.mp h with rfl | h
    · omega
    · have := le_sum h
      omega
theorem cube_ofN {b D : Addr} {H0 H : Hp} {l r u : Nat} {us : List Addr} {fss : List (List Row)} (hD : H D = some (.lst (us.map V.ref))) (h : Paired (FaceB b D H0 H) us fss) (hl : fss.length = l) (hf : ∀ fs ∈ fss, fs.length = r ∧ ∀ row ∈ fs, row.length = u) : CubeF H D l r u (at3 fss) :=
  (cube_of (B := (fss.flatten.flatten.map Int.natAbs).sum) hD h hl fun fs hfs => ⟨(hf fs hfs).1, fun row hr => ⟨(hf fs hfs).2 row hr, fun x hx => le_sum (List.mem_map.mpr ⟨x, List.mem_flatten.mpr ⟨row, List.mem_flatten.mpr ⟨fs, hfs, hr⟩, hx⟩, rfl⟩)⟩⟩).1
theorem SchemeAt.ext {C : Addr} {H H' : Hp} {a : Addr} {sz : Siz} {tr : List Trip} (h : SchemeAt C H a sz tr) (e : LamX.ExtN H H') : SchemeAt C H' a sz tr := by
  obtain ⟨dx, S, T, ts, h1, h2, h3, h4, h5⟩ := h
  have k : ∀ {x : Addr} {o : HO}, H x = some o → (∀ ps, o ≠ .tbl ps) → H' x = some o := fun h n => e _ _ h n
  exact ⟨dx, S, T, ts, k h1 (fun ps z => by cases z), k (show H S = some _ from h2) (fun ps z => by cases z), k h3 (fun ps z => by cases z), pmono (fun x t ⟨u, v, w, e0, e1, e2, e3⟩ => ⟨u, v, w, k e0 (fun ps z => by cases z), k e1 (fun ps z => by cases z), k e2 (fun ps z => by cases z), k e3 (fun ps z => by cases z)⟩) h4, h5⟩
theorem OrdsAt.ext {H H' : Hp} {l : Addr} (h : OrdsAt H l) (e : LamX.ExtN H H') : OrdsAt H' l := by
  obtain ⟨os, h1, h2⟩ := h
  exact ⟨os, e _ _ h1 (fun ps z => by cases z), pmono (fun o t ⟨ob, g1, g2⟩ => ⟨ob, e _ _ g1 (fun ps z => by cases z), g2⟩) h2⟩
theorem leaf_typA {v : V} (h : leafV v) : ∃ t : String, (∀ H : Hp, Typ H v t) ∧ t ≠ "tuple" := by
  cases v with
  | non => exact ⟨_, fun _ => .non, by decide⟩
  | bl x => exact ⟨_, fun _ => .bl x, by decide⟩
  | int x => exact ⟨_, fun _ => .int x, by decide⟩
  | str x => exact ⟨_, fun _ => .str x, by decide⟩
  | byt x => exact h.elim
  | flt x => exact h.elim
  | ref x => exact h.elim
  | ty x => exact h.elim
/-- what is no order -/
inductive OddO (H : Hp) : V → Prop where
  | leaf {v : V} (h : leafV v) : OddO H v
  | tup {a : Addr} {xs : List V} (h : H a = some (.tup xs)) (l : xs.length ≤ 10) (f : ∀ x ∈ xs, leafV x) (o : ordV xs = false) : OddO H (.ref a)
  | lst {a : Addr} {xs : List V} (h : H a = some (.lst xs)) (l : xs.length ≤ 10) (f : ∀ x ∈ xs, leafV x) : OddO H (.ref a)
theorem OddO.keeps {H H' : Hp} {v : V} (h : OddO H v) (k : ∀ (x : Addr) (o : HO), H x = some o → (∀ ps, o ≠ .tbl ps) → H' x = some o) : OddO H' v := by
  cases h with
  | leaf h => exact .leaf h
  | tup h l f o => exact .tup (k _ _ h (fun ps z => by cases z)) l f o
  | lst h l f => exact .lst (k _ _ h (fun ps z => by cases z)) l f
theorem OddO.bad {H : Hp} {v : V} (h : OddO H v) : OrdBad H v := by
  cases h with
  | leaf h =>
    obtain ⟨t, ht, n⟩ := leaf_typA h
    exact .inl ⟨t, ht H, n⟩
  | tup h l f o => exact .inr ⟨_, _, rfl, h, l, fun x hx => by
      obtain ⟨t, ht, _⟩ := leaf_typA (f x hx)
      exact ⟨t, ht⟩, o⟩
  | lst h l f => exact .inl ⟨_, .lst h, by decide⟩
theorem OddO.eqd {H : Hp} {v : V} {n : Nat} (h : OddO H v) : Eqd H (n + 2) v v := by
  cases h with
  | leaf h => exact Eqd.leaf h
  | tup h l f o => exact Eqd.tup h h (by omega) (paired_refl fun x hx => Eqd.leaf (f x hx))
  | lst h l f => exact Eqd.lst h h (by omega) (paired_refl fun x hx => Eqd.leaf (f x hx))
theorem tr_back {x y z : Nat} (o : Ord3 x y z) (tr : List Trip) : (tr.map (turn3 x y z)).map (turn3 (bk x y z 0) (bk x y z 1) (bk x y z 2)) = tr := by
  rw [List.map_map]
  conv => rhs; rw [← List.map_id tr]
  exact List.map_congr_left fun t _ => turn_back o t
theorem bk_find {x y z i : Nat} (ho : Ord3 x y z) (hi : i < 3) : [(x : Int), y, z][bk x y z i]? = some (i : Int) ∧ ∀ m, m < bk x y z i → [(x : Int), y, z][m]? ≠ some (i : Int) := by
  have h1 := ho.hx
  have h2 := ho.hy
  have h3 := ho.hz
  have h4 := ho.xy
  have h5 := ho.yz
  have h6 := ho.xz
  have e1 : i = 0 ∨ i = 1 ∨ i = 2 := by omega
  rcases ho.cases with ⟨rfl, rfl, rfl⟩ | ⟨rfl, rfl, rfl⟩ | ⟨rfl, rfl, rfl⟩ | ⟨rfl, rfl, rfl⟩ | ⟨rfl, rfl, rfl⟩ | ⟨rfl, rfl, rfl⟩ <;> rcases e1 with rfl | rfl | rfl <;> exact ⟨by decide, by decide⟩
def spLaw (K : PySem.W.Frag) (P : Addr) : Sp := fun vs H Q _ => ∃ (a : Addr) (ns : List Int), vs = [.ref a] ∧ SqL K H a (ns.map V.int) ∧ ns.length ≤ 63 ∧ H P = some (.tbl #[]) ∧ ∀ H', Q (.bl true) H'
section
variable {P : Program} {w : World} {K : PySem.W.Frag} {mg : Str → Option Value} {base : Heap} {C CE CP CT CB CO : Addr}
theorem ok_law {f c Pt gL gE : Addr} {gdL gdE : FuncData} {C1 C2 C3 oc kV doc pm ct : Value} {an od : Option Addr} {osl : Array (Option Value)}
    (lk : K.lookup f = some ⟨oc, od, .func (PySem.W.fnOf "law" "law" (defArgs s_law) (defBody s_law) (defScope s_law) .none kV doc pm an (.ref c) ct), osl⟩) (hcd : PySem.W.codeIn K (.ref c) "law" = true)
    (TB : LamX.TabB base mg c Pt) (m1 : mg "RingError" = some C1) (m2 : mg "Missing" = some C2) (m3 : mg "NothingLeft" = some C3) (hm0 : PySem.W.exmAny K (.ref CO) [C1, C2, C3] = some true)
    (xf : XfC K CO) (noC : PySem.W.findIn K (.ref CO) "code" = some none) (noG : PySem.W.findIn K (.ref CO) "given" = some none)
    (B : Blt mg) (R : SCls K C) (SE : SEq K C) (NE1 : PySem.W.findIn K (.ref C) "__ne__" = some (some (.builtin "object.__ne__"))) (NE2 : PySem.W.subIn K (.ref C) (.type "object") = some true) (nf : PySem.W.notFirst K C (.ref C) = true)
    (MK_Scheme : HasCX P w K mg base 5 "Scheme" C ["self", "sizes", "products"] (spInitX C CE CP CT))
    (LNS : OwO.Spc K C "__len__" gL) (LNF : FnOk P w K mg base CX0 1 gL gdL ["self"] (spLen C)) (LNb : L2.Binds K gdL ["self"] [])
    (EQS : OwO.Spc K C "__eq__" gE) (EQF : FnOk P w K mg base CX0 1 gE gdE ["self", "other"] (spEqS C)) (EQb : L2.Binds K gdE ["self", "other"] [])
    (PR_sizes : HasPr P w K mg base 1 C "sizes" (spSizesP C)) (PR_products : HasPr P w K mg base 1 C "products" (spProductsP C))
    (M_table : HasM P w K mg base 1 C "table" ["self"] (spTable C)) (M_turned : HasMX P w K mg base 7 C "turned" ["self", "order"] (spTurned C CO)) (M_right_ones : HasM P w K mg base 5 C "right_ones" ["self", "table"] (spRight C))
    (G_l_bag : Has P w K mg base 1 "_law_bag" ["_law_script"] (spBag K)) (G_l_draw : Has P w K mg base 1 "_law_draw" ["_law_bag_here", "_law_many"] spDraw) (G_l_pick : Has P w K mg base 2 "_law_pick" ["_law_bag_here", "_law_some"] (spPick K))
    (G_l_same : Has P w K mg base 5 "_law_same" ["_law_found", "_law_due"] (spSame 5)) (G_l_field : HasP P w K mg base 1 "_law_field" ["_law_e"] (spField K)) (F_got : Fn K mg "_law_got" s_l_got ["_law_ask"])
    (G_l_scheme : Has P w K mg base 3 "_law_scheme" ["_law_bag_here", "_law_most", "_law_long"] spLScheme) (G_l_cube : Has P w K mg base 1 "_law_cube" ["_law_sizes", "_law_rows"] spLCube)
    (G_l_cube_rows : Has P w K mg base 1 "_law_cube_rows" ["_law_table"] spCubeRows) (G_l_gcds : Has P w K mg base 2 "_law_gcds" ["_law_numbers"] spGcds) (G_l_turned_cube : Has P w K mg base 1 "_law_turned_cube" ["_law_sizes", "_law_table", "_law_order"] spTurnedCube) :
    FnOk P w K mg base CX0 12 f (PySem.W.fnOf "law" "law" (defArgs s_law) (defBody s_law) (defScope s_law) .none kV doc pm an (.ref c) ct) ["_law_script"] (spLaw K Pt) := by
  have cl_ := R.cl
  refine fn_of lk hcd sc_law (fun vs H Q E h => ?_) (fun A outer s H vs Q E hr h => ?_)
  · obtain ⟨a, t, rfl, _⟩ := h
    rfl
  obtain ⟨a, ns, rfl, hS, hl, hP, q⟩ := h
  have hcode : (cxOf CX0 P w K mg base N_law "law" (defScope s_law) f (.ref c) A outer s H E).nox.env.code = .ref c := rfl
  have GV : ∀ (q : Str) (g : Addr) (cdv : Value), LamX.GivesTo (cxOf CX0 P w K mg base N_law "law" (defScope s_law) f (.ref c) A outer s H E).nox N_l_got "_law_got" (defScope s_l_got) g cdv (defBody s_l_got) "_law_ask" q (TGot K [C1, C2, C3]) :=
    fun q g cdv => got_gives (k := 3) (hr.mono (by decide)) G_l_field m1 m2 m3
  have main : ∃ t, PSs (cxOf CX0 P w K mg base N_law "law" (defScope s_law) f (.ref c) A outer s H E).nox (defBody s_law) t ∧ t { nx := fun _ H' => Q .non H', rt := Q } (L2.start N_law [.ref a]) H := by
    refine ⟨_, (pss_cons (ps_set (i := 1) sc_law.nd rfl (Or.inr rfl) (pe_own G_l_bag (hr.mono (by decide)) (by rfl) (pa_cons (pv 0) pa_nil)))
      (pss_cons (ps_set (i := 2) sc_law.nd rfl (Or.inl rfl) (pe_lst (pa_cons (pe_tupF (pa_cons pe_int (pa_cons pe_int (pa_cons pe_int pa_nil)))) (pa_cons (pe_tupF (pa_cons pe_int (pa_cons pe_int (pa_cons pe_int pa_nil)))) (pa_cons (pe_tupF (pa_cons pe_int (pa_cons pe_int (pa_cons pe_int pa_nil)))) (pa_cons (pe_tupF (pa_cons pe_int (pa_cons pe_int (pa_cons pe_int pa_nil)))) (pa_cons (pe_tupF (pa_cons pe_int (pa_cons pe_int (pa_cons pe_int pa_nil)))) (pa_cons (pe_tupF (pa_cons pe_int (pa_cons pe_int (pa_cons pe_int pa_nil)))) pa_nil))))))))
      (pss_cons (ps_for PassesOwn.never rfl (pi_range1 (by rfl) B.range (pa_cons pe_int pa_nil)) (pg_name (i := 3) sc_law.nd rfl (Or.inl rfl))
        (pss_cons (ps_asg (pe_own G_l_scheme (hr.mono (by decide)) (by rfl) (pa_cons (pv 1) (pa_cons pe_int (pa_cons pe_int pa_nil)))) (pg_tup rfl (pgs_cons (pg_name (i := 4) sc_law.nd rfl (Or.inr rfl)) (pgs_cons (pg_name (i := 5) sc_law.nd rfl (Or.inl rfl)) pgs_nil))))
      (pss_cons (ps_asg (pe_tup (pa_cons (pe_mkX MK_Scheme (hr.mono (by decide)) (by rfl) (pa_cons (pv 4) (pa_cons (pv 5) pa_nil))) (pa_cons (pe_own G_l_cube (hr.mono (by decide)) (by rfl) (pa_cons (pv 4) (pa_cons (pv 5) pa_nil))) pa_nil))) (pg_tup rfl (pgs_cons (pg_name (i := 6) sc_law.nd rfl (Or.inr rfl)) (pgs_cons (pg_name (i := 7) sc_law.nd rfl (Or.inl rfl)) pgs_nil))))
      (pss_cons (ps_setLc (i := 8) (own := [("_law_layer", 11)]) (g := gName 11) (tt := tYes) (by rfl) sc_law.nd rfl rfl (sw_true rfl rfl rfl (by decide +kernel)) (pi_list (pv 7)) (blkOk_by (own := [("_law_layer", 11)]) (N := N_law) (sc := defScope s_law) (by decide +kernel)) (fun _ _ _ _ _ => (pg_name (i := 11) sc_law.nd rfl (Or.inl rfl))) (fun _ _ _ _ _ => pts_nil) (fun _ _ _ _ _ => (pe_lc (own := [("_law_row", 10)]) (g := gName 10) (tt := tYes) (by rfl) sc_law.nd (NK.pi_listK K rfl (pv 11)) (blkOk_by (own := [("_law_row", 10)]) (N := N_law) (by rfl)) (fun _ _ _ _ _ => (pg_name (i := 10) sc_law.nd rfl (Or.inl rfl))) (fun _ _ _ _ _ => pts_nil) (fun _ _ _ _ _ => (pe_lc (own := [("_law_number", 9)]) (g := gName 9) (tt := tYes) (by rfl) sc_law.nd (NK.pi_listK K rfl (pv 10)) (blkOk_by (own := [("_law_number", 9)]) (N := N_law) (by rfl)) (fun _ _ _ _ _ => (pg_name (i := 9) sc_law.nd rfl (Or.inl rfl))) (fun _ _ _ _ _ => pts_nil) (fun _ _ _ _ _ => (pe_op op_add (pv 9) (pe_own G_l_pick (hr.mono (by decide)) (by rfl) (pa_cons (pv 1) (pa_cons (pe_lst (pa_cons pe_int (pa_cons pe_int (pa_cons pe_int (pa_cons pe_int pa_nil))))) pa_nil))))))))))
      (pss_cons (ps_set (i := 12) sc_law.nd rfl (Or.inl rfl) (pe_own G_l_gcds (hr.mono (by decide)) (by rfl) (pa_cons (pe_lc (own := [("_law_a", 13), ("_law_b", 14)]) (g := gTup K 2 (gCons (gName 13) (gCons (gName 14) gNil))) (tt := tYes) (by rfl) sc_law.nd (RZ.pi_zipA (by rfl) B.zip (pa_cons (pe_own G_l_cube_rows (hr.mono (by decide)) (by rfl) (pa_cons (pv 7) pa_nil)) (pa_cons (pe_own G_l_cube_rows (hr.mono (by decide)) (by rfl) (pa_cons (pv 8) pa_nil)) pa_nil))) (blkOk_by (own := [("_law_a", 13), ("_law_b", 14)]) (N := N_law) (sc := defScope s_law) (by decide +kernel)) (fun _ _ _ _ _ => (pg_tup rfl (pgs_cons (pg_name (i := 13) sc_law.nd rfl (Or.inl rfl)) (pgs_cons (pg_name (i := 14) sc_law.nd rfl (Or.inl rfl)) pgs_nil)))) (fun _ _ _ _ _ => pts_nil) (fun _ _ _ _ _ => (pe_op op_sub (pv 13) (pv 14)))) pa_nil)))
      (pss_cons (ps_for PassesOwn.never rfl (pi_list (pv 2)) (pg_name (i := 15) sc_law.nd rfl (Or.inr rfl))
        (pss_cons (ps_set (i := 16) sc_law.nd rfl (Or.inl rfl) (pe_ownMX cl_ M_turned (hr.mono (by decide)) (pv 6) (pa_cons (pv 15) pa_nil)))
      (pss_cons (ps_if (pt_not (pt_val (pe_own G_l_same (hr.mono (by decide)) (by rfl) (pa_cons (pe_lst (pa_cons (pe_pr cl_ PR_sizes (hr.mono (by decide)) (pv 16) rfl) (pa_cons (pe_ownM0 cl_ M_table (hr.mono (by decide)) (pv 16)) (pa_cons (pe_ownM cl_ M_right_ones (hr.mono (by decide)) (pv 16) (pa_cons (pe_own G_l_turned_cube (hr.mono (by decide)) (by rfl) (pa_cons (pv 4) (pa_cons (pv 8) (pa_cons (pv 15) pa_nil)))) pa_nil)) (pa_cons (pe_callB (OwO.cr_len rfl LNS LNF LNb (hr.mono (by decide))) (by rfl) B.len bb_len (pa_cons (pv 16) pa_nil)) (pa_cons (pe_pr cl_ PR_products (hr.mono (by decide)) (pv 16) rfl) pa_nil)))))) (pa_cons (pe_lst (pa_cons (pe_callTy call_tuple_of (by rfl) B.tuple bb_tuple (pa_cons (pe_lc (own := [("_law_k", 17)]) (g := gName 17) (tt := tYes) (by rfl) sc_law.nd (pi_tup (pv 15)) (blkOk_by (own := [("_law_k", 17)]) (N := N_law) (sc := defScope s_law) (by decide +kernel)) (fun _ _ _ _ _ => (pg_name (i := 17) sc_law.nd rfl (Or.inl rfl))) (fun _ _ _ _ _ => pts_nil) (fun _ _ _ _ _ => (pe_ix (LcN.ix_tupK K rfl) (pv 4) (pv 17) (fun _ _ => rfl)))) pa_nil)) (pa_cons (pe_own G_l_turned_cube (hr.mono (by decide)) (by rfl) (pa_cons (pv 4) (pa_cons (pv 7) (pa_cons (pv 15) pa_nil)))) (pa_cons (pv 12) (pa_cons (pe_callB call_len (by rfl) B.len bb_len (pa_cons (pv 5) pa_nil)) (pa_cons (pe_callTy call_tuple_of (by rfl) B.tuple bb_tuple (pa_cons (pe_lc (own := [("_law_row", 10)]) (g := gName 10) (tt := tYes) (by rfl) sc_law.nd (pi_list (pv 5)) (blkOk_by (own := [("_law_row", 10)]) (N := N_law) (sc := defScope s_law) (by decide +kernel)) (fun _ _ _ _ _ => (pg_name (i := 10) sc_law.nd rfl (Or.inr rfl))) (fun _ _ _ _ _ => pts_nil) (fun _ _ _ _ _ => (pe_callTy (NK.call_tuple_ofK K rfl) (by rfl) B.tuple bb_tuple (pa_cons (pe_lc (own := [("_law_k", 17)]) (g := gName 17) (tt := tYes) (by rfl) sc_law.nd (NK.pi_tupK K rfl (pv 15)) (blkOk_by (own := [("_law_k", 17)]) (N := N_law) (by rfl)) (fun _ _ _ _ _ => (pg_name (i := 17) sc_law.nd rfl (Or.inl rfl))) (fun _ _ _ _ _ => pts_nil) (fun _ _ _ _ _ => (pe_callTy (NK.call_tuple_ofK K rfl) (by rfl) B.tuple bb_tuple (pa_cons (pe_ix (LcN.ix_tupK K rfl) (pv 10) (pv 17) (fun _ _ => rfl)) pa_nil)))) pa_nil)))) pa_nil)) pa_nil)))))) pa_nil)))))
        (pss_one (ps_ret pe_bl))
        pss_nil)
      (pss_cons (ps_set (i := 18) sc_law.nd rfl (Or.inl rfl) (pe_callTy call_tuple_of (by rfl) B.tuple bb_tuple (pa_cons (pe_lc (own := [("_law_k", 17)]) (g := gName 17) (tt := tYes) (by rfl) sc_law.nd (pi_range1 (by rfl) B.range (pa_cons pe_int pa_nil)) (blkOk_by (own := [("_law_k", 17)]) (N := N_law) (sc := defScope s_law) (by decide +kernel)) (fun _ _ _ _ _ => (pg_name (i := 17) sc_law.nd rfl (Or.inl rfl))) (fun _ _ _ _ _ => pts_nil) (fun _ _ _ _ _ => (pe_bmF PySem.F.slot_tuple_index PySem.F.type_tuple_index (OwO.mt_tup_indexI K rfl) (pv 15) (pa_cons (pv 17) pa_nil)))) pa_nil)))
      (pss_one (ps_if (pt_cmpR (OwO.op_neO rfl EQS NE1 NE2 EQF EQb (hr.mono (by decide)) (un1 hr) rfl) (pe_ownMX cl_ M_turned (hr.mono (by decide)) (pv 16) (pa_cons (pv 18) pa_nil)) (pv 6) (nomark _))
        (pss_one (ps_ret pe_bl))
        pss_nil))))))
      (pss_cons (ps_set (i := 19) sc_law.nd rfl (Or.inr rfl) (pe_own G_l_pick (hr.mono (by decide)) (by rfl) (pa_cons (pv 1) (pa_cons (pe_lst (pa_cons pe_non (pa_cons (pe_tup (pa_cons pe_int (pa_cons pe_int pa_nil))) (pa_cons (pe_tup (pa_cons pe_int (pa_cons pe_int (pa_cons pe_int pa_nil)))) (pa_cons (pe_tup (pa_cons pe_int (pa_cons pe_int (pa_cons pe_int pa_nil)))) (pa_cons (pe_lst (pa_cons pe_int (pa_cons pe_int (pa_cons pe_int pa_nil)))) (pa_cons (pe_tup (pa_cons pe_int (pa_cons pe_int (pa_cons pe_int (pa_cons pe_int pa_nil))))) (pa_cons (pe_tup (pa_cons pe_bl (pa_cons pe_int (pa_cons pe_int pa_nil)))) (pa_cons pe_str (pa_cons (pe_tup (pa_cons pe_int (pa_cons pe_int (pa_cons pe_non pa_nil)))) pa_nil)))))))))) pa_nil))))
      (pss_one (ps_if (pt_not (pt_val (pe_own G_l_same (hr.mono (by decide)) (by rfl) (pa_cons (pe_got F_got (GV _) TB hcode (hr.mono (by decide)) (by rfl) (LamX.lamS_by (by rfl)) (by rfl) (fun _ _ _ _ _ => rfl) (fun A outer s H E f c' hr' => pe_ownME cl_ M_turned (takes_of rfl rfl rfl rfl) hr' (pv 6) (pa_cons (pv 19) pa_nil))) (pa_cons (pe_tup (pa_cons pe_str (pa_cons (pv 19) pa_nil))) pa_nil)))))
        (pss_one (ps_ret pe_bl))
        pss_nil)))))))))
      (pss_one (ps_ret pe_bl))))), ?_⟩
    refine ⟨_, rfl, a, ns, rfl, hS, hl, fun b cc H0 s0 nb B0 => ?_⟩
    obtain ⟨lq, hlq⟩ : ∃ lq : Str, lq = (cxOf CX0 P w K mg base N_law "law" (defScope s_law) f (.ref c) A outer s H E).nox.env.qual ++ "<lambda>" := ⟨_, rfl⟩
    have T0 : LamX.TabS H0 Pt lq := (LamX.TabS.nil hP).ext s0
    refine ⟨by show 3 ≤ sizeLine; decide, fun o1 b1 n1 d1 => ⟨by show 3 ≤ sizeLine; decide, fun o2 b2 n2 d2 => ⟨by show 3 ≤ sizeLine; decide, fun o3 b3 n3 d3 => ⟨by show 3 ≤ sizeLine; decide, fun o4 b4 n4 d4 => ⟨by show 3 ≤ sizeLine; decide, fun o5 b5 n5 d5 => ⟨by show 3 ≤ sizeLine; decide, fun o6 b6 n6 d6 => ⟨by show 6 ≤ sizeLine; decide, fun l nl => ?_⟩⟩⟩⟩⟩⟩⟩
    obtain ⟨H7, hH7, s7, O7⟩ : ∃ H7, H7 = upd (upd (upd (upd (upd (upd (upd H0 o1 (.frz b1 (.tup [.int 0, .int 1, .int 2]))) o2 (.frz b2 (.tup [.int 0, .int 2, .int 1]))) o3 (.frz b3 (.tup [.int 1, .int 0, .int 2]))) o4 (.frz b4 (.tup [.int 1, .int 2, .int 0]))) o5 (.frz b5 (.tup [.int 2, .int 0, .int 1]))) o6 (.frz b6 (.tup [.int 2, .int 1, .int 0]))) l (.lst [.ref o1, .ref o2, .ref o3, .ref o4, .ref o5, .ref o6]) ∧ Same H0 H7 ∧ OrdsAt H7 l := by
      have u1 := same_upd (o := .frz b1 (.tup [.int 0, .int 1, .int 2])) n1
      have u2 := same_upd (o := .frz b2 (.tup [.int 0, .int 2, .int 1])) n2
      have u3 := same_upd (o := .frz b3 (.tup [.int 1, .int 0, .int 2])) n3
      have u4 := same_upd (o := .frz b4 (.tup [.int 1, .int 2, .int 0])) n4
      have u5 := same_upd (o := .frz b5 (.tup [.int 2, .int 0, .int 1])) n5
      have u6 := same_upd (o := .frz b6 (.tup [.int 2, .int 1, .int 0])) n6
      have u7 := same_upd (o := .lst [.ref o1, .ref o2, .ref o3, .ref o4, .ref o5, .ref o6]) nl
      refine ⟨_, rfl, u1.trans (u2.trans (u3.trans (u4.trans (u5.trans (u6.trans u7))))), [o1, o2, o3, o4, o5, o6], upd_same, ?_⟩
      exact .cons ⟨b1, u7 _ _ (u6 _ _ (u5 _ _ (u4 _ _ (u3 _ _ (u2 _ _ upd_same))))), d1⟩ (.cons ⟨b2, u7 _ _ (u6 _ _ (u5 _ _ (u4 _ _ (u3 _ _ upd_same)))), d2⟩ (.cons ⟨b3, u7 _ _ (u6 _ _ (u5 _ _ (u4 _ _ upd_same))), d3⟩
        (.cons ⟨b4, u7 _ _ (u6 _ _ (u5 _ _ upd_same)), d4⟩ (.cons ⟨b5, u7 _ _ (u6 _ _ upd_same), d5⟩ (.cons ⟨b6, u7 _ _ upd_same, d6⟩ .nil)))))
    refine ⟨_, rfl, by decide, by decide, ?_⟩
    rw [← hH7]
    clear hH7
    have B7 := B0.same s7
    have T7 := T0.ext s7
    clear T0 B0
    refine for_range (n := 3) (fun i σ H' => ∃ (y3 y4 y5 y6 y7 y8 y12 y15 y16 y18 y19 : Option V), σ = [some (.ref a), some (.ref b), some (.ref l), y3, y4, y5, y6, y7, y8, none, none, none, y12, none, none, y15, y16, none, y18, y19] ∧ Bg H' b cc ∧ LamX.TabS H' Pt lq ∧ OrdsAt H' l)
      ⟨_, _, _, _, _, _, _, _, _, _, _, rfl, B7, T7, O7⟩ ?_ (fun σ H' _ => q _)
    rintro i σ H0 hi ⟨y3, y4, y5, y6, y7, y8, y12, y15, y16, y18, y19, rfl, B0, T0, O0⟩
    have keepT : ∀ {H1 H2 : Hp}, Bg H1 b cc → LamX.TabS H1 Pt lq → Kp b H1 H2 → LamX.TabS H2 Pt lq := fun hB hT k => by
      obtain ⟨r, e⟩ := hB.sel
      exact tabs_kp hT e k
    refine ⟨_, rfl, b, cc, 3, 5, rfl, B0, by decide, by decide, by decide, fun H1 T S Rr sz tr k1 B1 eT hSz hR nRb hso gt hl5 => ?_⟩
    have T1 := keepT B0 T0 k1
    have O1 := O0.kb B0 k1
    clear T0 O0
    have hso' := hso
    obtain ⟨q1, q2, q3, q4, q5, q6⟩ := hso'
    have hm : SmallS sz tr := ⟨fun t ht => (gt t ht).1, q1, by omega, q3, by omega, q5, by omega, by omega⟩
    have bd : Bnd sz := ⟨q1, by omega, q3, by omega, q5, by omega⟩
    have tiny : ∀ t ∈ tr, Tiny t := fun t ht => (gt t ht).2
    have mid : ∀ t ∈ tr, Mid t := fun t ht => (tiny t ht).mid
    refine ⟨T, _, rfl, SqT.of eT, rfl, _, _, rfl, _, _, rfl, rfl, ?_⟩
    refine ⟨_, rfl, _, rfl, fun sc dxx nsc ndx nee => init_atX nsc ndx nee hSz hR hm fun H2 s2 A2 => ?_⟩
    refine ⟨_, rfl, _, rfl, S, Rr, sz, tr, rfl, s2 _ _ hSz, hR.same s2, hm, tiny, fun H3 Cu s3 nCu cC => ⟨by show 2 ≤ sizeLine; decide, fun tp ntp => ⟨tp, _, rfl, SqT.of upd_same, rfl, _, _, rfl, _, _, rfl, rfl, ?_⟩⟩⟩
    have st := same_upd (o := .tup [.ref sc, .ref Cu]) ntp
    generalize upd H3 tp (.tup [.ref sc, .ref Cu]) = H4 at st ⊢
    have s14 := s2.trans (s3.trans st)
    have B4 := B1.same s14
    have T4 := T1.ext s14
    have O4 := O1.same s14
    have A4 := A2.same (s3.trans st)
    have cC4 := cC.same st
    have hSz4 : SizAt H4 S sz := s14 _ _ hSz
    have hR4 := hR.same s14
    clear T1 O1 B1 s14 st cC A2 hR hSz eT
    -- the wished table
    obtain ⟨ps, lps, hF, cel⟩ := id cC4
    refine ⟨_, rfl, Cu, rfl, ⟨_, SqL.of hF⟩, fun E1 hE1 => ?_⟩
    have n1b := B4.ne_new hE1
    have n1c := B4.ne_new2 hE1
    refine lc_it (walk_list (xs := ps.map V.ref)) (fun i H' => Kp b H4 H' ∧ Bg H' b cc ∧ ∃ (us : List Addr) (fss : List (List Row)), H' E1 = some (.lst (us.map V.ref)) ∧ Paired (FaceB b E1 H4 H') us fss ∧ fss.length = i ∧ ∀ fs ∈ fss, fs.length = sz.2.1 ∧ ∀ row ∈ fs, row.length = sz.2.2)
      ⟨Kp.of (same_upd hE1), B4.same (same_upd hE1), [], [], upd_same, .nil, rfl, by simp⟩ (fun i H' _ e => SqL.of (e.1 _ _ (refs_ne_b hF B4) hF)) ?_ ?_
    · rintro i v Ha Hb hi ⟨ka, Ba, us, fss, ea, pu, lfs, hfs⟩ ⟨rfl, hv⟩
      obtain ⟨p, hp, rfl⟩ := at_map hv
      have hi : i < sz.1 := by rw [← lps]; exact (List.getElem?_eq_some_iff.mp hp).1
      obtain ⟨cs, hcs, lcs, rows⟩ := cel i p hp
      have hcsa := ka _ _ (refs_ne_b hcs B4) hcs
      refine ⟨rfl, tYes_ok ⟨_, rfl, p, rfl, ⟨_, SqL.of hcsa⟩, fun D2 hD2 => ?_⟩⟩
      have n2b := Ba.ne_new hD2
      have n2c := Ba.ne_new2 hD2
      have n21 : D2 ≠ E1 := (ne_of_none ea hD2).symm
      refine lc_it (walk_list (xs := cs.map V.ref)) (fun j H' => Kp b Hb H' ∧ Bg H' b cc ∧ ∃ (vs : List Addr) (rs : List Row), H' D2 = some (.lst (vs.map V.ref)) ∧ Paired (fun c xs => c ≠ E1 ∧ c ≠ D2 ∧ c ≠ b ∧ H4 c = none ∧ RowL H' c xs) vs rs ∧ rs.length = j ∧ ∀ row ∈ rs, row.length = sz.2.2)
        ⟨Kp.of (same_upd hD2), Ba.same (same_upd hD2), [], [], upd_same, .nil, rfl, by simp⟩ (fun i H' _ e => SqL.of (e.1 _ _ (refs_ne_b hcsa Ba) hcsa)) ?_ ?_
      · rintro j v Hc Hd hj ⟨kc, Bc, vs, rs, ec, pv, lrs, hrs⟩ ⟨rfl, hv⟩
        obtain ⟨d, hd, rfl⟩ := at_map hv
        have hj : j < sz.2.1 := by rw [← lcs]; exact (List.getElem?_eq_some_iff.mp hd).1
        have hrow : RowL Hd d ((List.range sz.2.2).map (tensor tr i j)) := kc _ _ (ints_ne_b (ka _ _ (ints_ne_b (rows j d hd) B4) (rows j d hd)) Ba) (ka _ _ (ints_ne_b (rows j d hd) B4) (rows j d hd))
        have hrow' : Hd d = some (.lst (((List.range sz.2.2).map (tensor tr i j)).map V.int)) := hrow
        refine ⟨rfl, tYes_ok ⟨_, rfl, d, rfl, ⟨_, SqL.of hrow'⟩, fun D3 hD3 => ?_⟩⟩
        have n3b := Bc.ne_new hD3
        have n3c := Bc.ne_new2 hD3
        have n32 : D3 ≠ D2 := (ne_of_none ec hD3).symm
        have n31 : D3 ≠ E1 := (ne_of_none (kc _ _ n1b ea) hD3).symm
        refine lc_it (walk_list (xs := ((List.range sz.2.2).map (tensor tr i j)).map V.int)) (fun k H' => Kp b Hd H' ∧ Bg H' b cc ∧ ∃ zs : Row, H' D3 = some (.lst (zs.map V.int)) ∧ zs.length = k)
          ⟨Kp.of (same_upd hD3), Bc.same (same_upd hD3), [], upd_same, rfl⟩ (fun i H' _ e => SqL.of (e.1 _ _ (ints_ne_b hrow Bc) hrow')) ?_ ?_
        · rintro k v He Hf hk ⟨ke, Be, zs, ee, lzs⟩ ⟨rfl, hv⟩
          obtain ⟨x, hx, rfl⟩ := at_map hv
          have hk : k < sz.2.2 := by simpa using hk
          refine ⟨rfl, tYes_ok ⟨_, rfl, _, rfl, by show 4 ≤ sizeLine; decide, fun a2 m2 => ?_⟩⟩
          have s2 := same_upd (o := .lst [.int 0, .int 6, .int 4, .int 0]) m2
          refine ⟨b, cc, .ref a2, rfl, Be.same s2, .inl ⟨a2, _, rfl, Be.ne_new m2, upd_same, by simp, (by show 4 ≤ 1000; decide), fun v6 H6 q6 k6 B6 => ?_⟩⟩
          obtain ⟨z6, rfl⟩ : ∃ z : Int, v6 = .int z := by
            simp only [List.mem_cons, List.not_mem_nil, or_false] at q6
            rcases q6 with rfl | rfl | rfl | rfl
            · exact ⟨0, rfl⟩
            · exact ⟨6, rfl⟩
            · exact ⟨4, rfl⟩
            · exact ⟨0, rfl⟩
          have ke6 := (Kp.of (b := b) s2).trans k6
          refine ⟨_, _, rfl, rfl, _, ke6 _ _ n3b ee, small1000 ?_, kp_push (ke.trans ke6) hD3, B6.kp (d := D3) n3b n3c Kp.upd, zs ++ [x + z6], ?_, by simp [lzs]⟩
          · rw [List.length_map, lzs]
            omega
          · rw [upd_same]
            simp
        · rintro He ⟨ke, Be, zs, ee, lzs⟩
          have lzs : zs.length = sz.2.2 := by simpa using lzs
          refine ⟨_, ke _ _ n2b ec, small1000 ?_, kp_push (kc.trans ke) hD2, Be.kp (d := D2) n2b n2c Kp.upd, vs ++ [D3], rs ++ [zs], ?_, ?_, by simp [lrs], ?_⟩
          · rw [List.length_map, plen pv, lrs]
            omega
          · rw [upd_same]
            simp
          · refine (pmono (fun c' xs h => ⟨h.1, h.2.1, h.2.2.1, h.2.2.2.1, ?_⟩) pv).snoc ⟨n31, n32, n3b, ka.free n3b (kc.free n3b hD3), ?_⟩
            · show upd He D2 _ D3 = _
              rw [upd_ne n32]
              exact ee
            · show upd He D2 _ c' = _
              rw [upd_ne h.2.1]
              exact ke _ _ h.2.2.1 h.2.2.2.2
          · intro row hr
            rcases List.mem_append.mp hr with hr | hr
            · exact hrs row hr
            · rw [List.mem_singleton.mp hr]
              exact lzs
      · rintro Hc ⟨kc, Bc, vs, rs, ec, pv, lrs, hrs⟩
        have lrs : rs.length = sz.2.1 := by rw [lrs, List.length_map, lcs]
        refine ⟨_, kc _ _ n1b ea, small1000 ?_, kp_push (ka.trans kc) hE1, Bc.kp (d := E1) n1b n1c Kp.upd, us ++ [D2], fss ++ [rs], ?_, ?_, by simp [lfs], ?_⟩
        · rw [List.length_map, plen pu, lfs]
          omega
        · rw [upd_same]
          simp
        · refine (pmono (fun p fs h => ?_) pu).snoc ⟨n21, n2b, vs, ?_, pmono (fun c' xs h => ⟨h.1, h.2.2.1, h.2.2.2.1, ?_⟩) pv⟩
          · obtain ⟨a1, a2, cs', a3, a4⟩ := h
            refine ⟨a1, a2, cs', ?_, pmono (fun c' xs h => ⟨h.1, h.2.1, h.2.2.1, ?_⟩) a4⟩
            · rw [upd_ne a1]
              exact kc _ _ a2 a3
            · show upd Hc E1 _ c' = _
              rw [upd_ne h.1]
              exact kc _ _ h.2.1 h.2.2.2
          · rw [upd_ne n21]
            exact ec
          · show upd Hc E1 _ c' = _
            rw [upd_ne h.1]
            exact h.2.2.2.2
        · intro fs hf
          rcases List.mem_append.mp hf with hf | hf
          · exact hfs fs hf
          · rw [List.mem_singleton.mp hf]
            exact ⟨lrs, hrs⟩
    rintro H5 ⟨k5, B5, us, fss, e5, pu, lfs, hfs⟩
    have cW : CubeF H5 E1 sz.1 sz.2.1 sz.2.2 (at3 fss) := cube_ofN e5 pu (by rw [lfs, List.length_map, lps]) hfs
    generalize at3 fss = g at cW
    obtain ⟨ys4, hb4, _⟩ := B4.noNum
    have T5 := keepT B4 T4 k5
    have O5 := O4.kb B4 k5
    have A5 := A4.kb hb4 k5
    have cC5 := cC4.kb B4 k5
    have hSz5 : SizAt H5 S sz := k5 _ _ (ne_of (show H4 S = some _ from hSz4) hb4 (by intro z; cases z)) hSz4
    have hR5 := given_kb hR4 B4 (fun t ht => (gt t ht).1) hso k5
    clear T4 O4 A4 cC4 hSz4 hR4 pu e5 hfs lfs cel hF lps ps
    -- the number that is due
    refine ⟨_, rfl, Cu, sz.1, sz.2.1, sz.2.2, tensor tr, rfl, cC5, hm.l2, hm.r2, hm.s2, fun H6 D6 s6 e6 => ?_⟩
    refine ⟨_, rfl, E1, sz.1, sz.2.1, sz.2.2, g, rfl, cW.same s6, hm.l2, hm.r2, hm.s2, fun H7 D7 s7 e7 => ?_⟩
    have e6' := s7 _ _ e6
    refine ⟨D6, D7, _, _, rfl, .inl ⟨SqL.of e6', SqL.of e7, fun D8 hD8 => ?_⟩⟩
    have len3 := flatC_len sz.1 sz.2.1 sz.2.2 (tensor tr)
    have len4 := flatC_len sz.1 sz.2.1 sz.2.2 g
    have big : sz.1 * (sz.2.1 * sz.2.2) ≤ 36 * (36 * 36) := Nat.mul_le_mul hm.l2 (Nat.mul_le_mul hm.r2 hm.s2)
    have len5 : (gapsOf sz tr g).length = sz.1 * (sz.2.1 * sz.2.2) := by
      unfold gapsOf
      rw [List.length_zipWith, len3, len4, Nat.min_self]
    refine lc_it (walk_zip (K := K) (xs := (flatC sz.1 sz.2.1 sz.2.2 (tensor tr)).map V.int) (ys := (flatC sz.1 sz.2.1 sz.2.2 g).map V.int) (n := sz.1 * (sz.2.1 * sz.2.2)) (by rw [List.length_map, List.length_map, len3, len4, Nat.min_self])) (fun i H' => Same H7 H' ∧ H' D8 = some (.lst (((gapsOf sz tr g).take i).map V.int))) ⟨same_upd hD8, upd_same⟩
      (fun i H' _ e => ⟨SqL.of (e.1 _ _ e6'), SqL.of (e.1 _ _ e7)⟩) ?_ ?_
    · rintro i v Ha Hb hi ⟨sa, ea⟩ ⟨U, x, y, rfl, hU, rfl, hx, hy⟩
      obtain ⟨xi, hxi, rfl⟩ := at_map (show ((flatC sz.1 sz.2.1 sz.2.2 (tensor tr)).map V.int)[i]? = some x from hx)
      obtain ⟨yi, hyi, rfl⟩ := at_map (show ((flatC sz.1 sz.2.1 sz.2.2 g).map V.int)[i]? = some y from hy)
      have sU := same_upd (o := .tup [.int xi, .int yi]) hU
      refine ⟨U, [.int xi, .int yi], rfl, SqT.of upd_same, rfl, .int xi, [.int yi], rfl, .int yi, [], rfl, rfl, rfl, tYes_ok ⟨_, rfl, _, rfl, _, _, rfl, rfl, _, sU _ _ ea, LcN.small100 (by simp; omega), fun d o hd => ?_, ?_⟩⟩
      · rw [upd_ne (ne_of_none hd hD8)]
        exact sU _ _ (sa _ _ hd)
      · rw [upd_same, take_snoc (show (gapsOf sz tr g)[i]? = some (xi - yi) from zip_at hxi hyi)]
        simp
    rintro H8 ⟨s8, e8⟩
    rw [List.take_of_length_le (Nat.le_of_eq len5)] at e8
    refine ⟨D8, gapsOf sz tr g, rfl, e8, ?_⟩
    have s58 := s6.trans (s7.trans s8)
    have B8 := B5.same s58
    have T8 := T5.ext s58
    have O8 := O5.same s58
    have A8 := A5.same s58
    have cC8 := cC5.same s58
    have cW8 := cW.same s58
    have hSz8 : SizAt H8 S sz := s58 _ _ hSz5
    have hR8 := hR5.same s58
    clear B5 T5 O5 A5 cC5 cW hSz5 hR5 e6 e7 e6' e8 s6 s7 s8
    obtain ⟨os, hl8, po⟩ := id O8
    refine ⟨_, rfl, l, rfl, ⟨_, SqL.of hl8⟩, for_list (xs := os.map V.ref) (fun k σ H' => ∃ (y15 y16 y18 : Option V), σ = [some (.ref a), some (.ref b), some (.ref l), some (.int (0 + (i : Int))), some (.ref S), some (.ref Rr), some (.ref sc), some (.ref Cu), some (.ref E1), none, none, none, some (.int (gcdAll (gapsOf sz tr g))), none, none, y15, y16, none, y18, y19] ∧ Same H8 H')
      ⟨_, _, _, rfl, Same.refl _⟩ (fun i σ H' _ e => by obtain ⟨_, _, _, _, e⟩ := e; exact SqL.of (e _ _ hl8)) ?_ ?_⟩
    · rintro k v σ H9 hv ⟨y15, y16, y18, rfl, s9⟩
      obtain ⟨o, ho, rfl⟩ := at_map hv
      have hk : k < ords.length := by
        rw [← plen po]
        exact (List.getElem?_eq_some_iff.mp ho).1
      obtain ⟨o', ⟨x, y, z⟩, ho', hoo, ob, hob8, hod⟩ := pat po hk
      rw [ho] at ho'
      cases ho'
      have oo : Ord3 x y z := ords_ok (List.mem_of_getElem? hoo)
      have hob8 : H8 o = some (.frz ob (.tup [.int x, .int y, .int z])) := hob8
      have A9 := A8.same s9
      obtain ⟨dx, S', T', ts, e1, _, _, _, _⟩ := id A9
      refine ⟨_, rfl, sc, dx, _, rfl, e1, rfl, _, rfl, sc, sz, tr, .ref o, rfl, A9, .inl ⟨o, x, y, z, rfl, .inr ⟨ob, s9 _ _ hob8⟩, oo, fun H10 N s10 A10 => ?_⟩⟩
      have mid' : ∀ t ∈ tr.map (turn3 x y z), Mid t := fun t ht => by
        obtain ⟨u, hu, rfl⟩ := List.mem_map.mp ht
        have m := mid u hu
        have mr : ∀ (j : Nat) (v : Int), v ∈ rol u j → v.natAbs < 2 ^ 60 := fun j v => by
          unfold rol
          split
          · exact fun h => m v (.inl h)
          · exact fun h => m v (.inr (.inl h))
          · exact fun h => m v (.inr (.inr h))
        rintro v (h | h | h)
        · exact mr _ v h
        · exact mr _ v h
        · exact mr _ v h
      obtain ⟨dN, SN, TN, tsN, f1, f2, f3, f4, f5⟩ := id A10
      refine ⟨_, rfl, N, dN, _, rfl, f1, N, _, _, rfl, A10, fun S10 hS10 => ?_⟩
      refine ⟨_, rfl, N, dN, _, rfl, f1, rfl, N, _, _, rfl, A10, mid', fun H11 D11 s11 _ c11 _ => ?_⟩
      have s811 := s9.trans (s10.trans s11)
      refine ⟨_, rfl, N, dN, _, rfl, s11 _ _ f1, rfl, _, rfl, _, rfl, _, rfl, S, E1, o, sz, x, y, z, g, ob, rfl, s811 _ _ hSz8, bd, cW8.same s811, s811 _ _ hob8, hod, oo, fun H12 D12 s12 c12 => ?_⟩
      refine ⟨N, D12, turn3 x y z sz, tr.map (turn3 x y z), turnG x y z g, rfl, (A10.same s11).same s12, mid', c12, fun H13 s13 => ?_⟩
      rw [gaps_turn oo]
      have s1013 := s11.trans (s12.trans s13)
      have A13 := A10.same s1013
      have f1' := s1013 _ _ f1
      refine ⟨_, rfl, N, dN, _, rfl, f1', N, _, _, rfl, A13, _, rfl, (by rw [List.length_map]; have := hm.len; omega), _, rfl, N, dN, _, rfl, f1', N, _, _, rfl, A13, fun T13 ts13 h13 p13 => ?_⟩
      refine ⟨by show 5 ≤ sizeLine; decide, fun l1 n1 => ?_⟩
      have x1 := same_upd (o := .lst [.ref S10, .ref D11, .int (gcdAll (gapsOf sz tr g)), .int ((tr.map (turn3 x y z)).length : Nat), .ref T13]) n1
      have el1 : (upd H13 l1 (.lst [.ref S10, .ref D11, .int (gcdAll (gapsOf sz tr g)), .int ((tr.map (turn3 x y z)).length : Nat), .ref T13])) l1 = some (.lst [.ref S10, .ref D11, .int (gcdAll (gapsOf sz tr g)), .int ((tr.map (turn3 x y z)).length : Nat), .ref T13]) := upd_same
      generalize upd H13 l1 (.lst [.ref S10, .ref D11, .int (gcdAll (gapsOf sz tr g)), .int ((tr.map (turn3 x y z)).length : Nat), .ref T13]) = H14 at x1 el1 ⊢
      have s814 := s811.trans (s12.trans (s13.trans x1))
      have rdO : ∀ {H' : Hp}, Same H14 H' → SqT K H' o [.int x, .int y, .int z] := fun s => .inl (.inr ⟨ob, s _ _ (s814 _ _ hob8)⟩)
      have hSz14 : SizAt H14 S sz := s814 _ _ hSz8
      have hSz' : H14 S = some (.tup [.int sz.1, .int sz.2.1, .int sz.2.2]) := hSz14
      -- the sizes that are due
      refine ⟨_, rfl, o, rfl, ⟨_, rdO (Same.refl _)⟩, fun D15 hD15 => ?_⟩
      refine lc_it (walk_tup (xs := [V.int x, .int y, .int z])) (fun i H' => Same H14 H' ∧ H' D15 = some (.lst (([V.int (rol sz x : Nat), .int (rol sz y : Nat), .int (rol sz z : Nat)].take i)))) ⟨same_upd hD15, upd_same⟩ (fun i H' _ e => rdO e.1) ?_ ?_
      · rintro i v Ha Hb hi ⟨sa, ea⟩ ⟨rfl, hv⟩
        obtain ⟨k, rfl, hk, hn⟩ : ∃ k : Nat, v = .int k ∧ k < 3 ∧ [V.int (rol sz x : Nat), .int (rol sz y : Nat), .int (rol sz z : Nat)][i]? = some (.int (rol sz k : Nat)) := by
          match i, hv with
          | 0, hv => cases hv; exact ⟨x, rfl, oo.hx, rfl⟩
          | 1, hv => cases hv; exact ⟨y, rfl, oo.hy, rfl⟩
          | 2, hv => cases hv; exact ⟨z, rfl, oo.hz, rfl⟩
        refine ⟨rfl, tYes_ok ⟨_, rfl, _, rfl, S, _, _, _, rfl, rfl, SqT.of (sa _ _ hSz'), atI_nat (j := k) (siz_at hk), _, ea, small1000 (by rw [List.length_take]; have : [V.int (rol sz x : Nat), .int (rol sz y : Nat), .int (rol sz z : Nat)].length = 3 := rfl; omega), fun x o hx => ?_, ?_⟩⟩
        · rw [upd_ne (ne_of_none hx hD15)]
          exact sa _ _ hx
        · rw [upd_same, take_snoc hn]
      rintro H15 ⟨s15, e15⟩
      have e15 : H15 D15 = some (.lst [.int (rol sz x : Nat), .int (rol sz y : Nat), .int (rol sz z : Nat)]) := e15
      refine ⟨D15, _, rfl, .inl ⟨SqL.of e15, fun l2 n2 => ?_⟩⟩
      have x2 := same_upd (o := .tup [.int (rol sz x : Nat), .int (rol sz y : Nat), .int (rol sz z : Nat)]) n2
      have el2 : (upd H15 l2 (.tup [.int (rol sz x : Nat), .int (rol sz y : Nat), .int (rol sz z : Nat)])) l2 = some (.tup [.int (rol sz x : Nat), .int (rol sz y : Nat), .int (rol sz z : Nat)]) := upd_same
      generalize upd H15 l2 (.tup [.int (rol sz x : Nat), .int (rol sz y : Nat), .int (rol sz z : Nat)]) = H16 at x2 el2 ⊢
      have s1416 := s15.trans x2
      refine ⟨_, rfl, _, rfl, _, rfl, S, Cu, o, sz, x, y, z, tensor tr, ob, rfl, s1416 _ _ hSz14, bd, (cC8.same s814).same s1416, s1416 _ _ (s814 _ _ hob8), hod, oo, fun H17 D17 s17 c17 => ?_⟩
      obtain ⟨rs, hrs8, prs8⟩ := id hR8
      have s817 := s814.trans (s1416.trans s17)
      have hrs17 := s817 _ _ hrs8
      have prs17 : Paired (TripL H17) rs tr := pmono (fun a t e => e.same s817) prs8
      have lrs := plen prs17
      refine ⟨_, rfl, _, rfl, .ref Rr, _, rfl, .inl ⟨_, SqL.of hrs17, rfl⟩, ?_⟩
      -- the products that are due
      refine ⟨_, rfl, Rr, rfl, ⟨_, SqL.of hrs17⟩, fun D18 hD18 => ?_⟩
      refine lc_it (walk_list (xs := rs.map V.ref)) (fun i H' => Same H17 H' ∧ ∃ us : List Addr, H' D18 = some (.lst (us.map V.ref)) ∧ Paired (TripT H') us ((tr.map (turn3 x y z)).take i)) ⟨same_upd hD18, [], upd_same, .nil⟩ (fun i H' _ e => SqL.of (e.1 _ _ hrs17)) ?_ ?_
      · rintro i v Ha Hb hi ⟨sa, us, ea, pt⟩ ⟨rfl, hv⟩
        obtain ⟨c, hc, rfl⟩ := at_map hv
        have hi : i < tr.length := by rw [← lrs]; exact (List.getElem?_eq_some_iff.mp hc).1
        obtain ⟨c', t, hc', ht, htr⟩ := pat prs17 hi
        rw [hc] at hc'
        cases hc'
        obtain ⟨p0, p1, p2, e0, e1, e2, e3⟩ := htr.same sa
        have ct : ∀ {k : Nat}, k < 3 → [V.ref p0, .ref p1, .ref p2][k]? = some (.ref (rol (p0, p1, p2) k)) := fun {k} hk => by
          match k, hk with
          | 0, _ => rfl
          | 1, _ => rfl
          | 2, _ => rfl
        have rw3 : ∀ {k : Nat}, k < 3 → RowL Hb (rol (p0, p1, p2) k) (rol t k) := fun {k} hk => by
          match k, hk with
          | 0, _ => exact e1
          | 1, _ => exact e2
          | 2, _ => exact e3
        have sAll := (s1416.trans s17).trans sa
        refine ⟨rfl, tYes_ok ⟨_, rfl, o, rfl, ⟨_, rdO sAll⟩, fun D2 hD2 => ?_⟩⟩
        refine lc_it (walk_tup (xs := [V.int x, .int y, .int z])) (fun j H' => Same Hb H' ∧ ∃ us : List Addr, H' D2 = some (.lst (us.map V.ref)) ∧ Paired (RowT H') us ([rol t x, rol t y, rol t z].take j)) ⟨same_upd hD2, [], upd_same, .nil⟩ (fun i H' _ e => rdO (sAll.trans e.1)) ?_ ?_
        · rintro j v Hc Hd hj ⟨sc, us, ec, pu⟩ ⟨rfl, hv⟩
          obtain ⟨k, rfl, hk, hn⟩ : ∃ k : Nat, v = .int k ∧ k < 3 ∧ [rol t x, rol t y, rol t z][j]? = some (rol t k) := by
            match j, hv with
            | 0, hv => cases hv; exact ⟨x, rfl, oo.hx, rfl⟩
            | 1, hv => cases hv; exact ⟨y, rfl, oo.hy, rfl⟩
            | 2, hv => cases hv; exact ⟨z, rfl, oo.hz, rfl⟩
          have hj3 : j < 3 := hj
          refine ⟨rfl, tYes_ok ⟨_, rfl, _, rfl, c, _, _, _, rfl, rfl, SqT.of (sc _ _ e0), atI_nat (j := k) (ct hk), _, _, rfl, .inl ⟨SqL.of ((rw3 hk).same sc), fun l hl => ⟨_, same_upd hl _ _ ec, small1000 ?_, fun e o he => ?_, us ++ [l], ?_, ?_⟩⟩⟩⟩
          · have := plen pu
            rw [List.length_map, this, List.length_take]
            have : [rol t x, rol t y, rol t z].length = 3 := rfl
            omega
          · rw [upd_ne (ne_of_none he hD2)]
            exact same_upd hl _ _ (sc _ _ he)
          · rw [upd_same]
            simp
          · rw [take_snoc hn]
            have nl : l ≠ D2 := (ne_of_none ec hl).symm
            refine (pmono (fun e r h => ?_) pu).snoc ?_
            · have h : Hd e = some (.tup (r.map V.int)) := h
              show upd (upd Hd l _) D2 _ e = some _
              rw [upd_ne (ne_of h ec (by intro q; cases q)), upd_ne (ne_of_none h hl)]
              exact h
            · show upd (upd Hd l _) D2 _ l = some _
              rw [upd_ne nl, upd_same]
        · rintro Hc ⟨sc, us6, ec, pu⟩
          match us6, pu, ec with
          | [u1, u2, u3], .cons w1 (.cons w2 (.cons w3 .nil)), ec =>
          refine ⟨D2, _, rfl, .inl ⟨SqL.of ec, fun l hl => ?_⟩⟩
          have sl := same_upd (o := .tup [.ref u1, .ref u2, .ref u3]) hl
          have eD := sl _ _ (sc _ _ ea)
          refine ⟨_, eD, small1000 ?_, fun e o he => ?_, us ++ [l], ?_, ?_⟩
          · have := hm.len
            rw [List.length_map, plen pt, List.length_take, List.length_map]
            omega
          · rw [upd_ne (ne_of_none he hD18)]
            exact sl _ _ (sc _ _ (sa _ _ he))
          · rw [upd_same]
            simp
          · rw [take_snoc (x := turn3 x y z t) (by rw [List.getElem?_map, ht]; rfl)]
            have put : ∀ {q : Addr} {r : Trip}, TripT (upd Hc l (.tup [.ref u1, .ref u2, .ref u3])) q r → TripT (upd (upd Hc l (.tup [.ref u1, .ref u2, .ref u3])) D18 (.lst (us.map V.ref ++ [.ref l]))) q r := fun h => by
              obtain ⟨u, v, w, q0, q1, q2, q3⟩ := h
              refine ⟨u, v, w, ?_, ?_, ?_, ?_⟩
              · rw [upd_ne (ne_of q0 eD (by intro q; cases q))]; exact q0
              · show upd _ D18 _ u = some _
                rw [upd_ne (ne_of q1 eD (by intro q; cases q))]; exact q1
              · show upd _ D18 _ v = some _
                rw [upd_ne (ne_of q2 eD (by intro q; cases q))]; exact q2
              · show upd _ D18 _ w = some _
                rw [upd_ne (ne_of q3 eD (by intro q; cases q))]; exact q3
            refine (pmono (fun e r h => put ((h.same sc).same sl)) pt).snoc (put ?_)
            exact ⟨u1, u2, u3, upd_same, RowT.same w1 sl, RowT.same w2 sl, RowT.same w3 sl⟩
      rintro H18 ⟨s18, us, e18, pt⟩
      rw [List.take_of_length_le (by rw [List.length_map, List.length_map, lrs]; exact Nat.le_refl _)] at pt
      refine ⟨D18, _, rfl, .inl ⟨SqL.of e18, fun l5 n5 => ?_⟩⟩
      have x5 := same_upd (o := .tup (us.map V.ref)) n5
      have el5 : (upd H18 l5 (.tup (us.map V.ref))) l5 = some (.tup (us.map V.ref)) := upd_same
      generalize upd H18 l5 (.tup (us.map V.ref)) = H19 at x5 el5 ⊢
      refine ⟨by show 5 ≤ sizeLine; decide, fun l6 n6 => ?_⟩
      have x6 := same_upd (o := .lst [.ref l2, .ref D17, .int (gcdAll (gapsOf sz tr g)), .int ((rs.map V.ref).length : Nat), .ref l5]) n6
      have s1719 := s18.trans (x5.trans x6)
      have s1619 := s17.trans s1719
      have s1419 := s1416.trans s1619
      have s1319 := x1.trans s1419
      refine ⟨.ref l1, .ref l6, rfl, Eqd.lst (s1419 _ _ el1) upd_same (by show 5 ≤ 1000; decide) ?_, fun H20 s20 => ⟨_, rfl, iteF ?_⟩⟩
      · have c11' := c11.same ((s12.trans s13).trans s1319)
        rw [tensor_turn oo] at c11'
        have c17' := c17.same s1719
        have hS10' : H10 S10 = some (.tup [.int (rol sz x : Nat), .int (rol sz y : Nat), .int (rol sz z : Nat)]) := hS10
        have el2' := s1619 _ _ el2
        have elen : (tr.map (turn3 x y z)).length = (rs.map V.ref).length := by rw [List.length_map, List.length_map, lrs]
        refine .cons (Eqd.tup ((s1013.trans s1319) _ _ hS10') el2' (by show 3 ≤ 1000; decide) (.cons (Eqd.leaf True.intro) (.cons (Eqd.leaf True.intro) (.cons (Eqd.leaf True.intro) .nil)))) (.cons (cube_eqd c11' c17' ?_ ?_ ?_) (.cons (Eqd.leaf True.intro) (.cons ?_ (.cons ?_ .nil))))
        · have := (turn_small (x := x) (y := y) (z := z) hm).l2
          omega
        · have : (turn3 x y z sz).2.1 ≤ 36 := (turn_small (x := x) (y := y) (z := z) hm).r2
          omega
        · have : (turn3 x y z sz).2.2 ≤ 36 := (turn_small (x := x) (y := y) (z := z) hm).s2
          omega
        · rw [elen]
          exact Eqd.leaf True.intro
        · exact trips_eqd (s1319 _ _ h13) (x6 _ _ el5) (pmono (fun a t e => e.same s1319) p13) (pmono (fun a t e => (e.same x5).same x6) pt) (turn_small hm)
      have s1420 := s1419.trans s20
      have s820 := s814.trans s1420
      have s1020 := (s1013.trans x1).trans s1420
      -- and back
      refine ⟨3, rfl, by decide, by decide, fun D21 hD21 => ?_⟩
      refine lc_it walk_range (fun i H' => Same H20 H' ∧ H' D21 = some (.lst (((List.range i).map fun k => ((bk x y z k : Nat) : Int)).map V.int))) ⟨same_upd hD21, upd_same⟩ (fun _ _ _ _ => True.intro) ?_ ?_
      · rintro i v Ha Hb hi ⟨sa, ea⟩ ⟨rfl, hv⟩
        obtain rfl : v = V.int (i : Int) := hv.trans (rng0 i)
        have hi : i < 3 := hi
        obtain ⟨g1, g2⟩ := bk_find oo hi
        refine ⟨rfl, tYes_ok ⟨_, rfl, ⟨o, ob, _, rfl, sa _ _ (s820 _ _ hob8), hod⟩, _, rfl, o, [(x : Int), y, z], _, bk x y z i, rfl, rfl, rdO (s1420.trans sa), g1, g2, _, ea, small1000 (by simp; omega), fun x o hx => ?_, ?_⟩⟩
        · rw [upd_ne (ne_of_none hx hD21)]
          exact sa _ _ hx
        · rw [upd_same, List.range_succ, List.map_append, List.map_append]
          rfl
      rintro H21 ⟨s21, e21⟩
      have e21 : H21 D21 = some (.lst [.int (bk x y z 0 : Nat), .int (bk x y z 1 : Nat), .int (bk x y z 2 : Nat)]) := e21
      refine ⟨D21, _, rfl, .inl ⟨SqL.of e21, fun l7 n7 => ?_⟩⟩
      have x7 := same_upd (o := .tup [.int (bk x y z 0 : Nat), .int (bk x y z 1 : Nat), .int (bk x y z 2 : Nat)]) n7
      have el7 : (upd H21 l7 (.tup [.int (bk x y z 0 : Nat), .int (bk x y z 1 : Nat), .int (bk x y z 2 : Nat)])) l7 = some (.tup [.int (bk x y z 0 : Nat), .int (bk x y z 1 : Nat), .int (bk x y z 2 : Nat)]) := upd_same
      generalize upd H21 l7 (.tup [.int (bk x y z 0 : Nat), .int (bk x y z 1 : Nat), .int (bk x y z 2 : Nat)]) = H22 at x7 el7 ⊢
      have s2022 := s21.trans x7
      have s1022 := s1020.trans s2022
      have s822 := s820.trans s2022
      refine ⟨_, rfl, N, dN, _, rfl, s1022 _ _ f1, rfl, _, rfl, N, _, _, .ref l7, rfl, A10.same s1022, .inl ⟨l7, bk x y z 0, bk x y z 1, bk x y z 2, rfl, .inl el7, ord_back oo, fun H23 N2 s23 A23 => ?_⟩⟩
      rw [turn_back oo, tr_back oo] at A23
      have A23s := A8.same (s822.trans s23)
      obtain ⟨d2, S2, T2, ts2, j1, _, _, _, _⟩ := id A23
      obtain ⟨d3, S3, T3, ts3, j3, _, _, _, _⟩ := id A23s
      refine ⟨_, rfl, N2, d2, _, .ref C, rfl, j1, .base (.ins j3 R.cl SE.ha SE.hn SE.htk SE.hm), nf, N2, sz, tr, .ref sc, rfl, A23, .inl ⟨sc, rfl, A23s, true, rfl, _, rfl, iteF ⟨_, _, _, rfl, s822.trans s23⟩⟩⟩
    rintro σ H9 ⟨y15, y16, y18, rfl, s9⟩
    have B9 := B8.same s9
    have T9 := T8.ext s9
    have O9 := O8.same s9
    have A9 := A8.same s9
    clear B8 T8 O8 A8 cC8 cW8 hSz8 hR8 hl8 po
    refine ⟨_, rfl, by show 2 ≤ sizeLine; decide, fun t1 n1 => ⟨by show 3 ≤ sizeLine; decide, fun t2 n2 => ⟨by show 3 ≤ sizeLine; decide, fun t3 n3 => ⟨by show 3 ≤ sizeLine; decide, fun t4 n4 => ⟨by show 4 ≤ sizeLine; decide, fun t5 n5 => ⟨by show 3 ≤ sizeLine; decide, fun t6 n6 => ⟨by show 3 ≤ sizeLine; decide, fun t7 n7 => ⟨by show 9 ≤ sizeLine; decide, fun L nL => ?_⟩⟩⟩⟩⟩⟩⟩⟩
    have u1 := same_upd (o := .tup [.int 0, .int 1]) n1
    have u2 := same_upd (o := .tup [.int 0, .int 1, .int 1]) n2
    have u3 := same_upd (o := .tup [.int 0, .int 1, .int 3]) n3
    have u4 := same_upd (o := .lst [.int 0, .int 1, .int 2]) n4
    have u5 := same_upd (o := .tup [.int 0, .int 1, .int 2, .int 3]) n5
    have u6 := same_upd (o := .tup [.bl true, .int 0, .int 2]) n6
    have u7 := same_upd (o := .tup [.int 0, .int 1, .non]) n7
    have u8 := same_upd (o := .lst [.non, .ref t1, .ref t2, .ref t3, .ref t4, .ref t5, .ref t6, .str "012", .ref t7]) nL
    have u17 := u1.trans (u2.trans (u3.trans (u4.trans (u5.trans (u6.trans u7)))))
    have u18 := u17.trans u8
    refine ⟨b, cc, .ref L, rfl, B9.same u18, .inl ⟨L, _, rfl, (B9.same u17).ne_new nL, upd_same, by simp, (by show 9 ≤ 1000; decide), fun v H10 hv k10 B10 => ?_⟩⟩
    have nb : ∀ {Hx : Hp} {y : Addr}, Same H9 Hx → Hx y = none → y ≠ b := fun s h => (B9.same s).ne_new h
    have fl : ∀ xs : List V, (∀ x ∈ xs, leafV x) → ∀ x ∈ xs, leafV x := fun _ h => h
    have odd : OddO H10 v := by
      simp only [List.mem_cons, List.not_mem_nil, or_false] at hv
      rcases hv with rfl | rfl | rfl | rfl | rfl | rfl | rfl | rfl | rfl
      · exact .leaf True.intro
      · exact .tup (k10 _ _ (nb (Same.refl _) n1) (u8 _ _ (u7 _ _ (u6 _ _ (u5 _ _ (u4 _ _ (u3 _ _ (u2 _ _ upd_same)))))))) (by decide) (by simp [leafV]) (by decide)
      · exact .tup (k10 _ _ (nb u1 n2) (u8 _ _ (u7 _ _ (u6 _ _ (u5 _ _ (u4 _ _ (u3 _ _ upd_same))))))) (by decide) (by simp [leafV]) (by decide)
      · exact .tup (k10 _ _ (nb (u1.trans u2) n3) (u8 _ _ (u7 _ _ (u6 _ _ (u5 _ _ (u4 _ _ upd_same)))))) (by decide) (by simp [leafV]) (by decide)
      · exact .lst (k10 _ _ (nb (u1.trans (u2.trans u3)) n4) (u8 _ _ (u7 _ _ (u6 _ _ (u5 _ _ upd_same))))) (by decide) (by simp [leafV])
      · exact .tup (k10 _ _ (nb (u1.trans (u2.trans (u3.trans u4))) n5) (u8 _ _ (u7 _ _ (u6 _ _ upd_same)))) (by decide) (by simp [leafV]) (by decide)
      · exact .tup (k10 _ _ (nb (u1.trans (u2.trans (u3.trans (u4.trans u5)))) n6) (u8 _ _ (u7 _ _ upd_same))) (by decide) (by simp [leafV]) (by decide)
      · exact .leaf True.intro
      · exact .tup (k10 _ _ (nb (u1.trans (u2.trans (u3.trans (u4.trans (u5.trans u6))))) n7) (u8 _ _ upd_same)) (by decide) (by simp [leafV]) (by decide)
    have B9' := B9.same u18
    have T10 := keepT B9' (T9.ext u18) k10
    have O10 := (O9.same u18).kb B9' k10
    obtain ⟨ys9, hb9, _⟩ := B9'.noNum
    have A10 := (A9.same u18).kb hb9 k10
    clear u1 u2 u3 u4 u5 u6 u7 u8 u17 u18 B9 T9 O9 A9 k10 hv B9' hb9
    refine ⟨fun p hp => by rw [List.mem_singleton.mp hp, ← hlq]; exact T10, fun H11 eN T11 => ?_⟩
    have T11' : LamX.TabS H11 Pt lq := by
      rw [hlq]
      exact T11 _ List.mem_cons_self
    clear T11
    have B11 := bg_ext B10 eN
    have O11 := O10.ext eN
    have A11 := A10.ext eN
    have odd11 := odd.keeps eN
    obtain ⟨dx, S', T', ts, e1, _, _, _, _⟩ := id A11
    refine ⟨_, rfl, sc, dx, _, rfl, e1, rfl, _, rfl, sc, sz, tr, v, rfl, A11, .inr ⟨odd11.bad, fun H12 d s12 hd => ⟨hm0, "InvalidOrder", v, ⟨CO, d, _, "given", rfl, xf, rfl, upd_same, noC, rfl, by decide +kernel, noG, rfl⟩, fun H13 p s13 hp => ?_⟩⟩⟩
    refine ⟨_, rfl, (by show 2 ≤ sizeLine; decide), fun p2 np2 => ?_⟩
    have y1 := same_upd (o := .tup [.str "InvalidOrder", v]) hp
    have y2 := same_upd (o := .tup [.str "InvalidOrder", v]) np2
    have s1115 := s12.trans ((same_upd hd).trans (s13.trans (y1.trans y2)))
    refine ⟨.ref p, .ref p2, rfl, Eqd.tup (y2 _ _ upd_same) upd_same (by show 2 ≤ 1000; decide) (.cons (Eqd.leaf True.intro) (.cons (odd11.keeps (fun x o h _ => s1115 x o h)).eqd .nil)), fun H14 s14 => ⟨_, rfl, iteF ?_⟩⟩
    have s1114 := s1115.trans s14
    exact ⟨_, _, _, _, _, _, _, _, _, _, _, rfl, B11.same s1114, T11'.ext s1114, O11.same s1114⟩
  obtain ⟨t, ht, hq⟩ := main
  exact ⟨t, ht.nox, hq⟩
end
end My
namespace My
open PySem PySem.Spec PyProof.Rows L2
theorem all_mk {l : PySem.W.OpenLaw} {w : World} {K : PySem.W.Frag} {h : Heap} {mg : Str → Option Value} {fa : Addr} (X : K.In h) (G : h.Ns mainGlobals mg) (hfa : mg "law" = some (.ref fa))
    {f1 : Addr} {od1 an1 : Option Addr} {sl1 : Array (Option Value)} {oc1 kV1 dc1 pm1 cd1 ct1 : Value} {f2 : Addr} {od2 an2 : Option Addr} {sl2 : Array (Option Value)} {oc2 kV2 dc2 pm2 cd2 ct2 : Value} {f3 : Addr} {od3 an3 : Option Addr} {sl3 : Array (Option Value)} {oc3 kV3 dc3 pm3 cd3 ct3 : Value} {f4 : Addr} {od4 an4 : Option Addr} {sl4 : Array (Option Value)} {oc4 kV4 dc4 pm4 cd4 ct4 : Value} {f5 : Addr} {od5 an5 : Option Addr} {sl5 : Array (Option Value)} {oc5 kV5 dc5 pm5 cd5 ct5 : Value} {T5 : Addr} {oT5 : Option Addr} {nT5 : Nat} {sT5 : Array (Option Value)} {ud5_0 : Tok} {f6 : Addr} {od6 an6 : Option Addr} {sl6 : Array (Option Value)} {oc6 kV6 dc6 pm6 cd6 ct6 : Value} {f7 : Addr} {od7 an7 : Option Addr} {sl7 : Array (Option Value)} {oc7 kV7 dc7 pm7 cd7 ct7 : Value} {f8 : Addr} {od8 an8 : Option Addr} {sl8 : Array (Option Value)} {oc8 kV8 dc8 pm8 cd8 ct8 : Value} {f9 : Addr} {od9 an9 : Option Addr} {sl9 : Array (Option Value)} {oc9 kV9 dc9 pm9 cd9 ct9 : Value} {f10 : Addr} {od10 an10 : Option Addr} {sl10 : Array (Option Value)} {oc10 kV10 dc10 pm10 cd10 ct10 : Value} {f11 : Addr} {od11 an11 : Option Addr} {sl11 : Array (Option Value)} {oc11 kV11 dc11 pm11 cd11 ct11 : Value} {f12 : Addr} {od12 an12 : Option Addr} {sl12 : Array (Option Value)} {oc12 kV12 dc12 pm12 cd12 ct12 : Value} {f13 : Addr} {od13 an13 : Option Addr} {sl13 : Array (Option Value)} {oc13 kV13 dc13 pm13 cd13 ct13 : Value} {f14 : Addr} {od14 an14 : Option Addr} {sl14 : Array (Option Value)} {oc14 kV14 dc14 pm14 cd14 ct14 : Value} {f15 : Addr} {od15 an15 : Option Addr} {sl15 : Array (Option Value)} {oc15 kV15 dc15 pm15 cd15 ct15 : Value} {f16 : Addr} {od16 an16 : Option Addr} {sl16 : Array (Option Value)} {oc16 kV16 dc16 pm16 cd16 ct16 : Value} {f17 : Addr} {od17 an17 : Option Addr} {sl17 : Array (Option Value)} {oc17 kV17 dc17 pm17 cd17 ct17 : Value} {f18 : Addr} {od18 an18 : Option Addr} {sl18 : Array (Option Value)} {oc18 kV18 dc18 pm18 cd18 ct18 : Value} {f19 : Addr} {od19 an19 : Option Addr} {sl19 : Array (Option Value)} {oc19 kV19 dc19 pm19 cd19 ct19 : Value} {f20 : Addr} {od20 an20 : Option Addr} {sl20 : Array (Option Value)} {oc20 kV20 dc20 pm20 cd20 ct20 : Value} {f21 : Addr} {od21 an21 : Option Addr} {sl21 : Array (Option Value)} {oc21 kV21 dc21 pm21 cd21 ct21 : Value} {f22 : Addr} {od22 an22 : Option Addr} {sl22 : Array (Option Value)} {oc22 kV22 dc22 pm22 cd22 ct22 : Value} {f23 : Addr} {od23 an23 : Option Addr} {sl23 : Array (Option Value)} {oc23 kV23 dc23 pm23 cd23 ct23 : Value} {f24 : Addr} {od24 an24 : Option Addr} {sl24 : Array (Option Value)} {oc24 kV24 dc24 pm24 cd24 ct24 : Value} {f25 : Addr} {od25 an25 : Option Addr} {sl25 : Array (Option Value)} {oc25 kV25 dc25 pm25 cd25 ct25 : Value} {f26 : Addr} {od26 an26 : Option Addr} {sl26 : Array (Option Value)} {oc26 kV26 dc26 pm26 cd26 ct26 : Value} {f27 : Addr} {od27 an27 : Option Addr} {sl27 : Array (Option Value)} {oc27 kV27 dc27 pm27 cd27 ct27 : Value} {f28 : Addr} {od28 an28 : Option Addr} {sl28 : Array (Option Value)} {oc28 kV28 dc28 pm28 cd28 ct28 : Value} {f29 : Addr} {od29 an29 : Option Addr} {sl29 : Array (Option Value)} {oc29 kV29 dc29 pm29 cd29 ct29 : Value} {f30 : Addr} {od30 an30 : Option Addr} {sl30 : Array (Option Value)} {oc30 kV30 dc30 pm30 cd30 ct30 : Value} {f31 : Addr} {od31 an31 : Option Addr} {sl31 : Array (Option Value)} {oc31 kV31 dc31 pm31 cd31 ct31 : Value} {f32 : Addr} {od32 an32 : Option Addr} {sl32 : Array (Option Value)} {oc32 kV32 dc32 pm32 cd32 ct32 : Value} {f33 : Addr} {od33 an33 : Option Addr} {sl33 : Array (Option Value)} {oc33 kV33 dc33 pm33 cd33 ct33 : Value} {f34 : Addr} {od34 an34 : Option Addr} {sl34 : Array (Option Value)} {oc34 kV34 dc34 pm34 cd34 ct34 : Value} {f35 : Addr} {od35 an35 : Option Addr} {sl35 : Array (Option Value)} {oc35 kV35 dc35 pm35 cd35 ct35 : Value} {u_MOST_SIZE : Tok} {u_MOST_PRODUCTS : Tok} {C_InvalidNumber f_InvalidNumber x_InvalidNumber d_InvalidNumber N_InvalidNumber : Addr} {nm_InvalidNumber qn_InvalidNumber ql_InvalidNumber ms_InvalidNumber fl_InvalidNumber : Str} {bs_InvalidNumber bm_InvalidNumber sub_InvalidNumber : List Value} {sn_InvalidNumber : List Str} {ab_InvalidNumber : Bool} {col_InvalidNumber : Option Bool} {dd_InvalidNumber od_InvalidNumber an_InvalidNumber cdd_InvalidNumber cld_InvalidNumber : Option Addr} {v0_InvalidNumber v1_InvalidNumber v2_InvalidNumber v3_InvalidNumber v5_InvalidNumber : Option Value} {oc_InvalidNumber dc_InvalidNumber pm_InvalidNumber ct_InvalidNumber ccl_InvalidNumber cl_InvalidNumber : Value} {os_InvalidNumber ccs_InvalidNumber csl_InvalidNumber : Array (Option Value)} {vs_InvalidNumber : Array Value} {tf_InvalidNumber : Tok} {n1_InvalidNumber n2_InvalidNumber : Nat} {p1_InvalidNumber p2_InvalidNumber a1_InvalidNumber a2_InvalidNumber a3_InvalidNumber a4_InvalidNumber a5_InvalidNumber a6_InvalidNumber b1_InvalidNumber b2_InvalidNumber b3_InvalidNumber b4_InvalidNumber c1_InvalidNumber c2_InvalidNumber c3_InvalidNumber c4_InvalidNumber : Pos} {C_InvalidProduct f_InvalidProduct x_InvalidProduct d_InvalidProduct N_InvalidProduct : Addr} {nm_InvalidProduct qn_InvalidProduct ql_InvalidProduct ms_InvalidProduct fl_InvalidProduct : Str} {bs_InvalidProduct bm_InvalidProduct sub_InvalidProduct : List Value} {sn_InvalidProduct : List Str} {ab_InvalidProduct : Bool} {col_InvalidProduct : Option Bool} {dd_InvalidProduct od_InvalidProduct an_InvalidProduct cdd_InvalidProduct cld_InvalidProduct : Option Addr} {v0_InvalidProduct v1_InvalidProduct v2_InvalidProduct v3_InvalidProduct v5_InvalidProduct : Option Value} {oc_InvalidProduct dc_InvalidProduct pm_InvalidProduct ct_InvalidProduct ccl_InvalidProduct cl_InvalidProduct : Value} {os_InvalidProduct ccs_InvalidProduct csl_InvalidProduct : Array (Option Value)} {vs_InvalidProduct : Array Value} {tf_InvalidProduct : Tok} {n1_InvalidProduct n2_InvalidProduct : Nat} {p1_InvalidProduct p2_InvalidProduct a1_InvalidProduct a2_InvalidProduct a3_InvalidProduct a4_InvalidProduct a5_InvalidProduct a6_InvalidProduct b1_InvalidProduct b2_InvalidProduct b3_InvalidProduct b4_InvalidProduct c1_InvalidProduct c2_InvalidProduct c3_InvalidProduct c4_InvalidProduct : Pos} {C_TooMany f_TooMany x_TooMany d_TooMany N_TooMany : Addr} {nm_TooMany qn_TooMany ql_TooMany ms_TooMany fl_TooMany : Str} {bs_TooMany bm_TooMany sub_TooMany : List Value} {sn_TooMany : List Str} {ab_TooMany : Bool} {col_TooMany : Option Bool} {dd_TooMany od_TooMany an_TooMany cdd_TooMany cld_TooMany : Option Addr} {v0_TooMany v1_TooMany v2_TooMany v3_TooMany v5_TooMany : Option Value} {oc_TooMany dc_TooMany pm_TooMany ct_TooMany ccl_TooMany cl_TooMany : Value} {os_TooMany ccs_TooMany csl_TooMany : Array (Option Value)} {vs_TooMany : Array Value} {tf_TooMany : Tok} {n1_TooMany n2_TooMany : Nat} {p1_TooMany p2_TooMany a1_TooMany a2_TooMany a3_TooMany a4_TooMany a5_TooMany a6_TooMany b1_TooMany b2_TooMany b3_TooMany b4_TooMany c1_TooMany c2_TooMany c3_TooMany c4_TooMany : Pos} {C_InvalidTable f_InvalidTable x_InvalidTable d_InvalidTable N_InvalidTable : Addr} {nm_InvalidTable qn_InvalidTable ql_InvalidTable ms_InvalidTable fl_InvalidTable : Str} {bs_InvalidTable bm_InvalidTable sub_InvalidTable : List Value} {sn_InvalidTable : List Str} {ab_InvalidTable : Bool} {col_InvalidTable : Option Bool} {dd_InvalidTable od_InvalidTable an_InvalidTable cdd_InvalidTable cld_InvalidTable : Option Addr} {v0_InvalidTable v1_InvalidTable v2_InvalidTable v3_InvalidTable v5_InvalidTable : Option Value} {oc_InvalidTable dc_InvalidTable pm_InvalidTable ct_InvalidTable ccl_InvalidTable cl_InvalidTable : Value} {os_InvalidTable ccs_InvalidTable csl_InvalidTable : Array (Option Value)} {vs_InvalidTable : Array Value} {tf_InvalidTable : Tok} {n1_InvalidTable n2_InvalidTable : Nat} {p1_InvalidTable p2_InvalidTable a1_InvalidTable a2_InvalidTable a3_InvalidTable a4_InvalidTable a5_InvalidTable a6_InvalidTable b1_InvalidTable b2_InvalidTable b3_InvalidTable b4_InvalidTable c1_InvalidTable c2_InvalidTable c3_InvalidTable c4_InvalidTable : Pos} {C_InvalidOrder f_InvalidOrder x_InvalidOrder d_InvalidOrder N_InvalidOrder : Addr} {nm_InvalidOrder qn_InvalidOrder ql_InvalidOrder ms_InvalidOrder fl_InvalidOrder : Str} {bs_InvalidOrder bm_InvalidOrder sub_InvalidOrder : List Value} {sn_InvalidOrder : List Str} {ab_InvalidOrder : Bool} {col_InvalidOrder : Option Bool} {dd_InvalidOrder od_InvalidOrder an_InvalidOrder cdd_InvalidOrder cld_InvalidOrder : Option Addr} {v0_InvalidOrder v1_InvalidOrder v2_InvalidOrder v3_InvalidOrder v5_InvalidOrder : Option Value} {oc_InvalidOrder dc_InvalidOrder pm_InvalidOrder ct_InvalidOrder ccl_InvalidOrder cl_InvalidOrder : Value} {os_InvalidOrder ccs_InvalidOrder csl_InvalidOrder : Array (Option Value)} {vs_InvalidOrder : Array Value} {tf_InvalidOrder : Tok} {n1_InvalidOrder n2_InvalidOrder : Nat} {p1_InvalidOrder p2_InvalidOrder a1_InvalidOrder a2_InvalidOrder a3_InvalidOrder a4_InvalidOrder a5_InvalidOrder a6_InvalidOrder b1_InvalidOrder b2_InvalidOrder b3_InvalidOrder b4_InvalidOrder c1_InvalidOrder c2_InvalidOrder c3_InvalidOrder c4_InvalidOrder : Pos} {C_Scheme : Addr} {f_Scheme_init : Addr} {od_Scheme_init an_Scheme_init : Option Addr} {sl_Scheme_init : Array (Option Value)} {oc_Scheme_init dc_Scheme_init pm_Scheme_init cd_Scheme_init ct_Scheme_init : Value} {kV_Scheme_init : Value} {f_Scheme_sizes : Addr} {od_Scheme_sizes an_Scheme_sizes : Option Addr} {sl_Scheme_sizes : Array (Option Value)} {oc_Scheme_sizes dc_Scheme_sizes pm_Scheme_sizes cd_Scheme_sizes ct_Scheme_sizes : Value} {kV_Scheme_sizes : Value} {p_Scheme_sizes : Addr} {rs_Scheme_sizes : List Value} {f_Scheme_products : Addr} {od_Scheme_products an_Scheme_products : Option Addr} {sl_Scheme_products : Array (Option Value)} {oc_Scheme_products dc_Scheme_products pm_Scheme_products cd_Scheme_products ct_Scheme_products : Value} {kV_Scheme_products : Value} {p_Scheme_products : Addr} {rs_Scheme_products : List Value} {f_Scheme_len : Addr} {od_Scheme_len an_Scheme_len : Option Addr} {sl_Scheme_len : Array (Option Value)} {oc_Scheme_len dc_Scheme_len pm_Scheme_len cd_Scheme_len ct_Scheme_len : Value} {kV_Scheme_len : Value} {f_Scheme_eq : Addr} {od_Scheme_eq an_Scheme_eq : Option Addr} {sl_Scheme_eq : Array (Option Value)} {oc_Scheme_eq dc_Scheme_eq pm_Scheme_eq cd_Scheme_eq ct_Scheme_eq : Value} {kV_Scheme_eq : Value} {f_Scheme_table : Addr} {od_Scheme_table an_Scheme_table : Option Addr} {sl_Scheme_table : Array (Option Value)} {oc_Scheme_table dc_Scheme_table pm_Scheme_table cd_Scheme_table ct_Scheme_table : Value} {kV_Scheme_table : Value} {f_Scheme_right_ones : Addr} {od_Scheme_right_ones an_Scheme_right_ones : Option Addr} {sl_Scheme_right_ones : Array (Option Value)} {oc_Scheme_right_ones dc_Scheme_right_ones pm_Scheme_right_ones cd_Scheme_right_ones ct_Scheme_right_ones : Value} {kV_Scheme_right_ones : Value} {f_Scheme_turned : Addr} {od_Scheme_turned an_Scheme_turned : Option Addr} {sl_Scheme_turned : Array (Option Value)} {oc_Scheme_turned dc_Scheme_turned pm_Scheme_turned cd_Scheme_turned ct_Scheme_turned : Value} {kV_Scheme_turned : Value} {g_RingError : Value} {g_Missing : Value} {g_NothingLeft : Value}
    {cL PL : Addr} {eL : Value} {ddL : Option Addr} {vsL : Array Value} {slL : Array (Option Value)}
    (z_super : PySem.W.nsIn K mainGlobals "super" = some none) (opq : PySem.W.nsIn K PySem.cStatics "thirdparty.any" = some none) (topSuper : (l.prog.main.scope.names.lookup ("super" : Str)).isSome = false)
    (a1 : PySem.W.nsIn K mainGlobals "_wall" = some (some (.ref f1))) (l1 : K.lookup f1 = some ⟨oc1, od1, .func (PySem.W.fnOf "_wall" "_wall" (defArgs s__wall) (defBody s__wall) (defScope s__wall) .none kV1 dc1 pm1 an1 cd1 ct1), sl1⟩) (c1 : PySem.W.codeIn K cd1 "_wall" = true) (k1 : PySem.W.keepIn K (.ref f1) = true)
    (a2 : PySem.W.nsIn K mainGlobals "is_int" = some (some (.ref f2))) (l2 : K.lookup f2 = some ⟨oc2, od2, .func (PySem.W.fnOf "is_int" "is_int" (defArgs s_is_int) (defBody s_is_int) (defScope s_is_int) .none kV2 dc2 pm2 an2 cd2 ct2), sl2⟩) (c2 : PySem.W.codeIn K cd2 "is_int" = true) (k2 : PySem.W.keepIn K (.ref f2) = true)
    (a3 : PySem.W.nsIn K mainGlobals "is_between" = some (some (.ref f3))) (l3 : K.lookup f3 = some ⟨oc3, od3, .func (PySem.W.fnOf "is_between" "is_between" (defArgs s_is_between) (defBody s_is_between) (defScope s_is_between) .none kV3 dc3 pm3 an3 cd3 ct3), sl3⟩) (c3 : PySem.W.codeIn K cd3 "is_between" = true) (k3 : PySem.W.keepIn K (.ref f3) = true)
    (a4 : PySem.W.nsIn K mainGlobals "common" = some (some (.ref f4))) (l4 : K.lookup f4 = some ⟨oc4, od4, .func (PySem.W.fnOf "common" "common" (defArgs s_common) (defBody s_common) (defScope s_common) .none kV4 dc4 pm4 an4 cd4 ct4), sl4⟩) (c4 : PySem.W.codeIn K cd4 "common" = true) (k4 : PySem.W.keepIn K (.ref f4) = true)
    (a5 : PySem.W.nsIn K mainGlobals "share" = some (some (.ref f5))) (l5 : K.lookup f5 = some ⟨oc5, od5, .func (PySem.W.fnOf "share" "share" (defArgs s_share) (defBody s_share) (defScope s_share) (.ref T5) kV5 dc5 pm5 an5 cd5 ct5), sl5⟩) (c5 : PySem.W.codeIn K cd5 "share" = true) (k5 : PySem.W.keepIn K (.ref f5) = true)
    (t5 : K.lookup T5 = some ⟨.type "tuple", oT5, .seq #[.int 1 ud5_0] nT5, sT5⟩)
    (a6 : PySem.W.nsIn K mainGlobals "sum_of_shares" = some (some (.ref f6))) (l6 : K.lookup f6 = some ⟨oc6, od6, .func (PySem.W.fnOf "sum_of_shares" "sum_of_shares" (defArgs s_sum_of_shares) (defBody s_sum_of_shares) (defScope s_sum_of_shares) .none kV6 dc6 pm6 an6 cd6 ct6), sl6⟩) (c6 : PySem.W.codeIn K cd6 "sum_of_shares" = true) (k6 : PySem.W.keepIn K (.ref f6) = true)
    (a7 : PySem.W.nsIn K mainGlobals "product_of_shares" = some (some (.ref f7))) (l7 : K.lookup f7 = some ⟨oc7, od7, .func (PySem.W.fnOf "product_of_shares" "product_of_shares" (defArgs s_product_of_shares) (defBody s_product_of_shares) (defScope s_product_of_shares) .none kV7 dc7 pm7 an7 cd7 ct7), sl7⟩) (c7 : PySem.W.codeIn K cd7 "product_of_shares" = true) (k7 : PySem.W.keepIn K (.ref f7) = true)
    (a8 : PySem.W.nsIn K mainGlobals "is_list_of" = some (some (.ref f8))) (l8 : K.lookup f8 = some ⟨oc8, od8, .func (PySem.W.fnOf "is_list_of" "is_list_of" (defArgs s_is_list_of) (defBody s_is_list_of) (defScope s_is_list_of) .none kV8 dc8 pm8 an8 cd8 ct8), sl8⟩) (c8 : PySem.W.codeIn K cd8 "is_list_of" = true) (k8 : PySem.W.keepIn K (.ref f8) = true)
    (a9 : PySem.W.nsIn K mainGlobals "check_number" = some (some (.ref f9))) (l9 : K.lookup f9 = some ⟨oc9, od9, .func (PySem.W.fnOf "check_number" "check_number" (defArgs s_check_number) (defBody s_check_number) (defScope s_check_number) .none kV9 dc9 pm9 an9 cd9 ct9), sl9⟩) (c9 : PySem.W.codeIn K cd9 "check_number" = true) (k9 : PySem.W.keepIn K (.ref f9) = true)
    (a10 : PySem.W.nsIn K mainGlobals "scaled" = some (some (.ref f10))) (l10 : K.lookup f10 = some ⟨oc10, od10, .func (PySem.W.fnOf "scaled" "scaled" (defArgs s_scaled) (defBody s_scaled) (defScope s_scaled) .none kV10 dc10 pm10 an10 cd10 ct10), sl10⟩) (c10 : PySem.W.codeIn K cd10 "scaled" = true) (k10 : PySem.W.keepIn K (.ref f10) = true)
    (a11 : PySem.W.nsIn K mainGlobals "added" = some (some (.ref f11))) (l11 : K.lookup f11 = some ⟨oc11, od11, .func (PySem.W.fnOf "added" "added" (defArgs s_added) (defBody s_added) (defScope s_added) .none kV11 dc11 pm11 an11 cd11 ct11), sl11⟩) (c11 : PySem.W.codeIn K cd11 "added" = true) (k11 : PySem.W.keepIn K (.ref f11) = true)
    (a12 : PySem.W.nsIn K mainGlobals "row_of" = some (some (.ref f12))) (l12 : K.lookup f12 = some ⟨oc12, od12, .func (PySem.W.fnOf "row_of" "row_of" (defArgs s_row_of) (defBody s_row_of) (defScope s_row_of) .none kV12 dc12 pm12 an12 cd12 ct12), sl12⟩) (c12 : PySem.W.codeIn K cd12 "row_of" = true) (k12 : PySem.W.keepIn K (.ref f12) = true)
    (a13 : PySem.W.nsIn K mainGlobals "first_sums" = some (some (.ref f13))) (l13 : K.lookup f13 = some ⟨oc13, od13, .func (PySem.W.fnOf "first_sums" "first_sums" (defArgs s_first_sums) (defBody s_first_sums) (defScope s_first_sums) .none kV13 dc13 pm13 an13 cd13 ct13), sl13⟩) (c13 : PySem.W.codeIn K cd13 "first_sums" = true) (k13 : PySem.W.keepIn K (.ref f13) = true)
    (a14 : PySem.W.nsIn K mainGlobals "sum_made" = some (some (.ref f14))) (l14 : K.lookup f14 = some ⟨oc14, od14, .func (PySem.W.fnOf "sum_made" "sum_made" (defArgs s_sum_made) (defBody s_sum_made) (defScope s_sum_made) .none kV14 dc14 pm14 an14 cd14 ct14), sl14⟩) (c14 : PySem.W.codeIn K cd14 "sum_made" = true) (k14 : PySem.W.keepIn K (.ref f14) = true)
    (a15 : PySem.W.nsIn K mainGlobals "straight_products" = some (some (.ref f15))) (l15 : K.lookup f15 = some ⟨oc15, od15, .func (PySem.W.fnOf "straight_products" "straight_products" (defArgs s_straight_products) (defBody s_straight_products) (defScope s_straight_products) .none kV15 dc15 pm15 an15 cd15 ct15), sl15⟩) (c15 : PySem.W.codeIn K cd15 "straight_products" = true) (k15 : PySem.W.keepIn K (.ref f15) = true)
    (a16 : PySem.W.nsIn K mainGlobals "check_sizes" = some (some (.ref f16))) (l16 : K.lookup f16 = some ⟨oc16, od16, .func (PySem.W.fnOf "check_sizes" "check_sizes" (defArgs s_check_sizes) (defBody s_check_sizes) (defScope s_check_sizes) .none kV16 dc16 pm16 an16 cd16 ct16), sl16⟩) (c16 : PySem.W.codeIn K cd16 "check_sizes" = true) (k16 : PySem.W.keepIn K (.ref f16) = true)
    (a17 : PySem.W.nsIn K mainGlobals "is_row" = some (some (.ref f17))) (l17 : K.lookup f17 = some ⟨oc17, od17, .func (PySem.W.fnOf "is_row" "is_row" (defArgs s_is_row) (defBody s_is_row) (defScope s_is_row) .none kV17 dc17 pm17 an17 cd17 ct17), sl17⟩) (c17 : PySem.W.codeIn K cd17 "is_row" = true) (k17 : PySem.W.keepIn K (.ref f17) = true)
    (a18 : PySem.W.nsIn K mainGlobals "is_product" = some (some (.ref f18))) (l18 : K.lookup f18 = some ⟨oc18, od18, .func (PySem.W.fnOf "is_product" "is_product" (defArgs s_is_product) (defBody s_is_product) (defScope s_is_product) .none kV18 dc18 pm18 an18 cd18 ct18), sl18⟩) (c18 : PySem.W.codeIn K cd18 "is_product" = true) (k18 : PySem.W.keepIn K (.ref f18) = true)
    (a19 : PySem.W.nsIn K mainGlobals "is_table" = some (some (.ref f19))) (l19 : K.lookup f19 = some ⟨oc19, od19, .func (PySem.W.fnOf "is_table" "is_table" (defArgs s_is_table) (defBody s_is_table) (defScope s_is_table) .none kV19 dc19 pm19 an19 cd19 ct19), sl19⟩) (c19 : PySem.W.codeIn K cd19 "is_table" = true) (k19 : PySem.W.keepIn K (.ref f19) = true)
    (a20 : PySem.W.nsIn K mainGlobals "is_order" = some (some (.ref f20))) (l20 : K.lookup f20 = some ⟨oc20, od20, .func (PySem.W.fnOf "is_order" "is_order" (defArgs s_is_order) (defBody s_is_order) (defScope s_is_order) .none kV20 dc20 pm20 an20 cd20 ct20), sl20⟩) (c20 : PySem.W.codeIn K cd20 "is_order" = true) (k20 : PySem.W.keepIn K (.ref f20) = true)
    (a21 : PySem.W.nsIn K mainGlobals "check_table" = some (some (.ref f21))) (l21 : K.lookup f21 = some ⟨oc21, od21, .func (PySem.W.fnOf "check_table" "check_table" (defArgs s_check_table) (defBody s_check_table) (defScope s_check_table) .none kV21 dc21 pm21 an21 cd21 ct21), sl21⟩) (c21 : PySem.W.codeIn K cd21 "check_table" = true) (k21 : PySem.W.keepIn K (.ref f21) = true)
    (a22 : PySem.W.nsIn K mainGlobals "entries" = some (some (.ref f22))) (l22 : K.lookup f22 = some ⟨oc22, od22, .func (PySem.W.fnOf "entries" "entries" (defArgs s_entries) (defBody s_entries) (defScope s_entries) .none kV22 dc22 pm22 an22 cd22 ct22), sl22⟩) (c22 : PySem.W.codeIn K cd22 "entries" = true) (k22 : PySem.W.keepIn K (.ref f22) = true)
    (a23 : PySem.W.nsIn K mainGlobals "_law_bag" = some (some (.ref f23))) (l23 : K.lookup f23 = some ⟨oc23, od23, .func (PySem.W.fnOf "_law_bag" "_law_bag" (defArgs s_l_bag) (defBody s_l_bag) (defScope s_l_bag) .none kV23 dc23 pm23 an23 cd23 ct23), sl23⟩) (c23 : PySem.W.codeIn K cd23 "_law_bag" = true) (k23 : PySem.W.keepIn K (.ref f23) = true)
    (a24 : PySem.W.nsIn K mainGlobals "_law_draw" = some (some (.ref f24))) (l24 : K.lookup f24 = some ⟨oc24, od24, .func (PySem.W.fnOf "_law_draw" "_law_draw" (defArgs s_l_draw) (defBody s_l_draw) (defScope s_l_draw) .none kV24 dc24 pm24 an24 cd24 ct24), sl24⟩) (c24 : PySem.W.codeIn K cd24 "_law_draw" = true) (k24 : PySem.W.keepIn K (.ref f24) = true)
    (a25 : PySem.W.nsIn K mainGlobals "_law_pick" = some (some (.ref f25))) (l25 : K.lookup f25 = some ⟨oc25, od25, .func (PySem.W.fnOf "_law_pick" "_law_pick" (defArgs s_l_pick) (defBody s_l_pick) (defScope s_l_pick) .none kV25 dc25 pm25 an25 cd25 ct25), sl25⟩) (c25 : PySem.W.codeIn K cd25 "_law_pick" = true) (k25 : PySem.W.keepIn K (.ref f25) = true)
    (a26 : PySem.W.nsIn K mainGlobals "_law_same" = some (some (.ref f26))) (l26 : K.lookup f26 = some ⟨oc26, od26, .func (PySem.W.fnOf "_law_same" "_law_same" (defArgs s_l_same) (defBody s_l_same) (defScope s_l_same) .none kV26 dc26 pm26 an26 cd26 ct26), sl26⟩) (c26 : PySem.W.codeIn K cd26 "_law_same" = true) (k26 : PySem.W.keepIn K (.ref f26) = true)
    (a27 : PySem.W.nsIn K mainGlobals "_law_field" = some (some (.ref f27))) (l27 : K.lookup f27 = some ⟨oc27, od27, .func (PySem.W.fnOf "_law_field" "_law_field" (defArgs s_l_field) (defBody s_l_field) (defScope s_l_field) .none kV27 dc27 pm27 an27 cd27 ct27), sl27⟩) (c27 : PySem.W.codeIn K cd27 "_law_field" = true) (k27 : PySem.W.keepIn K (.ref f27) = true)
    (a28 : PySem.W.nsIn K mainGlobals "_law_got" = some (some (.ref f28))) (l28 : K.lookup f28 = some ⟨oc28, od28, .func (PySem.W.fnOf "_law_got" "_law_got" (defArgs s_l_got) (defBody s_l_got) (defScope s_l_got) .none kV28 dc28 pm28 an28 cd28 ct28), sl28⟩) (c28 : PySem.W.codeIn K cd28 "_law_got" = true) (k28 : PySem.W.keepIn K (.ref f28) = true)
    (a29 : PySem.W.nsIn K mainGlobals "_law_gcd" = some (some (.ref f29))) (l29 : K.lookup f29 = some ⟨oc29, od29, .func (PySem.W.fnOf "_law_gcd" "_law_gcd" (defArgs s_l_gcd) (defBody s_l_gcd) (defScope s_l_gcd) .none kV29 dc29 pm29 an29 cd29 ct29), sl29⟩) (c29 : PySem.W.codeIn K cd29 "_law_gcd" = true) (k29 : PySem.W.keepIn K (.ref f29) = true)
    (a30 : PySem.W.nsIn K mainGlobals "_law_gcds" = some (some (.ref f30))) (l30 : K.lookup f30 = some ⟨oc30, od30, .func (PySem.W.fnOf "_law_gcds" "_law_gcds" (defArgs s_l_gcds) (defBody s_l_gcds) (defScope s_l_gcds) .none kV30 dc30 pm30 an30 cd30 ct30), sl30⟩) (c30 : PySem.W.codeIn K cd30 "_law_gcds" = true) (k30 : PySem.W.keepIn K (.ref f30) = true)
    (a31 : PySem.W.nsIn K mainGlobals "_law_scheme" = some (some (.ref f31))) (l31 : K.lookup f31 = some ⟨oc31, od31, .func (PySem.W.fnOf "_law_scheme" "_law_scheme" (defArgs s_l_scheme) (defBody s_l_scheme) (defScope s_l_scheme) .none kV31 dc31 pm31 an31 cd31 ct31), sl31⟩) (c31 : PySem.W.codeIn K cd31 "_law_scheme" = true) (k31 : PySem.W.keepIn K (.ref f31) = true)
    (a32 : PySem.W.nsIn K mainGlobals "_law_cube" = some (some (.ref f32))) (l32 : K.lookup f32 = some ⟨oc32, od32, .func (PySem.W.fnOf "_law_cube" "_law_cube" (defArgs s_l_cube) (defBody s_l_cube) (defScope s_l_cube) .none kV32 dc32 pm32 an32 cd32 ct32), sl32⟩) (c32 : PySem.W.codeIn K cd32 "_law_cube" = true) (k32 : PySem.W.keepIn K (.ref f32) = true)
    (a33 : PySem.W.nsIn K mainGlobals "_law_cube_rows" = some (some (.ref f33))) (l33 : K.lookup f33 = some ⟨oc33, od33, .func (PySem.W.fnOf "_law_cube_rows" "_law_cube_rows" (defArgs s_l_cube_rows) (defBody s_l_cube_rows) (defScope s_l_cube_rows) .none kV33 dc33 pm33 an33 cd33 ct33), sl33⟩) (c33 : PySem.W.codeIn K cd33 "_law_cube_rows" = true) (k33 : PySem.W.keepIn K (.ref f33) = true)
    (a34 : PySem.W.nsIn K mainGlobals "_law_turned_cube" = some (some (.ref f34))) (l34 : K.lookup f34 = some ⟨oc34, od34, .func (PySem.W.fnOf "_law_turned_cube" "_law_turned_cube" (defArgs s_l_turned_cube) (defBody s_l_turned_cube) (defScope s_l_turned_cube) .none kV34 dc34 pm34 an34 cd34 ct34), sl34⟩) (c34 : PySem.W.codeIn K cd34 "_law_turned_cube" = true) (k34 : PySem.W.keepIn K (.ref f34) = true)
    (a35 : PySem.W.nsIn K mainGlobals "law" = some (some (.ref f35))) (l35 : K.lookup f35 = some ⟨oc35, od35, .func (PySem.W.fnOf "law" "law" (defArgs s_law) (defBody s_law) (defScope s_law) .none kV35 dc35 pm35 an35 cd35 ct35), sl35⟩) (c35 : PySem.W.codeIn K cd35 "law" = true) (k35 : PySem.W.keepIn K (.ref f35) = true)
    (z_IndexError : PySem.W.nsIn K mainGlobals "IndexError" = some none)
    (z_LookupError : PySem.W.nsIn K mainGlobals "LookupError" = some none)
    (z_ValueError : PySem.W.nsIn K mainGlobals "ValueError" = some none)
    (z_abs : PySem.W.nsIn K mainGlobals "abs" = some none)
    (z_all : PySem.W.nsIn K mainGlobals "all" = some none)
    (z_bool : PySem.W.nsIn K mainGlobals "bool" = some none)
    (z_enumerate : PySem.W.nsIn K mainGlobals "enumerate" = some none)
    (z_int : PySem.W.nsIn K mainGlobals "int" = some none)
    (z_isinstance : PySem.W.nsIn K mainGlobals "isinstance" = some none)
    (z_len : PySem.W.nsIn K mainGlobals "len" = some none)
    (z_list : PySem.W.nsIn K mainGlobals "list" = some none)
    (z_range : PySem.W.nsIn K mainGlobals "range" = some none)
    (z_sorted : PySem.W.nsIn K mainGlobals "sorted" = some none)
    (z_str : PySem.W.nsIn K mainGlobals "str" = some none)
    (z_sum : PySem.W.nsIn K mainGlobals "sum" = some none)
    (z_tuple : PySem.W.nsIn K mainGlobals "tuple" = some none)
    (z_zip : PySem.W.nsIn K mainGlobals "zip" = some none)
    (m_gcd : PySem.W.nsIn K mainGlobals "gcd" = some (some (.builtin "math.gcd")))
    (m_MOST_SIZE : PySem.W.nsIn K mainGlobals "MOST_SIZE" = some (some (.int 36 u_MOST_SIZE)))
    (m_MOST_PRODUCTS : PySem.W.nsIn K mainGlobals "MOST_PRODUCTS" = some (some (.int 400 u_MOST_PRODUCTS)))
    (ea_InvalidNumber : PySem.W.nsIn K mainGlobals "InvalidNumber" = some (some (.ref C_InvalidNumber)))
    (eb_InvalidNumber : K.lookup C_InvalidNumber = some (excClassObj nm_InvalidNumber qn_InvalidNumber C_InvalidNumber N_InvalidNumber bs_InvalidNumber bm_InvalidNumber true sn_InvalidNumber sub_InvalidNumber ab_InvalidNumber col_InvalidNumber dd_InvalidNumber v0_InvalidNumber v1_InvalidNumber v2_InvalidNumber v3_InvalidNumber v5_InvalidNumber "ValueError.__new__"))
    (ec_InvalidNumber : PySem.HandSPX.refsVE bm_InvalidNumber = true)
    (ed_InvalidNumber : PySem.W.alongIn K "__init__" bm_InvalidNumber = some (some (.builtin "ValueError.__init__")))
    (ee_InvalidNumber : PySem.W.findIn K (.ref C_InvalidNumber) "__setattr__" = some (some (.builtin "object.__setattr__")))
    (ef_InvalidNumber : PySem.W.findIn K (.ref C_InvalidNumber) "__getattribute__" = some (some (.builtin "BaseException.__getattribute__")))
    (eg_InvalidNumber : PySem.W.findIn K (.ref C_InvalidNumber) "__getattr__" = some none)
    (eh_InvalidNumber : PySem.W.findIn K (.ref C_InvalidNumber) "given" = some none)
    (ei_InvalidNumber : PySem.W.findIn K (.ref C_InvalidNumber) "code" = some none)
    (ej_InvalidNumber : PySem.W.findIn K (.ref C_InvalidNumber) "__init__" = some (some (.ref f_InvalidNumber)))
    (ek_InvalidNumber : PySem.W.typeIn K (.ref f_InvalidNumber) = some (.type "function"))
    (el_InvalidNumber : PySem.W.keepIn K (.ref C_InvalidNumber) = true)
    (em_InvalidNumber : PySem.W.subIn K (.ref C_InvalidNumber) (.type "BaseException") = some true)
    (en_InvalidNumber : PySem.W.subIn K (.ref C_InvalidNumber) (.type "ValueError") = some true)
    (eo_InvalidNumber : PySem.W.mroIn K C_InvalidNumber (.ref C_InvalidNumber) = some true)
    (ep_InvalidNumber : PySem.W.typeIn K (.ref C_InvalidNumber) = some (.type "type"))
    (eq_InvalidNumber : PySem.W.hasDictIn K C_InvalidNumber = true)
    (er_InvalidNumber : K.lookup f_InvalidNumber = some ⟨oc_InvalidNumber, od_InvalidNumber, .func (PySem.W.ksFn "__init__" ql_InvalidNumber (PySem.ErrX.eArgs "given" p1_InvalidNumber p2_InvalidNumber) (PySem.ErrX.eBody "given" ms_InvalidNumber "InvalidNumber" n1_InvalidNumber n2_InvalidNumber a1_InvalidNumber a2_InvalidNumber a3_InvalidNumber a4_InvalidNumber a5_InvalidNumber a6_InvalidNumber b1_InvalidNumber b2_InvalidNumber b3_InvalidNumber b4_InvalidNumber c1_InvalidNumber c2_InvalidNumber c3_InvalidNumber c4_InvalidNumber) (PySem.ErrX.eScope "given") .none .none dc_InvalidNumber pm_InvalidNumber an_InvalidNumber (.ref d_InvalidNumber) ct_InvalidNumber x_InvalidNumber), os_InvalidNumber⟩)
    (es_InvalidNumber : PySem.W.codeIn K (.ref d_InvalidNumber) ql_InvalidNumber = true)
    (et_InvalidNumber : K.lookup x_InvalidNumber = some ⟨cl_InvalidNumber, cld_InvalidNumber, .cell (some (.ref C_InvalidNumber)), csl_InvalidNumber⟩)
    (eu_InvalidNumber : K.lookup d_InvalidNumber = some ⟨ccl_InvalidNumber, cdd_InvalidNumber, .fields vs_InvalidNumber, ccs_InvalidNumber⟩)
    (ev_InvalidNumber : vs_InvalidNumber[2]? = some (.str fl_InvalidNumber tf_InvalidNumber))
    (ex_InvalidNumber : PySem.ErrX.InitEval ms_InvalidNumber n1_InvalidNumber a1_InvalidNumber a2_InvalidNumber a3_InvalidNumber a4_InvalidNumber a5_InvalidNumber)
    (ew_InvalidNumber : ((l.prog.main.file : Str) == fl_InvalidNumber) = true)
    (ea_InvalidProduct : PySem.W.nsIn K mainGlobals "InvalidProduct" = some (some (.ref C_InvalidProduct)))
    (eb_InvalidProduct : K.lookup C_InvalidProduct = some (excClassObj nm_InvalidProduct qn_InvalidProduct C_InvalidProduct N_InvalidProduct bs_InvalidProduct bm_InvalidProduct true sn_InvalidProduct sub_InvalidProduct ab_InvalidProduct col_InvalidProduct dd_InvalidProduct v0_InvalidProduct v1_InvalidProduct v2_InvalidProduct v3_InvalidProduct v5_InvalidProduct "ValueError.__new__"))
    (ec_InvalidProduct : PySem.HandSPX.refsVE bm_InvalidProduct = true)
    (ed_InvalidProduct : PySem.W.alongIn K "__init__" bm_InvalidProduct = some (some (.builtin "ValueError.__init__")))
    (ee_InvalidProduct : PySem.W.findIn K (.ref C_InvalidProduct) "__setattr__" = some (some (.builtin "object.__setattr__")))
    (ef_InvalidProduct : PySem.W.findIn K (.ref C_InvalidProduct) "__getattribute__" = some (some (.builtin "BaseException.__getattribute__")))
    (eg_InvalidProduct : PySem.W.findIn K (.ref C_InvalidProduct) "__getattr__" = some none)
    (eh_InvalidProduct : PySem.W.findIn K (.ref C_InvalidProduct) "at" = some none)
    (ei_InvalidProduct : PySem.W.findIn K (.ref C_InvalidProduct) "code" = some none)
    (ej_InvalidProduct : PySem.W.findIn K (.ref C_InvalidProduct) "__init__" = some (some (.ref f_InvalidProduct)))
    (ek_InvalidProduct : PySem.W.typeIn K (.ref f_InvalidProduct) = some (.type "function"))
    (el_InvalidProduct : PySem.W.keepIn K (.ref C_InvalidProduct) = true)
    (em_InvalidProduct : PySem.W.subIn K (.ref C_InvalidProduct) (.type "BaseException") = some true)
    (en_InvalidProduct : PySem.W.subIn K (.ref C_InvalidProduct) (.type "ValueError") = some true)
    (eo_InvalidProduct : PySem.W.mroIn K C_InvalidProduct (.ref C_InvalidProduct) = some true)
    (ep_InvalidProduct : PySem.W.typeIn K (.ref C_InvalidProduct) = some (.type "type"))
    (eq_InvalidProduct : PySem.W.hasDictIn K C_InvalidProduct = true)
    (er_InvalidProduct : K.lookup f_InvalidProduct = some ⟨oc_InvalidProduct, od_InvalidProduct, .func (PySem.W.ksFn "__init__" ql_InvalidProduct (PySem.ErrX.eArgs "at" p1_InvalidProduct p2_InvalidProduct) (PySem.ErrX.eBody "at" ms_InvalidProduct "InvalidProduct" n1_InvalidProduct n2_InvalidProduct a1_InvalidProduct a2_InvalidProduct a3_InvalidProduct a4_InvalidProduct a5_InvalidProduct a6_InvalidProduct b1_InvalidProduct b2_InvalidProduct b3_InvalidProduct b4_InvalidProduct c1_InvalidProduct c2_InvalidProduct c3_InvalidProduct c4_InvalidProduct) (PySem.ErrX.eScope "at") .none .none dc_InvalidProduct pm_InvalidProduct an_InvalidProduct (.ref d_InvalidProduct) ct_InvalidProduct x_InvalidProduct), os_InvalidProduct⟩)
    (es_InvalidProduct : PySem.W.codeIn K (.ref d_InvalidProduct) ql_InvalidProduct = true)
    (et_InvalidProduct : K.lookup x_InvalidProduct = some ⟨cl_InvalidProduct, cld_InvalidProduct, .cell (some (.ref C_InvalidProduct)), csl_InvalidProduct⟩)
    (eu_InvalidProduct : K.lookup d_InvalidProduct = some ⟨ccl_InvalidProduct, cdd_InvalidProduct, .fields vs_InvalidProduct, ccs_InvalidProduct⟩)
    (ev_InvalidProduct : vs_InvalidProduct[2]? = some (.str fl_InvalidProduct tf_InvalidProduct))
    (ex_InvalidProduct : PySem.ErrX.InitEval ms_InvalidProduct n1_InvalidProduct a1_InvalidProduct a2_InvalidProduct a3_InvalidProduct a4_InvalidProduct a5_InvalidProduct)
    (ew_InvalidProduct : ((l.prog.main.file : Str) == fl_InvalidProduct) = true)
    (ea_TooMany : PySem.W.nsIn K mainGlobals "TooMany" = some (some (.ref C_TooMany)))
    (eb_TooMany : K.lookup C_TooMany = some (excClassObj nm_TooMany qn_TooMany C_TooMany N_TooMany bs_TooMany bm_TooMany true sn_TooMany sub_TooMany ab_TooMany col_TooMany dd_TooMany v0_TooMany v1_TooMany v2_TooMany v3_TooMany v5_TooMany "ValueError.__new__"))
    (ec_TooMany : PySem.HandSPX.refsVE bm_TooMany = true)
    (ed_TooMany : PySem.W.alongIn K "__init__" bm_TooMany = some (some (.builtin "ValueError.__init__")))
    (ee_TooMany : PySem.W.findIn K (.ref C_TooMany) "__setattr__" = some (some (.builtin "object.__setattr__")))
    (ef_TooMany : PySem.W.findIn K (.ref C_TooMany) "__getattribute__" = some (some (.builtin "BaseException.__getattribute__")))
    (eg_TooMany : PySem.W.findIn K (.ref C_TooMany) "__getattr__" = some none)
    (eh_TooMany : PySem.W.findIn K (.ref C_TooMany) "most" = some none)
    (ei_TooMany : PySem.W.findIn K (.ref C_TooMany) "code" = some none)
    (ej_TooMany : PySem.W.findIn K (.ref C_TooMany) "__init__" = some (some (.ref f_TooMany)))
    (ek_TooMany : PySem.W.typeIn K (.ref f_TooMany) = some (.type "function"))
    (el_TooMany : PySem.W.keepIn K (.ref C_TooMany) = true)
    (em_TooMany : PySem.W.subIn K (.ref C_TooMany) (.type "BaseException") = some true)
    (en_TooMany : PySem.W.subIn K (.ref C_TooMany) (.type "ValueError") = some true)
    (eo_TooMany : PySem.W.mroIn K C_TooMany (.ref C_TooMany) = some true)
    (ep_TooMany : PySem.W.typeIn K (.ref C_TooMany) = some (.type "type"))
    (eq_TooMany : PySem.W.hasDictIn K C_TooMany = true)
    (er_TooMany : K.lookup f_TooMany = some ⟨oc_TooMany, od_TooMany, .func (PySem.W.ksFn "__init__" ql_TooMany (PySem.ErrX.eArgs "most" p1_TooMany p2_TooMany) (PySem.ErrX.eBody "most" ms_TooMany "TooMany" n1_TooMany n2_TooMany a1_TooMany a2_TooMany a3_TooMany a4_TooMany a5_TooMany a6_TooMany b1_TooMany b2_TooMany b3_TooMany b4_TooMany c1_TooMany c2_TooMany c3_TooMany c4_TooMany) (PySem.ErrX.eScope "most") .none .none dc_TooMany pm_TooMany an_TooMany (.ref d_TooMany) ct_TooMany x_TooMany), os_TooMany⟩)
    (es_TooMany : PySem.W.codeIn K (.ref d_TooMany) ql_TooMany = true)
    (et_TooMany : K.lookup x_TooMany = some ⟨cl_TooMany, cld_TooMany, .cell (some (.ref C_TooMany)), csl_TooMany⟩)
    (eu_TooMany : K.lookup d_TooMany = some ⟨ccl_TooMany, cdd_TooMany, .fields vs_TooMany, ccs_TooMany⟩)
    (ev_TooMany : vs_TooMany[2]? = some (.str fl_TooMany tf_TooMany))
    (ex_TooMany : PySem.ErrX.InitEval ms_TooMany n1_TooMany a1_TooMany a2_TooMany a3_TooMany a4_TooMany a5_TooMany)
    (ew_TooMany : ((l.prog.main.file : Str) == fl_TooMany) = true)
    (ea_InvalidTable : PySem.W.nsIn K mainGlobals "InvalidTable" = some (some (.ref C_InvalidTable)))
    (eb_InvalidTable : K.lookup C_InvalidTable = some (excClassObj nm_InvalidTable qn_InvalidTable C_InvalidTable N_InvalidTable bs_InvalidTable bm_InvalidTable true sn_InvalidTable sub_InvalidTable ab_InvalidTable col_InvalidTable dd_InvalidTable v0_InvalidTable v1_InvalidTable v2_InvalidTable v3_InvalidTable v5_InvalidTable "ValueError.__new__"))
    (ec_InvalidTable : PySem.HandSPX.refsVE bm_InvalidTable = true)
    (ed_InvalidTable : PySem.W.alongIn K "__init__" bm_InvalidTable = some (some (.builtin "ValueError.__init__")))
    (ee_InvalidTable : PySem.W.findIn K (.ref C_InvalidTable) "__setattr__" = some (some (.builtin "object.__setattr__")))
    (ef_InvalidTable : PySem.W.findIn K (.ref C_InvalidTable) "__getattribute__" = some (some (.builtin "BaseException.__getattribute__")))
    (eg_InvalidTable : PySem.W.findIn K (.ref C_InvalidTable) "__getattr__" = some none)
    (eh_InvalidTable : PySem.W.findIn K (.ref C_InvalidTable) "rule" = some none)
    (ei_InvalidTable : PySem.W.findIn K (.ref C_InvalidTable) "code" = some none)
    (ej_InvalidTable : PySem.W.findIn K (.ref C_InvalidTable) "__init__" = some (some (.ref f_InvalidTable)))
    (ek_InvalidTable : PySem.W.typeIn K (.ref f_InvalidTable) = some (.type "function"))
    (el_InvalidTable : PySem.W.keepIn K (.ref C_InvalidTable) = true)
    (em_InvalidTable : PySem.W.subIn K (.ref C_InvalidTable) (.type "BaseException") = some true)
    (en_InvalidTable : PySem.W.subIn K (.ref C_InvalidTable) (.type "ValueError") = some true)
    (eo_InvalidTable : PySem.W.mroIn K C_InvalidTable (.ref C_InvalidTable) = some true)
    (ep_InvalidTable : PySem.W.typeIn K (.ref C_InvalidTable) = some (.type "type"))
    (eq_InvalidTable : PySem.W.hasDictIn K C_InvalidTable = true)
    (er_InvalidTable : K.lookup f_InvalidTable = some ⟨oc_InvalidTable, od_InvalidTable, .func (PySem.W.ksFn "__init__" ql_InvalidTable (PySem.ErrX.eArgs "rule" p1_InvalidTable p2_InvalidTable) (PySem.ErrX.eBody "rule" ms_InvalidTable "InvalidTable" n1_InvalidTable n2_InvalidTable a1_InvalidTable a2_InvalidTable a3_InvalidTable a4_InvalidTable a5_InvalidTable a6_InvalidTable b1_InvalidTable b2_InvalidTable b3_InvalidTable b4_InvalidTable c1_InvalidTable c2_InvalidTable c3_InvalidTable c4_InvalidTable) (PySem.ErrX.eScope "rule") .none .none dc_InvalidTable pm_InvalidTable an_InvalidTable (.ref d_InvalidTable) ct_InvalidTable x_InvalidTable), os_InvalidTable⟩)
    (es_InvalidTable : PySem.W.codeIn K (.ref d_InvalidTable) ql_InvalidTable = true)
    (et_InvalidTable : K.lookup x_InvalidTable = some ⟨cl_InvalidTable, cld_InvalidTable, .cell (some (.ref C_InvalidTable)), csl_InvalidTable⟩)
    (eu_InvalidTable : K.lookup d_InvalidTable = some ⟨ccl_InvalidTable, cdd_InvalidTable, .fields vs_InvalidTable, ccs_InvalidTable⟩)
    (ev_InvalidTable : vs_InvalidTable[2]? = some (.str fl_InvalidTable tf_InvalidTable))
    (ex_InvalidTable : PySem.ErrX.InitEval ms_InvalidTable n1_InvalidTable a1_InvalidTable a2_InvalidTable a3_InvalidTable a4_InvalidTable a5_InvalidTable)
    (ew_InvalidTable : ((l.prog.main.file : Str) == fl_InvalidTable) = true)
    (ea_InvalidOrder : PySem.W.nsIn K mainGlobals "InvalidOrder" = some (some (.ref C_InvalidOrder)))
    (eb_InvalidOrder : K.lookup C_InvalidOrder = some (excClassObj nm_InvalidOrder qn_InvalidOrder C_InvalidOrder N_InvalidOrder bs_InvalidOrder bm_InvalidOrder true sn_InvalidOrder sub_InvalidOrder ab_InvalidOrder col_InvalidOrder dd_InvalidOrder v0_InvalidOrder v1_InvalidOrder v2_InvalidOrder v3_InvalidOrder v5_InvalidOrder "ValueError.__new__"))
    (ec_InvalidOrder : PySem.HandSPX.refsVE bm_InvalidOrder = true)
    (ed_InvalidOrder : PySem.W.alongIn K "__init__" bm_InvalidOrder = some (some (.builtin "ValueError.__init__")))
    (ee_InvalidOrder : PySem.W.findIn K (.ref C_InvalidOrder) "__setattr__" = some (some (.builtin "object.__setattr__")))
    (ef_InvalidOrder : PySem.W.findIn K (.ref C_InvalidOrder) "__getattribute__" = some (some (.builtin "BaseException.__getattribute__")))
    (eg_InvalidOrder : PySem.W.findIn K (.ref C_InvalidOrder) "__getattr__" = some none)
    (eh_InvalidOrder : PySem.W.findIn K (.ref C_InvalidOrder) "given" = some none)
    (ei_InvalidOrder : PySem.W.findIn K (.ref C_InvalidOrder) "code" = some none)
    (ej_InvalidOrder : PySem.W.findIn K (.ref C_InvalidOrder) "__init__" = some (some (.ref f_InvalidOrder)))
    (ek_InvalidOrder : PySem.W.typeIn K (.ref f_InvalidOrder) = some (.type "function"))
    (el_InvalidOrder : PySem.W.keepIn K (.ref C_InvalidOrder) = true)
    (em_InvalidOrder : PySem.W.subIn K (.ref C_InvalidOrder) (.type "BaseException") = some true)
    (en_InvalidOrder : PySem.W.subIn K (.ref C_InvalidOrder) (.type "ValueError") = some true)
    (eo_InvalidOrder : PySem.W.mroIn K C_InvalidOrder (.ref C_InvalidOrder) = some true)
    (ep_InvalidOrder : PySem.W.typeIn K (.ref C_InvalidOrder) = some (.type "type"))
    (eq_InvalidOrder : PySem.W.hasDictIn K C_InvalidOrder = true)
    (er_InvalidOrder : K.lookup f_InvalidOrder = some ⟨oc_InvalidOrder, od_InvalidOrder, .func (PySem.W.ksFn "__init__" ql_InvalidOrder (PySem.ErrX.eArgs "given" p1_InvalidOrder p2_InvalidOrder) (PySem.ErrX.eBody "given" ms_InvalidOrder "InvalidOrder" n1_InvalidOrder n2_InvalidOrder a1_InvalidOrder a2_InvalidOrder a3_InvalidOrder a4_InvalidOrder a5_InvalidOrder a6_InvalidOrder b1_InvalidOrder b2_InvalidOrder b3_InvalidOrder b4_InvalidOrder c1_InvalidOrder c2_InvalidOrder c3_InvalidOrder c4_InvalidOrder) (PySem.ErrX.eScope "given") .none .none dc_InvalidOrder pm_InvalidOrder an_InvalidOrder (.ref d_InvalidOrder) ct_InvalidOrder x_InvalidOrder), os_InvalidOrder⟩)
    (es_InvalidOrder : PySem.W.codeIn K (.ref d_InvalidOrder) ql_InvalidOrder = true)
    (et_InvalidOrder : K.lookup x_InvalidOrder = some ⟨cl_InvalidOrder, cld_InvalidOrder, .cell (some (.ref C_InvalidOrder)), csl_InvalidOrder⟩)
    (eu_InvalidOrder : K.lookup d_InvalidOrder = some ⟨ccl_InvalidOrder, cdd_InvalidOrder, .fields vs_InvalidOrder, ccs_InvalidOrder⟩)
    (ev_InvalidOrder : vs_InvalidOrder[2]? = some (.str fl_InvalidOrder tf_InvalidOrder))
    (ex_InvalidOrder : PySem.ErrX.InitEval ms_InvalidOrder n1_InvalidOrder a1_InvalidOrder a2_InvalidOrder a3_InvalidOrder a4_InvalidOrder a5_InvalidOrder)
    (ew_InvalidOrder : ((l.prog.main.file : Str) == fl_InvalidOrder) = true)
    (cg_Scheme : PySem.W.nsIn K mainGlobals "Scheme" = some (some (.ref C_Scheme)))
    (c1_Scheme : PySem.W.plainGet K C_Scheme Str.empty = true)
    (c2_Scheme : PySem.W.hasDictIn K C_Scheme = true)
    (c3_Scheme : PySem.W.plainOver K C_Scheme = true)
    (c4_Scheme : PySem.W.findIn K (.ref C_Scheme) "__setattr__" = some (some (.builtin "object.__setattr__")))
    (c5_Scheme : PySem.W.readsIn K C_Scheme (.type "type") = true)
    (c6_Scheme : PySem.W.specialIn K (.ref C_Scheme) "__getattribute__" = some (some (.builtin "type.__getattribute__")))
    (ia_Scheme : PySem.W.findIn K (.ref C_Scheme) "__class__" = some (some (.builtin "object.__class__")))
    (ib_Scheme : PySem.W.specialIn K (.builtin "object.__class__") "__get__" = some (some (.builtin "getset_descriptor.__get__")))
    (ic_Scheme : PySem.W.takesIn K (.builtin "object.__class__") = some true)
    (id_Scheme : PySem.W.mroIn K C_Scheme (.type "object") = some true)
    (no_Scheme__sizes : PySem.W.findIn K (.ref C_Scheme) "_sizes" = some none)
    (no_Scheme__triples : PySem.W.findIn K (.ref C_Scheme) "_triples" = some none)
    (ff0_Scheme : PySem.W.kitOne K (.ref C_Scheme) (.ref C_Scheme) = some true)
    (ff1_Scheme : PySem.W.kitOne K (.type "int") (.ref C_Scheme) = some false)
    (ff2_Scheme : PySem.W.notFirst K C_Scheme (.type "int") = true)
    (ff3_Scheme : PySem.W.findIn K (.ref C_Scheme) "__ne__" = some (some (.builtin "object.__ne__")))
    (ff4_Scheme : PySem.W.subIn K (.ref C_Scheme) (.type "object") = some true)
    (ff5_Scheme : PySem.W.notFirst K C_Scheme (.ref C_Scheme) = true)
    (ma_Scheme_init : PySem.W.findIn K (.ref C_Scheme) "__init__" = some (some (.ref f_Scheme_init)))
    (mb_Scheme_init : PySem.W.isFn K (.ref f_Scheme_init) = true)
    (l_Scheme_init : K.lookup f_Scheme_init = some ⟨oc_Scheme_init, od_Scheme_init, .func (PySem.W.fnOf "__init__" "Scheme.__init__" (defArgs s_Scheme_init) (defBody s_Scheme_init) (defScope s_Scheme_init) .none kV_Scheme_init dc_Scheme_init pm_Scheme_init an_Scheme_init cd_Scheme_init ct_Scheme_init), sl_Scheme_init⟩)
    (c_Scheme_init : PySem.W.codeIn K cd_Scheme_init "Scheme.__init__" = true)
    (k_Scheme_init : PySem.W.keepIn K (.ref f_Scheme_init) = true)
    (mk_Scheme : PySem.W.makesIn K C_Scheme = true)
    (kc_Scheme : PySem.W.keepIn K (.ref C_Scheme) = true)
    (pa_Scheme_sizes : PySem.W.findIn K (.ref C_Scheme) "sizes" = some (some (.ref p_Scheme_sizes)))
    (pb_Scheme_sizes : PySem.W.specialIn K (.ref p_Scheme_sizes) "__get__" = some (some (.builtin "property.__get__")))
    (pc_Scheme_sizes : PySem.W.takesIn K (.ref p_Scheme_sizes) = some true)
    (pd_Scheme_sizes : PySem.W.recIn K p_Scheme_sizes "property" = some (.ref f_Scheme_sizes :: rs_Scheme_sizes))
    (l_Scheme_sizes : K.lookup f_Scheme_sizes = some ⟨oc_Scheme_sizes, od_Scheme_sizes, .func (PySem.W.fnOf "sizes" "Scheme.sizes" (defArgs s_Scheme_sizes) (defBody s_Scheme_sizes) (defScope s_Scheme_sizes) .none kV_Scheme_sizes dc_Scheme_sizes pm_Scheme_sizes an_Scheme_sizes cd_Scheme_sizes ct_Scheme_sizes), sl_Scheme_sizes⟩)
    (c_Scheme_sizes : PySem.W.codeIn K cd_Scheme_sizes "Scheme.sizes" = true)
    (k_Scheme_sizes : PySem.W.keepIn K (.ref f_Scheme_sizes) = true)
    (pa_Scheme_products : PySem.W.findIn K (.ref C_Scheme) "products" = some (some (.ref p_Scheme_products)))
    (pb_Scheme_products : PySem.W.specialIn K (.ref p_Scheme_products) "__get__" = some (some (.builtin "property.__get__")))
    (pc_Scheme_products : PySem.W.takesIn K (.ref p_Scheme_products) = some true)
    (pd_Scheme_products : PySem.W.recIn K p_Scheme_products "property" = some (.ref f_Scheme_products :: rs_Scheme_products))
    (l_Scheme_products : K.lookup f_Scheme_products = some ⟨oc_Scheme_products, od_Scheme_products, .func (PySem.W.fnOf "products" "Scheme.products" (defArgs s_Scheme_products) (defBody s_Scheme_products) (defScope s_Scheme_products) .none kV_Scheme_products dc_Scheme_products pm_Scheme_products an_Scheme_products cd_Scheme_products ct_Scheme_products), sl_Scheme_products⟩)
    (c_Scheme_products : PySem.W.codeIn K cd_Scheme_products "Scheme.products" = true)
    (k_Scheme_products : PySem.W.keepIn K (.ref f_Scheme_products) = true)
    (ma_Scheme_len : PySem.W.findIn K (.ref C_Scheme) "__len__" = some (some (.ref f_Scheme_len)))
    (mb_Scheme_len : PySem.W.isFn K (.ref f_Scheme_len) = true)
    (l_Scheme_len : K.lookup f_Scheme_len = some ⟨oc_Scheme_len, od_Scheme_len, .func (PySem.W.fnOf "__len__" "Scheme.__len__" (defArgs s_Scheme_len) (defBody s_Scheme_len) (defScope s_Scheme_len) .none kV_Scheme_len dc_Scheme_len pm_Scheme_len an_Scheme_len cd_Scheme_len ct_Scheme_len), sl_Scheme_len⟩)
    (c_Scheme_len : PySem.W.codeIn K cd_Scheme_len "Scheme.__len__" = true)
    (k_Scheme_len : PySem.W.keepIn K (.ref f_Scheme_len) = true)
    (ma_Scheme_eq : PySem.W.findIn K (.ref C_Scheme) "__eq__" = some (some (.ref f_Scheme_eq)))
    (mb_Scheme_eq : PySem.W.isFn K (.ref f_Scheme_eq) = true)
    (l_Scheme_eq : K.lookup f_Scheme_eq = some ⟨oc_Scheme_eq, od_Scheme_eq, .func (PySem.W.fnOf "__eq__" "Scheme.__eq__" (defArgs s_Scheme_eq) (defBody s_Scheme_eq) (defScope s_Scheme_eq) .none kV_Scheme_eq dc_Scheme_eq pm_Scheme_eq an_Scheme_eq cd_Scheme_eq ct_Scheme_eq), sl_Scheme_eq⟩)
    (c_Scheme_eq : PySem.W.codeIn K cd_Scheme_eq "Scheme.__eq__" = true)
    (k_Scheme_eq : PySem.W.keepIn K (.ref f_Scheme_eq) = true)
    (ma_Scheme_table : PySem.W.findIn K (.ref C_Scheme) "table" = some (some (.ref f_Scheme_table)))
    (mb_Scheme_table : PySem.W.isFn K (.ref f_Scheme_table) = true)
    (l_Scheme_table : K.lookup f_Scheme_table = some ⟨oc_Scheme_table, od_Scheme_table, .func (PySem.W.fnOf "table" "Scheme.table" (defArgs s_Scheme_table) (defBody s_Scheme_table) (defScope s_Scheme_table) .none kV_Scheme_table dc_Scheme_table pm_Scheme_table an_Scheme_table cd_Scheme_table ct_Scheme_table), sl_Scheme_table⟩)
    (c_Scheme_table : PySem.W.codeIn K cd_Scheme_table "Scheme.table" = true)
    (k_Scheme_table : PySem.W.keepIn K (.ref f_Scheme_table) = true)
    (ma_Scheme_right_ones : PySem.W.findIn K (.ref C_Scheme) "right_ones" = some (some (.ref f_Scheme_right_ones)))
    (mb_Scheme_right_ones : PySem.W.isFn K (.ref f_Scheme_right_ones) = true)
    (l_Scheme_right_ones : K.lookup f_Scheme_right_ones = some ⟨oc_Scheme_right_ones, od_Scheme_right_ones, .func (PySem.W.fnOf "right_ones" "Scheme.right_ones" (defArgs s_Scheme_right_ones) (defBody s_Scheme_right_ones) (defScope s_Scheme_right_ones) .none kV_Scheme_right_ones dc_Scheme_right_ones pm_Scheme_right_ones an_Scheme_right_ones cd_Scheme_right_ones ct_Scheme_right_ones), sl_Scheme_right_ones⟩)
    (c_Scheme_right_ones : PySem.W.codeIn K cd_Scheme_right_ones "Scheme.right_ones" = true)
    (k_Scheme_right_ones : PySem.W.keepIn K (.ref f_Scheme_right_ones) = true)
    (ma_Scheme_turned : PySem.W.findIn K (.ref C_Scheme) "turned" = some (some (.ref f_Scheme_turned)))
    (mb_Scheme_turned : PySem.W.isFn K (.ref f_Scheme_turned) = true)
    (l_Scheme_turned : K.lookup f_Scheme_turned = some ⟨oc_Scheme_turned, od_Scheme_turned, .func (PySem.W.fnOf "turned" "Scheme.turned" (defArgs s_Scheme_turned) (defBody s_Scheme_turned) (defScope s_Scheme_turned) .none kV_Scheme_turned dc_Scheme_turned pm_Scheme_turned an_Scheme_turned cd_Scheme_turned ct_Scheme_turned), sl_Scheme_turned⟩)
    (c_Scheme_turned : PySem.W.codeIn K cd_Scheme_turned "Scheme.turned" = true)
    (k_Scheme_turned : PySem.W.keepIn K (.ref f_Scheme_turned) = true)
    (m_RingError : PySem.W.nsIn K mainGlobals "RingError" = some (some g_RingError))
    (m_Missing : PySem.W.nsIn K mainGlobals "Missing" = some (some g_Missing))
    (m_NothingLeft : PySem.W.nsIn K mainGlobals "NothingLeft" = some (some g_NothingLeft))
    (lcd : cd35 = .ref cL) (lC : K.lookup cL = some ⟨eL, ddL, .fields vsL, slL⟩) (lT : vsL[11]? = some (.ref PL)) (lP : h.get? PL = some { cls := .none, data := .fields #[] }) (lN : K.lookup PL = none) (lH : PySem.W.codeHdIn K cL PL = true) (hm : PySem.W.exmAny K (.ref C_InvalidOrder) [g_RingError, g_Missing, g_NothingLeft] = some true) :
    LamX.LawAtS l w K CX0 12 63 "_law_script" mg fa h := by
  have F__wall := fun_mk (st := s__wall) l1 c1 k1
  have b__wall := F__wall.binds (ps := ["k"]) fun _ _ _ _ _ _ us hl => match us, hl with | [_], _ => rfl
  have A__wall : Fn K mg "_wall" s__wall ["k"] := ⟨_, _, F__wall, PySem.W.mg_of X G a1, b__wall⟩
  have F_is_int := fun_mk (st := s_is_int) l2 c2 k2
  have b_is_int := F_is_int.binds (ps := ["value"]) fun _ _ _ _ _ _ us hl => match us, hl with | [_], _ => rfl
  have A_is_int : Fn K mg "is_int" s_is_int ["value"] := ⟨_, _, F_is_int, PySem.W.mg_of X G a2, b_is_int⟩
  have F_is_between := fun_mk (st := s_is_between) l3 c3 k3
  have b_is_between := F_is_between.binds (ps := ["value", "least", "most"]) fun _ _ _ _ _ _ us hl => match us, hl with | [_, _, _], _ => rfl
  have A_is_between : Fn K mg "is_between" s_is_between ["value", "least", "most"] := ⟨_, _, F_is_between, PySem.W.mg_of X G a3, b_is_between⟩
  have F_common := fun_mk (st := s_common) l4 c4 k4
  have mgf_common : mg "common" = some (.ref f4) := PySem.W.mg_of X G a4
  have D_share : FunD K "share" "share" (defArgs s_share) (defBody s_share) (defScope s_share) [.int 1] [] f5 _ := ⟨⟨_, _, _, _, _, _, _, _, _, _, rfl, l5, c5, .inr ⟨by simp, T5, _, _, _, rfl, t5, rfl, (.cons ⟨_, rfl⟩ .nil)⟩, .inl rfl⟩, k5⟩
  have F_sum_of_shares := fun_mk (st := s_sum_of_shares) l6 c6 k6
  have b_sum_of_shares := F_sum_of_shares.binds (ps := ["x", "y"]) fun _ _ _ _ _ _ us hl => match us, hl with | [_, _], _ => rfl
  have A_sum_of_shares : Fn K mg "sum_of_shares" s_sum_of_shares ["x", "y"] := ⟨_, _, F_sum_of_shares, PySem.W.mg_of X G a6, b_sum_of_shares⟩
  have F_product_of_shares := fun_mk (st := s_product_of_shares) l7 c7 k7
  have b_product_of_shares := F_product_of_shares.binds (ps := ["x", "y"]) fun _ _ _ _ _ _ us hl => match us, hl with | [_, _], _ => rfl
  have A_product_of_shares : Fn K mg "product_of_shares" s_product_of_shares ["x", "y"] := ⟨_, _, F_product_of_shares, PySem.W.mg_of X G a7, b_product_of_shares⟩
  have F_is_list_of := fun_mk (st := s_is_list_of) l8 c8 k8
  have b_is_list_of := F_is_list_of.binds (ps := ["value", "size"]) fun _ _ _ _ _ _ us hl => match us, hl with | [_, _], _ => rfl
  have A_is_list_of : Fn K mg "is_list_of" s_is_list_of ["value", "size"] := ⟨_, _, F_is_list_of, PySem.W.mg_of X G a8, b_is_list_of⟩
  have F_check_number := fun_mk (st := s_check_number) l9 c9 k9
  have b_check_number := F_check_number.binds (ps := ["value", "least", "most"]) fun _ _ _ _ _ _ us hl => match us, hl with | [_, _, _], _ => rfl
  have A_check_number : Fn K mg "check_number" s_check_number ["value", "least", "most"] := ⟨_, _, F_check_number, PySem.W.mg_of X G a9, b_check_number⟩
  have F_scaled := fun_mk (st := s_scaled) l10 c10 k10
  have b_scaled := F_scaled.binds (ps := ["total", "factor"]) fun _ _ _ _ _ _ us hl => match us, hl with | [_, _], _ => rfl
  have A_scaled : Fn K mg "scaled" s_scaled ["total", "factor"] := ⟨_, _, F_scaled, PySem.W.mg_of X G a10, b_scaled⟩
  have F_added := fun_mk (st := s_added) l11 c11 k11
  have b_added := F_added.binds (ps := ["one", "other"]) fun _ _ _ _ _ _ us hl => match us, hl with | [_, _], _ => rfl
  have A_added : Fn K mg "added" s_added ["one", "other"] := ⟨_, _, F_added, PySem.W.mg_of X G a11, b_added⟩
  have F_row_of := fun_mk (st := s_row_of) l12 c12 k12
  have b_row_of := F_row_of.binds (ps := ["total", "role", "size"]) fun _ _ _ _ _ _ us hl => match us, hl with | [_, _, _], _ => rfl
  have A_row_of : Fn K mg "row_of" s_row_of ["total", "role", "size"] := ⟨_, _, F_row_of, PySem.W.mg_of X G a12, b_row_of⟩
  have F_first_sums := fun_mk (st := s_first_sums) l13 c13 k13
  have b_first_sums := F_first_sums.binds (ps := ["inputs", "left"]) fun _ _ _ _ _ _ us hl => match us, hl with | [_, _], _ => rfl
  have A_first_sums : Fn K mg "first_sums" s_first_sums ["inputs", "left"] := ⟨_, _, F_first_sums, PySem.W.mg_of X G a13, b_first_sums⟩
  have F_sum_made := fun_mk (st := s_sum_made) l14 c14 k14
  have b_sum_made := F_sum_made.binds (ps := ["step", "sums"]) fun _ _ _ _ _ _ us hl => match us, hl with | [_, _], _ => rfl
  have A_sum_made : Fn K mg "sum_made" s_sum_made ["step", "sums"] := ⟨_, _, F_sum_made, PySem.W.mg_of X G a14, b_sum_made⟩
  have F_straight_products := fun_mk (st := s_straight_products) l15 c15 k15
  have b_straight_products := F_straight_products.binds (ps := ["program", "left"]) fun _ _ _ _ _ _ us hl => match us, hl with | [_, _], _ => rfl
  have A_straight_products : Fn K mg "straight_products" s_straight_products ["program", "left"] := ⟨_, _, F_straight_products, PySem.W.mg_of X G a15, b_straight_products⟩
  have F_check_sizes := fun_mk (st := s_check_sizes) l16 c16 k16
  have b_check_sizes := F_check_sizes.binds (ps := ["sizes"]) fun _ _ _ _ _ _ us hl => match us, hl with | [_], _ => rfl
  have A_check_sizes : Fn K mg "check_sizes" s_check_sizes ["sizes"] := ⟨_, _, F_check_sizes, PySem.W.mg_of X G a16, b_check_sizes⟩
  have F_is_row := fun_mk (st := s_is_row) l17 c17 k17
  have b_is_row := F_is_row.binds (ps := ["value", "size"]) fun _ _ _ _ _ _ us hl => match us, hl with | [_, _], _ => rfl
  have A_is_row : Fn K mg "is_row" s_is_row ["value", "size"] := ⟨_, _, F_is_row, PySem.W.mg_of X G a17, b_is_row⟩
  have F_is_product := fun_mk (st := s_is_product) l18 c18 k18
  have b_is_product := F_is_product.binds (ps := ["value", "sizes"]) fun _ _ _ _ _ _ us hl => match us, hl with | [_, _], _ => rfl
  have A_is_product : Fn K mg "is_product" s_is_product ["value", "sizes"] := ⟨_, _, F_is_product, PySem.W.mg_of X G a18, b_is_product⟩
  have F_is_table := fun_mk (st := s_is_table) l19 c19 k19
  have b_is_table := F_is_table.binds (ps := ["value", "sizes"]) fun _ _ _ _ _ _ us hl => match us, hl with | [_, _], _ => rfl
  have A_is_table : Fn K mg "is_table" s_is_table ["value", "sizes"] := ⟨_, _, F_is_table, PySem.W.mg_of X G a19, b_is_table⟩
  have F_is_order := fun_mk (st := s_is_order) l20 c20 k20
  have b_is_order := F_is_order.binds (ps := ["value"]) fun _ _ _ _ _ _ us hl => match us, hl with | [_], _ => rfl
  have A_is_order : Fn K mg "is_order" s_is_order ["value"] := ⟨_, _, F_is_order, PySem.W.mg_of X G a20, b_is_order⟩
  have F_check_table := fun_mk (st := s_check_table) l21 c21 k21
  have b_check_table := F_check_table.binds (ps := ["table", "scheme"]) fun _ _ _ _ _ _ us hl => match us, hl with | [_, _], _ => rfl
  have A_check_table : Fn K mg "check_table" s_check_table ["table", "scheme"] := ⟨_, _, F_check_table, PySem.W.mg_of X G a21, b_check_table⟩
  have F_entries := fun_mk (st := s_entries) l22 c22 k22
  have b_entries := F_entries.binds (ps := ["table"]) fun _ _ _ _ _ _ us hl => match us, hl with | [_], _ => rfl
  have A_entries : Fn K mg "entries" s_entries ["table"] := ⟨_, _, F_entries, PySem.W.mg_of X G a22, b_entries⟩
  have F_l_bag := fun_mk (st := s_l_bag) l23 c23 k23
  have b_l_bag := F_l_bag.binds (ps := ["_law_script"]) fun _ _ _ _ _ _ us hl => match us, hl with | [_], _ => rfl
  have A_l_bag : Fn K mg "_law_bag" s_l_bag ["_law_script"] := ⟨_, _, F_l_bag, PySem.W.mg_of X G a23, b_l_bag⟩
  have F_l_draw := fun_mk (st := s_l_draw) l24 c24 k24
  have b_l_draw := F_l_draw.binds (ps := ["_law_bag_here", "_law_many"]) fun _ _ _ _ _ _ us hl => match us, hl with | [_, _], _ => rfl
  have A_l_draw : Fn K mg "_law_draw" s_l_draw ["_law_bag_here", "_law_many"] := ⟨_, _, F_l_draw, PySem.W.mg_of X G a24, b_l_draw⟩
  have F_l_pick := fun_mk (st := s_l_pick) l25 c25 k25
  have b_l_pick := F_l_pick.binds (ps := ["_law_bag_here", "_law_some"]) fun _ _ _ _ _ _ us hl => match us, hl with | [_, _], _ => rfl
  have A_l_pick : Fn K mg "_law_pick" s_l_pick ["_law_bag_here", "_law_some"] := ⟨_, _, F_l_pick, PySem.W.mg_of X G a25, b_l_pick⟩
  have F_l_same := fun_mk (st := s_l_same) l26 c26 k26
  have b_l_same := F_l_same.binds (ps := ["_law_found", "_law_due"]) fun _ _ _ _ _ _ us hl => match us, hl with | [_, _], _ => rfl
  have A_l_same : Fn K mg "_law_same" s_l_same ["_law_found", "_law_due"] := ⟨_, _, F_l_same, PySem.W.mg_of X G a26, b_l_same⟩
  have F_l_field := fun_mk (st := s_l_field) l27 c27 k27
  have b_l_field := F_l_field.binds (ps := ["_law_e"]) fun _ _ _ _ _ _ us hl => match us, hl with | [_], _ => rfl
  have A_l_field : Fn K mg "_law_field" s_l_field ["_law_e"] := ⟨_, _, F_l_field, PySem.W.mg_of X G a27, b_l_field⟩
  have F_l_got := fun_mk (st := s_l_got) l28 c28 k28
  have b_l_got := F_l_got.binds (ps := ["_law_ask"]) fun _ _ _ _ _ _ us hl => match us, hl with | [_], _ => rfl
  have A_l_got : Fn K mg "_law_got" s_l_got ["_law_ask"] := ⟨_, _, F_l_got, PySem.W.mg_of X G a28, b_l_got⟩
  have F_l_gcd := fun_mk (st := s_l_gcd) l29 c29 k29
  have b_l_gcd := F_l_gcd.binds (ps := ["_law_a", "_law_b"]) fun _ _ _ _ _ _ us hl => match us, hl with | [_, _], _ => rfl
  have A_l_gcd : Fn K mg "_law_gcd" s_l_gcd ["_law_a", "_law_b"] := ⟨_, _, F_l_gcd, PySem.W.mg_of X G a29, b_l_gcd⟩
  have F_l_gcds := fun_mk (st := s_l_gcds) l30 c30 k30
  have b_l_gcds := F_l_gcds.binds (ps := ["_law_numbers"]) fun _ _ _ _ _ _ us hl => match us, hl with | [_], _ => rfl
  have A_l_gcds : Fn K mg "_law_gcds" s_l_gcds ["_law_numbers"] := ⟨_, _, F_l_gcds, PySem.W.mg_of X G a30, b_l_gcds⟩
  have F_l_scheme := fun_mk (st := s_l_scheme) l31 c31 k31
  have b_l_scheme := F_l_scheme.binds (ps := ["_law_bag_here", "_law_most", "_law_long"]) fun _ _ _ _ _ _ us hl => match us, hl with | [_, _, _], _ => rfl
  have A_l_scheme : Fn K mg "_law_scheme" s_l_scheme ["_law_bag_here", "_law_most", "_law_long"] := ⟨_, _, F_l_scheme, PySem.W.mg_of X G a31, b_l_scheme⟩
  have F_l_cube := fun_mk (st := s_l_cube) l32 c32 k32
  have b_l_cube := F_l_cube.binds (ps := ["_law_sizes", "_law_rows"]) fun _ _ _ _ _ _ us hl => match us, hl with | [_, _], _ => rfl
  have A_l_cube : Fn K mg "_law_cube" s_l_cube ["_law_sizes", "_law_rows"] := ⟨_, _, F_l_cube, PySem.W.mg_of X G a32, b_l_cube⟩
  have F_l_cube_rows := fun_mk (st := s_l_cube_rows) l33 c33 k33
  have b_l_cube_rows := F_l_cube_rows.binds (ps := ["_law_table"]) fun _ _ _ _ _ _ us hl => match us, hl with | [_], _ => rfl
  have A_l_cube_rows : Fn K mg "_law_cube_rows" s_l_cube_rows ["_law_table"] := ⟨_, _, F_l_cube_rows, PySem.W.mg_of X G a33, b_l_cube_rows⟩
  have F_l_turned_cube := fun_mk (st := s_l_turned_cube) l34 c34 k34
  have b_l_turned_cube := F_l_turned_cube.binds (ps := ["_law_sizes", "_law_table", "_law_order"]) fun _ _ _ _ _ _ us hl => match us, hl with | [_, _, _], _ => rfl
  have A_l_turned_cube : Fn K mg "_law_turned_cube" s_l_turned_cube ["_law_sizes", "_law_table", "_law_order"] := ⟨_, _, F_l_turned_cube, PySem.W.mg_of X G a34, b_l_turned_cube⟩
  have F_law := fun_mk (st := s_law) l35 c35 k35
  have b_law := F_law.binds (ps := ["_law_script"]) fun _ _ _ _ _ _ us hl => match us, hl with | [_], _ => rfl
  have A_law : Fn K mg "law" s_law ["_law_script"] := ⟨_, _, F_law, PySem.W.mg_of X G a35, b_law⟩
  have B : Blt mg := ⟨PySem.W.mg_none_of X G z_IndexError, PySem.W.mg_none_of X G z_LookupError, PySem.W.mg_none_of X G z_ValueError, PySem.W.mg_none_of X G z_abs, PySem.W.mg_none_of X G z_all, PySem.W.mg_none_of X G z_bool, PySem.W.mg_none_of X G z_enumerate, PySem.W.mg_none_of X G z_int, PySem.W.mg_none_of X G z_isinstance, PySem.W.mg_none_of X G z_len, PySem.W.mg_none_of X G z_list, PySem.W.mg_none_of X G z_range, PySem.W.mg_none_of X G z_sorted, PySem.W.mg_none_of X G z_str, PySem.W.mg_none_of X G z_sum, PySem.W.mg_none_of X G z_tuple, PySem.W.mg_none_of X G z_zip⟩
  have E_InvalidNumber : PySem.ErrX.ErrTxt l.prog K mg "InvalidNumber" "given" "InvalidNumber" C_InvalidNumber f_InvalidNumber x_InvalidNumber d_InvalidNumber := ⟨PySem.W.mg_of X G ea_InvalidNumber, PySem.W.mg_none_of X G z_super, ⟨_, _, _, _, _, _, _, _, _, _, _, _, _, _, _, eb_InvalidNumber, ec_InvalidNumber, ed_InvalidNumber⟩, ee_InvalidNumber, ef_InvalidNumber, eg_InvalidNumber, eh_InvalidNumber, ei_InvalidNumber, ej_InvalidNumber, ek_InvalidNumber, el_InvalidNumber, em_InvalidNumber, en_InvalidNumber, eo_InvalidNumber, ep_InvalidNumber, eq_InvalidNumber, opq, ⟨_, _, _, et_InvalidNumber⟩, ⟨_, _, _, _, _, _, eu_InvalidNumber, ev_InvalidNumber, ew_InvalidNumber⟩, topSuper, ⟨_, _, _, _, _, _, _, _, _, _, _, _, _, _, _, _, _, _, _, _, _, _, _, _, _, _, _, er_InvalidNumber, es_InvalidNumber, fun s a b => .of_eq rfl, ex_InvalidNumber⟩, by decide, by decide, by decide, by decide, by decide⟩
  have xf_InvalidNumber : XfC K C_InvalidNumber := ⟨ef_InvalidNumber, eg_InvalidNumber, em_InvalidNumber, eq_InvalidNumber⟩
  have E_InvalidProduct : PySem.ErrX.ErrTxt l.prog K mg "InvalidProduct" "at" "InvalidProduct" C_InvalidProduct f_InvalidProduct x_InvalidProduct d_InvalidProduct := ⟨PySem.W.mg_of X G ea_InvalidProduct, PySem.W.mg_none_of X G z_super, ⟨_, _, _, _, _, _, _, _, _, _, _, _, _, _, _, eb_InvalidProduct, ec_InvalidProduct, ed_InvalidProduct⟩, ee_InvalidProduct, ef_InvalidProduct, eg_InvalidProduct, eh_InvalidProduct, ei_InvalidProduct, ej_InvalidProduct, ek_InvalidProduct, el_InvalidProduct, em_InvalidProduct, en_InvalidProduct, eo_InvalidProduct, ep_InvalidProduct, eq_InvalidProduct, opq, ⟨_, _, _, et_InvalidProduct⟩, ⟨_, _, _, _, _, _, eu_InvalidProduct, ev_InvalidProduct, ew_InvalidProduct⟩, topSuper, ⟨_, _, _, _, _, _, _, _, _, _, _, _, _, _, _, _, _, _, _, _, _, _, _, _, _, _, _, er_InvalidProduct, es_InvalidProduct, fun s a b => .of_eq rfl, ex_InvalidProduct⟩, by decide, by decide, by decide, by decide, by decide⟩
  have xf_InvalidProduct : XfC K C_InvalidProduct := ⟨ef_InvalidProduct, eg_InvalidProduct, em_InvalidProduct, eq_InvalidProduct⟩
  have E_TooMany : PySem.ErrX.ErrTxt l.prog K mg "TooMany" "most" "TooMany" C_TooMany f_TooMany x_TooMany d_TooMany := ⟨PySem.W.mg_of X G ea_TooMany, PySem.W.mg_none_of X G z_super, ⟨_, _, _, _, _, _, _, _, _, _, _, _, _, _, _, eb_TooMany, ec_TooMany, ed_TooMany⟩, ee_TooMany, ef_TooMany, eg_TooMany, eh_TooMany, ei_TooMany, ej_TooMany, ek_TooMany, el_TooMany, em_TooMany, en_TooMany, eo_TooMany, ep_TooMany, eq_TooMany, opq, ⟨_, _, _, et_TooMany⟩, ⟨_, _, _, _, _, _, eu_TooMany, ev_TooMany, ew_TooMany⟩, topSuper, ⟨_, _, _, _, _, _, _, _, _, _, _, _, _, _, _, _, _, _, _, _, _, _, _, _, _, _, _, er_TooMany, es_TooMany, fun s a b => .of_eq rfl, ex_TooMany⟩, by decide, by decide, by decide, by decide, by decide⟩
  have xf_TooMany : XfC K C_TooMany := ⟨ef_TooMany, eg_TooMany, em_TooMany, eq_TooMany⟩
  have E_InvalidTable : PySem.ErrX.ErrTxt l.prog K mg "InvalidTable" "rule" "InvalidTable" C_InvalidTable f_InvalidTable x_InvalidTable d_InvalidTable := ⟨PySem.W.mg_of X G ea_InvalidTable, PySem.W.mg_none_of X G z_super, ⟨_, _, _, _, _, _, _, _, _, _, _, _, _, _, _, eb_InvalidTable, ec_InvalidTable, ed_InvalidTable⟩, ee_InvalidTable, ef_InvalidTable, eg_InvalidTable, eh_InvalidTable, ei_InvalidTable, ej_InvalidTable, ek_InvalidTable, el_InvalidTable, em_InvalidTable, en_InvalidTable, eo_InvalidTable, ep_InvalidTable, eq_InvalidTable, opq, ⟨_, _, _, et_InvalidTable⟩, ⟨_, _, _, _, _, _, eu_InvalidTable, ev_InvalidTable, ew_InvalidTable⟩, topSuper, ⟨_, _, _, _, _, _, _, _, _, _, _, _, _, _, _, _, _, _, _, _, _, _, _, _, _, _, _, er_InvalidTable, es_InvalidTable, fun s a b => .of_eq rfl, ex_InvalidTable⟩, by decide, by decide, by decide, by decide, by decide⟩
  have xf_InvalidTable : XfC K C_InvalidTable := ⟨ef_InvalidTable, eg_InvalidTable, em_InvalidTable, eq_InvalidTable⟩
  have E_InvalidOrder : PySem.ErrX.ErrTxt l.prog K mg "InvalidOrder" "given" "InvalidOrder" C_InvalidOrder f_InvalidOrder x_InvalidOrder d_InvalidOrder := ⟨PySem.W.mg_of X G ea_InvalidOrder, PySem.W.mg_none_of X G z_super, ⟨_, _, _, _, _, _, _, _, _, _, _, _, _, _, _, eb_InvalidOrder, ec_InvalidOrder, ed_InvalidOrder⟩, ee_InvalidOrder, ef_InvalidOrder, eg_InvalidOrder, eh_InvalidOrder, ei_InvalidOrder, ej_InvalidOrder, ek_InvalidOrder, el_InvalidOrder, em_InvalidOrder, en_InvalidOrder, eo_InvalidOrder, ep_InvalidOrder, eq_InvalidOrder, opq, ⟨_, _, _, et_InvalidOrder⟩, ⟨_, _, _, _, _, _, eu_InvalidOrder, ev_InvalidOrder, ew_InvalidOrder⟩, topSuper, ⟨_, _, _, _, _, _, _, _, _, _, _, _, _, _, _, _, _, _, _, _, _, _, _, _, _, _, _, er_InvalidOrder, es_InvalidOrder, fun s a b => .of_eq rfl, ex_InvalidOrder⟩, by decide, by decide, by decide, by decide, by decide⟩
  have xf_InvalidOrder : XfC K C_InvalidOrder := ⟨ef_InvalidOrder, eg_InvalidOrder, em_InvalidOrder, eq_InvalidOrder⟩
  have gC_Scheme : mg "Scheme" = some (.ref C_Scheme) := PySem.W.mg_of X G cg_Scheme
  have cl_Scheme : Cls K C_Scheme := ⟨c1_Scheme, c2_Scheme, c3_Scheme, c4_Scheme⟩
  have rd_Scheme : ClX.CRead K C_Scheme (.type "type") := ⟨c5_Scheme, c6_Scheme⟩
  have F_Scheme_init := fun_mk (st := s_Scheme_init) l_Scheme_init c_Scheme_init k_Scheme_init
  have b_Scheme_init := F_Scheme_init.binds (ps := ["self", "sizes", "products"]) fun _ _ _ _ _ _ us hl => match us, hl with | [_, _, _], _ => rfl
  have mk1_Scheme : Mk K C_Scheme f_Scheme_init := ⟨mk_Scheme, ma_Scheme_init, mb_Scheme_init, kc_Scheme⟩
  have F_Scheme_sizes := fun_mk (st := s_Scheme_sizes) l_Scheme_sizes c_Scheme_sizes k_Scheme_sizes
  have b_Scheme_sizes := F_Scheme_sizes.binds (ps := ["self"]) fun _ _ _ _ _ _ us hl => match us, hl with | [_], _ => rfl
  have po_Scheme_sizes : PropOf K C_Scheme "sizes" p_Scheme_sizes f_Scheme_sizes := ⟨pa_Scheme_sizes, pb_Scheme_sizes, pc_Scheme_sizes, ⟨_, pd_Scheme_sizes⟩⟩
  have F_Scheme_products := fun_mk (st := s_Scheme_products) l_Scheme_products c_Scheme_products k_Scheme_products
  have b_Scheme_products := F_Scheme_products.binds (ps := ["self"]) fun _ _ _ _ _ _ us hl => match us, hl with | [_], _ => rfl
  have po_Scheme_products : PropOf K C_Scheme "products" p_Scheme_products f_Scheme_products := ⟨pa_Scheme_products, pb_Scheme_products, pc_Scheme_products, ⟨_, pd_Scheme_products⟩⟩
  have F_Scheme_len := fun_mk (st := s_Scheme_len) l_Scheme_len c_Scheme_len k_Scheme_len
  have b_Scheme_len := F_Scheme_len.binds (ps := ["self"]) fun _ _ _ _ _ _ us hl => match us, hl with | [_], _ => rfl
  have sp_Scheme_len : OwO.Spc K C_Scheme "__len__" f_Scheme_len := ⟨ma_Scheme_len, mb_Scheme_len⟩
  have F_Scheme_eq := fun_mk (st := s_Scheme_eq) l_Scheme_eq c_Scheme_eq k_Scheme_eq
  have b_Scheme_eq := F_Scheme_eq.binds (ps := ["self", "other"]) fun _ _ _ _ _ _ us hl => match us, hl with | [_, _], _ => rfl
  have sp_Scheme_eq : OwO.Spc K C_Scheme "__eq__" f_Scheme_eq := ⟨ma_Scheme_eq, mb_Scheme_eq⟩
  have F_Scheme_table := fun_mk (st := s_Scheme_table) l_Scheme_table c_Scheme_table k_Scheme_table
  have b_Scheme_table := F_Scheme_table.binds (ps := ["self"]) fun _ _ _ _ _ _ us hl => match us, hl with | [_], _ => rfl
  have me_Scheme_table : Meth K C_Scheme "table" f_Scheme_table := ⟨ma_Scheme_table, mb_Scheme_table, k_Scheme_table⟩
  have F_Scheme_right_ones := fun_mk (st := s_Scheme_right_ones) l_Scheme_right_ones c_Scheme_right_ones k_Scheme_right_ones
  have b_Scheme_right_ones := F_Scheme_right_ones.binds (ps := ["self", "table"]) fun _ _ _ _ _ _ us hl => match us, hl with | [_, _], _ => rfl
  have me_Scheme_right_ones : Meth K C_Scheme "right_ones" f_Scheme_right_ones := ⟨ma_Scheme_right_ones, mb_Scheme_right_ones, k_Scheme_right_ones⟩
  have F_Scheme_turned := fun_mk (st := s_Scheme_turned) l_Scheme_turned c_Scheme_turned k_Scheme_turned
  have b_Scheme_turned := F_Scheme_turned.binds (ps := ["self", "order"]) fun _ _ _ _ _ _ us hl => match us, hl with | [_, _], _ => rfl
  have me_Scheme_turned : Meth K C_Scheme "turned" f_Scheme_turned := ⟨ma_Scheme_turned, mb_Scheme_turned, k_Scheme_turned⟩
  have T : Txt mg := ⟨⟨_, PySem.W.mg_of X G m_MOST_SIZE⟩, ⟨_, PySem.W.mg_of X G m_MOST_PRODUCTS⟩⟩
  have e := hfa.symm.trans (PySem.W.mg_of X G a35)
  cases e
  have R : SCls K C_Scheme := ⟨cl_Scheme, no_Scheme__sizes, no_Scheme__triples⟩
  have SE : SEq K C_Scheme := ⟨ia_Scheme, ib_Scheme, ic_Scheme, id_Scheme, ff0_Scheme, ff1_Scheme, ff2_Scheme⟩
  refine ⟨PySem.W.fnOf "law" "law" (defArgs s_law) (defBody s_law) (defScope s_law) .none kV35 dc35 pm35 an35 cd35 ct35, [(cL, PL)], spLaw K PL, fun p hp => ?_, fun p hp => ?_, fun p hp => ?_, fun s v => .of_eq rfl, fun H a ns hl _ hT hS => ⟨a, ns, rfl, hS, hl, hT _ List.mem_cons_self, fun _ => rfl⟩, fun base _ _ hB => ?_⟩
  · rw [List.mem_singleton.mp hp]
    exact lP
  · rw [List.mem_singleton.mp hp]
    exact lN
  · rw [List.mem_singleton.mp hp]
    exact PySem.W.codeHd_of_K X lH
  subst lcd
  have G1 := ok_draw (P := l.prog) (w := w) (base := base) A_l_draw B
  have G2 := ok_pick A_l_pick B G1
  have G3 := ok_is_int (P := l.prog) (w := w) (base := base) A_is_int B
  have G0 := ok_is_between A_is_between G3
  have TG : TxtG mg := ⟨PySem.W.mg_of X G m_gcd⟩
  have GN := ok_check_numberX A_check_number E_InvalidNumber G0
  have GS := ok_check_sizesX A_check_sizes B T E_InvalidNumber GN
  have LA := ok_is_list_ofA (P := l.prog) (w := w) (base := base) A_is_list_of B
  have RG := ok_is_rowG A_is_row B (ok_is_list_ofG LA) G3
  have G5 := ok_is_productG A_is_product B RG
  have I := ok_initX R B T E_InvalidProduct E_TooMany F_Scheme_init GS G5
  have MK : HasCX l.prog w K mg base 5 "Scheme" C_Scheme ["self", "sizes", "products"] (spInitX C_Scheme C_InvalidNumber C_InvalidProduct C_TooMany) := ⟨_, _, mk1_Scheme, I, gC_Scheme, b_Scheme_init⟩
  have PU := ok_is_productU A_is_product B (ok_is_rowU A_is_row B (ok_is_list_ofU A_is_list_of B) G3)
  have IU := ok_initU R B T E_InvalidProduct E_TooMany F_Scheme_init GS PU
  have MU : HasCX l.prog w K mg base 5 "Scheme" C_Scheme ["self", "sizes", "products"] (spInitU C_Scheme) := ⟨_, _, mk1_Scheme, IU, gC_Scheme, b_Scheme_init⟩
  have P1 := ok_sizes (P := l.prog) (w := w) (mg := mg) (base := base) R F_Scheme_sizes po_Scheme_sizes b_Scheme_sizes
  have P2 := ok_products (P := l.prog) (w := w) (mg := mg) (base := base) R F_Scheme_products po_Scheme_products b_Scheme_products
  have LN := ok_len (P := l.prog) (w := w) (mg := mg) (base := base) R B F_Scheme_len
  have EQ := ok_eqS (P := l.prog) (w := w) (base := base) R SE gC_Scheme B F_Scheme_eq
  have TB := ok_table (P := l.prog) (w := w) (mg := mg) (base := base) R B F_Scheme_table me_Scheme_table b_Scheme_table
  have CM := ok_common (P := l.prog) (w := w) (base := base) ⟨_, _, F_common, mgf_common⟩ TG
  have EN := ok_entries (P := l.prog) (w := w) (base := base) A_entries
  have CT := ok_check_tableX A_check_table B R E_InvalidTable (ok_is_tableX A_is_table B LA RG) P1
  have RO := ok_rightX R B F_Scheme_right_ones me_Scheme_right_ones b_Scheme_right_ones CT TB EN CM
  have OD := ok_is_order (P := l.prog) (w := w) (base := base) A_is_order B G0
  have TU := ok_turned R B E_InvalidOrder F_Scheme_turned me_Scheme_turned b_Scheme_turned OD MU
  have GG := ok_gcd (P := l.prog) (w := w) (base := base) A_l_gcd B
  exact ok_law l35 c35 (hB _ List.mem_cons_self) (PySem.W.mg_of X G m_RingError) (PySem.W.mg_of X G m_Missing) (PySem.W.mg_of X G m_NothingLeft) hm xf_InvalidOrder ei_InvalidOrder eh_InvalidOrder B R SE ff3_Scheme ff4_Scheme ff5_Scheme MK
    sp_Scheme_len LN b_Scheme_len sp_Scheme_eq EQ b_Scheme_eq P1 P2 TB TU RO
    (ok_bag A_l_bag B) G1 G2 (all_same A_l_same B 5) (ok_field A_l_field) A_l_got
    (ok_l_scheme A_l_scheme B G1 G2) (ok_l_cube A_l_cube B) (ok_l_cube_rows A_l_cube_rows B) (ok_l_gcds A_l_gcds GG) (ok_l_turned_cube A_l_turned_cube B)
end My
open PySem PySem.W PyProof.Rows
set_option maxRecDepth 100000 in
set_option maxHeartbeats 0 in
theorem PySem.Challenge.cw_numbertypes_k68_whole_schemes_turned_holds : PySem.Challenge.rw_numbertypes_k68_whole_schemes_turned.Holds := by
  w_on; o_law; k_head; (case hw => w_witness2)
  k_fill
  refine LamX.walk_ofTs (l := PySem.Challenge.rw_numbertypes_k68_whole_schemes_turned) (n := 63) (k := 12) (x := "_law_script") (CX := fun _ => L2.CX0) rfl (by decide) rfl ⟨rfl, by decide, by decide⟩ (fun w h Y => PySem.W.km_in_of Y) ?F (fun _ _ _ _ _ h => h)
  case F =>
    intro w mg fa h Y KX G hmg
    refine' My.all_mk KX G hmg ?z_super ?opq ?topSuper ?a1 ?l1 ?c1 ?k1 ?a2 ?l2 ?c2 ?k2 ?a3 ?l3 ?c3 ?k3 ?a4 ?l4 ?c4 ?k4 ?a5 ?l5 ?c5 ?k5 ?t5 ?a6 ?l6 ?c6 ?k6 ?a7 ?l7 ?c7 ?k7 ?a8 ?l8 ?c8 ?k8 ?a9 ?l9 ?c9 ?k9 ?a10 ?l10 ?c10 ?k10 ?a11 ?l11 ?c11 ?k11 ?a12 ?l12 ?c12 ?k12 ?a13 ?l13 ?c13 ?k13 ?a14 ?l14 ?c14 ?k14 ?a15 ?l15 ?c15 ?k15 ?a16 ?l16 ?c16 ?k16 ?a17 ?l17 ?c17 ?k17 ?a18 ?l18 ?c18 ?k18 ?a19 ?l19 ?c19 ?k19 ?a20 ?l20 ?c20 ?k20 ?a21 ?l21 ?c21 ?k21 ?a22 ?l22 ?c22 ?k22 ?a23 ?l23 ?c23 ?k23 ?a24 ?l24 ?c24 ?k24 ?a25 ?l25 ?c25 ?k25 ?a26 ?l26 ?c26 ?k26 ?a27 ?l27 ?c27 ?k27 ?a28 ?l28 ?c28 ?k28 ?a29 ?l29 ?c29 ?k29 ?a30 ?l30 ?c30 ?k30 ?a31 ?l31 ?c31 ?k31 ?a32 ?l32 ?c32 ?k32 ?a33 ?l33 ?c33 ?k33 ?a34 ?l34 ?c34 ?k34 ?a35 ?l35 ?c35 ?k35 ?z_IndexError ?z_LookupError ?z_ValueError ?z_abs ?z_all ?z_bool ?z_enumerate ?z_int ?z_isinstance ?z_len ?z_list ?z_range ?z_sorted ?z_str ?z_sum ?z_tuple ?z_zip ?m_gcd ?m_MOST_SIZE ?m_MOST_PRODUCTS ?ea_InvalidNumber ?eb_InvalidNumber ?ec_InvalidNumber ?ed_InvalidNumber ?ee_InvalidNumber ?ef_InvalidNumber ?eg_InvalidNumber ?eh_InvalidNumber ?ei_InvalidNumber ?ej_InvalidNumber ?ek_InvalidNumber ?el_InvalidNumber ?em_InvalidNumber ?en_InvalidNumber ?eo_InvalidNumber ?ep_InvalidNumber ?eq_InvalidNumber ?er_InvalidNumber ?es_InvalidNumber ?et_InvalidNumber ?eu_InvalidNumber ?ev_InvalidNumber ?ex_InvalidNumber ?ew_InvalidNumber ?ea_InvalidProduct ?eb_InvalidProduct ?ec_InvalidProduct ?ed_InvalidProduct ?ee_InvalidProduct ?ef_InvalidProduct ?eg_InvalidProduct ?eh_InvalidProduct ?ei_InvalidProduct ?ej_InvalidProduct ?ek_InvalidProduct ?el_InvalidProduct ?em_InvalidProduct ?en_InvalidProduct ?eo_InvalidProduct ?ep_InvalidProduct ?eq_InvalidProduct ?er_InvalidProduct ?es_InvalidProduct ?et_InvalidProduct ?eu_InvalidProduct ?ev_InvalidProduct ?ex_InvalidProduct ?ew_InvalidProduct ?ea_TooMany ?eb_TooMany ?ec_TooMany ?ed_TooMany ?ee_TooMany ?ef_TooMany ?eg_TooMany ?eh_TooMany ?ei_TooMany ?ej_TooMany ?ek_TooMany ?el_TooMany ?em_TooMany ?en_TooMany ?eo_TooMany ?ep_TooMany ?eq_TooMany ?er_TooMany ?es_TooMany ?et_TooMany ?eu_TooMany ?ev_TooMany ?ex_TooMany ?ew_TooMany ?ea_InvalidTable ?eb_InvalidTable ?ec_InvalidTable ?ed_InvalidTable ?ee_InvalidTable ?ef_InvalidTable ?eg_InvalidTable ?eh_InvalidTable ?ei_InvalidTable ?ej_InvalidTable ?ek_InvalidTable ?el_InvalidTable ?em_InvalidTable ?en_InvalidTable ?eo_InvalidTable ?ep_InvalidTable ?eq_InvalidTable ?er_InvalidTable ?es_InvalidTable ?et_InvalidTable ?eu_InvalidTable ?ev_InvalidTable ?ex_InvalidTable ?ew_InvalidTable ?ea_InvalidOrder ?eb_InvalidOrder ?ec_InvalidOrder ?ed_InvalidOrder ?ee_InvalidOrder ?ef_InvalidOrder ?eg_InvalidOrder ?eh_InvalidOrder ?ei_InvalidOrder ?ej_InvalidOrder ?ek_InvalidOrder ?el_InvalidOrder ?em_InvalidOrder ?en_InvalidOrder ?eo_InvalidOrder ?ep_InvalidOrder ?eq_InvalidOrder ?er_InvalidOrder ?es_InvalidOrder ?et_InvalidOrder ?eu_InvalidOrder ?ev_InvalidOrder ?ex_InvalidOrder ?ew_InvalidOrder ?cg_Scheme ?c1_Scheme ?c2_Scheme ?c3_Scheme ?c4_Scheme ?c5_Scheme ?c6_Scheme ?ia_Scheme ?ib_Scheme ?ic_Scheme ?id_Scheme ?no_Scheme__sizes ?no_Scheme__triples ?ff0_Scheme ?ff1_Scheme ?ff2_Scheme ?ff3_Scheme ?ff4_Scheme ?ff5_Scheme ?ma_Scheme_init ?mb_Scheme_init ?l_Scheme_init ?c_Scheme_init ?k_Scheme_init ?mk_Scheme ?kc_Scheme ?pa_Scheme_sizes ?pb_Scheme_sizes ?pc_Scheme_sizes ?pd_Scheme_sizes ?l_Scheme_sizes ?c_Scheme_sizes ?k_Scheme_sizes ?pa_Scheme_products ?pb_Scheme_products ?pc_Scheme_products ?pd_Scheme_products ?l_Scheme_products ?c_Scheme_products ?k_Scheme_products ?ma_Scheme_len ?mb_Scheme_len ?l_Scheme_len ?c_Scheme_len ?k_Scheme_len ?ma_Scheme_eq ?mb_Scheme_eq ?l_Scheme_eq ?c_Scheme_eq ?k_Scheme_eq ?ma_Scheme_table ?mb_Scheme_table ?l_Scheme_table ?c_Scheme_table ?k_Scheme_table ?ma_Scheme_right_ones ?mb_Scheme_right_ones ?l_Scheme_right_ones ?c_Scheme_right_ones ?k_Scheme_right_ones ?ma_Scheme_turned ?mb_Scheme_turned ?l_Scheme_turned ?c_Scheme_turned ?k_Scheme_turned ?m_RingError ?m_Missing ?m_NothingLeft ?lcd ?lC ?lT ?lP ?lN ?lH ?hm
    (case z_super => k_is)
    (case opq => k_is)
    (case a1 => k_is)
    (case l1 => k_is)
    (case c1 => k_is)
    (case k1 => k_is)
    (case a2 => k_is)
    (case l2 => k_is)
    (case c2 => k_is)
    (case k2 => k_is)
    (case a3 => k_is)
    (case l3 => k_is)
    (case c3 => k_is)
    (case k3 => k_is)
    (case a4 => k_is)
    (case l4 => k_is)
    (case c4 => k_is)
    (case k4 => k_is)
    (case a5 => k_is)
    (case l5 => k_is)
    (case c5 => k_is)
    (case k5 => k_is)
    (case t5 => k_is)
    (case a6 => k_is)
    (case l6 => k_is)
    (case c6 => k_is)
    (case k6 => k_is)
    (case a7 => k_is)
    (case l7 => k_is)
    (case c7 => k_is)
    (case k7 => k_is)
    (case a8 => k_is)
    (case l8 => k_is)
    (case c8 => k_is)
    (case k8 => k_is)
    (case a9 => k_is)
    (case l9 => k_is)
    (case c9 => k_is)
    (case k9 => k_is)
    (case a10 => k_is)
    (case l10 => k_is)
    (case c10 => k_is)
    (case k10 => k_is)
    (case a11 => k_is)
    (case l11 => k_is)
    (case c11 => k_is)
    (case k11 => k_is)
    (case a12 => k_is)
    (case l12 => k_is)
    (case c12 => k_is)
    (case k12 => k_is)
    (case a13 => k_is)
    (case l13 => k_is)
    (case c13 => k_is)
    (case k13 => k_is)
    (case a14 => k_is)
    (case l14 => k_is)
    (case c14 => k_is)
    (case k14 => k_is)
    (case a15 => k_is)
    (case l15 => k_is)
    (case c15 => k_is)
    (case k15 => k_is)
    (case a16 => k_is)
    (case l16 => k_is)
    (case c16 => k_is)
    (case k16 => k_is)
    (case a17 => k_is)
    (case l17 => k_is)
    (case c17 => k_is)
    (case k17 => k_is)
    (case a18 => k_is)
    (case l18 => k_is)
    (case c18 => k_is)
    (case k18 => k_is)
    (case a19 => k_is)
    (case l19 => k_is)
    (case c19 => k_is)
    (case k19 => k_is)
    (case a20 => k_is)
    (case l20 => k_is)
    (case c20 => k_is)
    (case k20 => k_is)
    (case a21 => k_is)
    (case l21 => k_is)
    (case c21 => k_is)
    (case k21 => k_is)
    (case a22 => k_is)
    (case l22 => k_is)
    (case c22 => k_is)
    (case k22 => k_is)
    (case a23 => k_is)
    (case l23 => k_is)
    (case c23 => k_is)
    (case k23 => k_is)
    (case a24 => k_is)
    (case l24 => k_is)
    (case c24 => k_is)
    (case k24 => k_is)
    (case a25 => k_is)
    (case l25 => k_is)
    (case c25 => k_is)
    (case k25 => k_is)
    (case a26 => k_is)
    (case l26 => k_is)
    (case c26 => k_is)
    (case k26 => k_is)
    (case a27 => k_is)
    (case l27 => k_is)
    (case c27 => k_is)
    (case k27 => k_is)
    (case a28 => k_is)
    (case l28 => k_is)
    (case c28 => k_is)
    (case k28 => k_is)
    (case a29 => k_is)
    (case l29 => k_is)
    (case c29 => k_is)
    (case k29 => k_is)
    (case a30 => k_is)
    (case l30 => k_is)
    (case c30 => k_is)
    (case k30 => k_is)
    (case a31 => k_is)
    (case l31 => k_is)
    (case c31 => k_is)
    (case k31 => k_is)
    (case a32 => k_is)
    (case l32 => k_is)
    (case c32 => k_is)
    (case k32 => k_is)
    (case a33 => k_is)
    (case l33 => k_is)
    (case c33 => k_is)
    (case k33 => k_is)
    (case a34 => k_is)
    (case l34 => k_is)
    (case c34 => k_is)
    (case k34 => k_is)
    (case a35 => k_is)
    (case l35 => k_is)
    (case c35 => k_is)
    (case k35 => k_is)
    (case z_IndexError => k_is)
    (case z_LookupError => k_is)
    (case z_ValueError => k_is)
    (case z_abs => k_is)
    (case z_all => k_is)
    (case z_bool => k_is)
    (case z_enumerate => k_is)
    (case z_int => k_is)
    (case z_isinstance => k_is)
    (case z_len => k_is)
    (case z_list => k_is)
    (case z_range => k_is)
    (case z_sorted => k_is)
    (case z_str => k_is)
    (case z_sum => k_is)
    (case z_tuple => k_is)
    (case z_zip => k_is)
    (case m_gcd => k_is)
    (case m_MOST_SIZE => k_is)
    (case m_MOST_PRODUCTS => k_is)
    (case m_RingError => k_is)
    (case m_Missing => k_is)
    (case m_NothingLeft => k_is)
    (case topSuper => kernel_rfl)
    (case ea_InvalidNumber => k_is)
    (case eb_InvalidNumber => k_is)
    (case ec_InvalidNumber => first | rfl | kernel_rfl)
    (case ed_InvalidNumber => kernel_rfl)
    (case ee_InvalidNumber => k_is)
    (case ef_InvalidNumber => k_is)
    (case eg_InvalidNumber => k_is)
    (case eh_InvalidNumber => k_is)
    (case ei_InvalidNumber => k_is)
    (case ej_InvalidNumber => k_is)
    (case ek_InvalidNumber => k_is)
    (case el_InvalidNumber => k_is)
    (case em_InvalidNumber => k_is)
    (case en_InvalidNumber => k_is)
    (case eo_InvalidNumber => k_is)
    (case ep_InvalidNumber => k_is)
    (case eq_InvalidNumber => k_is)
    (case er_InvalidNumber => k_is)
    (case es_InvalidNumber => k_is)
    (case et_InvalidNumber => k_is)
    (case eu_InvalidNumber => k_is)
    (case ev_InvalidNumber => rfl)
    (case ex_InvalidNumber => exact ⟨_, fun env => rfl⟩)
    (case ew_InvalidNumber => kernel_rfl)
    (case ea_InvalidProduct => k_is)
    (case eb_InvalidProduct => k_is)
    (case ec_InvalidProduct => first | rfl | kernel_rfl)
    (case ed_InvalidProduct => kernel_rfl)
    (case ee_InvalidProduct => k_is)
    (case ef_InvalidProduct => k_is)
    (case eg_InvalidProduct => k_is)
    (case eh_InvalidProduct => k_is)
    (case ei_InvalidProduct => k_is)
    (case ej_InvalidProduct => k_is)
    (case ek_InvalidProduct => k_is)
    (case el_InvalidProduct => k_is)
    (case em_InvalidProduct => k_is)
    (case en_InvalidProduct => k_is)
    (case eo_InvalidProduct => k_is)
    (case ep_InvalidProduct => k_is)
    (case eq_InvalidProduct => k_is)
    (case er_InvalidProduct => k_is)
    (case es_InvalidProduct => k_is)
    (case et_InvalidProduct => k_is)
    (case eu_InvalidProduct => k_is)
    (case ev_InvalidProduct => rfl)
    (case ex_InvalidProduct => exact ⟨_, fun env => rfl⟩)
    (case ew_InvalidProduct => kernel_rfl)
    (case ea_TooMany => k_is)
    (case eb_TooMany => k_is)
    (case ec_TooMany => first | rfl | kernel_rfl)
    (case ed_TooMany => kernel_rfl)
    (case ee_TooMany => k_is)
    (case ef_TooMany => k_is)
    (case eg_TooMany => k_is)
    (case eh_TooMany => k_is)
    (case ei_TooMany => k_is)
    (case ej_TooMany => k_is)
    (case ek_TooMany => k_is)
    (case el_TooMany => k_is)
    (case em_TooMany => k_is)
    (case en_TooMany => k_is)
    (case eo_TooMany => k_is)
    (case ep_TooMany => k_is)
    (case eq_TooMany => k_is)
    (case er_TooMany => k_is)
    (case es_TooMany => k_is)
    (case et_TooMany => k_is)
    (case eu_TooMany => k_is)
    (case ev_TooMany => rfl)
    (case ex_TooMany => exact ⟨_, fun env => rfl⟩)
    (case ew_TooMany => kernel_rfl)
    (case ea_InvalidTable => k_is)
    (case eb_InvalidTable => k_is)
    (case ec_InvalidTable => first | rfl | kernel_rfl)
    (case ed_InvalidTable => kernel_rfl)
    (case ee_InvalidTable => k_is)
    (case ef_InvalidTable => k_is)
    (case eg_InvalidTable => k_is)
    (case eh_InvalidTable => k_is)
    (case ei_InvalidTable => k_is)
    (case ej_InvalidTable => k_is)
    (case ek_InvalidTable => k_is)
    (case el_InvalidTable => k_is)
    (case em_InvalidTable => k_is)
    (case en_InvalidTable => k_is)
    (case eo_InvalidTable => k_is)
    (case ep_InvalidTable => k_is)
    (case eq_InvalidTable => k_is)
    (case er_InvalidTable => k_is)
    (case es_InvalidTable => k_is)
    (case et_InvalidTable => k_is)
    (case eu_InvalidTable => k_is)
    (case ev_InvalidTable => rfl)
    (case ex_InvalidTable => exact ⟨_, fun env => rfl⟩)
    (case ew_InvalidTable => kernel_rfl)
    (case ea_InvalidOrder => k_is)
    (case eb_InvalidOrder => k_is)
    (case ec_InvalidOrder => first | rfl | kernel_rfl)
    (case ed_InvalidOrder => kernel_rfl)
    (case ee_InvalidOrder => k_is)
    (case ef_InvalidOrder => k_is)
    (case eg_InvalidOrder => k_is)
    (case eh_InvalidOrder => k_is)
    (case ei_InvalidOrder => k_is)
    (case ej_InvalidOrder => k_is)
    (case ek_InvalidOrder => k_is)
    (case el_InvalidOrder => k_is)
    (case em_InvalidOrder => k_is)
    (case en_InvalidOrder => k_is)
    (case eo_InvalidOrder => k_is)
    (case ep_InvalidOrder => k_is)
    (case eq_InvalidOrder => k_is)
    (case er_InvalidOrder => k_is)
    (case es_InvalidOrder => k_is)
    (case et_InvalidOrder => k_is)
    (case eu_InvalidOrder => k_is)
    (case ev_InvalidOrder => rfl)
    (case ex_InvalidOrder => exact ⟨_, fun env => rfl⟩)
    (case ew_InvalidOrder => kernel_rfl)
    (case cg_Scheme => k_is)
    (case c1_Scheme => k_is)
    (case c2_Scheme => k_is)
    (case c3_Scheme => k_is)
    (case c4_Scheme => k_is)
    (case c5_Scheme => k_is)
    (case c6_Scheme => k_is)
    (case ia_Scheme => k_is)
    (case ib_Scheme => k_is)
    (case ic_Scheme => k_is)
    (case id_Scheme => k_is)
    (case no_Scheme__sizes => k_is)
    (case no_Scheme__triples => k_is)
    (case ff0_Scheme => first | kernel_rfl | rfl)
    (case ff1_Scheme => first | kernel_rfl | rfl)
    (case ff2_Scheme => first | k_is | kernel_rfl | rfl)
    (case ff3_Scheme => k_is)
    (case ff4_Scheme => first | k_is | kernel_rfl | rfl)
    (case ff5_Scheme => first | kernel_rfl | k_is | rfl)
    (case ma_Scheme_init => k_is)
    (case mb_Scheme_init => k_is)
    (case l_Scheme_init => k_is)
    (case c_Scheme_init => k_is)
    (case k_Scheme_init => k_is)
    (case mk_Scheme => k_is)
    (case kc_Scheme => k_is)
    (case pa_Scheme_sizes => k_is)
    (case pb_Scheme_sizes => k_is)
    (case pc_Scheme_sizes => k_is)
    (case pd_Scheme_sizes => k_is)
    (case l_Scheme_sizes => k_is)
    (case c_Scheme_sizes => k_is)
    (case k_Scheme_sizes => k_is)
    (case pa_Scheme_products => k_is)
    (case pb_Scheme_products => k_is)
    (case pc_Scheme_products => k_is)
    (case pd_Scheme_products => k_is)
    (case l_Scheme_products => k_is)
    (case c_Scheme_products => k_is)
    (case k_Scheme_products => k_is)
    (case ma_Scheme_len => k_is)
    (case mb_Scheme_len => k_is)
    (case l_Scheme_len => k_is)
    (case c_Scheme_len => k_is)
    (case k_Scheme_len => k_is)
    (case ma_Scheme_eq => k_is)
    (case mb_Scheme_eq => k_is)
    (case l_Scheme_eq => k_is)
    (case c_Scheme_eq => k_is)
    (case k_Scheme_eq => k_is)
    (case ma_Scheme_table => k_is)
    (case mb_Scheme_table => k_is)
    (case l_Scheme_table => k_is)
    (case c_Scheme_table => k_is)
    (case k_Scheme_table => k_is)
    (case ma_Scheme_right_ones => k_is)
    (case mb_Scheme_right_ones => k_is)
    (case l_Scheme_right_ones => k_is)
    (case c_Scheme_right_ones => k_is)
    (case k_Scheme_right_ones => k_is)
    (case ma_Scheme_turned => k_is)
    (case mb_Scheme_turned => k_is)
    (case l_Scheme_turned => k_is)
    (case c_Scheme_turned => k_is)
    (case k_Scheme_turned => k_is)
    (case lcd => rfl)
    (case lC => k_is)
    (case lT => rfl)
    (case lP => exact PySem.W.km_tabs_of Y _ List.mem_cons_self)
    (case lN => kernel_rfl)
    (case lH => kernel_rfl)
    (case hm => kernel_rfl)
