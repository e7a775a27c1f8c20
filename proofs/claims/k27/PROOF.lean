
import PyProof.Rows.All
import Wide.All
import OpenK.AllK
import Wide.FinOn
import HandS.ForMost
import HandS.IsInst
import HandS.Walk
import HandS.Wide
import HandS.Codes
import HandS.Gcd
import HandS.Zip
import KE.OsRunLaw
import HandS.ForExc
import HandS.ExcInit
import HandS.ExcSuper
import HandS.ExcField
import HandS.Lambda
import HandS.HotCalls
import HandS.TryMany
import HandS.EndTab
import HandS.ClsMeth
import HandS.Star
import HandS.Property
import HandS.Defaults
import HandS.MakeKw
import HandS.MakeKwOnly
import HandS.OwnEq
import HandS.FStr
import HandS.Text
import HandS.StrMore
import HandS.EndOwn
import HandS.Deep
import HandS.More
import HandS.Conv
import HandS.Sort
import HandS.SortKw
import KE.KExcSuper
import KE.KSuper
import KE.KTryMore
import KE.DataMinMax
import KE.GoesZip
import KE.GoesEnum
import KE.GoesMore
import HandS.Strs
import HandS.DictComp
import HandS.Dict
import HandS.DictTup
import HandS.TupLen
import KE.SortData
import PyProof.DictFindH
import KE.KDictWalk
import PyProof.StrOps2
import HandS.Style
import PySem.Challenge.RW_numbertypes_k27_terms_and_words_refused
set_option Elab.async false
set_option linter.all false
set_option maxRecDepth 100000
set_option maxHeartbeats 4000000
namespace My
open PySem PySem.Spec PyProof.Rows L2
/-! ### the text by places -/
def topS (i : Nat) : Stmt := PySem.Challenge.pw_numbertypes_k27_terms_and_words_refused.main.body.getD i (.Pass ⟨0, 0, 0, 0⟩)
abbrev s__wall : Stmt := topS 1
abbrev N__wall : List Str := ["k"]
theorem sc__wall : FnScope N__wall ["k"] (defScope s__wall) := ⟨rfl, rfl, rfl, by decide +kernel, rfl, by decide +kernel, by decide +kernel⟩
abbrev s_is_int : Stmt := topS 19
abbrev N_is_int : List Str := ["value"]
theorem sc_is_int : FnScope N_is_int ["value"] (defScope s_is_int) := ⟨rfl, rfl, rfl, by decide +kernel, rfl, by decide +kernel, by decide +kernel⟩
abbrev s_is_name : Stmt := topS 20
abbrev N_is_name : List Str := ["value", "sign"]
theorem sc_is_name : FnScope N_is_name ["value"] (defScope s_is_name) := ⟨rfl, rfl, rfl, by decide +kernel, rfl, by decide +kernel, by decide +kernel⟩
abbrev s_share : Stmt := topS 21
abbrev N_share : List Str := ["p", "q", "part"]
theorem sc_share : FnScope N_share ["p", "q"] (defScope s_share) := ⟨rfl, rfl, rfl, by decide +kernel, rfl, by decide +kernel, by decide +kernel⟩
abbrev s_sum_of_shares : Stmt := topS 22
abbrev N_sum_of_shares : List Str := ["x", "y"]
theorem sc_sum_of_shares : FnScope N_sum_of_shares ["x", "y"] (defScope s_sum_of_shares) := ⟨rfl, rfl, rfl, by decide +kernel, rfl, by decide +kernel, by decide +kernel⟩
abbrev s_product_of_shares : Stmt := topS 23
abbrev N_product_of_shares : List Str := ["x", "y"]
theorem sc_product_of_shares : FnScope N_product_of_shares ["x", "y"] (defScope s_product_of_shares) := ⟨rfl, rfl, rfl, by decide +kernel, rfl, by decide +kernel, by decide +kernel⟩
abbrev s_read_digits : Stmt := topS 24
abbrev N_read_digits : List Str := ["text", "most", "sign"]
theorem sc_read_digits : FnScope N_read_digits ["text", "most"] (defScope s_read_digits) := ⟨rfl, rfl, rfl, by decide +kernel, rfl, by decide +kernel, by decide +kernel⟩
abbrev s_written : Stmt := topS 25
abbrev N_written : List Str := ["number", "powers"]
theorem sc_written : FnScope N_written ["number"] (defScope s_written) := ⟨rfl, rfl, rfl, by decide +kernel, rfl, by decide +kernel, by decide +kernel⟩
abbrev s_written_below : Stmt := topS 26
abbrev N_written_below : List Str := ["number", "powers", "lower", "high", "low"]
theorem sc_written_below : FnScope N_written_below ["number", "powers"] (defScope s_written_below) := ⟨rfl, rfl, rfl, by decide +kernel, rfl, by decide +kernel, by decide +kernel⟩
abbrev s_written_share : Stmt := topS 27
abbrev N_written_share : List Str := ["p", "q"]
theorem sc_written_share : FnScope N_written_share ["p", "q"] (defScope s_written_share) := ⟨rfl, rfl, rfl, by decide +kernel, rfl, by decide +kernel, by decide +kernel⟩
abbrev s_is_word : Stmt := topS 32
abbrev N_is_word : List Str := ["value", "name"]
theorem sc_is_word : FnScope N_is_word ["value"] (defScope s_is_word) := ⟨rfl, rfl, rfl, by decide +kernel, rfl, by decide +kernel, by decide +kernel⟩
abbrev s_is_term : Stmt := topS 33
abbrev N_is_term : List Str := ["value", "word", "p", "q"]
theorem sc_is_term : FnScope N_is_term ["value"] (defScope s_is_term) := ⟨rfl, rfl, rfl, by decide +kernel, rfl, by decide +kernel, by decide +kernel⟩
abbrev s_gathered : Stmt := topS 34
abbrev N_gathered : List Str := ["pairs", "found", "word", "amount", "ordered", "_"]
theorem sc_gathered : FnScope N_gathered ["pairs"] (defScope s_gathered) := ⟨rfl, rfl, rfl, by decide +kernel, rfl, by decide +kernel, by decide +kernel⟩
abbrev s_form_of : Stmt := topS 35
abbrev N_form_of : List Str := ["pairs", "made"]
theorem sc_form_of : FnScope N_form_of ["pairs"] (defScope s_form_of) := ⟨rfl, rfl, rfl, by decide +kernel, rfl, by decide +kernel, by decide +kernel⟩
abbrev s_thing_of_word : Stmt := topS 37
abbrev N_thing_of_word : List Str := ["word", "ring", "things"]
theorem sc_thing_of_word : FnScope N_thing_of_word ["word", "ring", "things"] (defScope s_thing_of_word) := ⟨rfl, rfl, rfl, by decide +kernel, rfl, by decide +kernel, by decide +kernel⟩
abbrev s_term_text : Stmt := topS 38
abbrev N_term_text : List Str := ["word", "p", "q", "names"]
theorem sc_term_text : FnScope N_term_text ["word", "p", "q"] (defScope s_term_text) := ⟨rfl, rfl, rfl, by decide +kernel, rfl, by decide +kernel, by decide +kernel⟩
abbrev s_read_pairs : Stmt := topS 39
abbrev N_read_pairs : List Str := ["text", "negative", "parts", "pairs", "at"]
theorem sc_read_pairs : FnScope N_read_pairs ["text"] (defScope s_read_pairs) := ⟨rfl, rfl, rfl, by decide +kernel, rfl, by decide +kernel, by decide +kernel⟩
abbrev s_read_term : Stmt := topS 40
abbrev N_read_term : List Str := ["text", "negative", "number", "names", "amount", "word"]
theorem sc_read_term : FnScope N_read_term ["text", "negative"] (defScope s_read_term) := ⟨rfl, rfl, rfl, by decide +kernel, rfl, by decide +kernel, by decide +kernel⟩
abbrev s_read_share : Stmt := topS 41
abbrev N_read_share : List Str := ["text", "pieces", "numbers", "piece"]
theorem sc_read_share : FnScope N_read_share ["text"] (defScope s_read_share) := ⟨rfl, rfl, rfl, by decide +kernel, rfl, by decide +kernel, by decide +kernel⟩
abbrev s_l_bag : Stmt := topS 43
abbrev N_l_bag : List Str := ["_law_script", "_law_cells"]
theorem sc_l_bag : FnScope N_l_bag ["_law_script"] (defScope s_l_bag) := ⟨rfl, rfl, rfl, by decide +kernel, rfl, by decide +kernel, by decide +kernel⟩
abbrev s_l_draw : Stmt := topS 44
abbrev N_l_draw : List Str := ["_law_bag_here", "_law_many", "_law_cell", "_law_got_here"]
theorem sc_l_draw : FnScope N_l_draw ["_law_bag_here", "_law_many"] (defScope s_l_draw) := ⟨rfl, rfl, rfl, by decide +kernel, rfl, by decide +kernel, by decide +kernel⟩
abbrev s_l_pick : Stmt := topS 45
abbrev N_l_pick : List Str := ["_law_bag_here", "_law_some"]
theorem sc_l_pick : FnScope N_l_pick ["_law_bag_here", "_law_some"] (defScope s_l_pick) := ⟨rfl, rfl, rfl, by decide +kernel, rfl, by decide +kernel, by decide +kernel⟩
abbrev s_l_letters : Stmt := topS 46
abbrev N_l_letters : List Str := []
theorem sc_l_letters : FnScope N_l_letters [] (defScope s_l_letters) := ⟨rfl, rfl, rfl, by decide +kernel, rfl, by decide +kernel, by decide +kernel⟩
abbrev s_l_names : Stmt := topS 47
abbrev N_l_names : List Str := ["_law_bag_here", "_law_many", "_law_stem", "_law_k", "_law_spot", "_law_base", "_law_step", "_law_more", "_law_found", "_law_sign", "_law_word"]
theorem sc_l_names : FnScope N_l_names ["_law_bag_here", "_law_many"] (defScope s_l_names) := ⟨rfl, rfl, rfl, by decide +kernel, rfl, by decide +kernel, by decide +kernel⟩
abbrev s_l_same : Stmt := topS 48
abbrev N_l_same : List Str := ["_law_found", "_law_due", "_law_a", "_law_b"]
theorem sc_l_same : FnScope N_l_same ["_law_found", "_law_due"] (defScope s_l_same) := ⟨rfl, rfl, rfl, by decide +kernel, rfl, by decide +kernel, by decide +kernel⟩
abbrev s_l_field : Stmt := topS 49
abbrev N_l_field : List Str := ["_law_e"]
theorem sc_l_field : FnScope N_l_field ["_law_e"] (defScope s_l_field) := ⟨rfl, rfl, rfl, by decide +kernel, rfl, by decide +kernel, by decide +kernel⟩
abbrev s_l_got : Stmt := topS 50
abbrev N_l_got : List Str := ["_law_ask", "_law_e"]
theorem sc_l_got : FnScope N_l_got ["_law_ask"] (defScope s_l_got) := ⟨rfl, rfl, rfl, by decide +kernel, rfl, by decide +kernel, by decide +kernel⟩
abbrev s_l_all : Stmt := topS 51
abbrev N_l_all : List Str := ["_law_asks", "_law_ask"]
theorem sc_l_all : FnScope N_l_all ["_law_asks"] (defScope s_l_all) := ⟨rfl, rfl, rfl, by decide +kernel, rfl, by decide +kernel, by decide +kernel⟩
abbrev s_l_odd : Stmt := topS 52
abbrev N_l_odd : List Str := ["_law_bag_here"]
theorem sc_l_odd : FnScope N_l_odd ["_law_bag_here"] (defScope s_l_odd) := ⟨rfl, rfl, rfl, by decide +kernel, rfl, by decide +kernel, by decide +kernel⟩
abbrev s_law : Stmt := topS 53
abbrev N_law : List Str := ["_law_script", "_law_bag_here", "_law_turn", "_law_names_here", "_law_terms", "_law_j", "_law_k", "_law_a", "_law_bad", "_law_spot", "_law_rows", "_law_got_here", "_law_odd_here", "_law_asks"]
theorem sc_law : FnScope N_law ["_law_script"] (defScope s_law) := ⟨rfl, rfl, rfl, by decide +kernel, rfl, by decide +kernel, by decide +kernel⟩
abbrev s_InvalidNumber_init : Stmt := inClass (topS 5) 0
abbrev s_InvalidThing_init : Stmt := inClass (topS 6) 0
abbrev s_InvalidName_init : Stmt := inClass (topS 7) 0
abbrev s_InvalidTerm_init : Stmt := inClass (topS 8) 0
abbrev s_InvalidText_init : Stmt := inClass (topS 9) 0
abbrev s_DegreeTooHigh_init : Stmt := inClass (topS 10) 0
abbrev s_NoInverse_init : Stmt := inClass (topS 11) 0
abbrev s_UnknownName_init : Stmt := inClass (topS 12) 0
abbrev s_NothingLeft_init : Stmt := inClass (topS 13) 0
abbrev s_Form_init : Stmt := inClass (topS 36) 0
abbrev s_Form_read : Stmt := inClass (topS 36) 1
abbrev s_Form_word : Stmt := inClass (topS 36) 2
abbrev s_Form_degree : Stmt := inClass (topS 36) 3
abbrev s_Form_divisor : Stmt := inClass (topS 36) 4
abbrev s_Form_text : Stmt := inClass (topS 36) 5
abbrev s_Form_words : Stmt := inClass (topS 36) 6
abbrev s_Form_names : Stmt := inClass (topS 36) 7
abbrev s_Form_share_of : Stmt := inClass (topS 36) 8
abbrev s_Form_scaled : Stmt := inClass (topS 36) 9
abbrev s_Form_value : Stmt := inClass (topS 36) 10
abbrev s_Form_add : Stmt := inClass (topS 36) 11
abbrev s_Form_sub : Stmt := inClass (topS 36) 12
abbrev s_Form_neg : Stmt := inClass (topS 36) 13
abbrev s_Form_mul : Stmt := inClass (topS 36) 14
abbrev s_Form_len : Stmt := inClass (topS 36) 15
abbrev s_Form_eq : Stmt := inClass (topS 36) 16
abbrev s_Form_repr : Stmt := inClass (topS 36) 17
abbrev N_Form_init : List Str := ["self", "terms", "at", "term", "word", "p", "q"]
theorem sc_Form_init : FnScope N_Form_init ["self", "terms"] (defScope s_Form_init) := ⟨rfl, rfl, rfl, by decide +kernel, rfl, by decide +kernel, by decide +kernel⟩
abbrev N_Form_read : List Str := ["text"]
theorem sc_Form_read : FnScope N_Form_read ["text"] (defScope s_Form_read) := ⟨rfl, rfl, rfl, by decide +kernel, rfl, by decide +kernel, by decide +kernel⟩
abbrev N_Form_word : List Str := ["names", "name"]
theorem sc_Form_word : FnScope N_Form_word ["names"] (defScope s_Form_word) := ⟨rfl, rfl, rfl, by decide +kernel, rfl, by decide +kernel, by decide +kernel⟩
abbrev N_Form_degree : List Str := ["self", "word"]
theorem sc_Form_degree : FnScope N_Form_degree ["self"] (defScope s_Form_degree) := ⟨rfl, rfl, rfl, by decide +kernel, rfl, by decide +kernel, by decide +kernel⟩
abbrev N_Form_divisor : List Str := ["self"]
theorem sc_Form_divisor : FnScope N_Form_divisor ["self"] (defScope s_Form_divisor) := ⟨rfl, rfl, rfl, by decide +kernel, rfl, by decide +kernel, by decide +kernel⟩
abbrev N_Form_text : List Str := ["self", "result", "word", "p", "q", "sign"]
theorem sc_Form_text : FnScope N_Form_text ["self"] (defScope s_Form_text) := ⟨rfl, rfl, rfl, by decide +kernel, rfl, by decide +kernel, by decide +kernel⟩
abbrev N_Form_words : List Str := ["self"]
theorem sc_Form_words : FnScope N_Form_words ["self"] (defScope s_Form_words) := ⟨rfl, rfl, rfl, by decide +kernel, rfl, by decide +kernel, by decide +kernel⟩
abbrev N_Form_names : List Str := ["self", "word", "name"]
theorem sc_Form_names : FnScope N_Form_names ["self"] (defScope s_Form_names) := ⟨rfl, rfl, rfl, by decide +kernel, rfl, by decide +kernel, by decide +kernel⟩
abbrev N_Form_share_of : List Str := ["self", "names"]
theorem sc_Form_share_of : FnScope N_Form_share_of ["self", "names"] (defScope s_Form_share_of) := ⟨rfl, rfl, rfl, by decide +kernel, rfl, by decide +kernel, by decide +kernel⟩
abbrev N_Form_scaled : List Str := ["self", "p", "q", "factor", "word", "amount"]
theorem sc_Form_scaled : FnScope N_Form_scaled ["self", "p", "q"] (defScope s_Form_scaled) := ⟨rfl, rfl, rfl, by decide +kernel, rfl, by decide +kernel, by decide +kernel⟩
abbrev N_Form_value : List Str := ["self", "ring", "things", "name", "_", "q", "total", "word", "p"]
theorem sc_Form_value : FnScope N_Form_value ["self", "ring", "things"] (defScope s_Form_value) := ⟨rfl, rfl, rfl, by decide +kernel, rfl, by decide +kernel, by decide +kernel⟩
abbrev N_Form_add : List Str := ["self", "other"]
theorem sc_Form_add : FnScope N_Form_add ["self", "other"] (defScope s_Form_add) := ⟨rfl, rfl, rfl, by decide +kernel, rfl, by decide +kernel, by decide +kernel⟩
abbrev N_Form_sub : List Str := ["self", "other"]
theorem sc_Form_sub : FnScope N_Form_sub ["self", "other"] (defScope s_Form_sub) := ⟨rfl, rfl, rfl, by decide +kernel, rfl, by decide +kernel, by decide +kernel⟩
abbrev N_Form_neg : List Str := ["self"]
theorem sc_Form_neg : FnScope N_Form_neg ["self"] (defScope s_Form_neg) := ⟨rfl, rfl, rfl, by decide +kernel, rfl, by decide +kernel, by decide +kernel⟩
abbrev N_Form_mul : List Str := ["self", "other", "v", "x", "w", "y"]
theorem sc_Form_mul : FnScope N_Form_mul ["self", "other"] (defScope s_Form_mul) := ⟨rfl, rfl, rfl, by decide +kernel, rfl, by decide +kernel, by decide +kernel⟩
abbrev N_Form_len : List Str := ["self"]
theorem sc_Form_len : FnScope N_Form_len ["self"] (defScope s_Form_len) := ⟨rfl, rfl, rfl, by decide +kernel, rfl, by decide +kernel, by decide +kernel⟩
abbrev N_Form_eq : List Str := ["self", "other"]
theorem sc_Form_eq : FnScope N_Form_eq ["self", "other"] (defScope s_Form_eq) := ⟨rfl, rfl, rfl, by decide +kernel, rfl, by decide +kernel, by decide +kernel⟩
abbrev N_Form_repr : List Str := ["self"]
theorem sc_Form_repr : FnScope N_Form_repr ["self"] (defScope s_Form_repr) := ⟨rfl, rfl, rfl, by decide +kernel, rfl, by decide +kernel, by decide +kernel⟩
structure Blt (mg : Str → Option Value) : Prop where
  IndexError : mg "IndexError" = none
  LookupError : mg "LookupError" = none
  ValueError : mg "ValueError" = none
  abs : mg "abs" = none
  all : mg "all" = none
  bool : mg "bool" = none
  divmod : mg "divmod" = none
  enumerate : mg "enumerate" = none
  int : mg "int" = none
  isinstance : mg "isinstance" = none
  len : mg "len" = none
  list : mg "list" = none
  max : mg "max" = none
  range : mg "range" = none
  set : mg "set" = none
  sorted : mg "sorted" = none
  str : mg "str" = none
  tuple : mg "tuple" = none
  zip : mg "zip" = none
theorem bb_IndexError : bootBuiltins "IndexError" = some (.type "IndexError") := by decide +kernel
theorem bb_LookupError : bootBuiltins "LookupError" = some (.type "LookupError") := by decide +kernel
theorem bb_ValueError : bootBuiltins "ValueError" = some (.type "ValueError") := by decide +kernel
theorem bb_abs : bootBuiltins "abs" = some (.builtin "abs") := by decide +kernel
theorem bb_all : bootBuiltins "all" = some (.builtin "all") := by decide +kernel
theorem bb_bool : bootBuiltins "bool" = some (.type "bool") := by decide +kernel
theorem bb_divmod : bootBuiltins "divmod" = some (.builtin "divmod") := by decide +kernel
theorem bb_enumerate : bootBuiltins "enumerate" = some (.type "enumerate") := by decide +kernel
theorem bb_int : bootBuiltins "int" = some (.type "int") := by decide +kernel
theorem bb_isinstance : bootBuiltins "isinstance" = some (.builtin "isinstance") := by decide +kernel
theorem bb_len : bootBuiltins "len" = some (.builtin "len") := by decide +kernel
theorem bb_list : bootBuiltins "list" = some (.type "list") := by decide +kernel
theorem bb_max : bootBuiltins "max" = some (.builtin "max") := by decide +kernel
theorem bb_range : bootBuiltins "range" = some (.type "range") := by decide +kernel
theorem bb_set : bootBuiltins "set" = some (.type "set") := by decide +kernel
theorem bb_sorted : bootBuiltins "sorted" = some (.builtin "sorted") := by decide +kernel
theorem bb_str : bootBuiltins "str" = some (.type "str") := by decide +kernel
theorem bb_tuple : bootBuiltins "tuple" = some (.type "tuple") := by decide +kernel
theorem bb_zip : bootBuiltins "zip" = some (.type "zip") := by decide +kernel
/-! ### an own def by its name -/
structure Has (P : Program) (w : World) (K : PySem.W.Frag) (mg : Str → Option Value) (base : Heap) (k : Nat) (x : Str) (ps : List Str) (sp : Sp) : Prop where
  ex : ∃ (f : Addr) (fd : FuncData), FnOk P w K mg base CX0 k f fd ps sp ∧ mg x = some (.ref f) ∧ PySem.W.keepIn K (.ref f) = true ∧ Binds K fd ps []
structure Fn (K : PySem.W.Frag) (mg : Str → Option Value) (x : Str) (st : Stmt) (ps : List Str) : Prop where
  ex : ∃ (f : Addr) (fd : FuncData), Fun K x x st f fd ∧ mg x = some (.ref f) ∧ Binds K fd ps []
section
variable {X : Cx} {k : Nat} {x : Str} {ps : List Str} {sp : Sp} {p pos : Pos} {e : Expr} {es : List Expr} {t : TA}
theorem pe_own (h : Has X.prog X.w X.K X.mg X.base k x ps sp) (hr : Room k X.A) (hg : Gl X x) (ha : PA X (e :: es) t) (hdb : (x == ("__debug__" : Str)) = false := by decide)
    (he : starEach (e :: es) X.env = (false, eval e X.env) :: starEach es X.env := by rfl) (hpl : (backTo pos (starEach es X.env)).any (·.1) = false := by rfl) : PE X (.Call (.Name x p) (e :: es) [] pos) (tCall sp [] E0 t) := by
  obtain ⟨f, fd, F, m, kp, b⟩ := h.ex
  exact pe_call F hr hg m kp b .nil pass0 ha hdb he hpl
theorem pe_own0 (h : Has X.prog X.w X.K X.mg X.base k x ps sp) (hr : Room k X.A) (hg : Gl X x) (hdb : (x == ("__debug__" : Str)) = false := by decide) : PE X (.Call (.Name x p) [] [] pos) (tCall sp [] E0 tNil) := by
  obtain ⟨f, fd, F, m, kp, b⟩ := h.ex
  exact pe_call0 F hr hg m kp b .nil pass0 hdb
theorem pe_gstr {z : Str} (h : ∃ u, X.mg x = some (.str z u)) (hg : Gl X x) (hdb : (x == ("__debug__" : Str)) = false := by decide) : PE X (.Name x pos) (tC (.str z)) := by
  obtain ⟨u, h⟩ := h
  exact pe_glob hg h ⟨_, rfl⟩ hdb
theorem pe_gint {z : Int} (h : ∃ u, X.mg x = some (.int z u)) (hg : Gl X x) (hdb : (x == ("__debug__" : Str)) = false := by decide) : PE X (.Name x pos) (tC (.int z)) := by
  obtain ⟨u, h⟩ := h
  exact pe_glob hg h ⟨_, rfl⟩ hdb
theorem pe_gref {a : Addr} (h : X.mg x = some (.ref a)) (hg : Gl X x) (hdb : (x == ("__debug__" : Str)) = false := by decide) : PE X (.Name x pos) (tC (.ref a)) := pe_glob hg h rfl hdb
end
section
variable {P : Program} {w : World} {K : PySem.W.Frag} {mg : Str → Option Value} {base : Heap}
theorem Fn.has {x : Str} {st : Stmt} {N ps : List Str} {k : Nat} {sp : Sp} (F : Fn K mg x st ps) (S : FnScope N ps (defScope st)) (len : ∀ vs H Q E, sp vs H Q E → vs.length = ps.length)
    (hbody : ∀ (f : Addr) (cdv : Value) (A : Around) (outer : List Env) (s : Shared) (H : Hp) (vs : List V) (Q : VK) (E : XK), Room k (A.deeper (envOfC x (defScope st) s.heap.objs.size f cdv)) → sp vs H Q E →
      ∃ t, PSs (cxOf CX0 P w K mg base N x (defScope st) f cdv A outer s H E).nox (defBody st) t ∧ t { nx := fun _ H' => Q .non H', rt := Q } (start N vs) H) : Has P w K mg base (k + 1) x ps sp := by
  obtain ⟨f, fd, F, m, b⟩ := F.ex
  exact ⟨f, fd, F.ok S len (hbody f), m, F.kp, b⟩
end
/-! ### heaps -/
theorem same_upd {H : Hp} {p : Addr} {o : HO} (h : H p = none) : Same H (upd H p o) := fun b x e => by
  rw [upd_ne (ne_of_none e h)]
  exact e
/-- all that was tracked is as it was, but for b -/
def Kp (b : Addr) (H H' : Hp) : Prop := ∀ a o, a ≠ b → H a = some o → H' a = some o
theorem Kp.refl (b : Addr) (H : Hp) : Kp b H H := fun _ _ _ h => h
theorem Kp.trans {b : Addr} {H H1 H2 : Hp} (x : Kp b H H1) (y : Kp b H1 H2) : Kp b H H2 := fun a o n h => y a o n (x a o n h)
theorem Kp.of {b : Addr} {H H' : Hp} (s : Same H H') : Kp b H H' := fun a o _ h => s a o h
theorem Kp.upd {b : Addr} {H : Hp} {o : HO} : Kp b H (upd H b o) := fun a u n h => by rw [upd_ne n]; exact h
/-! ### the bag -/
structure BgAt (H : Hp) (b c : Addr) (ns : List Int) (i r m : Int) : Prop where
  hb : H b = some (.lst [.ref c, .int i, .int r, .int m])
  hc : H c = some (.lst (ns.map V.int))
  len : ns.length ≤ 63
  i0 : 0 ≤ i
  r0 : 0 ≤ r
  m0 : 0 ≤ m
  m1 : m < 2147483648
def Bg (H : Hp) (b c : Addr) : Prop := ∃ ns i r m, BgAt H b c ns i r m
theorem bg_ne {H : Hp} {b c : Addr} {x : V} {r : List V} {ns : List Int} {a : Addr} (hb : H b = some (.lst (.ref a :: r))) (hc : H c = some (.lst (ns.map V.int))) : c ≠ b := by
  refine ne_of hc hb fun e => ?_
  cases ns with
  | nil => cases e
  | cons n t => cases e
theorem BgAt.ne {H : Hp} {b c : Addr} {ns : List Int} {i r m : Int} (h : BgAt H b c ns i r m) : c ≠ b := bg_ne (x := .non) h.hb h.hc
theorem BgAt.put {H : Hp} {b c : Addr} {ns : List Int} {i r m i' r' m' : Int} (h : BgAt H b c ns i r m) (i0 : 0 ≤ i') (r0 : 0 ≤ r') (m0 : 0 ≤ m') (m1 : m' < 2147483648) :
    BgAt (upd H b (.lst [.ref c, .int i', .int r', .int m'])) b c ns i' r' m' := ⟨upd_same, by rw [upd_ne h.ne]; exact h.hc, h.len, i0, r0, m0, m1⟩
theorem Bg.same {H H' : Hp} {b c : Addr} (h : Bg H b c) (s : Same H H') : Bg H' b c := by
  obtain ⟨ns, i, r, m, h⟩ := h
  exact ⟨ns, i, r, m, s _ _ h.hb, s _ _ h.hc, h.len, h.i0, h.r0, h.m0, h.m1⟩
theorem Bg.kp {H H' : Hp} {b c d : Addr} (h : Bg H b c) (hd : d ≠ b) (hc : d ≠ c) (s : Kp d H H') : Bg H' b c := by
  obtain ⟨ns, i, r, m, h⟩ := h
  exact ⟨ns, i, r, m, s _ _ hd.symm h.hb, s _ _ hc.symm h.hc, h.len, h.i0, h.r0, h.m0, h.m1⟩
theorem cut63 {xs : List V} (h : xs.length ≤ 63) : cutV xs none (some 63) = xs := by
  unfold cutV
  rw [HT.sIx_none, show HT.sIx xs.length xs.length (some 63) = min 63 xs.length from HT.sIx_nat xs.length xs.length 63, List.drop_zero, Nat.sub_zero]
  exact List.take_of_length_le (by omega)
theorem at_ofG {α : Type} {xs : List α} {z : Int} {j : Nat} {v : α} (e : z = (j : Int)) (h : xs[j]? = some v) : atI xs z = some v := by
  rw [e]
  exact atI_nat h
def spBag (K : PySem.W.Frag) : Sp := fun vs H Q _ => ∃ (a : Addr) (ns : List Int), vs = [.ref a] ∧ SqL K H a (ns.map V.int) ∧ ns.length ≤ 63 ∧ ∀ (b c : Addr) (H' : Hp), Same H H' → H b = none → Bg H' b c → Q (.ref b) H'
def spDraw : Sp := fun vs H Q _ => ∃ (b c : Addr) (many : Int), vs = [.ref b, .int many] ∧ Bg H b c ∧ 1 ≤ many ∧ many < 2 ^ 200 ∧ ∀ (v : Int) (H' : Hp), 0 ≤ v → v < many → Kp b H H' → Bg H' b c → Q (.int v) H'
section
variable {P : Program} {w : World} {K : PySem.W.Frag} {mg : Str → Option Value} {base : Heap}
theorem ok_bag (F : Fn K mg "_law_bag" s_l_bag ["_law_script"]) (B : Blt mg) : Has P w K mg base 1 "_law_bag" ["_law_script"] (spBag K) := by
  refine F.has sc_l_bag (fun vs H Q E h => ?_) (fun f cdv A outer s H vs Q E hr h => ?_)
  · obtain ⟨a, ns, rfl, _⟩ := h
    rfl
  obtain ⟨a, ns, rfl, hS, hl, q⟩ := h
  refine ⟨_, (pss_cons (ps_set (i := 1) sc_l_bag.nd rfl (Or.inl rfl) (pe_callTy call_list_of (by rfl) B.list bb_list (pa_cons (pe_slice sl_list (pv 0) po_none (po_some pe_int)) pa_nil)))
      (pss_one (ps_ret (pe_lst (pa_cons (pv 1) (pa_cons pe_int (pa_cons pe_int (pa_cons (pe_op op_add pe_int (pe_op op_mul pe_int (pe_callB call_len (by rfl) B.len bb_len (pa_cons (pv 1) pa_nil)))) pa_nil)))))))), ?_⟩
  have hl' : (ns.map V.int).length ≤ 63 := by rw [List.length_map]; exact hl
  refine ⟨_, rfl, 63, rfl, a, _, rfl, hS, fun p hp => ?_⟩
  rw [cut63 hl']
  refine ⟨p, _, rfl, .inl (SqL.of upd_same), fun c hc => ?_⟩
  have sm : Same H (upd (upd H p (.lst (ns.map V.int))) c (.lst (ns.map V.int))) := (same_upd hp).trans (same_upd hc)
  refine ⟨_, rfl, _, rfl, .ref c, _, rfl, .inl ⟨_, SqL.of upd_same, rfl⟩, _, _, rfl, rfl, .inl ⟨by decide, by decide⟩, _, _, rfl, rfl, (by show 4 ≤ sizeLine; decide), fun b hb => ?_⟩
  refine q b c _ (sm.trans (same_upd hb)) (sm.free hb) ⟨ns, 0, 0, _, upd_same, ?_, hl, Int.le_refl _, Int.le_refl _, ?_, ?_⟩
  · rw [upd_ne (ne_of_none upd_same hb)]
    exact upd_same
  · omega
  · rw [List.length_map]
    omega
theorem div200 {y z : Int} (h : 1 ≤ z) (h2 : z < 2 ^ 200) : CDivW y z := by
  refine wide_div (b := 200) (by omega) ?_ (by decide) (by decide)
  omega
theorem ok_draw (F : Fn K mg "_law_draw" s_l_draw ["_law_bag_here", "_law_many"]) (B : Blt mg) : Has P w K mg base 1 "_law_draw" ["_law_bag_here", "_law_many"] spDraw := by
  refine F.has sc_l_draw (fun vs H Q E h => ?_) (fun f cdv A outer s H vs Q E hr h => ?_)
  · obtain ⟨a, c, ns, rfl, _⟩ := h
    rfl
  obtain ⟨b, c, many, rfl, hB, h1, h2, q⟩ := h
  refine ⟨_, (C8.pss_cut (ps_if (PW.pt (pw_and (pt_cmpR op_eq (pe_ix ix_list (pv 0) pe_int (fun _ _ => rfl)) pe_int (nomark _)) (pw_and1 (pt_cmpR op_lt (pe_ix ix_list (pv 0) pe_int (fun _ _ => rfl)) (pe_callB call_len (by rfl) B.len bb_len (pa_cons (pe_ix ix_list (pv 0) pe_int (fun _ _ => rfl)) pa_nil)) (nomark _)))))
        (pss_cons (ps_set (i := 2) sc_l_draw.nd rfl (Or.inl rfl) (pe_ix ix_list (pe_ix ix_list (pv 0) pe_int (fun _ _ => rfl)) (pe_ix ix_list (pv 0) pe_int (fun _ _ => rfl)) (fun _ _ => rfl)))
      (pss_cons (ps_asg (pe_op op_add (pe_ix ix_list (pv 0) pe_int (fun _ _ => rfl)) pe_int) (pg_sub (pv 0) pe_int set_list))
      (pss_one (ps_if (pt_cmpR op_ge (pe_callB call_abs (by rfl) B.abs bb_abs (pa_cons (pv 2) pa_nil)) (pe_op op_pow pe_int pe_int) (nomark _))
        (pss_one (ps_asg (pe_callB call_abs (by rfl) B.abs bb_abs (pa_cons (pv 2) pa_nil)) (pg_sub (pv 0) pe_int set_list)))
        (pss_one (ps_asg (pe_op op_mod (pe_callTy call_int1 (by rfl) B.int bb_int (pa_cons (pe_op op_add (pe_op op_add (pe_op op_mul (pe_ix ix_list (pv 0) pe_int (fun _ _ => rfl)) pe_int) (pe_op op_mul (pe_op op_mod (pe_callTy call_int1 (by rfl) B.int bb_int (pa_cons (pv 2) pa_nil)) pe_int) pe_int)) pe_int) pa_nil)) pe_int) (pg_sub (pv 0) pe_int set_list)))))))
        pss_nil)
      (pss_cons (ps_if (pt_cmpR op_gt (pe_ix ix_list (pv 0) pe_int (fun _ _ => rfl)) pe_int (nomark _))
        (pss_cons (ps_set (i := 3) sc_l_draw.nd rfl (Or.inl rfl) (pe_op op_mod (pe_callTy call_int1 (by rfl) B.int bb_int (pa_cons (pe_ix ix_list (pv 0) pe_int (fun _ _ => rfl)) pa_nil)) (pv 1)))
      (pss_cons (ps_asg (pe_op op_fdivW (pe_ix ix_list (pv 0) pe_int (fun _ _ => rfl)) (pv 1)) (pg_sub (pv 0) pe_int set_list))
      (pss_one (ps_ret (pv 3)))))
        pss_nil)
      (pss_cons (ps_asg (pe_op op_mod (pe_callTy call_int1 (by rfl) B.int bb_int (pa_cons (pe_op op_add (pe_op op_add (pe_op op_mul (pe_op op_mul (pe_ix ix_list (pv 0) pe_int (fun _ _ => rfl)) (pe_ix ix_list (pv 0) pe_int (fun _ _ => rfl))) pe_int) (pe_op op_mul (pe_ix ix_list (pv 0) pe_int (fun _ _ => rfl)) pe_int)) pe_int) pa_nil)) pe_int) (pg_sub (pv 0) pe_int set_list))
      (pss_one (ps_ret (pe_op op_mod (pe_callTy call_int1 (by rfl) B.int bb_int (pa_cons (pe_op op_fdiv (pe_ix ix_list (pv 0) pe_int (fun _ _ => rfl)) pe_int) pa_nil)) (pv 1))))))), ?_⟩
  refine ⟨fun σ' H' => ∃ y, σ' = [some (.ref b), some (.int many), y, none] ∧ Kp b H H' ∧ Bg H' b c, ?_, ?_⟩
  · obtain ⟨ns, i, r, m, g⟩ := hB
    refine ⟨_, rfl, b, _, 2, _, rfl, rfl, SqL.of g.hb, atI_nat (j := 2) rfl, rfl, _, rfl, ite2 (fun e => ?_) (fun e => ?_)⟩
    · refine ⟨_, rfl, b, _, 1, _, rfl, rfl, SqL.of g.hb, atI_nat (j := 1) rfl, _, rfl, b, _, 0, _, rfl, rfl, SqL.of g.hb, atI_nat (j := 0) rfl, .ref c, _, rfl, .inl ⟨_, SqL.of g.hc, rfl⟩, _, _, rfl, rfl, _, rfl, ite2 (fun e2 => ?_) (fun e2 => ?_)⟩
      · have hi : i < ((ns.map V.int).length : Int) := of_decide_eq_true e2
        rw [List.length_map] at hi
        have i0 := g.i0
        obtain ⟨x, hx⟩ : ∃ x : Int, atI (ns.map V.int) i = some (.int x) := by
          have hk : i.toNat < ns.length := by omega
          have ek : i = ((i.toNat : Nat) : Int) := by omega
          exact ⟨ns[i.toNat], at_of ek (by rw [List.getElem?_map]; simp [hk])⟩
        refine ⟨_, rfl, b, _, 0, _, rfl, rfl, SqL.of g.hb, atI_nat (j := 0) rfl, _, rfl, b, _, 1, _, rfl, rfl, SqL.of g.hb, atI_nat (j := 1) rfl, c, _, i, .int x, rfl, rfl, SqL.of g.hc, hx, ?_⟩
        refine ⟨_, rfl, b, _, 1, _, rfl, rfl, SqL.of g.hb, atI_nat (j := 1) rfl, _, _, rfl, rfl, _, rfl, b, _, 1, 1, rfl, rfl, g.hb, rfl, ?_⟩
        have g1 := g.put (i' := i + 1) (r' := r) (m' := m) (by omega) g.r0 g.m0 g.m1
        refine ⟨_, rfl, x, rfl, _, _, rfl, rfl, ⟨by decide, by decide, by decide⟩, _, _, rfl, rfl, _, rfl, ite2 (fun e3 => ?_) (fun e3 => ?_)⟩
        · refine ⟨_, rfl, x, rfl, _, rfl, b, _, 2, 2, rfl, rfl, g1.hb, rfl, ?_⟩
          refine ⟨_, rfl, Kp.upd.trans Kp.upd, ns, i + 1, _, m, g1.put g1.i0 ?_ g1.m0 g1.m1⟩
          split <;> omega
        · refine ⟨_, rfl, b, _, 3, _, rfl, rfl, SqL.of g1.hb, atI_nat (j := 3) rfl, _, _, rfl, rfl, .inr ⟨by decide, by decide⟩, _, rfl, .inl ⟨_, rfl, _, _, rfl, rfl, (show (0 : Int) < 1000171 by decide), _, _, rfl, rfl, .inr ⟨by decide, by decide⟩, _, _, rfl, rfl, _, _, rfl, rfl, .inl ⟨_, rfl, _, _, rfl, rfl, (show (0 : Int) < 2147483563 by decide), _, rfl, b, _, 3, 3, rfl, rfl, g1.hb, rfl, ?_⟩⟩⟩
          refine ⟨_, rfl, Kp.upd.trans Kp.upd, ns, i + 1, r, _, g1.put g1.i0 g1.r0 (Int.emod_nonneg _ (by decide)) ?_⟩
          have z := Int.emod_lt_of_pos (m * 41177 + x % 1000171 * 907 + 59) (show (0 : Int) < 2147483563 by decide)
          omega
      · exact ⟨_, rfl, Kp.refl _ _, ns, i, r, m, g⟩
    · exact ⟨_, rfl, Kp.refl _ _, ns, i, r, m, g⟩
  · rintro σ' H' ⟨y, rfl, kp, ns, i, r, m, g⟩
    refine ⟨_, rfl, b, _, 2, _, rfl, rfl, SqL.of g.hb, atI_nat (j := 2) rfl, _, _, rfl, rfl, _, rfl, ite2 (fun e => ?_) (fun e => ?_)⟩
    · have hm : 0 < many := by omega
      refine ⟨_, rfl, b, _, 2, _, rfl, rfl, SqL.of g.hb, atI_nat (j := 2) rfl, .inl ⟨_, rfl, _, rfl, _, _, rfl, rfl, hm, ?_⟩⟩
      refine ⟨_, rfl, b, _, 2, _, rfl, rfl, SqL.of g.hb, atI_nat (j := 2) rfl, _, rfl, _, _, rfl, rfl, div200 h1 h2, _, rfl, b, _, 2, 2, rfl, rfl, g.hb, rfl, ?_⟩
      have g1 := g.put (i' := i) (r' := r / many) (m' := m) g.i0 (Int.ediv_nonneg g.r0 (by omega)) g.m0 g.m1
      refine ⟨_, rfl, q _ _ (Int.emod_nonneg _ (by omega)) (Int.emod_lt_of_pos _ hm) (kp.trans Kp.upd) ⟨ns, i, _, m, g1⟩⟩
    · refine ⟨_, rfl, b, _, 3, _, rfl, rfl, SqL.of g.hb, atI_nat (j := 3) rfl, _, rfl, b, _, 3, _, rfl, rfl, SqL.of g.hb, atI_nat (j := 3) rfl, _, _, rfl, rfl, ?_, ?_⟩
      · have h3 := g.m0
        have h4 := g.m1
        exact .inl ⟨by omega, by omega⟩
      · refine ⟨_, _, rfl, rfl, .inr ⟨by decide, by decide⟩, _, rfl, b, _, 3, _, rfl, rfl, SqL.of g.hb, atI_nat (j := 3) rfl, _, _, rfl, rfl, .inr ⟨by decide, by decide⟩, _, _, rfl, rfl, _, _, rfl, rfl, .inl ⟨_, rfl, _, _, rfl, rfl, (show (0 : Int) < 2147483579 by decide), _, rfl, b, _, 3, 3, rfl, rfl, g.hb, rfl, ?_⟩⟩
        have z := Int.emod_lt_of_pos (m * m * 3 + m * 30089 + 1700047) (show (0 : Int) < 2147483579 by decide)
        have g1 := g.put (i' := i) (r' := r) (m' := (m * m * 3 + m * 30089 + 1700047) % 2147483579) g.i0 g.r0 (Int.emod_nonneg _ (by decide)) (by omega)
        have hm : 0 < many := by omega
        refine ⟨_, rfl, b, _, 3, _, rfl, rfl, SqL.of g1.hb, atI_nat (j := 3) rfl, _, _, rfl, rfl, ⟨by decide, by decide⟩, .inl ⟨_, rfl, _, rfl, _, _, rfl, rfl, hm, ?_⟩⟩
        exact q _ _ (Int.emod_nonneg _ (by omega)) (Int.emod_lt_of_pos _ hm) (kp.trans Kp.upd) ⟨ns, i, r, _, g1⟩
/-- an item of some list or sign of some text, by a draw -/
def spPick (K : PySem.W.Frag) : Sp := fun vs H Q _ => ∃ (b c : Addr) (x : V), vs = [.ref b, x] ∧ Bg H b c ∧
  ((∃ (a : Addr) (xs : List V), x = .ref a ∧ a ≠ b ∧ H a = some (.lst xs) ∧ xs ≠ [] ∧ xs.length ≤ 1000 ∧ ∀ (v : V) (H' : Hp), v ∈ xs → Kp b H H' → Bg H' b c → Q v H') ∨
   (∃ z : Str, x = .str z ∧ 0 < z.cps.size ∧ z.cps.size ≤ 1000 ∧ ∀ (d : Nat) (H' : Hp), d ∈ z.cps.toList → Kp b H H' → Bg H' b c → Q (.str ⟨#[d]⟩) H'))
theorem ok_pick (F : Fn K mg "_law_pick" s_l_pick ["_law_bag_here", "_law_some"]) (B : Blt mg) (G_l_draw : Has P w K mg base 1 "_law_draw" ["_law_bag_here", "_law_many"] spDraw) : Has P w K mg base 2 "_law_pick" ["_law_bag_here", "_law_some"] (spPick K) := by
  refine F.has sc_l_pick (fun vs H Q E h => ?_) (fun f cdv A outer s H vs Q E hr h => ?_)
  · obtain ⟨a, c, ns, rfl, _⟩ := h
    rfl
  obtain ⟨b, c, x, rfl, hB, h⟩ := h
  refine ⟨_, (pss_one (ps_ret (pe_ix ix_seq (pv 1) (pe_own G_l_draw (hr.mono (by decide)) (by rfl) (pa_cons (pv 0) (pa_cons (pe_callB call_len (by rfl) B.len bb_len (pa_cons (pv 1) pa_nil)) pa_nil))) (fun _ _ => rfl)))), ?_⟩
  rcases h with ⟨a, xs, rfl, hab, ha, hne, hlen, q⟩ | ⟨z, rfl, h0, hlen, q⟩
  · have hpos : 0 < xs.length := List.length_pos_iff.mpr hne
    refine ⟨_, rfl, _, rfl, _, rfl, .ref a, xs.length, rfl, .inl ⟨xs, SqL.of ha, rfl⟩, b, c, _, rfl, hB, by omega, by omega, fun v H' v0 v1 kp hB' => ?_⟩
    have hk : v.toNat < xs.length := by omega
    refine .inl ⟨a, xs, v, xs[v.toNat], rfl, rfl, SqL.of (kp _ _ hab ha), at_of (show v = ((v.toNat : Nat) : Int) by omega) (List.getElem?_eq_getElem hk), ?_⟩
    exact q _ _ (List.getElem_mem hk) kp hB'
  · refine ⟨_, rfl, _, rfl, _, rfl, .str z, z.length, rfl, ⟨by show z.cps.size ≤ sizeLine; exact Nat.le_of_lt (small1000 hlen), rfl⟩, b, c, _, rfl, hB, by show (1 : Int) ≤ (z.cps.size : Int); omega, by show (z.cps.size : Int) < 2 ^ 200; omega, fun v H' v0 v1 kp hB' => ?_⟩
    have hk : v.toNat < z.cps.toList.length := by
      have v1' : v < (z.cps.size : Int) := v1
      rw [Array.length_toList]
      omega
    refine .inr (.inr ⟨z, v, z.cps.toList[v.toNat], rfl, rfl, by show z.cps.size ≤ sizeLine; exact Nat.le_of_lt (small1000 hlen), at_ofG (show v = ((v.toNat : Nat) : Int) by omega) (List.getElem?_eq_getElem hk), ?_⟩)
    exact q _ _ (List.getElem_mem hk) kp hB'
end
/-! ### the same data -/
def leafV : V → Prop
  | .non => True
  | .bl _ => True
  | .int _ => True
  | .str _ => True
  | _ => False
/-- two values that stand for the same data, so deep at most -/
def Eqd (H : Hp) : Nat → V → V → Prop
  | 0 => fun _ _ => False
  | n + 1 => fun x y => (x = y ∧ leafV x) ∨
    (∃ (a b : Addr) (xs ys : List V), x = .ref a ∧ y = .ref b ∧ H a = some (.lst xs) ∧ H b = some (.lst ys) ∧ xs.length ≤ 1000 ∧ Paired (Eqd H n) xs ys) ∨
    (∃ (a b : Addr) (xs ys : List V), x = .ref a ∧ y = .ref b ∧ H a = some (.tup xs) ∧ H b = some (.tup ys) ∧ xs.length ≤ 1000 ∧ Paired (Eqd H n) xs ys)
theorem Eqd.leaf {H : Hp} {n : Nat} {x : V} (h : leafV x) : Eqd H (n + 1) x x := .inl ⟨rfl, h⟩
theorem Eqd.lst {H : Hp} {n : Nat} {a b : Addr} {xs ys : List V} (ha : H a = some (.lst xs)) (hb : H b = some (.lst ys)) (hl : xs.length ≤ 1000) (h : Paired (Eqd H n) xs ys) : Eqd H (n + 1) (.ref a) (.ref b) := .inr (.inl ⟨a, b, xs, ys, rfl, rfl, ha, hb, hl, h⟩)
theorem Eqd.tup {H : Hp} {n : Nat} {a b : Addr} {xs ys : List V} (ha : H a = some (.tup xs)) (hb : H b = some (.tup ys)) (hl : xs.length ≤ 1000) (h : Paired (Eqd H n) xs ys) : Eqd H (n + 1) (.ref a) (.ref b) := .inr (.inr ⟨a, b, xs, ys, rfl, rfl, ha, hb, hl, h⟩)
theorem Eqd.mono {H H' : Hp} (s : Same H H') : ∀ {n : Nat} {x y : V}, Eqd H n x y → Eqd H' n x y
  | 0, _, _, h => h
  | n + 1, x, y, h => by
    rcases h with h | ⟨a, b, xs, ys, h1, h2, h3, h4, h5, h6⟩ | ⟨a, b, xs, ys, h1, h2, h3, h4, h5, h6⟩
    · exact .inl h
    · exact .inr (.inl ⟨a, b, xs, ys, h1, h2, s _ _ h3, s _ _ h4, h5, Paired.mapP h6 fun _ _ z => Eqd.mono s z⟩)
    · exact .inr (.inr ⟨a, b, xs, ys, h1, h2, s _ _ h3, s _ _ h4, h5, Paired.mapP h6 fun _ _ z => Eqd.mono s z⟩)
theorem Eqd.up {H : Hp} : ∀ {n : Nat} {x y : V}, Eqd H n x y → Eqd H (n + 1) x y
  | 0, _, _, h => h.elim
  | n + 1, x, y, h => by
    rcases h with h | ⟨a, b, xs, ys, h1, h2, h3, h4, h5, h6⟩ | ⟨a, b, xs, ys, h1, h2, h3, h4, h5, h6⟩
    · exact .inl h
    · exact .inr (.inl ⟨a, b, xs, ys, h1, h2, h3, h4, h5, Paired.mapP h6 fun _ _ z => Eqd.up z⟩)
    · exact .inr (.inr ⟨a, b, xs, ys, h1, h2, h3, h4, h5, Paired.mapP h6 fun _ _ z => Eqd.up z⟩)
theorem paired_get {F : V → V → Prop} : ∀ {xs ys : List V} {i : Nat} {x y : V}, Paired F xs ys → xs[i]? = some x → ys[i]? = some y → F x y
  | _, _, i, x, y, .nil, hx, _ => by simp at hx
  | _, _, 0, x, y, .cons r _, hx, hy => by
    cases hx
    cases hy
    exact r
  | _, _, i + 1, x, y, .cons _ t, hx, hy => paired_get t (i := i) (by simpa using hx) (by simpa using hy)
theorem paired_len {F : V → V → Prop} : ∀ {xs ys : List V}, Paired F xs ys → xs.length = ys.length
  | _, _, .nil => rfl
  | _, _, .cons _ t => congrArg (· + 1) (paired_len t)
theorem paired_refl {F : V → V → Prop} : ∀ {xs : List V}, (∀ x ∈ xs, F x x) → Paired F xs xs
  | [], _ => .nil
  | x :: r, h => .cons (h x List.mem_cons_self) (paired_refl fun y hy => h y (List.mem_cons_of_mem _ hy))
/-- isinstance(x, T), T a built-in class -/
theorem is_b {K : PySem.W.Frag} {H : Hp} {x : V} {t T : String} {b : Bool} {Q : VK} (ty : TyX K H x (.type t)) (k : kitB t T = some b) (h : Q (.bl b) H) : rIsi K [x, .ty T] H Q :=
  ⟨x, .ty T, .type t, .type T, b, rfl, .ty _, ty, kit_ty k, h⟩
theorem ite_of {c : Prop} [Decidable c] {A B : Prop} (hc : c) (h : A) : if c then A else B := by
  rw [if_pos hc]
  exact h
theorem ite_no {c : Prop} [Decidable c] {A B : Prop} (hc : ¬ c) (h : B) : if c then A else B := by
  rw [if_neg hc]
  exact h
theorem tYes_ok {σ : L2.St} {H : Hp} {A B : Hp → Prop} (h : A H) : tYes σ H (fun b H3 => if b = true then A H3 else B H3) := by
  show (if true = true then A H else B H)
  rw [if_pos rfl]
  exact h
theorem walk_zipT {K : PySem.W.Frag} {a b : Addr} {xs ys : List V} {n : Nat} (hn : n = min xs.length ys.length) : Walk (RZ.ItzT K a b) n (fun H => SqT K H a xs ∧ SqT K H b ys) (YPair (fun i => xs[i]?) (fun i => ys[i]?)) := by
  subst hn
  refine ⟨fun i _ hi q => ?_, fun _ q => ⟨xs, ys, q.1, q.2, by omega⟩, fun i H v H' _ q y => ?_⟩
  · have h1 : i < xs.length := by omega
    have h2 : i < ys.length := by omega
    exact ⟨xs, ys, xs[i], ys[i], q.1, q.2, by simp [h1], by simp [h2]⟩
  · obtain ⟨T, x, z, h1, h2, h3, h4, h5⟩ := y
    exact ⟨T, x, z, h1, h2, h3, h4 xs q.1, h5 ys q.2⟩
def spSame (n : Nat) : Sp := fun vs H Q _ => ∃ x y : V, vs = [x, y] ∧ Eqd H n x y ∧ ∀ H', Same H H' → Q (.bl true) H'
section
variable {P : Program} {w : World} {K : PySem.W.Frag} {mg : Str → Option Value} {base : Heap}
theorem ok_same {n : Nat} (F : Fn K mg "_law_same" s_l_same ["_law_found", "_law_due"]) (B : Blt mg) (G_l_same : Has P w K mg base n "_law_same" ["_law_found", "_law_due"] (spSame n)) :
    Has P w K mg base (n + 1) "_law_same" ["_law_found", "_law_due"] (spSame (n + 1)) := by
  refine F.has sc_l_same (fun vs H Q E h => ?_) (fun f cdv A outer s H vs Q E hr h => ?_)
  · obtain ⟨a, ns, rfl, _⟩ := h
    rfl
  obtain ⟨x, y, rfl, h, q⟩ := h
  refine ⟨_, (pss_cons (ps_if (pt_val (pe_callB call_isi (by rfl) B.isinstance bb_isinstance (pa_cons (pv 1) (pa_cons (pe_bltn (v := .ty "list") (by rfl) B.list bb_list rfl) pa_nil))))
        (pss_one (ps_ret (pe_and (pe_callB call_isi (by rfl) B.isinstance bb_isinstance (pa_cons (pv 0) (pa_cons (pe_bltn (v := .ty "list") (by rfl) B.list bb_list rfl) pa_nil))) (pe_and (pe_cmpR op_eq (pe_callB call_len (by rfl) B.len bb_len (pa_cons (pv 0) pa_nil)) (pe_callB call_len (by rfl) B.len bb_len (pa_cons (pv 1) pa_nil)) (nomark _)) (pe_one (pe_callB (cr_all rfl) (by rfl) B.all bb_all (pa_cons (pe_lc (own := [("_law_a", 2), ("_law_b", 3)]) (g := gTup K 2 (gCons (gName 2) (gCons (gName 3) gNil))) (tt := tYes) (by rfl) sc_l_same.nd (RZ.pi_zipA (by rfl) B.zip (pa_cons (pv 0) (pa_cons (pv 1) pa_nil))) (blkOk_by (own := [("_law_a", 2), ("_law_b", 3)]) (N := N_l_same) (sc := defScope s_l_same) (by decide +kernel)) (fun _ _ _ _ _ => (pg_tup rfl (pgs_cons (pg_name (i := 2) sc_l_same.nd rfl (Or.inl rfl)) (pgs_cons (pg_name (i := 3) sc_l_same.nd rfl (Or.inl rfl)) pgs_nil)))) (fun _ _ _ _ _ => pts_nil) (fun _ _ _ _ _ => (pe_own G_l_same hr (by rfl) (pa_cons (pv 2) (pa_cons (pv 3) pa_nil))))) pa_nil)))))))
        pss_nil)
      (pss_cons (ps_if (pt_val (pe_callB call_isi (by rfl) B.isinstance bb_isinstance (pa_cons (pv 1) (pa_cons (pe_bltn (v := .ty "tuple") (by rfl) B.tuple bb_tuple rfl) pa_nil))))
        (pss_one (ps_ret (pe_and (pe_callB call_isi (by rfl) B.isinstance bb_isinstance (pa_cons (pv 0) (pa_cons (pe_bltn (v := .ty "tuple") (by rfl) B.tuple bb_tuple rfl) pa_nil))) (pe_and (pe_cmpR op_eq (pe_callB call_len (by rfl) B.len bb_len (pa_cons (pv 0) pa_nil)) (pe_callB call_len (by rfl) B.len bb_len (pa_cons (pv 1) pa_nil)) (nomark _)) (pe_one (pe_callB (cr_all rfl) (by rfl) B.all bb_all (pa_cons (pe_lc (own := [("_law_a", 2), ("_law_b", 3)]) (g := gTup K 2 (gCons (gName 2) (gCons (gName 3) gNil))) (tt := tYes) (by rfl) sc_l_same.nd (RZ.pi_zipA (by rfl) B.zip (pa_cons (pv 0) (pa_cons (pv 1) pa_nil))) (blkOk_by (own := [("_law_a", 2), ("_law_b", 3)]) (N := N_l_same) (sc := defScope s_l_same) (by decide +kernel)) (fun _ _ _ _ _ => (pg_tup rfl (pgs_cons (pg_name (i := 2) sc_l_same.nd rfl (Or.inl rfl)) (pgs_cons (pg_name (i := 3) sc_l_same.nd rfl (Or.inl rfl)) pgs_nil)))) (fun _ _ _ _ _ => pts_nil) (fun _ _ _ _ _ => (pe_own G_l_same hr (by rfl) (pa_cons (pv 2) (pa_cons (pv 3) pa_nil))))) pa_nil)))))))
        pss_nil)
      (pss_cons (ps_if (PW.pt (pw_or (pt_cmp (pc_isN (pv 1))) (pw_or1 (pt_cmp (pc_isN (pv 0))))))
        (pss_one (ps_ret (pe_and (pe_cmp (pc_isN (pv 1))) (pe_one (pe_cmp (pc_isN (pv 0)))))))
        pss_nil)
      (pss_cons (ps_if (PW.pt (pw_or (pt_val (pe_callB call_isi (by rfl) B.isinstance bb_isinstance (pa_cons (pv 1) (pa_cons (pe_bltn (v := .ty "bool") (by rfl) B.bool bb_bool rfl) pa_nil)))) (pw_or1 (pt_val (pe_callB call_isi (by rfl) B.isinstance bb_isinstance (pa_cons (pv 0) (pa_cons (pe_bltn (v := .ty "bool") (by rfl) B.bool bb_bool rfl) pa_nil)))))))
        (pss_one (ps_ret (pe_and (pe_callB call_isi (by rfl) B.isinstance bb_isinstance (pa_cons (pv 1) (pa_cons (pe_bltn (v := .ty "bool") (by rfl) B.bool bb_bool rfl) pa_nil))) (pe_and (pe_callB call_isi (by rfl) B.isinstance bb_isinstance (pa_cons (pv 0) (pa_cons (pe_bltn (v := .ty "bool") (by rfl) B.bool bb_bool rfl) pa_nil))) (pe_one (pe_cmpR op_eq (pv 0) (pv 1) (nomark _)))))))
        pss_nil)
      (pss_cons (ps_if (pt_val (pe_callB call_isi (by rfl) B.isinstance bb_isinstance (pa_cons (pv 1) (pa_cons (pe_bltn (v := .ty "int") (by rfl) B.int bb_int rfl) pa_nil))))
        (pss_one (ps_ret (pe_and (pe_callB call_isi (by rfl) B.isinstance bb_isinstance (pa_cons (pv 0) (pa_cons (pe_bltn (v := .ty "int") (by rfl) B.int bb_int rfl) pa_nil))) (pe_one (pe_cmpR op_eq (pv 0) (pv 1) (nomark _))))))
        pss_nil)
      (pss_one (ps_ret (pe_and (pe_callB call_isi (by rfl) B.isinstance bb_isinstance (pa_cons (pv 0) (pa_cons (pe_bltn (v := .ty "str") (by rfl) B.str bb_str rfl) pa_nil))) (pe_and (pe_callB call_isi (by rfl) B.isinstance bb_isinstance (pa_cons (pv 1) (pa_cons (pe_bltn (v := .ty "str") (by rfl) B.str bb_str rfl) pa_nil))) (pe_one (pe_cmpR op_eq (pv 0) (pv 1) (nomark _)))))))))))), ?_⟩
  rcases h with ⟨rfl, hx⟩ | ⟨a, b, xs, ys, rfl, rfl, ha, hb, hl, hp⟩ | ⟨a, b, xs, ys, rfl, rfl, ha, hb, hl, hp⟩
  · cases x with
    | non =>
      refine ⟨_, rfl, _, .ty "list", .type "NoneType", .type "list", false, rfl, .ty _, .base .non, kit_ty (by decide +kernel), _, rfl, iteF ?_⟩
      refine ⟨_, rfl, _, .ty "tuple", .type "NoneType", .type "tuple", false, rfl, .ty _, .base .non, kit_ty (by decide +kernel), _, rfl, iteF ?_⟩
      refine ⟨_, rfl, _, rfl, ite_of (decide_eq_true rfl) ?_⟩
      refine ⟨_, rfl, _, rfl, ite_of (decide_eq_true rfl) ⟨_, rfl, ?_⟩⟩
      exact q _ (Same.refl _)
    | bl x =>
      refine ⟨_, rfl, _, .ty "list", .type "bool", .type "list", false, rfl, .ty _, .base (.bl _), kit_ty (by decide +kernel), _, rfl, iteF ?_⟩
      refine ⟨_, rfl, _, .ty "tuple", .type "bool", .type "tuple", false, rfl, .ty _, .base (.bl _), kit_ty (by decide +kernel), _, rfl, iteF ?_⟩
      refine ⟨_, rfl, _, rfl, ite_no (by simp) ⟨_, rfl, _, rfl, ite_no (by simp) ?_⟩⟩
      refine ⟨_, rfl, _, .ty "bool", .type "bool", .type "bool", true, rfl, .ty _, .base (.bl _), kit_ty (by decide +kernel), _, rfl, iteT ?_⟩
      refine ⟨_, rfl, _, .ty "bool", .type "bool", .type "bool", true, rfl, .ty _, .base (.bl _), kit_ty (by decide +kernel), _, rfl, iteT ⟨_, rfl, _, .ty "bool", .type "bool", .type "bool", true, rfl, .ty _, .base (.bl _), kit_ty (by decide +kernel), _, rfl, iteT ⟨_, rfl, _, rfl, rfl, ?_⟩⟩⟩
      rw [decide_eq_true rfl]
      exact q _ (Same.refl _)
    | int x =>
      refine ⟨_, rfl, _, .ty "list", .type "int", .type "list", false, rfl, .ty _, .base (.int _), kit_ty (by decide +kernel), _, rfl, iteF ?_⟩
      refine ⟨_, rfl, _, .ty "tuple", .type "int", .type "tuple", false, rfl, .ty _, .base (.int _), kit_ty (by decide +kernel), _, rfl, iteF ?_⟩
      refine ⟨_, rfl, _, rfl, ite_no (by simp) ⟨_, rfl, _, rfl, ite_no (by simp) ?_⟩⟩
      refine ⟨_, rfl, _, .ty "bool", .type "int", .type "bool", false, rfl, .ty _, .base (.int _), kit_ty (by decide +kernel), _, rfl, iteF ⟨_, rfl, _, .ty "bool", .type "int", .type "bool", false, rfl, .ty _, .base (.int _), kit_ty (by decide +kernel), _, rfl, iteF ?_⟩⟩
      refine ⟨_, rfl, _, .ty "int", .type "int", .type "int", true, rfl, .ty _, .base (.int _), kit_ty (by decide +kernel), _, rfl, iteT ?_⟩
      refine ⟨_, rfl, _, .ty "int", .type "int", .type "int", true, rfl, .ty _, .base (.int _), kit_ty (by decide +kernel), _, rfl, iteT ⟨_, rfl, _, rfl, rfl, ?_⟩⟩
      rw [decide_eq_true rfl]
      exact q _ (Same.refl _)
    | str x =>
      refine ⟨_, rfl, _, .ty "list", .type "str", .type "list", false, rfl, .ty _, .base (.str _), kit_ty (by decide +kernel), _, rfl, iteF ?_⟩
      refine ⟨_, rfl, _, .ty "tuple", .type "str", .type "tuple", false, rfl, .ty _, .base (.str _), kit_ty (by decide +kernel), _, rfl, iteF ?_⟩
      refine ⟨_, rfl, _, rfl, ite_no (by simp) ⟨_, rfl, _, rfl, ite_no (by simp) ?_⟩⟩
      refine ⟨_, rfl, _, .ty "bool", .type "str", .type "bool", false, rfl, .ty _, .base (.str _), kit_ty (by decide +kernel), _, rfl, iteF ⟨_, rfl, _, .ty "bool", .type "str", .type "bool", false, rfl, .ty _, .base (.str _), kit_ty (by decide +kernel), _, rfl, iteF ?_⟩⟩
      refine ⟨_, rfl, _, .ty "int", .type "str", .type "int", false, rfl, .ty _, .base (.str _), kit_ty (by decide +kernel), _, rfl, iteF ?_⟩
      refine ⟨_, rfl, _, .ty "str", .type "str", .type "str", true, rfl, .ty _, .base (.str _), kit_ty (by decide +kernel), _, rfl, iteT ⟨_, rfl, _, .ty "str", .type "str", .type "str", true, rfl, .ty _, .base (.str _), kit_ty (by decide +kernel), _, rfl, iteT ⟨_, rfl, _, rfl, rfl, ?_⟩⟩⟩
      rw [decide_eq_true rfl]
      exact q _ (Same.refl _)
    | byt x => exact hx.elim
    | flt x => exact hx.elim
    | ref x => exact hx.elim
    | ty x => exact hx.elim
  · have hlen := paired_len hp
    refine ⟨_, rfl, _, .ty "list", .type "list", .type "list", true, rfl, .ty _, .base (.lst hb), kit_ty (by decide +kernel), _, rfl, iteT ?_⟩
    refine ⟨_, rfl, _, .ty "list", .type "list", .type "list", true, rfl, .ty _, .base (.lst ha), kit_ty (by decide +kernel), _, rfl, iteT ?_⟩
    refine ⟨_, rfl, .ref a, _, rfl, .inl ⟨xs, SqL.of ha, rfl⟩, _, rfl, .ref b, _, rfl, .inl ⟨ys, SqL.of hb, rfl⟩, rfl, _, rfl, ite_of (decide_eq_true (by rw [hlen])) ?_⟩
    refine ⟨_, rfl, _, rfl, a, b, xs, ys, rfl, .inl ⟨SqL.of ha, SqL.of hb, fun D hD => lc_it (walk_zip (K := K) (n := xs.length) (by omega)) (fun i H' => Same H H' ∧ H' D = some (.lst (List.replicate i (.bl true))))
      ⟨same_upd hD, upd_same⟩ (fun i H1 hi p => ⟨SqL.of (p.1 _ _ ha), SqL.of (p.1 _ _ hb)⟩) ?_ ?_⟩⟩
    · rintro i v H1 H2 hi ⟨s1, e1⟩ ⟨T, u, z, rfl, hT, rfl, hu, hz⟩
      refine ⟨T, [u, z], rfl, SqT.of upd_same, rfl, u, [z], rfl, z, [], rfl, rfl, rfl, tYes_ok ?_⟩
      refine ⟨_, rfl, _, rfl, u, z, rfl, (paired_get hp hu hz).mono (s1.trans (same_upd hT)), fun H3 s3 => ?_⟩
      refine ⟨_, s3 _ _ ((same_upd hT) _ _ e1), by rw [List.length_replicate]; exact small1000 (by omega), fun c o hc => ?_, ?_⟩
      · rw [upd_ne (ne_of_none hc hD)]
        exact s3 _ _ (same_upd hT _ _ (s1 _ _ hc))
      · rw [upd_same, List.replicate_succ']
    · rintro H1 ⟨s1, e1⟩
      refine ⟨D, List.replicate xs.length true, rfl, SqL.of (by rw [e1, List.map_replicate]), ?_⟩
      rw [show (List.replicate xs.length true).all id = true by simp]
      exact q _ s1
  · have hlen := paired_len hp
    refine ⟨_, rfl, _, .ty "list", .type "tuple", .type "list", false, rfl, .ty _, .base (.tup hb), kit_ty (by decide +kernel), _, rfl, iteF ?_⟩
    refine ⟨_, rfl, _, .ty "tuple", .type "tuple", .type "tuple", true, rfl, .ty _, .base (.tup hb), kit_ty (by decide +kernel), _, rfl, iteT ?_⟩
    refine ⟨_, rfl, _, .ty "tuple", .type "tuple", .type "tuple", true, rfl, .ty _, .base (.tup ha), kit_ty (by decide +kernel), _, rfl, iteT ?_⟩
    refine ⟨_, rfl, .ref a, _, rfl, .inr ⟨xs, SqT.of ha, rfl⟩, _, rfl, .ref b, _, rfl, .inr ⟨ys, SqT.of hb, rfl⟩, rfl, _, rfl, ite_of (decide_eq_true (by rw [hlen])) ?_⟩
    refine ⟨_, rfl, _, rfl, a, b, xs, ys, rfl, .inr ⟨SqT.of ha, SqT.of hb, fun D hD => lc_it (walk_zipT (K := K) (n := xs.length) (by omega)) (fun i H' => Same H H' ∧ H' D = some (.lst (List.replicate i (.bl true))))
      ⟨same_upd hD, upd_same⟩ (fun i H1 hi p => ⟨SqT.of (p.1 _ _ ha), SqT.of (p.1 _ _ hb)⟩) ?_ ?_⟩⟩
    · rintro i v H1 H2 hi ⟨s1, e1⟩ ⟨T, u, z, rfl, hT, rfl, hu, hz⟩
      refine ⟨T, [u, z], rfl, SqT.of upd_same, rfl, u, [z], rfl, z, [], rfl, rfl, rfl, tYes_ok ?_⟩
      refine ⟨_, rfl, _, rfl, u, z, rfl, (paired_get hp hu hz).mono (s1.trans (same_upd hT)), fun H3 s3 => ?_⟩
      refine ⟨_, s3 _ _ ((same_upd hT) _ _ e1), by rw [List.length_replicate]; exact small1000 (by omega), fun c o hc => ?_, ?_⟩
      · rw [upd_ne (ne_of_none hc hD)]
        exact s3 _ _ (same_upd hT _ _ (s1 _ _ hc))
      · rw [upd_same, List.replicate_succ']
    · rintro H1 ⟨s1, e1⟩
      refine ⟨D, List.replicate xs.length true, rfl, SqL.of (by rw [e1, List.map_replicate]), ?_⟩
      rw [show (List.replicate xs.length true).all id = true by simp]
      exact q _ s1
end
theorem no_same {P : Program} {w : World} {K : PySem.W.Frag} {mg : Str → Option Value} {base : Heap} {f : Addr} {fd : FuncData} {ps : List Str} {sp : Sp} (no : ∀ vs H Q E, ¬ sp vs H Q E) : FnOk P w K mg base CX0 0 f fd ps sp :=
  ⟨fun vs H Q E h => absurd h (no vs H Q E), fun A outer s H args us vs Q E _ _ _ _ h => absurd h (no vs H Q E)⟩
section
variable {P : Program} {w : World} {K : PySem.W.Frag} {mg : Str → Option Value} {base : Heap}
theorem all_same (F : Fn K mg "_law_same" s_l_same ["_law_found", "_law_due"]) (B : Blt mg) : ∀ n : Nat, Has P w K mg base n "_law_same" ["_law_found", "_law_due"] (spSame n)
  | 0 => by
    obtain ⟨f, fd, F, m, b⟩ := F.ex
    exact ⟨f, fd, no_same fun vs H Q E h => by obtain ⟨x, y, _, h, _⟩ := h; exact h, m, F.kp, b⟩
  | n + 1 => ok_same F B (all_same F B n)
end
/-! ### odd values -/
inductive OddV (H : Hp) (b : Addr) : V → Prop
  | non : OddV H b .non
  | bl (x : Bool) : OddV H b (.bl x)
  | s0 : OddV H b (.str "")
  | s1 : OddV H b (.str "A")
  | s2 : OddV H b (.str "in")
  | s3 : OddV H b (.str "a b")
  | s4 : OddV H b (.str "7")
  | t0 {p : Addr} : p ≠ b → H p = some (.tup []) → OddV H b (.ref p)
  | t1 {p : Addr} : p ≠ b → H p = some (.tup [.int 1]) → OddV H b (.ref p)
  | l0 {p : Addr} : p ≠ b → H p = some (.lst []) → OddV H b (.ref p)
  | l1 {p : Addr} : p ≠ b → H p = some (.lst [.str "a"]) → OddV H b (.ref p)
theorem OddV.kp {H H' : Hp} {b : Addr} {v : V} (h : OddV H b v) (k : Kp b H H') : OddV H' b v := by
  cases h with
  | non => exact .non
  | bl x => exact .bl x
  | s0 => exact .s0
  | s1 => exact .s1
  | s2 => exact .s2
  | s3 => exact .s3
  | s4 => exact .s4
  | t0 n h => exact .t0 n (k _ _ n h)
  | t1 n h => exact .t1 n (k _ _ n h)
  | l0 n h => exact .l0 n (k _ _ n h)
  | l1 n h => exact .l1 n (k _ _ n h)
def spOdd : Sp := fun vs H Q _ => ∃ b c : Addr, vs = [.ref b] ∧ Bg H b c ∧ ∀ (v : V) (H' : Hp), Kp b H H' → Bg H' b c → OddV H' b v → Q v H'
def spGcd : Sp := fun vs H Q _ => ∃ a b : Int, vs = [.int a, .int b] ∧ Q (.int ((Nat.gcd a.natAbs b.natAbs : Nat) : Int)) H
theorem abs_cast (i : Int) : (if i < 0 then -i else i) = ((i.natAbs : Nat) : Int) := by split <;> omega
theorem Bg.sel {H : Hp} {b c : Addr} (h : Bg H b c) : ∃ r : List V, H b = some (.lst (.ref c :: r)) := by
  obtain ⟨ns, i, r, m, g⟩ := h
  exact ⟨_, g.hb⟩
theorem Bg.ne_new {H : Hp} {b c p : Addr} (h : Bg H b c) (hp : H p = none) : p ≠ b := by
  obtain ⟨_, e⟩ := h.sel
  exact (ne_of_none e hp).symm
theorem Bg.ne_new2 {H : Hp} {b c p : Addr} (h : Bg H b c) (hp : H p = none) : p ≠ c := by
  obtain ⟨ns, i, r, m, g⟩ := h
  exact (ne_of_none g.hc hp).symm
section
variable {P : Program} {w : World} {K : PySem.W.Frag} {mg : Str → Option Value} {base : Heap}
theorem ok_odd (F : Fn K mg "_law_odd" s_l_odd ["_law_bag_here"]) (B : Blt mg) (G_l_pick : Has P w K mg base 2 "_law_pick" ["_law_bag_here", "_law_some"] (spPick K)) : Has P w K mg base 3 "_law_odd" ["_law_bag_here"] spOdd := by
  refine F.has sc_l_odd (fun vs H Q E h => ?_) (fun f cdv A outer s H vs Q E hr h => ?_)
  · obtain ⟨a, c, rfl, _⟩ := h
    rfl
  obtain ⟨b, c, rfl, hB, q⟩ := h
  refine ⟨_, (pss_one (ps_ret (pe_own G_l_pick (hr.mono (by decide)) (by rfl) (pa_cons (pv 0) (pa_cons (pe_lst (pa_cons pe_non (pa_cons pe_bl (pa_cons pe_bl (pa_cons pe_str (pa_cons pe_str (pa_cons pe_str (pa_cons pe_str (pa_cons (pe_tup pa_nil) (pa_cons (pe_tup (pa_cons pe_int pa_nil)) (pa_cons (pe_lst pa_nil) (pa_cons (pe_lst (pa_cons pe_str pa_nil)) (pa_cons pe_str pa_nil))))))))))))) pa_nil))))), ?_⟩
  refine ⟨_, rfl, (by show 0 ≤ sizeLine; decide), fun p1 h1 => ⟨(by show 1 ≤ sizeLine; decide), fun p2 h2 => ⟨(by show 0 ≤ sizeLine; decide), fun p3 h3 => ⟨(by show 1 ≤ sizeLine; decide), fun p4 h4 => ⟨(by show 12 ≤ sizeLine; decide), fun l hl => ?_⟩⟩⟩⟩⟩
  have s1 : Same H (upd H p1 (.tup [])) := same_upd h1
  have s2 := same_upd (o := .tup [.int 1]) h2
  have s3 := same_upd (o := .lst []) h3
  have s4 := same_upd (o := .lst [.str "a"]) h4
  have s5 := same_upd (o := .lst [.non, .bl true, .bl false, .str "", .str "A", .str "in", .str "a b", .ref p1, .ref p2, .ref p3, .ref p4, .str "7"]) hl
  have n1 := hB.ne_new h1
  have n2 := (hB.same s1).ne_new h2
  have n3 := (hB.same (s1.trans s2)).ne_new h3
  have n4 := (hB.same (s1.trans (s2.trans s3))).ne_new h4
  have n5 := (hB.same (s1.trans (s2.trans (s3.trans s4)))).ne_new hl
  have sa := s1.trans (s2.trans (s3.trans (s4.trans s5)))
  refine ⟨b, c, .ref l, rfl, hB.same sa, .inl ⟨l, _, rfl, n5, upd_same, by simp, (by show 12 ≤ 1000; decide), fun v H' hv kp hB' => ?_⟩⟩
  refine q v H' ((Kp.of sa).trans kp) hB' (OddV.kp ?_ kp)
  simp only [List.mem_cons, List.not_mem_nil, or_false] at hv
  rcases hv with rfl | rfl | rfl | rfl | rfl | rfl | rfl | rfl | rfl | rfl | rfl | rfl
  · exact .non
  · exact .bl true
  · exact .bl false
  · exact .s0
  · exact .s1
  · exact .s2
  · exact .s3
  · exact .t0 n1 (s5 _ _ (s4 _ _ (s3 _ _ (s2 _ _ upd_same))))
  · exact .t1 n2 (s5 _ _ (s4 _ _ (s3 _ _ upd_same)))
  · exact .l0 n3 (s5 _ _ (s4 _ _ upd_same))
  · exact .l1 n4 (s5 _ _ upd_same)
  · exact .s4
end
/-! ### kinds of values -/
inductive Typ (H : Hp) : V → String → Prop
  | non : Typ H .non "NoneType"
  | bl (x : Bool) : Typ H (.bl x) "bool"
  | int (i : Int) : Typ H (.int i) "int"
  | str (z : Str) : Typ H (.str z) "str"
  | lst {a : Addr} {xs : List V} : H a = some (.lst xs) → Typ H (.ref a) "list"
  | tup {a : Addr} {xs : List V} : H a = some (.tup xs) → Typ H (.ref a) "tuple"
theorem Typ.tyx {K : PySem.W.Frag} {H : Hp} {x : V} {t : String} (h : Typ H x t) : TyX K H x (.type t) := by
  cases h with
  | non => exact .base .non
  | bl x => exact .base (.bl x)
  | int i => exact .base (.int i)
  | str z => exact .base (.str z)
  | lst h => exact .base (.lst h)
  | tup h => exact .base (.tup h)
theorem Typ.same {H H' : Hp} {x : V} {t : String} (h : Typ H x t) (s : Same H H') : Typ H' x t := by
  cases h with
  | non => exact .non
  | bl x => exact .bl x
  | int i => exact .int i
  | str z => exact .str z
  | lst h => exact .lst (s _ _ h)
  | tup h => exact .tup (s _ _ h)
theorem OddV.typ {H : Hp} {b : Addr} {v : V} (h : OddV H b v) : ∃ t, Typ H v t ∧ t ≠ "int" := by
  cases h with
  | non => exact ⟨_, .non, by decide⟩
  | bl x => exact ⟨_, .bl x, by decide⟩
  | s0 => exact ⟨_, .str _, by decide⟩
  | s1 => exact ⟨_, .str _, by decide⟩
  | s2 => exact ⟨_, .str _, by decide⟩
  | s3 => exact ⟨_, .str _, by decide⟩
  | s4 => exact ⟨_, .str _, by decide⟩
  | t0 n h => exact ⟨_, .tup h, by decide⟩
  | t1 n h => exact ⟨_, .tup h, by decide⟩
  | l0 n h => exact ⟨_, .lst h, by decide⟩
  | l1 n h => exact ⟨_, .lst h, by decide⟩
def isIntV : V → Bool
  | .int _ => true
  | _ => false
end My
/-! rules within a comprehension: the written part given from outside -/
namespace NK
open PySem PySem.Spec PyProof.Rows L2
section
variable {X : Cx} {tg : Expr}
theorem pi_listK (K : PySem.W.Frag) (hK : X.K = K) {l : Expr} {tl : TE} (hl : PE X l tl) : PI X tg l (iList K tl) := by
  subst hK
  exact pi_list hl
theorem pi_tupK (K : PySem.W.Frag) (hK : X.K = K) {l : Expr} {tl : TE} (hl : PE X l tl) : PI X tg l (iTup K tl) := by
  subst hK
  exact pi_tup hl
theorem pe_joinK (K : PySem.W.Frag) (hK : X.K = K) {o e : Expr} {to te : TE} {apos pos : Pos} (ho : PE X o to) (he : PE X e te) (hs : starEach [e] X.env = [(false, eval e X.env)] := by rfl) (hbase : attributeBase o "join" X.env (eval o X.env) = eval o X.env := by rfl) (hline : (apos.endLine == pos.line) = true := by rfl) :
    PE X (.Call (.Attribute o "join" apos) [e] [] pos) (tM1 (fun x xs H Q => ∃ a p, ∃ ys : List Str, x = .str a ∧ xs = [.ref p] ∧ (SqL K H p (ys.map V.str) ∨ SqT K H p (ys.map V.str)) ∧
      (ys.map (·.length)).sum + ys.length * a.length ≤ 16777216 ∧ Q (.str (Txt.join a ys)) H) to te) := by
  subst hK
  exact pe_join ho he hs hbase hline
theorem call_lenK (K : PySem.W.Frag) (hK : X.K = K) : CallR X (.builtin "len") (fun xs H Q => ∃ x n, xs = [x] ∧ LenV K x H n ∧ Q (.int n) H) := by
  subst hK
  exact call_len
theorem cr_sumK (K : PySem.W.Frag) (hK : X.K = K) (hc : X.calm = true) : CallR X (.builtin "sum") (rSum K) := by
  subst hK
  exact cr_sum hc
theorem cr_allK (K : PySem.W.Frag) (hK : X.K = K) (hc : X.calm = true) : CallR X (.builtin "all") (rAll K) := by
  subst hK
  exact cr_all hc
theorem cr_anyK (K : PySem.W.Frag) (hK : X.K = K) (hc : X.calm = true) : CallR X (.builtin "any") (rAny K) := by
  subst hK
  exact cr_any hc
theorem call_tuple_ofK (K : PySem.W.Frag) (hK : X.K = K) : CallR X (.type "tuple") (fun xs H Q => ∃ p ys, xs = [.ref p] ∧ ((SqL K H p ys ∧ ∀ l, H l = none → Q (.ref l) (upd H l (.tup ys))) ∨ (SqT K H p ys ∧ Q (.ref p) H))) := by
  subst hK
  exact call_tuple_of
theorem call_list_ofK (K : PySem.W.Frag) (hK : X.K = K) : CallR X (.type "list") (fun xs H Q => ∃ p ys, xs = [.ref p] ∧ (SqL K H p ys ∨ SqT K H p ys) ∧ ∀ l, H l = none → Q (.ref l) (upd H l (.lst ys))) := by
  subst hK
  exact call_list_of
theorem pi_zipAK (K : PySem.W.Frag) (hK : X.K = K) {e e2 : Expr} {ta : TA} {p pos tpos : Pos} {elts : List Expr} {kk : Nat} (hg : Gl X "zip") (hm : X.mg "zip" = none) (ha : PA X [e, e2] ta)
    (hs : starEach [e, e2] X.env = (false, eval e X.env) :: starEach [e2] X.env := by rfl) (hpl : (backTo pos (starEach [e2] X.env)).any (·.1) = false := by rfl) :
    PI X (.Tuple elts kk tpos) (.Call (.Name "zip" p) [e, e2] [] pos) (RZ.iZipA K ta) := by
  subst hK
  exact RZ.pi_zipA hg hm ha hs hpl
theorem pi_enumK (K : PySem.W.Frag) (hK : X.K = K) {e : Expr} {ta : TA} {p pos tpos : Pos} {elts : List Expr} {kk : Nat} (hg : Gl X "enumerate") (hm : X.mg "enumerate" = none) (ha : PA X [e] ta) (hs : starEach [e] X.env = (false, eval e X.env) :: starEach [] X.env := by rfl) :
    PI X (.Tuple elts kk tpos) (.Call (.Name "enumerate" p) [e] [] pos) (iEnum K ta) := by
  subst hK
  exact pi_enum hg hm ha hs
end
end NK
/-! zip of a list and a tuple -/
namespace ZM
open PySem PySem.Spec PyProof.Rows L2
/-- the list at a and the tuple at b as they stand at each turn, the items in new pairs -/
def ItzM (K : PySem.W.Frag) (a b : Addr) : It where
  go := fun i H => ∃ (xs ys : List V), SqL K H a xs ∧ SqT K H b ys ∧ i < min xs.length ys.length
  yld := fun i H v H' => ∃ T x y, v = .ref T ∧ H T = none ∧ H' = upd H T (.tup [x, y]) ∧ (∀ xs, SqL K H a xs → xs[i]? = some x) ∧ ∀ ys, SqT K H b ys → ys[i]? = some y
  stop := fun i H => ∃ xs ys : List V, SqL K H a xs ∧ SqT K H b ys ∧ i = min xs.length ys.length
theorem four_five {c z TI TO i1 i2 : Addr} (m : c ∈ [z, TO, i1, i2]) : c ∈ [z, TI, TO, i1, i2] := by
  simp only [List.mem_cons, List.not_mem_nil, or_false] at m ⊢
  rcases m with h | h | h | h
  · exact .inl h
  · exact .inr (.inr (.inl h))
  · exact .inr (.inr (.inr (.inl h)))
  · exact .inr (.inr (.inr (.inr h)))
/-- how the iterator stands after i turns -/
def TnM (z TI TO i1 i2 a b : Addr) (i : Nat) (h : Heap) : Prop :=
  IsZip h z TI TO .none ∧ IsTupOf2 h TI (.ref i1) (.ref i2) ∧ (∃ a1 a2, IsTupOf2 h TO a1 a2) ∧ h.IsListIter i1 a i ∧ h.IsTupleIter i2 b i
theorem turn_zipM {P : Program} {w : World} {K : PySem.W.Frag} {elts : List Expr} {kk : Nat} {tpos : Pos} {a b z TI TO i1 i2 : Addr} (S : ZipSep2 z TI TO i1 i2 [i1, a] [i2, b]) :
    Turn P w K (.Tuple elts kk tpos) (ItzM K a b) [z, TI, TO, i1, i2] z (TnM z TI TO i1 i2 a b) := by
  have n1 : a ≠ i1 → True := fun _ => trivial
  refine ⟨by simp, fun i h st c hc => ?_, fun i h h' st k => ?_, ?_, ?_, fun A i s Q E st q => wpAny_pyIter_zip st.1 q⟩
  · obtain ⟨hz, hTI, ⟨x, y, hTO⟩, ⟨o1, e1, _, d1⟩, ⟨o2, e2, _, d2⟩⟩ := st
    simp only [List.mem_cons, List.not_mem_nil, or_false] at hc
    rcases hc with rfl | rfl | rfl | rfl | rfl
    · exact ⟨_, hz, fun v q => by cases q⟩
    · exact ⟨_, hTI, fun v q => by cases q⟩
    · exact ⟨_, hTO, fun v q => by cases q⟩
    · exact ⟨o1, e1, fun v q => by rw [d1] at q; cases q⟩
    · exact ⟨o2, e2, fun v q => by rw [d2] at q; cases q⟩
  · obtain ⟨hz, hTI, ⟨x, y, hTO⟩, h1, h2⟩ := st
    exact ⟨k z (by simp) _ hz, k TI (by simp) _ hTI, ⟨x, y, k TO (by simp) _ hTO⟩, h1.at (fun o q => k i1 (by simp) o q), h2.at (fun o q => k i2 (by simp) o q)⟩
  · intro X hP hw hK hc i pins s σ H E I hf st hg
    subst hP hw hK
    obtain ⟨hz, hTI, hTO, h1, h2⟩ := st
    obtain ⟨xs, ys, qx, qy, hi⟩ := hg
    obtain ⟨its, rv, p, _⟩ := I.list qx
    obtain ⟨its2, rv2, p2, _⟩ := I.tuple qy
    have l1 := rv.length
    have l2 := rv2.length
    have na : a ≠ i1 := fun e => by
      obtain ⟨o1, e1, c1, d1⟩ := h1
      obtain ⟨o2, e2, c2, _⟩ := p.isList
      rw [e, e1] at e2
      cases e2
      rw [c1] at c2
      injection c2 with c2
      exact absurd c2 (by decide)
    have nb : b ≠ i2 := fun e => by
      obtain ⟨o1, e1, c1, d1⟩ := h2
      obtain ⟨o2, e2, c2, _⟩ := p2
      rw [e, e1] at e2
      cases e2
      rw [c1] at c2
      injection c2 with c2
      exact absurd c2 (by decide)
    have W := WalksT.zipD2 S (Draws.list (prog := X.prog) (w := X.w) (A := X.A.in1) (I.ok.hd hc) i1 a na its.toArray) (Draws.tuple (prog := X.prog) (w := X.w) (A := X.A.in1) (I.ok.hd hc) i2 b nb its2.toArray)
    refine W.item i s _ _ (by simp only [List.size_toArray]; omega) ⟨hz, hTI, hTO, ⟨h1, p.isList⟩, ⟨h2, p2⟩⟩ fun T vals h' tk hv hT hTt mid hk => ?_
    obtain ⟨u, u2, hu, hu2, rfl⟩ := hv
    have hi1 : i < xs.length := by omega
    have hi2 : i < ys.length := by omega
    obtain ⟨v1, hv1, ru⟩ := rv.get (List.getElem?_eq_getElem hi1)
    obtain ⟨v2, hv2, ru2⟩ := rv2.get (List.getElem?_eq_getElem hi2)
    have ev1 : v1 = u := by
      have : its[i]? = some u := by simpa using hu
      rw [hv1] at this
      exact Option.some.inj this
    have ev2 : v2 = u2 := by
      have : its2[i]? = some u2 := by simpa using hu2
      rw [hv2] at this
      exact Option.some.inj this
    subst ev1 ev2
    refine ⟨_, rfl, W.go elts kk tpos i T { s with heap := h', toks := tk } _ _ mid fun h'' st'' hk2 => ?_⟩
    have hap := W.apart i T h' mid
    have hT2 : h''.IsTuple T #[v1, v2] := hTt.at fun o q => hk2 T o hap q
    have new : ObjOk X.prog X.w (upd H T (.tup [xs[i], ys[i]])) h'' T (.tup [xs[i], ys[i]]) := by
      obtain ⟨o, ho, hcl, n, hd⟩ := hT2
      exact ⟨by show 2 ≤ sizeLine; decide, [v1, v2], .cons ru (.cons ru2 .nil), ⟨o, ho, hcl, n, hd⟩⟩
    have I1 : Inv X pins σ (upd H T (.tup [xs[i], ys[i]])) { s with heap := h'', toks := tk } :=
      I.turnedNew (t' := tk) (ch := [z, TI, TO, i1, i2]) (fun c o hb q => hk2 c o (fun m => hb (four_five m)) (hk c o (fun m => hb (four_five m)) q)) hf hT new
    obtain ⟨m1, m2, m3, ⟨m4, _⟩, ⟨m5, _⟩⟩ := st''
    refine ⟨.ref T, _, I1, rfl, ⟨T, xs[i], ys[i], rfl, I.hok.fresh hT, rfl, fun l hl => ?_, fun l hl => ?_⟩, ⟨m1, m2, m3, m4, m5⟩, fun c hcm => ?_⟩
    · rw [I.list_inj hl qx]
      exact List.getElem?_eq_getElem hi1
    · rw [I.tuple_inj hl qy]
      exact List.getElem?_eq_getElem hi2
    · have hlt : c < s.heap.objs.size := by
        simp only [List.mem_cons, List.not_mem_nil, or_false] at hcm
        rcases hcm with rfl | rfl | rfl | rfl | rfl
        · exact Heap.lt_size hz
        · exact Heap.lt_size hTI
        · obtain ⟨_, _, hTO⟩ := hTO
          exact Heap.lt_size hTO
        · obtain ⟨_, e1, _⟩ := h1; exact Heap.lt_size e1
        · obtain ⟨_, e2, _⟩ := h2; exact Heap.lt_size e2
      rw [upd_ne (Nat.ne_of_lt (Nat.lt_of_lt_of_le hlt hT))]
      exact (hf c hcm).1
  · intro X hP hw hK hc i pins s σ H E I hf st hg
    subst hP hw hK
    obtain ⟨hz, hTI, hTO, h1, h2⟩ := st
    obtain ⟨xs, ys, qx, qy, hi⟩ := hg
    obtain ⟨its, rv, p, _⟩ := I.list qx
    obtain ⟨its2, rv2, p2, _⟩ := I.tuple qy
    have l1 := rv.length
    have l2 := rv2.length
    have na : a ≠ i1 := fun e => by
      obtain ⟨o1, e1, c1, d1⟩ := h1
      obtain ⟨o2, e2, c2, _⟩ := p.isList
      rw [e, e1] at e2
      cases e2
      rw [c1] at c2
      injection c2 with c2
      exact absurd c2 (by decide)
    have nb : b ≠ i2 := fun e => by
      obtain ⟨o1, e1, c1, d1⟩ := h2
      obtain ⟨o2, e2, c2, _⟩ := p2
      rw [e, e1] at e2
      cases e2
      rw [c1] at c2
      injection c2 with c2
      exact absurd c2 (by decide)
    have W := WalksT.zipD2 S (Draws.list (prog := X.prog) (w := X.w) (A := X.A.in1) (I.ok.hd hc) i1 a na its.toArray) (Draws.tuple (prog := X.prog) (w := X.w) (A := X.A.in1) (I.ok.hd hc) i2 b nb its2.toArray)
    have ei : i = min its.toArray.size its2.toArray.size := by simp only [List.size_toArray]; omega
    subst ei
    refine W.done s _ _ ⟨hz, hTI, hTO, ⟨h1, p.isList⟩, ⟨h2, p2⟩⟩ fun h' tk hk => ⟨rfl, ?_⟩
    exact I.turnedL (t' := tk) (ch := [z, TI, TO, i1, i2]) (fun c o hb q => hk c o (fun m => hb (four_five m)) q) hf
def iZipM (K : PySem.W.Frag) (ta : TA) : TI := fun σ H R => ta σ H fun vs H1 => ∃ a b xs ys, vs = [.ref a, .ref b] ∧ SqL K H1 a xs ∧ SqT K H1 b ys ∧ R (ItzM K a b) H1
theorem pi_zipM {X : Cx} (K : PySem.W.Frag) (hK : X.K = K) {e e2 : Expr} {ta : TA} {p pos tpos : Pos} {elts : List Expr} {kk : Nat} (hg : Gl X "zip") (hm : X.mg "zip" = none) (ha : PA X [e, e2] ta)
    (hs : starEach [e, e2] X.env = (false, eval e X.env) :: starEach [e2] X.env := by rfl) (hpl : (backTo pos (starEach [e2] X.env)).any (·.1) = false := by rfl) :
    PI X (.Tuple elts kk tpos) (.Call (.Name "zip" p) [e, e2] [] pos) (iZipM K ta) := by
  subst hK
  constructor
  intro pins s σ H R I h
  refine Call_ (ld_blt I hg hm PyProof.Rows.boot_zip (PyProof.Rows.callWith_type1 (thn (ha.run pos pins s σ H _ I h) fun us s1 ⟨vs, H1, I1, r1, q1⟩ => ?_) hs hpl))
  obtain ⟨a, b, xs, ys, ex, qx, qy, q⟩ := q1
  subst ex
  cases r1 with
  | cons r rr =>
    cases rr with
    | cons r' rr =>
      cases rr
      cases r
      cases r'
      obtain ⟨its, rv, p1, _⟩ := I1.list qx
      obtain ⟨its2, rv2, p2, _⟩ := I1.tuple qy
      obtain ⟨o2, ho2, _⟩ := id p2
      have la : a < s1.heap.objs.size := p1.lt
      have lb : b < s1.heap.objs.size := Heap.lt_size ho2
      refine zip_begins2 (begins_list a its.toArray) (begins_tuple b its2.toArray) p1.isList p2 fun h' hz hTI hTO h1 h2 hsz hk => wpAny_pyIter_zip hz ?_
      have I2 : Inv X pins σ H1 { s1 with heap := h' } := I1.kept (t' := s1.toks) hk
      refine ⟨s1.heap.objs.size + 4, [s1.heap.objs.size + 4, s1.heap.objs.size + 2, s1.heap.objs.size + 3, s1.heap.objs.size, s1.heap.objs.size + 1], _, _, H1, rfl, I2,
        turn_zipM (zip_sep2 (N := s1.heap.objs.size) (fp1 := [a]) (fp2 := [b]) (fun c hc => by rw [List.mem_singleton.mp hc]; exact la) (fun c hc => by rw [List.mem_singleton.mp hc]; exact lb)), ⟨hz, hTI, ⟨_, _, hTO⟩, ⟨_, h1, rfl, rfl⟩, ⟨_, h2, rfl, rfl⟩⟩, fun c hcm => ?_, q⟩
      have hle : s1.heap.objs.size ≤ c := by
        have e' : c = s1.heap.objs.size + 4 ∨ c = s1.heap.objs.size + 2 ∨ c = s1.heap.objs.size + 3 ∨ c = s1.heap.objs.size ∨ c = s1.heap.objs.size + 1 := by simpa using hcm
        rcases e' with z | z | z | z | z
        · rw [z]; exact Nat.le_add_right _ _
        · rw [z]; exact Nat.le_add_right _ _
        · rw [z]; exact Nat.le_add_right _ _
        · rw [z]; exact Nat.le_refl _
        · rw [z]; exact Nat.le_add_right _ _
      exact I1.fpOk hle (I1.hok.fresh hle)
theorem walk_zipM {K : PySem.W.Frag} {a b : Addr} {xs ys : List V} {n : Nat} (hn : n = min xs.length ys.length) : Walk (ItzM K a b) n (fun H => SqL K H a xs ∧ SqT K H b ys) (YPair (fun i => xs[i]?) (fun i => ys[i]?)) := by
  subst hn
  refine ⟨fun i _ hi q => ⟨xs, ys, q.1, q.2, hi⟩, fun _ q => ⟨xs, ys, q.1, q.2, rfl⟩, fun i H v H' _ q y => ?_⟩
  obtain ⟨T, x, z, h1, h2, h3, h4, h5⟩ := y
  exact ⟨T, x, z, h1, h2, h3, h4 xs q.1, h5 ys q.2⟩
end ZM
/-! own classes: static methods, properties, ==, repr, bool -/
namespace OwO
open PySem PySem.Spec PyProof.Rows L2
/-- C.m is a static method: its record at p, its def at g -/
structure CStat (K : PySem.W.Frag) (C : Addr) (mc : Value) (m : Str) (p g : Addr) : Prop where
  at_ : PySem.W.findCls K (.ref C) mc m = some (.get (.builtin "staticmethod.__get__") (.ref p) .none (.ref C))
  rc : ∃ rest, PySem.W.recIn K p "staticmethod" = some (.ref g :: rest)
/-- a special method of the class at C: a def of it -/
structure Spc (K : PySem.W.Frag) (C : Addr) (m : Str) (f : Addr) : Prop where
  at_ : PySem.W.findIn K (.ref C) m = some (some (.ref f))
  fn : PySem.W.isFn K (.ref f) = true
def tStat (C : Addr) (sp : Sp) (dvs : List V) (E : XK) (ta : TE) (t : TA) : TE := fun σ H Q => ta σ H fun x H1 => x = .ref C ∧ t σ H1 fun vs H2 => sp (vs ++ dvs) H2 Q E
section
variable {X : Cx} {pins : List (Addr × Obj)} {σ : L2.St} {H : Hp} {s : Shared}
theorem getmethst_ok {C p g : Addr} {mc : Value} {m : Str} {pl : Sem Bool} {A : Around} {E : Value → Shared → Prop} {Q : Value × List Value → Shared → Prop} (I : Inv X pins σ H s) (r : ClX.CRead X.K C mc) (k : CStat X.K C mc m p g)
    (h : ∀ s', Inv X pins σ H s' → Q (.ref g, []) s') : wpAny (model X.prog X.w) A (getMethod (.ref C) m pl) Q E s := by
  obtain ⟨rest, hp⟩ := k.rc
  refine PySem.W.method_cls I.kIn r.ga (PySem.W.cls_bind I.kIn r.rd k.at_ ?_)
  exact wpAny_call (PySem.W.sm_get (s := { s with toks := s.toks + 1 }) I.kIn hp (PySem.W.handed_on rfl (h _ (I.tok _))))
end
section
variable {X : Cx} {CX : CXT} {k : Nat} {C p g : Addr} {mc : Value} {fd : FuncData} {ps : List Str} {ds : List Value} {dvs : List V} {sp : Sp} {E : XK} {o e : Expr} {es : List Expr} {m : Str} {pos apos : Pos} {ta : TE} {t : TA} {pl : Sem Bool}
/-- C.m() -/
theorem pe_stat0 (he : PE X o ta) (r : ClX.CRead X.K C mc) (c : CStat X.K C mc m p g) (F : FnOk X.prog X.w X.K X.mg X.base CX k g fd ps sp) (hr : Room k X.A) (hk : PySem.W.keepIn X.K (.ref g) = true) (hb : Binds X.K fd ps ds) (hd : Vals dvs ds) (hx : Passes CX X E)
    (ht : eval (.Call (.Attribute o m apos) [] [] pos) X.env = (do
      let ov ← eval o X.env
      standAt apos.atName
      let (f, first) ← holding [ov] (getMethod ov m pl)
      callWith pos f first (backTo pos (starEach [] X.env)) (backToKw pos (keywordEach [] X.env))) := by rfl) :
    PE X (.Call (.Attribute o m apos) [] [] pos) (tStat C sp dvs E ta tNil) := by
  refine ⟨fun pins s σ H Q I h => ?_⟩
  refine PySem.W.methodCall_KW (pl := pl) (thn (he.run pins s σ H _ I h) fun u s1 ⟨x, H1, I1, rx, ex, q⟩ => ?_) ht
  subst ex
  obtain rfl : u = Value.ref C := rx
  refine getmethst_ok I1 r c fun s2 I2 => ?_
  exact PySem.W.callWith_K0 I2.kIn hk (run_fn F hr hb hd hx I2 .nil q)
/-- C.m(e, ..) -/
theorem pe_stat (he : PE X o ta) (r : ClX.CRead X.K C mc) (c : CStat X.K C mc m p g) (F : FnOk X.prog X.w X.K X.mg X.base CX k g fd ps sp) (hr : Room k X.A) (hk : PySem.W.keepIn X.K (.ref g) = true) (hb : Binds X.K fd ps ds) (hd : Vals dvs ds) (hx : Passes CX X E) (ha : PA X (e :: es) t)
    (hst : starEach (e :: es) X.env = (false, eval e X.env) :: starEach es X.env := by rfl) (hpl : (backTo pos (starEach es X.env)).any (·.1) = false := by rfl)
    (ht : eval (.Call (.Attribute o m apos) (e :: es) [] pos) X.env = (do
      let ov ← eval o X.env
      standAt apos.atName
      let (f, first) ← holding [ov] (getMethod ov m pl)
      callWith pos f first (backTo pos (starEach (e :: es) X.env)) (backToKw pos (keywordEach [] X.env))) := by rfl) :
    PE X (.Call (.Attribute o m apos) (e :: es) [] pos) (tStat C sp dvs E ta t) := by
  refine ⟨fun pins s σ H Q I h => ?_⟩
  refine PySem.W.methodCall_KW (pl := pl) (thn (he.run pins s σ H _ I h) fun u s1 ⟨x, H1, I1, rx, ex, q⟩ => ?_) ht
  subst ex
  obtain rfl : u = Value.ref C := rx
  refine getmethst_ok I1 r c fun s2 I2 => ?_
  refine PySem.W.callWith_K (h₀ := X.base) I2.ok.mod.kin hk (thn (ha.run pos pins s2 σ H1 _ I2 q) fun us s3 ⟨vs, H2, I3, rv, q2⟩ => ⟨I3.kIn, ?_⟩) hst hpl
  exact run_fn F hr hb hd hx I3 rv q2
end
/-! ### what an own special method answers -/
section
variable {X : Cx} {K0 : PySem.W.Frag} {k : Nat} {C f : Addr} {fd : FuncData} {ps : List Str} {sp : Sp}
/-- repr(o) -/
theorem cr_repr {m : Str} (hm : m = "__repr__") (S : Spc X.K C m f) (F : FnOk X.prog X.w X.K X.mg X.base CX0 k f fd ps sp) (hb : Binds X.K fd ps []) (hr : Room (k + 1) X.A) :
    CallR X (.builtin "repr") (fun xs H Q => ∃ a dx fs, xs = [.ref a] ∧ H a = some (.ins C dx fs) ∧ sp [.ref a] H (fun v H' => ∃ z : Str, v = .str z ∧ Q (.str z) H') E0) := by
  subst hm
  intro pins s σ H xs us Q I r h
  obtain ⟨a, dx, fs, rfl, ha, hsp⟩ := h
  obtain rfl := Vals.ref1 r
  obtain ⟨mA, J, _⟩ := ins_get I.hok ha
  obtain ⟨od, J, _⟩ := J.look
  obtain ⟨m, hF⟩ := I.fr
  have hl := F.len _ _ _ _ hsp
  refine PySem.W.repr_K hr.in1.units0 hF I.ok.mod.kin J S.at_ S.fn ?_
  refine wpAny_call (codeAny_mono (F.run X.A.in1 X.stack s H ⟨[.ref a], []⟩ [.ref a] [.ref a] _ E0 hr.in1 I.env0.in1 (hb s [.ref a] I.kIn (by simpa using hl)) (.cons rfl .nil) hsp) fun r s' hq => ?_)
  cases r with
  | error e => exact (show False from hq).elim
  | ok fl =>
    cases fl with
    | ret w =>
      obtain ⟨v, H', I', rv, z, rfl, q⟩ := I.after hq
      obtain ⟨t, rfl⟩ := rv
      exact ⟨.str z, H', I', ⟨t, rfl⟩, q⟩
    | next => exact False.elim hq
    | brk => exact False.elim hq
    | cont => exact False.elim hq
/-- bool(o), by an own __bool__ -/
theorem call_boolK {prog : Program} {w : World} {A : Around} {E : Value → Shared → Prop} {s : Shared} {K : PySem.W.Frag} {L x C f : Addr} {h₀ : Heap} {mm : Str → Option Value} {ox : Obj} {od : Option Obj} {Q : Value → Shared → Prop} (F : Fr h₀ L s.heap mm) (X₀ : K.In h₀) (I : PySem.W.InstAt s.heap x ox C od)
    (hs : PySem.W.findIn K (.ref C) "__bool__" = some (some (.ref f))) (hf : PySem.W.isFn K (.ref f) = true) (h : wpAny (model prog w) A.in1.in1 (call (.ref f) [.ref x]) (PySem.W.BoolBack fun b => Q (.bool b)) E s) : wpAny (model prog w) A (call (.type "bool") [.ref x]) Q E s := by
  refine callType_codes (T := "bool") (Bi := Builtin.«object.__init__») (Q₁ := fun r s₁ => ∃ b, r = .bool b ∧ Q r s₁) PySem.F.called_bool (PySem.F.typeCall_bool_1 _) PySem.F.entry_object_init ?_ ?_
  · refine codeAny_of_tree ?_
    show wpAny _ A.in1.in1 (do checkBuiltinCall "bool.__new__" ⟨[.type "bool", .ref x], []⟩; again (.builtin "bool.__new__" ⟨[.type "bool", .ref x], []⟩)) _ _ s
    refine wpAny_bind (wpAny_of_eq (PySem.F.newCall_bool_1 _) (wpAny_pure ⟨plainId_quiet (by decide +kernel) _, codeAny_builtin PySem.F.entry_bool_new ?_⟩))
    rw [Around.under_plainId (by decide +kernel) _]
    unfold Builtin.«bool.__new__»
    have f1 := PySem.F.conv_sub_bool
    have key : wpAny (model prog w) A.in1.in1 (truthy (.ref x)) (fun b s₁ => Q (.bool b) s₁) E s := PySem.W.truthy_K F X₀ I hs hf h
    obtain ⟨hp, g, d, tk, os⟩ := s
    repeat (any_goals (first | assumption | (with_reducible refine wpAny_bind (wpAny_mono key (fun b s₁ hq => ?_) fun _ _ y => y)) | wp_step))
    all_goals first | exact ⟨_, rfl, _, rfl, hq⟩ | exact ⟨_, rfl, hq⟩ | exact hq | skip
  · rintro obj s₁ ⟨b, rfl, hq⟩
    exact ⟨rfl, PySem.F.args_object_init_2 _ _, object_init_meets PySem.F.called_bool.init.lookup PySem.F.called_bool.made (by decide) prog w A.in1 _ s₁ ⟨rfl, rfl, hq⟩⟩
theorem ct_bool {m : Str} (hm : m = "__bool__") (S : Spc X.K C m f) (F : FnOk X.prog X.w X.K X.mg X.base CX0 k f fd ps sp) (hb : Binds X.K fd ps []) (hr : Room (k + 2) X.A) :
    CallR X (.type "bool") (fun xs H Q => ∃ a dx fs, xs = [.ref a] ∧ H a = some (.ins C dx fs) ∧ sp [.ref a] H (fun v H' => ∃ b : Bool, v = .bl b ∧ Q (.bl b) H') E0) := by
  subst hm
  intro pins s σ H xs us Q I r h
  obtain ⟨a, dx, fs, rfl, ha, hsp⟩ := h
  obtain rfl := Vals.ref1 r
  obtain ⟨mA, J, _⟩ := ins_get I.hok ha
  obtain ⟨od, J, _⟩ := J.look
  obtain ⟨m, hF⟩ := I.fr
  have hl := F.len _ _ _ _ hsp
  refine call_boolK hF I.ok.mod.kin J S.at_ S.fn ?_
  refine wpAny_call (codeAny_mono (F.run X.A.in1.in1 X.stack s H ⟨[.ref a], []⟩ [.ref a] [.ref a] _ E0 hr.in1.in1 I.env0.in1.in1 (hb s [.ref a] I.kIn (by simpa using hl)) (.cons rfl .nil) hsp) fun r s' hq => ?_)
  cases r with
  | error e => exact (show False from hq).elim
  | ok fl =>
    cases fl with
    | ret w =>
      obtain ⟨v, H', I', rv, z, rfl, q⟩ := I.after hq
      cases rv
      exact ⟨.bl z, H', I', rfl, q⟩
    | next => exact False.elim hq
    | brk => exact False.elim hq
    | cont => exact False.elim hq
/-- o == y, by an own __eq__ (y no instance of a class below o's) -/
def rEqO (K : PySem.W.Frag) (C : Addr) (sp : Sp) : R2 := fun x y H Q => ∃ a dx fs t, x = .ref a ∧ H a = some (.ins C dx fs) ∧ TyX K H y t ∧ PySem.W.notFirst K C t = true ∧ sp [.ref a, y] H (fun v H' => ∃ b : Bool, v = .bl b ∧ Q (.bl b) H') E0
theorem op_eqO {m : Str} (hm : m = "__eq__") (S : Spc X.K C m f) (F : FnOk X.prog X.w X.K X.mg X.base CX0 k f fd ps sp) (hb : Binds X.K fd ps []) (hr : Room k X.A) (hK : X.K = K0) : OpR X (compareOp .Eq) (rEqO K0 C sp) := by
  subst hm hK
  intro pins s σ H x y u v Q I rx ry h
  obtain ⟨a, dx, fs, t, rfl, ha, ty, hn, hsp⟩ := h
  obtain rfl : u = Value.ref a := rx
  obtain ⟨mA, J, _⟩ := ins_get I.hok ha
  obtain ⟨od, J, _⟩ := J.look
  obtain ⟨m, hF⟩ := I.fr
  obtain ⟨P, kx, hP, _⟩ := kit_of I ry ty
  have hl := F.len _ _ _ _ hsp
  show wpAny _ _ (richCompare .Eq (.ref a) v) _ _ _
  refine PySem.W.cmp_K (op := .Eq) hr.units0 hF I.ok.mod.kin J (kx.ty _ _ I.kIn hP) hn S.at_ S.fn ?_
  refine wpAny_call (codeAny_mono (F.run X.A X.stack s H ⟨[.ref a, v], []⟩ [.ref a, v] [.ref a, y] _ E0 hr I.env0 (by
    have z := hb s [.ref a, v] I.kIn (by simpa using hl)
    simpa using z) (.cons rfl (.cons ry .nil)) hsp) fun r s' hq => ?_)
  cases r with
  | error e => exact (show False from hq).elim
  | ok fl =>
    cases fl with
    | ret w =>
      obtain ⟨z, H', I', rv, b, rfl, q⟩ := I.after hq
      cases rv
      exact ⟨.bl b, H', I', rfl, q⟩
    | next => exact False.elim hq
    | brk => exact False.elim hq
    | cont => exact False.elim hq
end
end OwO
/-! a list comprehension of any number of clauses -/
namespace LcN
open PySem PySem.Spec PyProof.Rows L2
theorem turn_more {elt tg it tg1 it1 : Expr} {ifs ifs1 : List Expr} {gens : List Comprehension} {scope : Scope} {pos : Pos} {d : Nat} {itv acc : Value} {env : Env} (h : gens[d]? = some ⟨tg, it, ifs, 0⟩) (h1 : gens[d + 1]? = some ⟨tg1, it1, ifs1, 0⟩) :
    compTurn (.ListComp elt gens scope pos) d itv acc env = (do
      standAt it.pos
      match ← pyNext itv with
      | none => pure (.done .next)
      | some v =>
        letOwnedTupleGo tg itv v
        assign tg env v
        let mut ok := true
        for c in ifs do
          if ok then ok ← isTrue c env (eval c env)
        if ok then
          let x ← eval it1 env
          standAt it1.pos
          let x ← foldedSetIterable it1 env x
          let _ ← runOwn (.compStart (.ListComp elt gens scope pos) (d + 1) (← holding [x] (pyIter x)) acc env) env
        again (.compLoop (.ListComp elt gens scope pos) d itv acc env)) := by
  unfold compTurn
  simp only [h, h1]
  rfl
theorem turn_last {elt tg it : Expr} {ifs : List Expr} {gens : List Comprehension} {scope : Scope} {pos : Pos} {d : Nat} {itv acc : Value} {env : Env} (h : gens[d]? = some ⟨tg, it, ifs, 0⟩) (h1 : gens[d + 1]? = none) :
    compTurn (.ListComp elt gens scope pos) d itv acc env = (do
      standAt it.pos
      match ← pyNext itv with
      | none => pure (.done .next)
      | some v =>
        letOwnedTupleGo tg itv v
        assign tg env v
        let mut ok := true
        for c in ifs do
          if ok then ok ← isTrue c env (eval c env)
        if ok then
          (do let _ ← call (.builtin "list.append") [acc, ← eval elt env])
        again (.compLoop (.ListComp elt gens scope pos) d itv acc env)) := by
  unfold compTurn
  simp only [h, h1]
  rfl

section
variable {prog : Program} {w : World} {A : Around} {R : Result → Shared → Prop} {s : Shared} {elt tg it tg1 it1 : Expr} {ifs ifs1 : List Expr} {gens : List Comprehension} {scope : Scope} {pos : Pos} {d : Nat} {itv acc : Value} {env : Env}
/-- what is done behind the tests of clause d -/
abbrev innerP (elt : Expr) (gens : List Comprehension) (scope : Scope) (pos : Pos) (d : Nat) (acc : Value) (env : Env) : Sem Unit := match gens[d + 1]? with
        | some g' => do
          let x ← eval g'.iter env
          standAt g'.iter.pos
          let x ← if g'.is_async != 0 then foldedIterable g'.iter x else foldedSetIterable g'.iter env x
          let _ ← runOwn (.compStart (.ListComp elt gens scope pos) (d + 1) (← holding [x] (if g'.is_async != 0 then asyncIter x else pyIter x)) acc env) env
        | none => do let _ ← call (.builtin "list.append") [acc, ← eval elt env]
abbrev testsOf (ifs : List Expr) (env : Env) : Sem Bool := forIn ifs true fun c r => if r = true then do let ok ← isTrue c env (eval c env); pure (ForInStep.yield ok) else pure (ForInStep.yield r)
/-- one clause's loop: what is done behind its tests is told by In -/
theorem loop_by (In : (Shared → Prop) → Shared → Prop) (hIn : ∀ (Q : Shared → Prop) (s : Shared) (E : Value → Shared → Prop), In Q s → wpAny (model prog w) A (match gens[d + 1]? with
        | some g' => do
          let x ← eval g'.iter env
          standAt g'.iter.pos
          let x ← if g'.is_async != 0 then foldedIterable g'.iter x else foldedSetIterable g'.iter env x
          let _ ← runOwn (.compStart (.ListComp elt gens scope pos) (d + 1) (← holding [x] (if g'.is_async != 0 then asyncIter x else pyIter x)) acc env) env
        | none => do let _ ← call (.builtin "list.append") [acc, ← eval elt env]) (fun _ s' => Q s') E s)
    (hd : gens[d]? = some ⟨tg, it, ifs, 0⟩) (hg : gens[d + 1]? = none ∨ ∃ tg1 it1 ifs1, gens[d + 1]? = some ⟨tg1, it1, ifs1, 0⟩) (Iv : Nat → Shared → Prop)
    (turn : ∀ n s, Iv n s → wpAny (model prog w) A (pyNext itv) (fun r s₁ => match r with
      | none => R (.ok .next) s₁
      | some v => wpAny (model prog w) A (letOwnedTupleGo tg itv v) (fun _ s₂ => wpAny (model prog w) A (assign tg env v) (fun _ s₃ => wpAny (model prog w) A (testsOf ifs env) (fun ok s₄ =>
          if ok = true then In (fun s₅ => ∃ m, m < n ∧ Iv m s₅) s₄ else ∃ m, m < n ∧ Iv m s₄) (fun _ _ => False) s₃) (fun _ _ => False) s₂) (fun _ _ => False) s₁) (fun _ _ => False) s)
    (n : Nat) (h : Iv n s) : codeAny (model prog w) A (.compLoop (.ListComp elt gens scope pos) d itv acc env) R s := by
  refine codeAny_loop rfl Iv (fun n s hI => ?_) n h
  show wpAny _ A ((compTurn (.ListComp elt gens scope pos) d itv acc env).onRaise (fun x => do noteFrame x env; theTreesLotGoes x)) _ _ s
  refine wpAny_noted ?_
  unfold compTurn
  simp only [hd]
  have no : ∀ {α : Type} {t : Sem α} {Q Q' : α → Shared → Prop} {E : Value → Shared → Prop} {s : Shared}, wpAny (model prog w) A t Q (fun _ _ => False) s → (∀ a s, Q a s → Q' a s) → wpAny (model prog w) A t Q' E s := fun h hq => wpAny_mono h hq fun _ _ z => z.elim
  refine wpAny_bind (wpAny_standAt (wpAny_bind (no (turn n s hI) fun r s₁ h₁ => ?_)))
  cases r with
  | none => exact wpAny_pure h₁
  | some v =>
    refine wpAny_bind (no h₁ fun _ s₂ h₂ => wpAny_bind (no h₂ fun _ s₃ h₃ => wpAny_bind (no h₃ fun ok s₄ h₄ => ?_)))
    cases ok with
    | false => exact wpAny_pure ⟨rfl, h₄⟩
    | true =>
      have z := hIn _ s₄ (notedBy (model prog w) A env fun x s' => R (.error x) s') h₄
      rcases hg with hg | ⟨tg1, it1, ifs1, hg⟩
      · rw [hg] at z ⊢
        exact wpAny_bind (wpAny_mono z (fun _ s' h' => wpAny_pure ⟨rfl, h'⟩) fun _ _ h' => h')
      · rw [hg] at z ⊢
        have z2 := wpAny_bind (f := fun _ => (again (.compLoop (.ListComp elt gens scope pos) d itv acc env) : Sem PySem.Fin)) (wpAny_mono z (fun _ s' h' => wpAny_pure (Q := fun (fin : PySem.Fin) s' => match fin with | .done f => R (.ok f) s' | .again c' => c' = Code.compLoop (.ListComp elt gens scope pos) d itv acc env ∧ ∃ m, m < n ∧ Iv m s') ⟨rfl, h'⟩) fun _ _ h' => h')
        simp only [bind_assoc, pure_bind, if_true, bne_self_eq_false, Bool.false_eq_true, if_false] at z2 ⊢
        exact z2
end
/-- a clause's inner part, at its slots and heap: the list at D, what is to be reached -/
abbrev TC := L2.St → Hp → Addr → (Hp → Prop) → Prop
structure Inner (Y : Cx) (elt : Expr) (gens : List Comprehension) (scope : Scope) (pos : Pos) (d : Nat) (tC : TC) (ws : List Nat) : Prop where
  run : ∀ (pins : List (Addr × Obj)) (s : Shared) (σ : L2.St) (H : Hp) (D : Addr) (Nx : Hp → Prop) (E : Value → Shared → Prop), Inv Y pins σ H s → tC σ H D Nx →
    wpAny (model Y.prog Y.w) Y.A (innerP elt gens scope pos d (.ref D) Y.env) (fun _ s' => ∃ H', Inv Y pins (wipe σ ws) H' s' ∧ Nx H') E s
def tEmit (te : TE) : TC := fun σ H D Nx => te σ H fun y H4 => ∃ acc, H4 D = some (.lst acc) ∧ acc.length < sizeLine ∧ Nx (upd H4 D (.lst (acc ++ [y])))
def tClause (wi : TI) (g : TG) (tt : TT) (tC : TC) (vs : List Nat) : TC := fun σ H D Nx => wi σ H fun J H1 => ∃ W : Nat → Nat → Hp → Prop, (∃ m, W 0 m H1) ∧ ∀ j k H, W j k H →
  (J.stop j H ∧ Nx H) ∨ (J.go j H ∧ ∃ Nx1 : Hp → Prop, (∀ H', Nx1 H' → ∃ k', k' < k ∧ W (j + 1) k' H') ∧ ∀ x H', J.yld j H x H' → g x (wipe σ vs) H' fun σ3 H5 => wipe σ3 vs = wipe σ vs ∧ tt σ3 H5 fun b H6 => if b = true then tC σ3 H6 D Nx1 else Nx1 H6)
section
variable {Y : Cx} {elt tg it tg1 it1 : Expr} {ifs ifs1 : List Expr} {gens : List Comprehension} {scope : Scope} {pos : Pos} {d : Nat} {te : TE} {tC : TC} {ws vs : List Nat} {wi : TI} {g : TG} {tt : TT}
theorem out_of {α : Type} {M : Model} {A : Around} {t : Sem α} {Q : α → Shared → Prop} {E E' : Value → Shared → Prop} {s : Shared} (hE : E = fun _ _ => False) (h : wpAny M A t Q E s) : wpAny M A t Q E' s := by
  subst hE
  exact wpAny_mono h (fun _ _ q => q) fun _ _ z => z.elim
theorem inner_last (hxe : Y.xe = fun _ _ => False) (hg : gens[d + 1]? = none) (he : PE Y elt te) : Inner Y elt gens scope pos d (tEmit te) [] := by
  constructor
  intro pins s σ H D Nx E I h
  unfold innerP
  rw [hg]
  refine wpAny_bind (out_of hxe (thn (he.run pins s σ H _ I h) fun z s1 hz => ?_))
  obtain ⟨y, H4, I4, r, acc, hD, hl, nx⟩ := hz
  exact wpAny_bind (app_ok I4 hD hl r fun s2 I5 => wpAny_pure ⟨_, I5, nx⟩)
theorem clause_loop (hxe : Y.xe = fun _ _ => False) (hc : Y.calm = true) (hd : gens[d]? = some ⟨tg, it, ifs, 0⟩) (hg : gens[d + 1]? = none ∨ ∃ tg1 it1 ifs1, gens[d + 1]? = some ⟨tg1, it1, ifs1, 0⟩) (pg : PG Y tg g) (pt : PTs Y ifs tt) (In : Inner Y elt gens scope pos d tC ws)
    (hws : ∀ j ∈ ws, j ∈ vs) {itv D : Addr} {fp : List Addr} {tn : Nat → Heap → Prop} {J : It} (T : Turn Y.prog Y.w Y.K tg J fp itv tn) {pins : List (Addr × Obj)} {s : Shared} {σ : L2.St} {H : Hp} {Nx : Hp → Prop} {W : Nat → Nat → Hp → Prop} {m : Nat} (I : Inv Y pins σ H s) (st : tn 0 s.heap) (f : ∀ b ∈ fp, FpOk Y pins H b)
    (w0 : W 0 m H) (turn : ∀ j k H, W j k H → (J.stop j H ∧ Nx H) ∨ (J.go j H ∧ ∃ Nx1 : Hp → Prop, (∀ H', Nx1 H' → ∃ k', k' < k ∧ W (j + 1) k' H') ∧ ∀ x H', J.yld j H x H' → g x (wipe σ vs) H' fun σ3 H5 => wipe σ3 vs = wipe σ vs ∧ tt σ3 H5 fun b H6 => if b = true then tC σ3 H6 D Nx1 else Nx1 H6)) :
    codeAny (model Y.prog Y.w) Y.A (.compLoop (.ListComp elt gens scope pos) d (.ref itv) (.ref D) Y.env) (fun r s' => match r with | .ok f => f = .next ∧ ∃ H', Inv Y pins (wipe σ vs) H' s' ∧ Nx H' | .error _ => False) s := by
  have stat : ∀ {H' : Hp}, (∀ b ∈ fp, H' b = none) → ∀ b ∈ fp, FpOk Y pins H' b := fun hn b hb => ⟨hn b hb, (f b hb).2⟩
  refine loop_by (fun Q s => ∃ (pins : List (Addr × Obj)) (σ3 : L2.St) (H6 : Hp) (Nx1 : Hp → Prop), Inv Y pins σ3 H6 s ∧ tC σ3 H6 D Nx1 ∧ ∀ s' H', Inv Y pins (wipe σ3 ws) H' s' → Nx1 H' → Q s')
    (fun Q s E ⟨pn, σ3, H6, Nx1, I6, h6, k⟩ => wpAny_mono (In.run pn s σ3 H6 D Nx1 E I6 h6) (fun _ s' ⟨H', I', n'⟩ => k s' H' I' n') fun _ _ z => z) hd hg
    (fun n s' => ∃ j H', Inv Y pins (wipe σ vs) H' s' ∧ tn j s'.heap ∧ (∀ b ∈ fp, H' b = none) ∧ W j n H') ?_ m ⟨0, H, I.weak (wipe_length _ _) (fun j v e => (wipe_some e).1), st, fun b hb => (f b hb).1, w0⟩
  rintro n s1 ⟨j, H1, I1, st1, n1, w1⟩
  rcases turn j n H1 w1 with ⟨stop, nx⟩ | ⟨go, Nx1, hN, step⟩
  · refine thnF (T.done Y rfl rfl rfl hc j pins s1 _ H1 (fun _ _ => False) I1 (stat n1) st1 stop) fun r s2 ⟨hr, I2⟩ => ?_
    subst hr
    exact ⟨rfl, H1, I2, nx⟩
  · refine thnF (T.item Y rfl rfl rfl hc j pins s1 _ H1 (fun _ _ => False) I1 (stat n1) st1 go) fun r s2 ⟨u, hr, h2⟩ => ?_
    subst hr
    refine thnF h2 fun _ s3 ⟨x, H3, I3, r3, y3, st3, n3⟩ => ?_
    have I3' := I3.pinned (stat n3) (T.obj _ _ st3)
    refine out_of hxe (thn (pg.run _ s3 _ H3 x u _ I3' r3 (step x H3 y3)) fun _ s4 h4 => ?_)
    obtain ⟨σ4, H4, I4, hw4, q4⟩ := h4
    refine out_of hxe (thn (pt.run _ s4 σ4 H4 _ I4 q4) fun b s5 h5 => ?_)
    obtain ⟨H5, I5, q5⟩ := h5
    have back : ∀ {σ5 : L2.St} {s' : Shared} {H' : Hp}, Inv Y (pins ++ pinsAt fp s3.heap) σ5 H' s' → (wipe σ vs).length = σ5.length → (∀ (i : Nat) v, (wipe σ vs)[i]? = some (some v) → σ5[i]? = some (some v)) → Nx1 H' →
        ∃ k, k < n ∧ ∃ j H', Inv Y pins (wipe σ vs) H' s' ∧ tn j s'.heap ∧ (∀ b ∈ fp, H' b = none) ∧ W j k H' := fun {σ5 s' H'} I' hl hk nx => by
      obtain ⟨k, hkn, w'⟩ := hN H' nx
      have pin' : ∀ b ∈ fp, ∀ o, s3.heap.get? b = some o → s'.heap.get? b = some o ∧ H' b = none := fun b hb o e =>
        let z := I'.pin (b, o) (List.mem_append_right _ (List.mem_append_right _ (mem_pinsAt hb e)))
        ⟨z.1, z.2.1⟩
      refine ⟨k, hkn, j + 1, H', I'.unpinned.weak hl hk, T.keep _ _ _ st3 fun b hb o e => (pin' b hb o e).1, fun b hb => ?_, w'⟩
      obtain ⟨o, e, _⟩ := T.obj _ _ st3 b hb
      exact (pin' b hb o e).2
    have l4 : (wipe σ vs).length = σ4.length := by rw [← hw4, wipe_length]
    have k4 : ∀ (i : Nat) v, (wipe σ vs)[i]? = some (some v) → σ4[i]? = some (some v) := fun i v e => by
      rw [← hw4] at e
      exact (wipe_some e).1
    cases b with
    | false => exact back I5 l4 k4 q5
    | true =>
      refine ⟨_, σ4, H5, Nx1, I5, q5, fun s' H' I' nx => back I' (l4.trans (wipe_length σ4 ws).symm) (fun i v e => ?_) nx⟩
      rw [← hw4] at e
      obtain ⟨e1, e2⟩ := wipe_some e
      rw [wipe_out fun z => e2 (hws i z)]
      exact e1
end
end LcN
/-! a clause within a clause, and the whole comprehension -/
namespace LcN
open PySem PySem.Spec PyProof.Rows L2
theorem wipe_in {σ : L2.St} {i : Nat} (hi : i < σ.length) : ∀ {vs : List Nat}, i ∈ vs → (wipe σ vs)[i]? = some none
  | [], h => by cases h
  | v :: vs, h => by
    unfold wipe
    by_cases e : v = i
    · subst e
      rw [List.getElem?_set_self (by rw [wipe_length]; exact hi)]
    · rw [List.getElem?_set_ne e]
      exact wipe_in hi ((List.mem_cons.1 h).resolve_left fun z => e z.symm)
theorem wipe_twice (σ : L2.St) (vs : List Nat) : wipe (wipe σ vs) vs = wipe σ vs := by
  refine List.ext_getElem? fun i => ?_
  by_cases h : i ∈ vs
  · by_cases hl : i < σ.length
    · rw [wipe_in hl h, wipe_in (by rw [wipe_length]; exact hl) h]
    · rw [List.getElem?_eq_none (by rw [wipe_length, wipe_length]; omega), List.getElem?_eq_none (by rw [wipe_length]; omega)]
  · rw [wipe_out h]
section
variable {prog : Program} {w : World} {A : Around} {R : Result → Shared → Prop} {s : Shared} {elt tg iter : Expr} {ifs : List Expr} {gens : List Comprehension} {scope : Scope} {pos : Pos} {d : Nat} {it acc : Value} {env : Env}
theorem startN_ok (hd : gens[d]? = some ⟨tg, iter, ifs, 0⟩) (h0 : codeAny (model prog w) A (.compLoop (.ListComp elt gens scope pos) d it acc env) R s)
    (h : wpAny (model prog w) A (pyIter it) (fun it' s' => codeAny (model prog w) A (.compLoop (.ListComp elt gens scope pos) d it' acc env) R s')
      (notedBy (model prog w) A env fun x s' => R (.error x) s') s) :
    codeAny (model prog w) A (.compStart (.ListComp elt gens scope pos) d it acc env) R s := by
  refine codeAny_of_tree ?_
  show wpAny _ _ ((compStart (.ListComp elt gens scope pos) d it acc env).onRaise (fun x => do noteFrame x env; standAt theWindowsPlace)) _ _ s
  refine wpAny_notedAt ?_
  have e : (clausesOf (.ListComp elt gens scope pos))[d]? = some ⟨tg, iter, ifs, 0⟩ := hd
  unfold compStart
  rw [e]
  show wpAny _ _ (ask >>= _) _ _ s
  refine wpAny_bind (wpAny_askSetting (wpAny_ite ?_))
  split
  · first
      | exact wpAny_bind (wpAny_pure (wpAny_pure (And.intro rfl h0)))
      | exact wpAny_pure (And.intro rfl h0)
  · first
      | exact wpAny_bind (wpAny_rule (wpAny_bind (wpAny_standAt (wpAny_bind (wpAny_mono h (fun it' s' h' => wpAny_pure (And.intro rfl h')) fun _ _ x => x)))))
      | (refine wpAny_bind (wpAny_rule ?_); show wpAny _ _ (standAt iter.pos >>= _) _ _ s; exact wpAny_bind (wpAny_standAt (wpAny_bind (wpAny_mono h (fun it' s' h' => wpAny_pure (And.intro rfl h')) fun _ _ x => x))))
end
section
variable {Y : Cx} {elt tg it : Expr} {ifs : List Expr} {gens : List Comprehension} {scope : Scope} {pos : Pos} {d : Nat} {te : TE} {tC : TC} {ws vs : List Nat} {wi : TI} {g : TG} {tt : TT}
theorem inner_more (hxe : Y.xe = fun _ _ => False) (hc : Y.calm = true) (hd : gens[d + 1]? = some ⟨tg, it, ifs, 0⟩) (hg : gens[d + 1 + 1]? = none ∨ ∃ tg1 it1 ifs1, gens[d + 1 + 1]? = some ⟨tg1, it1, ifs1, 0⟩) (pi : PI Y tg it wi) (pg : PG Y tg g) (pt : PTs Y ifs tt) (In : Inner Y elt gens scope pos (d + 1) tC ws)
    (hws : ∀ j ∈ ws, j ∈ vs) (hs : ∀ x, foldedSetIterable it Y.env x = pure x) : Inner Y elt gens scope pos d (tClause wi g tt tC vs) vs := by
  constructor
  intro pins s σ H D Nx E I h
  unfold innerP
  rw [hd]
  simp only [bne_self_eq_false, Bool.false_eq_true, if_false]
  refine wpAny_bind (out_of hxe (thn (pi.run pins s σ H _ I h) fun xv s1 hx => ?_))
  refine wpAny_bind (wpAny_standAt (wpAny_bind (wpAny_of_eq (hs xv) (wpAny_bind (wpAny_holding (out_of hxe (thn hx fun itv s2 h2 => ?_)))))))
  obtain ⟨it1, fp, tn, J, H2, e, I2, T, st2, f2, W, ⟨m, w0⟩, turn⟩ := h2
  subst e
  refine wpAny_bind (wpAny_runOwn ?_)
  rw [Around.mark_none]
  have loop := clause_loop (Nx := Nx) (D := D) hxe hc hd hg pg pt In hws T I2 st2 f2 w0 turn
  refine codeAny_mono (startN_ok hd loop (T.self Y.A 0 _ _ _ st2 loop)) fun r s' hr => ?_
  cases r with
  | ok f => exact wpAny_pure hr.2
  | error e => exact hr.elim
end
section
variable {X : Cx}
/-- a comprehension of any number of clauses: the first one's source, the new list, then what its turns owe -/
def tLcN (wi : TI) (g : TG) (tt : TT) (tC : TC) (vs : List Nat) : TE := fun σ H Q => wi σ H fun J H1 => ∀ D, H1 D = none → ∃ W : Nat → Nat → Hp → Prop, (∃ m, W 0 m (upd H1 D (.lst []))) ∧ ∀ i m H, W i m H →
  (J.stop i H ∧ Q (.ref D) H) ∨ (J.go i H ∧ ∃ Nx : Hp → Prop, (∀ H', Nx H' → ∃ m', m' < m ∧ W (i + 1) m' H') ∧ ∀ x H', J.yld i H x H' → g x (wipe σ vs) H' fun σ2 H2 => wipe σ2 vs = wipe σ vs ∧ tt σ2 H2 fun b H3 => if b = true then tC σ2 H3 D Nx else Nx H3)
theorem lcN_core {pins : List (Addr × Obj)} {s : Shared} {σ : L2.St} {H : Hp} {Q : VK} {elt tg iter : Expr} {ifs : List Expr} {rest : List Comprehension} {scope : Scope} {own : List (Str × Nat)} {ws : List Nat} {pos pos' : Pos} {wi : TI} {g : TG} {tt : TT} {tC : TC} {use : Option (Value → Sem Unit)} {Qf : Value → Shared → Prop}
    (hc : X.calm = true) (hN : X.N.Nodup) (I : Inv X pins σ H s) (hi : PI X tg iter wi) (ok : BlkOk X.N X.env.scope scope own) (hv : ∀ i ∈ ws, i ∈ own.map (·.2))
    (hr : (⟨tg, iter, ifs, 0⟩ :: rest : List Comprehension)[0 + 1]? = none ∨ ∃ tg1 it1 ifs1, (⟨tg, iter, ifs, 0⟩ :: rest : List Comprehension)[0 + 1]? = some ⟨tg1, it1, ifs1, 0⟩)
    (hg : ∀ (s : Shared) (H : Hp) (C : Addr) (cl : List (Str × Addr)) (fp : List Addr), PG (X.blk s H scope (compEnvC scope cl C X.env) fp) tg g) (ht : ∀ (s : Shared) (H : Hp) (C : Addr) (cl : List (Str × Addr)) (fp : List Addr), PTs (X.blk s H scope (compEnvC scope cl C X.env) fp) ifs tt)
    (hC : ∀ (s : Shared) (H : Hp) (C : Addr) (cl : List (Str × Addr)) (fp : List Addr), Inner (X.blk s H scope (compEnvC scope cl C X.env) fp) elt (⟨tg, iter, ifs, 0⟩ :: rest) scope pos 0 tC ws) (hs : ∀ x, foldedSetIterable iter X.env x = pure x)
    (h : tLcN wi g tt tC (own.map (·.2)) σ H Q)
    (hRR : ∀ D C s' m H', Inv X pins σ H' s' → Q (.ref D) H' → s'.heap.Ns C m → FpOk X pins H' C → compPost (model X.prog X.w) X.A X.xe use Qf (.ref D) C (.ok .next) s') :
    wpAny (model X.prog X.w) X.A (comprehension (.ListComp elt (⟨tg, iter, ifs, 0⟩ :: rest) scope pos) scope X.env pos' (newList []) false (eval iter X.env) use) Qf X.xe s := by
  have hfree : ∀ y ∈ scope.names, y.2 = .free → ∃ c, X.env.cells.lookup y.1 = some c := fun y hy e => by
    rcases ok.free y hy e with k | k
    · exact I.ok.has _ (.inl k)
    · exact I.ok.has _ (.inr k)
  refine wpAny_comprehension_free (use := use) rfl hs (closure_ok hfree) ok.kind (fun y hy e => by rw [ok.uniq y hy, e])
    (thn (hi.run pins s σ H _ I h) fun xv s1 hx => thn hx fun itv s2 h2 => ?_)
  obtain ⟨it, fp, tn, J, H2, e, I2, T, st2, f2, q⟩ := h2
  subst e
  refine wpAny_newObj_type (newEnv_comp ?_) (by show 0 ≤ sizeLine; decide)
  generalize hD : s2.heap.objs.size = D
  have hDn : H2 D = none := I2.hok.fresh (Nat.le_of_eq hD)
  obtain ⟨W, ⟨m0, w0⟩, turn⟩ := q D hDn
  generalize hs3 : ({ s2 with heap := s2.heap.push { cls := .type "list", data := .seq ([] : List Value).toArray } } : Shared) = s3
  have I3 : Inv X pins σ (upd H2 D (.lst [])) s3 := by
    rw [← hs3]
    refine I2.laid (t' := s2.toks) (fun b o e => Heap.get?_push_of_some _ e) (Nat.le_of_eq hD) ⟨Nat.zero_le _, [], 0, .nil, ?_⟩
    rw [← hD]
    exact Heap.get?_push_size _ rfl
  have h3 : s3.heap = s2.heap.push { cls := .type "list", data := .seq ([] : List Value).toArray } := by rw [← hs3]
  have sz : ∀ b ∈ fp, b < s2.heap.objs.size := fun b hb => by
    obtain ⟨o, e, _⟩ := T.obj _ _ st2 b hb
    exact Heap.lt_size e
  have f3 : ∀ b ∈ fp, FpOk X pins (upd H2 D (.lst [])) b ∧ b < s3.heap.objs.size := fun b hb => by
    have hlt := sz b hb
    refine ⟨⟨?_, (f2 b hb).2⟩, by rw [h3, Heap.size_push]; exact Nat.lt_succ_of_lt hlt⟩
    rw [upd_ne (by rw [← hD]; exact Nat.ne_of_lt hlt)]
    exact (f2 b hb).1
  have st3 : tn 0 s3.heap := T.keep _ _ _ st2 fun b _ o e => by rw [h3]; exact Heap.get?_push_of_some _ e
  have I4 := block_start I3 ok hN f3
  have pg := hg s3 (upd H2 D (.lst [])) s3.heap.objs.size (cellsFrom (s3.heap.objs.size + 1) scope.names (cloFrom X.env.cells scope.names [])) fp
  have pt := ht s3 (upd H2 D (.lst [])) s3.heap.objs.size (cellsFrom (s3.heap.objs.size + 1) scope.names (cloFrom X.env.cells scope.names [])) fp
  have pc := hC s3 (upd H2 D (.lst [])) s3.heap.objs.size (cellsFrom (s3.heap.objs.size + 1) scope.names (cloFrom X.env.cells scope.names [])) fp
  show codeAny _ _ (.compStart (.ListComp elt (⟨tg, iter, ifs, 0⟩ :: rest) scope pos) 0 (.ref it) (.ref D) (compEnvC scope (cellsFrom (s3.heap.objs.size + 1) scope.names (cloFrom X.env.cells scope.names [])) s3.heap.objs.size X.env)) (compPost (model X.prog X.w) X.A X.xe use Qf (.ref D) s3.heap.objs.size) { s3 with heap := pushCells (s3.heap.push { cls := .type "dict", data := .dict #[] }) scope.names }
  have nfp : ∀ b ∈ fp, (upd H2 D (.lst [])) b = none := fun b hb => (f3 b hb).1.1
  generalize hce : compEnvC scope (cellsFrom (s3.heap.objs.size + 1) scope.names (cloFrom X.env.cells scope.names [])) s3.heap.objs.size X.env = ce at I4 pg pt pc ⊢
  have cL : ce.locals = s3.heap.objs.size := by subst hce; rfl
  generalize hH3 : upd H2 D (.lst []) = H3 at I3 I4 pg pt pc w0 nfp f3
  generalize hs4 : ({ s3 with heap := pushCells (s3.heap.push { cls := .type "dict", data := .dict #[] }) scope.names } : Shared) = s4 at I4 ⊢
  have st4 : tn 0 s4.heap := T.keep _ _ _ st3 fun b _ o e => by rw [← hs4]; exact pushCells_keeps _ _ _ _ (Heap.get?_push_of_some _ e)
  have stat : ∀ {σ' : L2.St} {H' : Hp} {s' : Shared}, Inv (X.blk s3 H3 scope ce fp) [] σ' H' s' → (∀ b ∈ fp, H' b = none) → ∀ b ∈ fp, FpOk (X.blk s3 H3 scope ce fp) [] H' b := fun {σ' H' s'} I' hn b hb =>
    ⟨hn b hb, (I'.ok.exf b hb).1, I'.ok.exfs b hb, .inl hb, fun x c e => (I'.ok.exf b hb).2 x c e, fun p hp => absurd (show p ∈ ([] : List (Addr × Obj)) ++ [] from hp) (by simp)⟩
  have loop0 := clause_loop (Y := X.blk s3 H3 scope ce fp) (itv := it) (D := D) (vs := own.map (·.2)) (Nx := fun H' => Q (.ref D) H') rfl hc (gens := ⟨tg, iter, ifs, 0⟩ :: rest) (d := 0) rfl hr pg pt pc hv T I4 st4 (stat I4 nfp) w0
    (by rw [wipe_twice]; exact turn)
  have loop : codeAny (model X.prog X.w) X.A (.compLoop (.ListComp elt (⟨tg, iter, ifs, 0⟩ :: rest) scope pos) 0 (.ref it) (.ref D) ce) (compPost (model X.prog X.w) X.A X.xe use Qf (.ref D) s3.heap.objs.size) s4 := by
    refine codeAny_mono loop0 fun r s6 hr => ?_
    cases r with
    | error e => exact hr.elim
    | ok f =>
      obtain ⟨hf, H5, I6, qq⟩ := hr
      subst hf
      have I7 : Inv X pins σ H5 s6 := I3.call' (ch := fp) I6.os I6.base I6.hok I6.bare fun b hb => ⟨(f3 b hb).1.2.2.2.1, (f3 b hb).1.2.1, (f3 b hb).1.2.2.2.2.1, (f3 b hb).1.2.2.2.2.2⟩
      have nC : H5 s3.heap.objs.size = none := by
        have z : H5 ce.locals = none := I6.free
        rw [cL] at z
        exact z
      obtain ⟨m, hn, _⟩ := I6.loc
      have hn : s6.heap.Ns ce.locals m := hn
      rw [cL] at hn
      exact hRR D s3.heap.objs.size s6 m H5 I7 qq hn (I3.fpOk (Nat.le_refl _) nC)
  exact codeAny_compStart_list loop (T.self X.A 0 _ _ _ st4 loop)
/-- as a value -/
theorem pe_lcN {elt tg iter : Expr} {ifs : List Expr} {rest : List Comprehension} {scope : Scope} {own : List (Str × Nat)} {ws : List Nat} {pos : Pos} {wi : TI} {g : TG} {tt : TT} {tC : TC} (hc : X.calm = true) (hN : X.N.Nodup) (hi : PI X tg iter wi) (ok : BlkOk X.N X.env.scope scope own) (hv : ∀ i ∈ ws, i ∈ own.map (·.2))
    (hr : (⟨tg, iter, ifs, 0⟩ :: rest : List Comprehension)[0 + 1]? = none ∨ ∃ tg1 it1 ifs1, (⟨tg, iter, ifs, 0⟩ :: rest : List Comprehension)[0 + 1]? = some ⟨tg1, it1, ifs1, 0⟩)
    (hg : ∀ (s : Shared) (H : Hp) (C : Addr) (cl : List (Str × Addr)) (fp : List Addr), PG (X.blk s H scope (compEnvC scope cl C X.env) fp) tg g) (ht : ∀ (s : Shared) (H : Hp) (C : Addr) (cl : List (Str × Addr)) (fp : List Addr), PTs (X.blk s H scope (compEnvC scope cl C X.env) fp) ifs tt)
    (hC : ∀ (s : Shared) (H : Hp) (C : Addr) (cl : List (Str × Addr)) (fp : List Addr), Inner (X.blk s H scope (compEnvC scope cl C X.env) fp) elt (⟨tg, iter, ifs, 0⟩ :: rest) scope pos 0 tC ws) (hs : ∀ x, foldedSetIterable iter X.env x = pure x := by intro _; rfl) :
    PE X (.ListComp elt (⟨tg, iter, ifs, 0⟩ :: rest) scope pos) (tLcN wi g tt tC (own.map (·.2))) := by
  refine ⟨fun pins s σ H Q I h => ?_⟩
  rw [eval_ListComp]
  refine lcN_core hc hN I hi ok hv hr hg ht hC hs h fun D C s' m H' I' q hn f => ⟨m, hn, fun h'' sb => ?_⟩
  obtain ⟨f0, f1, f2, f3, f4, f5⟩ := f
  exact ⟨.ref D, H', I'.turned (t' := s'.toks) (fun b o hb e => (sb.2 b hb).trans e) f0 f1 f3 f4 f5, rfl, q⟩
/-- given to a name -/
theorem ps_setLcN {i : Nat} {y : Str} {py : Pos} {elt tg iter : Expr} {ifs : List Expr} {rest : List Comprehension} {scope : Scope} {own : List (Str × Nat)} {ws : List Nat} {pos spos : Pos} {wi : TI} {g : TG} {tt : TT} {tC : TC} (hc : X.calm = true) (hN : X.N.Nodup) (hy : X.N[i]? = some y) (hyl : X.env.scope.names.lookup y = some .local)
    (hsw : swapsWith (.ListComp elt (⟨tg, iter, ifs, 0⟩ :: rest) scope pos) (some (.Name y py)) spos.line X.env = pure true) (hi : PI X tg iter wi) (ok : BlkOk X.N X.env.scope scope own) (hv : ∀ i ∈ ws, i ∈ own.map (·.2))
    (hr : (⟨tg, iter, ifs, 0⟩ :: rest : List Comprehension)[0 + 1]? = none ∨ ∃ tg1 it1 ifs1, (⟨tg, iter, ifs, 0⟩ :: rest : List Comprehension)[0 + 1]? = some ⟨tg1, it1, ifs1, 0⟩)
    (hg : ∀ (s : Shared) (H : Hp) (C : Addr) (cl : List (Str × Addr)) (fp : List Addr), PG (X.blk s H scope (compEnvC scope cl C X.env) fp) tg g) (ht : ∀ (s : Shared) (H : Hp) (C : Addr) (cl : List (Str × Addr)) (fp : List Addr), PTs (X.blk s H scope (compEnvC scope cl C X.env) fp) ifs tt)
    (hC : ∀ (s : Shared) (H : Hp) (C : Addr) (cl : List (Str × Addr)) (fp : List Addr), Inner (X.blk s H scope (compEnvC scope cl C X.env) fp) elt (⟨tg, iter, ifs, 0⟩ :: rest) scope pos 0 tC ws) (hs : ∀ x, foldedSetIterable iter X.env x = pure x := by intro _; rfl) :
    PS X (.Assign [.Name y py] (.ListComp elt (⟨tg, iter, ifs, 0⟩ :: rest) scope pos) spos) (tAsg (tLcN wi g tt tC (own.map (·.2))) (gName i)) := by
  refine ⟨fun pins s σ H D I h => ?_⟩
  rw [exec_Assign_Name_used _ _ _ _ hsw]
  refine wpAny_bind (wpAny_standAt (wpAny_bind ?_))
  show wpAny _ X.A (do let _ ← comprehension (.ListComp elt (⟨tg, iter, ifs, 0⟩ :: rest) scope pos) scope X.env (firstIterPos (⟨tg, iter, ifs, 0⟩ :: rest) pos) (newList []) false (eval iter X.env) (some (assign (.Name y py) X.env))) _ _ s
  have h : tLcN wi g tt tC (own.map (·.2)) σ H (fun x H1 => gName i x σ H1 D.nx) := h
  refine wpAny_bind (thn (lcN_core (Qf := fun _ s' => SP X pins D .next s') hc hN I hi ok hv hr hg ht hC hs h fun L C s' m H' I' q hn f => ?_) fun _ s' hq => wpAny_pure (wpAny_pure hq))
  show wpAny _ _ (assign (.Name y py) X.env (.ref L)) _ _ _
  refine wpAny_assign_Name (store_ok2 (v := V.ref L) I' hN hy (.inl hyl) rfl (fun s2 I2 ⟨a, sb, ha⟩ => ?_) (.inr hyl))
  obtain ⟨f0, f1, f2, f3, f4, f5⟩ := f
  have haC : C ≠ a := by
    rcases ha with z | z
    · rw [z]; exact f1
    · exact fun e => f4 y a z e.symm
  refine ⟨m, hn.sameBut sb haC, fun h3 sb3 => ?_⟩
  exact ⟨_, H', I2.turned (t' := s2.toks) (fun b o hb e => (sb3.2 b hb).trans e) f0 f1 f3 f4 f5, q⟩
end
end LcN
/-! a range that a name holds; max(.., default=0) -/
namespace LcN
open PySem PySem.Spec PyProof.Rows L2 PySem.W
section
variable {X : Cx} {tg : Expr}
def iRngV (tl : TE) : TI := fun σ H R => tl σ H fun v H1 => ∃ (a : Addr) (j : Int), v = .ref a ∧ H1 a = some (.rng 0 j) ∧ -(2 ^ 62) ≤ j ∧ j < 2 ^ 62 ∧ R (Itr 0 j.toNat) H1
/-- a walk over a range object that stands in the heap -/
theorem pi_rng {l : Expr} {tl : TE} (hl : PE X l tl) : PI X tg l (iRngV tl) := by
  refine ⟨fun pins s σ H R I h => ?_⟩
  refine thn (hl.run pins s σ H _ I h) fun v s1 ⟨x, H1, I1, r1, q1⟩ => ?_
  obtain ⟨a, j, e, ha, h1, h2, q⟩ := q1
  subst e
  cases r1
  obtain ⟨t, u, v, ho⟩ := I1.hok _ _ ha
  refine wpAny_pyIter_range (a := 0) (b := j) (c := 1) (show IsRange s1.heap a 0 j 1 t u v from ho) (small_one (by omega) (by omega) h1 h2) ?_
  refine ⟨s1.heap.objs.size, [s1.heap.objs.size], _, _, H1, rfl,
    I1.kept (t' := s1.toks) fun b o e => Heap.get?_push_of_some _ e, turn_range _ 0 j.toNat, ?_, fun b hb => ?_, q⟩
  · have e1 : (0 : Int) + ((0 : Nat) : Int) * 1 = 0 := by simp
    have e2 : ((j.toNat : Nat) : Int) - ((0 : Nat) : Int) = Builtin.Range.rangeSize 0 j 1 := by rw [rangeSize_one]; split <;> omega
    show IsRangeIter _ _ ((0 : Int) + ((0 : Nat) : Int) * 1) (((j.toNat : Nat) : Int) - ((0 : Nat) : Int)) 1
    rw [e1, e2]
    exact Heap.get?_push_size _ rfl
  · have e : b = s1.heap.objs.size := by simpa using hb
    subst e
    exact I1.fpOk (Nat.le_refl _) (I1.hok.fresh (Nat.le_refl _))
/-- range(n) as a value -/
theorem cr_range1 : CallR X (.type "range") (fun vs H Q => ∃ j, vs = [V.int j] ∧ ∀ p, H p = none → Q (.ref p) (upd H p (.rng 0 j))) := by
  intro pins s σ H vs us Q I r h
  obtain ⟨j, rfl, q⟩ := h
  cases r with
  | cons r rr =>
    cases rr
    obtain ⟨t, rfl⟩ := r
    refine call_range_1 ⟨.ref s.heap.objs.size, upd H s.heap.objs.size (.rng 0 j), I.laid (t' := s.toks + 2) (fun b o e => Heap.get?_push_of_some _ e) (Nat.le_refl _) ?_, rfl, q _ (I.hok.fresh (Nat.le_refl _))⟩
    exact ⟨_, t, _, Heap.get?_push_size _ rfl⟩
/-- what max(ns, default=d) gives -/
def maxDef (d : Int) : List Int → Int
  | [] => d
  | n :: r => r.foldl max n
def rMaxDef (K : PySem.W.Frag) : List V → List V → Hp → VK → Prop := fun vs zs H Q => ∃ (a : Addr) (ns : List Int) (d : Int), vs = [V.ref a] ∧ zs = [V.int d] ∧ SqL K H a (ns.map V.int) ∧ Q (.int (maxDef d ns)) H
theorem depth_ints : ∀ ns : List Int, PyData.depthAll (ns.map PyData.int) ≤ 1
  | [] => Nat.zero_le _
  | n :: r => by
    have e := depth_ints r
    show max (PyData.depth (.int n)) (PyData.depthAll (r.map PyData.int)) ≤ 1
    have e1 : PyData.depth (.int n) ≤ 1 := by first | exact Nat.le_refl _ | exact Nat.zero_le _ | (unfold PyData.depth; omega)
    omega
theorem alike_ints (ns : List Int) : AlikeAll (ns.map PyData.int) := by
  constructor
  · intro x hx y hy
    obtain ⟨i, _, rfl⟩ := List.mem_map.1 hx
    obtain ⟨j, _, rfl⟩ := List.mem_map.1 hy
    unfold alike
    rfl
  · intro x hx
    obtain ⟨i, _, rfl⟩ := List.mem_map.1 hx
    exact fun z => by cases z
theorem cr_maxDef (hc : X.calm = true) (hu : X.A.units + 65 < cLine) : CallRK X (.builtin "max") [Str.ofString "default"] (rMaxDef X.K) := by
  intro pins s σ H vs zs us ws Q I r rz h
  obtain ⟨a, ns, d, rfl, rfl, hs, q⟩ := h
  obtain rfl := Vals.ref1 r
  obtain ⟨w1, rfl, e1⟩ := vals1 rz
  obtain ⟨t1, rfl⟩ := e1
  obtain ⟨its, rv, hl, hz⟩ := I.list hs
  have hi := rv.ints
  have hd := depth_ints ns
  refine max_list_default (I.ok.hd hc) hl.isList (hi.reads _) (alike_ints ns) (by omega) (fun e h' tk k => ?_) (fun y ys i v h' tk bs e hv hr k => ?_)
  · cases ns with
    | nil => exact ⟨.int d, H, I.kept k, ⟨_, rfl⟩, q⟩
    | cons n r => cases e
  · cases ns with
    | nil => cases e
    | cons n r =>
      injection e with e1 e2
      subst e1
      subst e2
      rw [maxD_ints] at hr
      cases hr
      exact ⟨.int _, H, I.kept k, ⟨_, rfl⟩, q⟩
end
end LcN
/-! a field as a target; a clause over a range that a name holds, read -/
namespace LcN
open PySem PySem.Spec PyProof.Rows L2 PySem.W
section
variable {X : Cx} {o : Expr} {ta : TE} {f : Str} {pos : Pos}
def gFld (K : PySem.W.Frag) (ta : TE) (f : Str) : TG := fun y σ H Q => ta σ H fun x H2 => ∃ a C dx fs, x = .ref a ∧ H2 a = some (.ins C dx fs) ∧ Cls K C ∧ NoAttr K C f ∧ fs.length < 1000 ∧ Q σ (upd H2 a (.ins C dx (putF f y fs)))
theorem pg_fld (ha : PE X o ta) : PG X (.Attribute o f pos) (gFld X.K ta f) := by
  refine ⟨fun pins s σ H v u Q I r h => ?_⟩
  rw [assign_Attribute]
  refine wpAny_bind (wpAny_holding (thn (ha.run pins s σ H _ I h) fun ov s1 ⟨x, H1, I1, r1, a, C, dx, fs, ex, ea, c, n, l, q⟩ => ?_))
  subst ex
  obtain rfl : ov = Value.ref a := r1
  refine wpAny_bind (wpAny_standAt (wpAny_bind (wpAny_holding (setattr_ok I1 ea c n l r fun s2 I2 => ?_))))
  exact wpAny_release ⟨σ, _, I2, q⟩
end
theorem wipe_set {σ : L2.St} {k : Nat} {x : Option V} {vs : List Nat} (h : k ∈ vs) : wipe (σ.set k x) vs = wipe σ vs := by
  refine List.ext_getElem? fun i => ?_
  by_cases hi : i ∈ vs
  · by_cases hl : i < σ.length
    · rw [wipe_in (by rw [List.length_set]; exact hl) hi, wipe_in hl hi]
    · rw [List.getElem?_eq_none (by rw [wipe_length, List.length_set]; omega), List.getElem?_eq_none (by rw [wipe_length]; omega)]
  · rw [wipe_out hi, wipe_out hi, List.getElem?_set_ne fun z => hi (by rw [← z]; exact h)]
/-- what a clause's turns over 0, .., n - 1 ask -/
theorem walk_rng {n k : Nat} {vs : List Nat} {σ : L2.St} {H : Hp} {Nx : Hp → Prop} {B : L2.St → Hp → (Hp → Prop) → Prop} (hk : k ∈ vs) (P : Nat → Hp → Prop) (h0 : P 0 H) (hn : ∀ H', P n H' → Nx H')
    (hs : ∀ j H', j < n → P j H' → B ((wipe σ vs).set k (some (.int j))) H' (P (j + 1))) :
    ∃ W : Nat → Nat → Hp → Prop, (∃ m, W 0 m H) ∧ ∀ j m H, W j m H →
      ((Itr 0 n).stop j H ∧ Nx H) ∨ ((Itr 0 n).go j H ∧ ∃ Nx1 : Hp → Prop, (∀ H', Nx1 H' → ∃ m', m' < m ∧ W (j + 1) m' H') ∧ ∀ x H', (Itr 0 n).yld j H x H' → gName k x (wipe σ vs) H' fun σ3 H5 => wipe σ3 vs = wipe σ vs ∧ tYes σ3 H5 fun b H6 => if b = true then B σ3 H6 Nx1 else Nx1 H6) := by
  refine ⟨fun i m H => m = n - i ∧ i ≤ n ∧ P i H, ⟨n, by simp, Nat.zero_le _, h0⟩, ?_⟩
  rintro i m H ⟨rfl, hi, p⟩
  by_cases hlt : i < n
  · refine .inr ⟨hlt, P (i + 1), fun H' p' => ⟨n - (i + 1), by omega, rfl, hlt, p'⟩, fun x H' y => ?_⟩
    obtain ⟨e, y⟩ := y
    subst e y
    refine ⟨by rw [wipe_set hk, wipe_twice], ?_⟩
    have z := hs i H' hlt p
    show (if true = true then B ((wipe σ vs).set k (some (.int ((0 : Int) + (i : Int))))) H' (P (i + 1)) else P (i + 1) H')
    rw [if_pos rfl, show (0 : Int) + (i : Int) = (i : Int) from Int.zero_add _]
    exact z
  · have e : i = n := by omega
    subst e
    exact .inl ⟨Nat.le_refl _, hn H p⟩
/-- a comprehension over such a range: what it asks -/
theorem lcN_rng {n k : Nat} {vs : List Nat} {σ : L2.St} {H : Hp} {Q : VK} {tl : TE} {tC : TC} (hk : k ∈ vs)
    (h : tl σ H fun v H1 => ∃ a : Addr, v = .ref a ∧ H1 a = some (.rng 0 n) ∧ n < 1000000 ∧ ∀ D, H1 D = none → ∃ P : Nat → Hp → Prop, P 0 (upd H1 D (.lst [])) ∧ (∀ H', P n H' → Q (.ref D) H') ∧
      ∀ j H', j < n → P j H' → tC ((wipe σ vs).set k (some (.int j))) H' D (P (j + 1)))
    (mono : ∀ (σ : L2.St) (H : Hp) (Q Q' : VK), (∀ v H, Q v H → Q' v H) → tl σ H Q → tl σ H Q') : tLcN (iRngV tl) (gName k) tYes tC vs σ H Q := by
  refine mono _ _ _ _ (fun v H1 ⟨a, e, ha, hn, q⟩ => ⟨a, n, e, ha, by omega, by omega, ?_⟩) h
  intro D hD
  obtain ⟨P, h0, hn', hs⟩ := q D hD
  exact walk_rng (B := fun σ3 H6 N => tC σ3 H6 D N) hk P h0 hn' hs
theorem clause_rng {n k : Nat} {vs : List Nat} {σ : L2.St} {H : Hp} {D : Addr} {Nx : Hp → Prop} {tl : TE} {tC : TC} (hk : k ∈ vs)
    (h : tl σ H fun v H1 => ∃ a : Addr, v = .ref a ∧ H1 a = some (.rng 0 n) ∧ n < 1000000 ∧ ∃ P : Nat → Hp → Prop, P 0 H1 ∧ (∀ H', P n H' → Nx H') ∧
      ∀ j H', j < n → P j H' → tC ((wipe σ vs).set k (some (.int j))) H' D (P (j + 1)))
    (mono : ∀ (σ : L2.St) (H : Hp) (Q Q' : VK), (∀ v H, Q v H → Q' v H) → tl σ H Q → tl σ H Q') : tClause (iRngV tl) (gName k) tYes tC vs σ H D Nx := by
  refine mono _ _ _ _ (fun v H1 ⟨a, e, ha, hn, q⟩ => ⟨a, n, e, ha, by omega, by omega, ?_⟩) h
  obtain ⟨P, h0, hn', hs⟩ := q
  exact walk_rng (B := fun σ3 H6 N => tC σ3 H6 D N) hk P h0 hn' hs
end LcN
/-! comprehensions of two and three clauses over one range, whose element leaves the objects as they are -/
namespace LcN
open PySem PySem.Spec PyProof.Rows L2 PySem.W
abbrev flat2 {α : Type} (n : Nat) (b : Nat → Nat → α) : List α := (List.range n).flatMap fun x => (List.range n).map (b x)
abbrev flat3 {α : Type} (n : Nat) (b : Nat → Nat → Nat → α) : List α := (List.range n).flatMap fun x => flat2 n (b x)
theorem flatMap_succ {α : Type} (j : Nat) (f : Nat → List α) : (List.range (j + 1)).flatMap f = (List.range j).flatMap f ++ f j := by
  rw [List.range_succ, List.flatMap_append]
  simp
theorem map_succ {α : Type} (j : Nat) (f : Nat → α) : (List.range (j + 1)).map f = (List.range j).map f ++ [f j] := by
  rw [List.range_succ, List.map_append]
  rfl
theorem len_flatMap {α : Type} {m : Nat} (f : Nat → List α) (h : ∀ x, (f x).length = m) : ∀ j : Nat, ((List.range j).flatMap f).length = j * m
  | 0 => by simp
  | j + 1 => by rw [flatMap_succ, List.length_append, len_flatMap f h j, h, Nat.succ_mul]
theorem len_flat2 {α : Type} {n : Nat} (b : Nat → Nat → α) (j : Nat) : ((List.range j).flatMap fun x => (List.range n).map (b x)).length = j * n := len_flatMap _ (fun x => by simp) j
theorem len_flat3 {α : Type} {n : Nat} (b : Nat → Nat → Nat → α) (j : Nat) : ((List.range j).flatMap fun x => flat2 n (b x)).length = j * (n * n) := len_flatMap _ (fun x => len_flat2 (b x) n) j
theorem tVar_mono {i : Nat} : ∀ (σ : L2.St) (H : Hp) (Q Q' : VK), (∀ v H, Q v H → Q' v H) → tVar i σ H Q → tVar i σ H Q' := fun σ H Q Q' k ⟨v, e, q⟩ => ⟨v, e, k _ _ q⟩
theorem small100 {a : Nat} (h : a ≤ 2000000) : a < sizeLine := by rw [sizeLine_eq]; omega
section
variable {n i k1 k2 k3 : Nat} {vs ws us : List Nat} {σ : L2.St} {H : Hp} {Q : VK} {te : TE} {p : Addr}
/-- the innermost clause: it adds to what the list holds -/
theorem emit_rng {D : Addr} {pre : List V} {Nx : Hp → Prop} (v : Nat → V) (hk : k1 ∈ vs) (hi : σ[i]? = some (some (.ref p))) (hp : H p = some (.rng 0 n)) (hn : n ≤ 100) (hD : H D = none) (hl : pre.length ≤ 1100000)
    (he : ∀ x, x < n → ∀ (acc : List V) (Q' : VK), Q' (v x) (upd H D (.lst acc)) → te ((wipe σ vs).set k1 (some (.int x))) (upd H D (.lst acc)) Q')
    (hN : Nx (upd H D (.lst (pre ++ (List.range n).map v)))) : tClause (iRngV (tVar i)) (gName k1) tYes (tEmit te) vs σ (upd H D (.lst pre)) D Nx := by
  have hpD : p ≠ D := fun e => by
    rw [e, hD] at hp
    cases hp
  refine clause_rng (n := n) hk ⟨_, hi, p, rfl, by rw [upd_ne hpD]; exact hp, by omega, fun j H' => H' = upd H D (.lst (pre ++ (List.range j).map v)), by simp, fun H' e => e ▸ hN, fun j H' hj e => ?_⟩ tVar_mono
  subst e
  refine he j hj _ _ ⟨_, upd_same, ?_, ?_⟩
  · refine small100 ?_
    rw [List.length_append, List.length_map, List.length_range]
    omega
  · show upd (upd H D _) D _ = upd H D (.lst (pre ++ (List.range (j + 1)).map v))
    rw [upd_upd, map_succ, List.append_assoc]
theorem rd2 (v : Nat → Nat → V) (hk1 : k1 ∈ vs) (hk2 : k2 ∈ ws) (hi : σ[i]? = some (some (.ref p))) (hi2 : ∀ x, ((wipe σ vs).set k1 (some x))[i]? = some (some (.ref p))) (hp : H p = some (.rng 0 n)) (hn : n ≤ 100)
    (he : ∀ D, H D = none → ∀ x y, x < n → y < n → ∀ (acc : List V) (Q' : VK), Q' (v x y) (upd H D (.lst acc)) → te ((wipe ((wipe σ vs).set k1 (some (.int x))) ws).set k2 (some (.int y))) (upd H D (.lst acc)) Q')
    (hQ : ∀ D, H D = none → Q (.ref D) (upd H D (.lst (flat2 n v)))) :
    tLcN (iRngV (tVar i)) (gName k1) tYes (tClause (iRngV (tVar i)) (gName k2) tYes (tEmit te) ws) vs σ H Q := by
  refine lcN_rng (n := n) hk1 ⟨_, hi, p, rfl, hp, by omega, fun D hD => ⟨fun j H' => H' = upd H D (.lst ((List.range j).flatMap fun x => (List.range n).map (v x))), rfl, fun H' e => e ▸ hQ D hD, fun j H' hj e => ?_⟩⟩ tVar_mono
  subst e
  refine emit_rng (n := n) (p := p) (v j) hk2 (hi2 _) hp hn hD ?_ (fun x hx acc Q' q => he D hD j x hj hx acc Q' q) ?_
  · rw [len_flat2]
    have : j * n ≤ 100 * 100 := Nat.mul_le_mul (by omega) hn
    omega
  · show upd H D _ = upd H D (.lst ((List.range (j + 1)).flatMap fun x => (List.range n).map (v x)))
    rw [flatMap_succ]
theorem rd3 (v : Nat → Nat → Nat → V) (hk1 : k1 ∈ vs) (hk2 : k2 ∈ ws) (hk3 : k3 ∈ us) (hi : σ[i]? = some (some (.ref p))) (hi2 : ∀ x, ((wipe σ vs).set k1 (some x))[i]? = some (some (.ref p)))
    (hi3 : ∀ x y, ((wipe ((wipe σ vs).set k1 (some x)) ws).set k2 (some y))[i]? = some (some (.ref p))) (hp : H p = some (.rng 0 n)) (hn : n ≤ 100)
    (he : ∀ D, H D = none → ∀ x y z, x < n → y < n → z < n → ∀ (acc : List V) (Q' : VK), Q' (v x y z) (upd H D (.lst acc)) →
      te ((wipe ((wipe ((wipe σ vs).set k1 (some (.int x))) ws).set k2 (some (.int y))) us).set k3 (some (.int z))) (upd H D (.lst acc)) Q')
    (hQ : ∀ D, H D = none → Q (.ref D) (upd H D (.lst (flat3 n v)))) :
    tLcN (iRngV (tVar i)) (gName k1) tYes (tClause (iRngV (tVar i)) (gName k2) tYes (tClause (iRngV (tVar i)) (gName k3) tYes (tEmit te) us) ws) vs σ H Q := by
  refine lcN_rng (n := n) hk1 ⟨_, hi, p, rfl, hp, by omega, fun D hD => ⟨fun j H' => H' = upd H D (.lst ((List.range j).flatMap fun x => flat2 n (v x))), rfl, fun H' e => e ▸ hQ D hD, fun j H' hj e => ?_⟩⟩ tVar_mono
  subst e
  have hpD : p ≠ D := fun e => by
    rw [e, hD] at hp
    cases hp
  have hl : ((List.range j).flatMap fun x => flat2 n (v x)).length ≤ 100 * (100 * 100) := by
    rw [len_flat3]
    exact Nat.mul_le_mul (by omega) (Nat.mul_le_mul hn hn)
  refine clause_rng (n := n) hk2 ⟨_, hi2 _, p, rfl, by rw [upd_ne hpD]; exact hp, by omega, fun l H' => H' = upd H D (.lst (((List.range j).flatMap fun x => flat2 n (v x)) ++ (List.range l).flatMap fun x => (List.range n).map (v j x))), by simp, fun H' e => ?_, fun l H' hl2 e => ?_⟩ tVar_mono
  · show H' = upd H D (.lst ((List.range (j + 1)).flatMap fun x => flat2 n (v x)))
    rw [e, flatMap_succ]
  · subst e
    refine emit_rng (n := n) (p := p) (v j l) hk3 (hi3 _ _) hp hn hD ?_ (fun x hx acc Q' q => he D hD j l x hj hl2 hx acc Q' q) ?_
    · have h2 : l * n ≤ 100 * 100 := Nat.mul_le_mul (by omega) hn
      have h3 := len_flat2 (n := n) (v j) l
      rw [List.length_append, h3]
      omega
    · show upd H D _ = upd H D (.lst (((List.range j).flatMap fun x => flat2 n (v x)) ++ (List.range (l + 1)).flatMap fun x => (List.range n).map (v j x)))
      rw [flatMap_succ, List.append_assoc]
end
theorem ix_listK {X : Cx} (K : PySem.W.Frag) (e : X.K = K) : IxR X (rIxL K) := by
  subst e
  exact ix_list
theorem ix_tupK {X : Cx} (K : PySem.W.Frag) (e : X.K = K) : IxR X (rIxT K) := by
  subst e
  exact ix_tup
theorem in_seqK {X : Cx} (K : PySem.W.Frag) (e : X.K = K) : OpR X (compareOp .In) (rIn K false) := by
  subst e
  exact op_in_seq
end LcN
/-! clauses of a comprehension over any walk -/
namespace LcN
open PySem PySem.Spec PyProof.Rows L2
section
variable {J : It} {n : Nat} {G : Hp → Prop} {Y : Nat → Hp → V → Hp → Prop} {g : TG} {tt : TT} {tC : TC} {vs : List Nat} {σ : L2.St} {H1 : Hp} {D : Addr} {Qd : Hp → Prop}
theorem clause_it (w : Walk J n G Y) (Pv : Nat → Hp → Prop) (h0 : Pv 0 H1) (hG : ∀ i H, i ≤ n → Pv i H → G H)
    (hs : ∀ i x H H', i < n → Pv i H → Y i H x H' → g x (wipe σ vs) H' fun σ2 H2 => wipe σ2 vs = wipe σ vs ∧ tt σ2 H2 fun b H3 => if b = true then tC σ2 H3 D (Pv (i + 1)) else Pv (i + 1) H3) (hd : ∀ H, Pv n H → Qd H) :
    ∃ W : Nat → Nat → Hp → Prop, (∃ m, W 0 m H1) ∧ ∀ i m H, W i m H →
      (J.stop i H ∧ Qd H) ∨ (J.go i H ∧ ∃ Nx : Hp → Prop, (∀ H', Nx H' → ∃ m', m' < m ∧ W (i + 1) m' H') ∧ ∀ x H', J.yld i H x H' → g x (wipe σ vs) H' fun σ2 H2 => wipe σ2 vs = wipe σ vs ∧ tt σ2 H2 fun b H3 => if b = true then tC σ2 H3 D Nx else Nx H3) := by
  refine ⟨fun i m H => m = n - i ∧ i ≤ n ∧ Pv i H, ⟨n, by simp, Nat.zero_le _, h0⟩, ?_⟩
  rintro i m H ⟨rfl, hi, p⟩
  by_cases lt : i < n
  · exact .inr ⟨w.goes i H lt (hG i H hi p), Pv (i + 1), fun H' p' => ⟨n - (i + 1), by omega, rfl, lt, p'⟩, fun x H' y => hs i x H H' lt p (w.yields i H x H' lt (hG i H hi p) y)⟩
  · have e : i = n := by omega
    subst e
    exact .inl ⟨w.stops H (hG i H hi p), hd H p⟩
end
end LcN
/-! enumerate of a tuple -/
namespace EM
open PySem PySem.Spec PyProof.Rows L2
/-- the enumerate object at e, made over the iterator o -/
abbrev enumO (it : Addr) : Obj := { cls := .type "enumerate", data := .fields #[.none, .bool false, .ref it, rawInt 0, .none, .none] }
theorem meets_enum1 {v : Value} {o : Obj} {Hs : Heap → Prop} (B : Begins v o Hs) :
    Meets (Builtin.«enumerate.__new__» ⟨[.type "enumerate", v], []⟩) (fun _ R s => Hs s.heap ∧ R (.ok (.ret (.ref (s.heap.push o).objs.size))) { s with heap := (s.heap.push o).push (enumO s.heap.objs.size) }) := by
  refine Meets.of_wp fun prog w A R s hh => ?_
  obtain ⟨hp, ge, dr, tk, os⟩ := s
  obtain ⟨h1, hh⟩ := hh
  have hsub := sub_enumerate
  have go : ∀ {A' : Around} {E' : Value → Shared → Prop} {Q' : Value → Shared → Prop}, Q' (.ref hp.objs.size) ⟨hp.push o, ge, dr, tk, os⟩ → wpAny (model prog w) A' (pyIter v) Q' E' ⟨hp, ge, dr, tk, os⟩ :=
    fun q => B.iter prog w _ _ ⟨hp, ge, dr, tk, os⟩ _ h1 q
  wp_walk using go
  refine wpAny_stack_any (fun st0 => wpAny_pure ?_)
  split
  · rename_i c _ _ _ _ _
    cases (c == Value.type "enumerate")
    · wp_walk using go
      exact ⟨_, rfl, hh⟩
    · wp_walk using go
      exact ⟨_, rfl, hh⟩
  · wp_walk using go
    exact ⟨_, rfl, hh⟩
theorem call_enumT {prog : Program} {w : World} {A : Around} {E : Value → Shared → Prop} {s : Shared} {v : Value} {o : Obj} {Hs : Heap → Prop} {Q : Value → Shared → Prop} (B : Begins v o Hs) (h1 : Hs s.heap)
    (h : ∀ h', IsEnum h' (s.heap.objs.size + 1) s.heap.objs.size 0 .none → h'.get? s.heap.objs.size = some o → (∀ b ob, s.heap.get? b = some ob → h'.get? b = some ob) → Q (.ref (s.heap.objs.size + 1)) { s with heap := h' }) :
    wpAny (model prog w) A (call (.type "enumerate") [v]) Q E s := by
  have hz : (s.heap.push o).objs.size = s.heap.objs.size + 1 := Heap.size_push ..
  have he : IsEnum ((s.heap.push o).push (enumO s.heap.objs.size)) (s.heap.objs.size + 1) s.heap.objs.size 0 .none := by
    have e := Heap.get?_push_size (s.heap.push o) (o := enumO s.heap.objs.size) rfl
    rw [hz] at e
    exact e
  refine callType_new F.called_enumerate (by decide) (F.typeCall_enumerate_1 _) (F.newCall_enumerate_1 _) (fun ob => F.args_object_init_2 ob _) F.entry_enumerate_new (meets_enum1 B) ⟨h1, ?_⟩
  show _ ∧ _
  rw [hz]
  exact ⟨⟨_, he, rfl⟩, h _ he (Heap.get?_push_of_some _ (Heap.get?_push_size _ B.free)) (fun b ob x => Heap.get?_push_of_some _ (Heap.get?_push_of_some _ x))⟩
/-- the tuple at a as it stands at each turn, its items with their places -/
def IteT (K : PySem.W.Frag) (a : Addr) : It where
  go := fun i H => ∃ xs : List V, SqT K H a xs ∧ i < xs.length
  yld := fun i H v H' => ∃ T x, v = .ref T ∧ H T = none ∧ H' = upd H T (.tup [.int (i : Nat), x]) ∧ ∀ xs, SqT K H a xs → xs[i]? = some x
  stop := fun i H => ∃ xs : List V, SqT K H a xs ∧ i = xs.length
def TnE (e it a : Addr) (i : Nat) (h : Heap) : Prop := (∃ old, IsEnum h e it ((0 : Int) + (i : Int)) old) ∧ h.IsTupleIter it a i ∧ e ≠ it ∧ a ≠ e
theorem three {c e it : Addr} (m : c ∈ [e, it]) : c = e ∨ c = it := by simpa using m
theorem turn_enumT {P : Program} {w : World} {K : PySem.W.Frag} {elts : List Expr} {kk : Nat} {tpos : Pos} (e it a : Addr) : Turn P w K (.Tuple elts kk tpos) (IteT K a) [e, it] e (TnE e it a) := by
  refine ⟨by simp, fun i h st c hc => ?_, fun i h h' st k => ?_, ?_, ?_, fun A i s Q E st q => ?_⟩
  · obtain ⟨⟨old, he⟩, ⟨o, e1, _, d1⟩, _⟩ := st
    rcases three hc with rfl | rfl
    · exact ⟨_, he, fun v q => by cases q⟩
    · exact ⟨o, e1, fun v q => by rw [d1] at q; cases q⟩
  · obtain ⟨⟨old, he⟩, h1, n1, n2⟩ := st
    exact ⟨⟨old, k e (by simp) _ he⟩, h1.at (fun o q => k it (by simp) o q), n1, n2⟩
  · intro X hP hw hK hc i pins s σ H E I hf st hg
    subst hP hw hK
    obtain ⟨⟨old, he⟩, h1, n1, n2⟩ := st
    obtain ⟨xs, qx, hi⟩ := hg
    obtain ⟨its, rv, p, _⟩ := I.tuple qx
    have l1 := rv.length
    have na : a ≠ it := fun q => by
      obtain ⟨o1, e1, c1, d1⟩ := h1
      obtain ⟨o2, e2, c2, _⟩ := p
      rw [q, e1] at e2
      cases e2
      rw [c1] at c2
      injection c2 with c2
      exact absurd c2 (by decide)
    have W := WalksT.enumFrom 0 (Draws.tuple (prog := X.prog) (w := X.w) (A := X.A.in1) (I.ok.hd hc) it a na its.toArray) e n1 (by
      intro m
      rcases List.mem_cons.mp m with m | m
      · exact n1 m
      · exact n2 (List.mem_singleton.mp m).symm) (by simp)
    refine W.item i s _ _ (by simp only [List.size_toArray]; omega) ⟨⟨old, he⟩, h1, p⟩ fun T vals h' tk hv hT hTt mid hk => ?_
    obtain ⟨t, u, hu, rfl⟩ := hv
    obtain ⟨v1, hv1, ru⟩ := rv.get (List.getElem?_eq_getElem hi)
    have ev1 : v1 = u := by
      have : its[i]? = some u := by simpa using hu
      rw [hv1] at this
      exact Option.some.inj this
    subst ev1
    refine ⟨_, rfl, W.go elts kk tpos i T { s with heap := h', toks := tk } _ _ mid fun h'' st'' hk2 => ?_⟩
    have hap := W.apart i T h' mid
    have hT2 : h''.IsTuple T #[.int ((0 : Int) + (i : Int)) t, v1] := hTt.at fun o q => hk2 T o hap q
    have new : ObjOk X.prog X.w (upd H T (.tup [.int (i : Nat), xs[i]])) h'' T (.tup [.int (i : Nat), xs[i]]) := by
      obtain ⟨o, ho, hcl, n, hd⟩ := hT2
      exact ⟨by show 2 ≤ sizeLine; decide, [.int ((0 : Int) + (i : Int)) t, v1], .cons ⟨t, by rw [Int.zero_add]⟩ (.cons ru .nil), ⟨o, ho, hcl, n, hd⟩⟩
    have I1 : Inv X pins σ (upd H T (.tup [.int (i : Nat), xs[i]])) { s with heap := h'', toks := tk } :=
      I.turnedNew (t' := tk) (ch := [e, it]) (fun c o hb q => hk2 c o hb (hk c o hb q)) hf hT new
    obtain ⟨⟨old2, m1⟩, m2, _⟩ := st''
    refine ⟨.ref T, _, I1, rfl, ⟨T, xs[i], rfl, I.hok.fresh hT, rfl, fun l hl => ?_⟩, ⟨⟨old2, m1⟩, m2, n1, n2⟩, fun c hcm => ?_⟩
    · rw [I.tuple_inj hl qx]
      exact List.getElem?_eq_getElem hi
    · have hlt : c < s.heap.objs.size := by
        rcases three hcm with rfl | rfl
        · exact Heap.lt_size he
        · obtain ⟨_, e1, _⟩ := h1; exact Heap.lt_size e1
      rw [upd_ne (Nat.ne_of_lt (Nat.lt_of_lt_of_le hlt hT))]
      exact (hf c hcm).1
  · intro X hP hw hK hc i pins s σ H E I hf st hg
    subst hP hw hK
    obtain ⟨⟨old, he⟩, h1, n1, n2⟩ := st
    obtain ⟨xs, qx, hi⟩ := hg
    obtain ⟨its, rv, p, _⟩ := I.tuple qx
    have l1 := rv.length
    have na : a ≠ it := fun q => by
      obtain ⟨o1, e1, c1, d1⟩ := h1
      obtain ⟨o2, e2, c2, _⟩ := p
      rw [q, e1] at e2
      cases e2
      rw [c1] at c2
      injection c2 with c2
      exact absurd c2 (by decide)
    have W := WalksT.enumFrom 0 (Draws.tuple (prog := X.prog) (w := X.w) (A := X.A.in1) (I.ok.hd hc) it a na its.toArray) e n1 (by
      intro m
      rcases List.mem_cons.mp m with m | m
      · exact n1 m
      · exact n2 (List.mem_singleton.mp m).symm) (by simp)
    have ei : i = its.toArray.size := by simp only [List.size_toArray]; omega
    subst ei
    refine W.done s _ _ ⟨⟨old, he⟩, h1, p⟩ fun h' tk hk => ⟨rfl, ?_⟩
    exact I.turnedL (t' := tk) (ch := [e, it]) (fun c o hb q => hk c o hb q) hf
  · obtain ⟨⟨old, he⟩, _⟩ := st
    exact wpAny_pyIter_enum he q
def iEnumT (K : PySem.W.Frag) (ta : TA) : TI := fun σ H R => ta σ H fun vs H1 => ∃ a xs, vs = [.ref a] ∧ SqT K H1 a xs ∧ R (IteT K a) H1
theorem pi_enumT {X : Cx} (K : PySem.W.Frag) (hK : X.K = K) {e : Expr} {ta : TA} {p pos tpos : Pos} {elts : List Expr} {kk : Nat} (hg : Gl X "enumerate") (hm : X.mg "enumerate" = none) (ha : PA X [e] ta) (hs : starEach [e] X.env = [(false, eval e X.env)] := by rfl) :
    PI X (.Tuple elts kk tpos) (.Call (.Name "enumerate" p) [e] [] pos) (iEnumT K ta) := by
  subst hK
  constructor
  intro pins s σ H R I h
  refine Call_ (ld_blt I hg hm boot_enumerate (PyProof.Rows.callWith_type1 (thn (ha.run pos pins s σ H _ I h) fun us s1 ⟨vs, H1, I1, r1, q1⟩ => ?_) hs rfl))
  obtain ⟨a, xs, ex, qx, q⟩ := q1
  subst ex
  cases r1 with
  | cons r rr =>
    cases rr
    cases r
    obtain ⟨its, rv, p1, _⟩ := I1.tuple qx
    obtain ⟨o1, ho1, _⟩ := id p1
    have la : a < s1.heap.objs.size := Heap.lt_size ho1
    refine call_enumT (begins_tuple a its.toArray) p1 fun h' he hit hk => wpAny_pyIter_enum he ?_
    have I2 : Inv X pins σ H1 { s1 with heap := h' } := I1.kept (t' := s1.toks) hk
    refine ⟨s1.heap.objs.size + 1, [s1.heap.objs.size + 1, s1.heap.objs.size], _, _, H1, rfl, I2, turn_enumT (s1.heap.objs.size + 1) s1.heap.objs.size a, ⟨⟨.none, he⟩, ⟨_, hit, rfl, rfl⟩, Nat.succ_ne_self _, Nat.ne_of_lt (Nat.lt_succ_of_lt la)⟩, fun b hb => ?_, q⟩
    have hle : s1.heap.objs.size ≤ b := by
      rcases three hb with z | z
      · rw [z]; exact Nat.le_add_right _ _
      · rw [z]; exact Nat.le_refl _
    exact I1.fpOk hle (I1.hok.fresh hle)
theorem walk_enumT {K : PySem.W.Frag} {a : Addr} {xs : List V} : Walk (IteT K a) xs.length (fun H => SqT K H a xs) (YPair (fun i => some (.int (i : Nat))) (fun i => xs[i]?)) := by
  refine ⟨fun i _ hi q => ⟨xs, q, hi⟩, fun _ q => ⟨xs, q, rfl⟩, fun i H v H' _ q y => ?_⟩
  obtain ⟨T, x, h1, h2, h3, h4⟩ := y
  exact ⟨T, .int (i : Nat), x, h1, h2, h3, rfl, h4 xs q⟩
end EM
/-! own defs with *args, properties, methods, makers by position, len -/
namespace OwO
open PySem PySem.Spec PyProof.Rows L2
section
variable {X : Cx} {k : Nat} {C f : Addr} {fd : FuncData} {ps : List Str} {sp : Sp}
/-- len(o), by an own __len__ -/
theorem cr_len {m : Str} (hm : m = "__len__") (S : Spc X.K C m f) (F : FnOk X.prog X.w X.K X.mg X.base CX0 k f fd ps sp) (hb : Binds X.K fd ps []) (hr : Room (k + 1) X.A) :
    CallR X (.builtin "len") (fun xs H Q => ∃ a dx fs, xs = [.ref a] ∧ H a = some (.ins C dx fs) ∧ sp [.ref a] H (fun v H' => ∃ n : Nat, v = .int n ∧ n < 1000000 ∧ Q (.int n) H') E0) := by
  subst hm
  intro pins s σ H xs us Q I r h
  obtain ⟨a, dx, fs, rfl, ha, hsp⟩ := h
  obtain rfl := Vals.ref1 r
  obtain ⟨mA, J, _⟩ := ins_get I.hok ha
  obtain ⟨od, J, _⟩ := J.look
  obtain ⟨m, hF⟩ := I.fr
  have hl := F.len _ _ _ _ hsp
  refine PySem.W.len_K hF I.ok.mod.kin J S.at_ S.fn ?_
  refine wpAny_call (codeAny_mono (F.run X.A.in1 X.stack s H ⟨[.ref a], []⟩ [.ref a] [.ref a] _ E0 hr.in1 I.env0.in1 (hb s [.ref a] I.kIn (by simpa using hl)) (.cons rfl .nil) hsp) fun r s' hq => ?_)
  cases r with
  | error e => exact (show False from hq).elim
  | ok fl =>
    cases fl with
    | ret w =>
      obtain ⟨v, H', I', rv, n, rfl, hn, q⟩ := I.after hq
      obtain ⟨t, rfl⟩ := rv
      refine ⟨⟨by omega, by omega⟩, .int n, H', I'.tok _, ⟨_, rfl⟩, q⟩
    | next => exact False.elim hq
    | brk => exact False.elim hq
    | cont => exact False.elim hq
end
end OwO
namespace My
open PySem PySem.Spec PyProof.Rows L2
/-! ### a def by its positional values -/
structure HasR (P : Program) (w : World) (K : PySem.W.Frag) (mg : Str → Option Value) (base : Heap) (k : Nat) (x : Str) (sp : Sp) : Prop where
  ex : ∃ f : Addr, FnR P w K mg base CX0 k f sp ∧ mg x = some (.ref f) ∧ PySem.W.keepIn K (.ref f) = true
section
variable {X : Cx} {k : Nat} {x : Str} {sp : Sp} {p pos : Pos} {e : Expr} {es : List Expr} {t : TA} {te : TE}
theorem pe_ownR (h : HasR X.prog X.w X.K X.mg X.base k x sp) (hr : Room k X.A) (hg : Gl X x) (ha : PA X (e :: es) t) (hdb : (x == ("__debug__" : Str)) = false := by decide)
    (he : starEach (e :: es) X.env = (false, eval e X.env) :: starEach es X.env := by rfl) (hpl : (backTo pos (starEach es X.env)).any (·.1) = false := by rfl) : PE X (.Call (.Name x p) (e :: es) [] pos) (fun σ H Q => t σ H fun vs H1 => sp vs H1 Q E0) := by
  obtain ⟨f, F, m, kp⟩ := h.ex
  constructor
  intro pins s σ H Q I h
  apply wpAny_Call_Name_kw (ld_glob I hg m ?_ hdb)
  apply PySem.W.callWith_K (h₀ := X.base) I.ok.mod.kin kp _ he hpl
  apply thn (ha.run pos pins s σ H _ I h)
  rintro us s1 ⟨vs, H1, I1, r, q⟩
  exact ⟨I1.kIn, wpAny_call (run_fnR F hr pass0 I1 r q)⟩
def tOwnS (K : PySem.W.Frag) (sp : Sp) (te : TE) : TE := fun σ H Q => te σ H fun y H1 => ∃ a xs, y = V.ref a ∧ (SqT K H1 a xs ∨ SqL K H1 a xs) ∧ sp xs H1 Q E0
/-- x(*e) -/
theorem pe_ownS {q : Pos} (K : PySem.W.Frag) (hK : X.K = K) (h : HasR X.prog X.w X.K X.mg X.base k x sp) (hr : Room k X.A) (hg : Gl X x) (he : PE X e te) (hdb : (x == ("__debug__" : Str)) = false := by decide) :
    PE X (.Call (.Name x p) [.Starred e q] [] pos) (tOwnS K sp te) := by
  subst hK
  obtain ⟨f, F, m, kp⟩ := h.ex
  exact StX.pe_callS1 F hr kp hg m pass0 he (hd := hdb)
end
/-! ### properties, methods -/
structure HasPr (P : Program) (w : World) (K : PySem.W.Frag) (mg : Str → Option Value) (base : Heap) (k : Nat) (C : Addr) (n : Str) (sp : Sp) : Prop where
  ex : ∃ (p g : Addr) (fd : FuncData), PropOf K C n p g ∧ FnOk P w K mg base CX0 k g fd ["self"] sp ∧ Binds K fd ["self"] []
theorem pe_pr {X : Cx} {k : Nat} {C : Addr} {n : Str} {sp : Sp} {e : Expr} {ta : TE} {pos : Pos} (c : Cls X.K C) (h : HasPr X.prog X.w X.K X.mg X.base k C n sp) (hr : Room (k + 1) X.A) (he : PE X e ta) (hab : attributeBase e n X.env (eval e X.env) = eval e X.env) :
    PE X (.Attribute e n pos) (tProp C sp [] E0 ta) := by
  obtain ⟨p, g, fd, hp, F, b⟩ := h.ex
  exact pe_prop he c hp F hr b .nil pass0 hab
structure HasM (P : Program) (w : World) (K : PySem.W.Frag) (mg : Str → Option Value) (base : Heap) (k : Nat) (C : Addr) (m : Str) (ps : List Str) (sp : Sp) : Prop where
  ex : ∃ (f : Addr) (fd : FuncData), FnOk P w K mg base CX0 k f fd ps sp ∧ Meth K C m f ∧ Binds K fd ps []
section
variable {X : Cx} {k : Nat} {m : Str} {ps : List Str} {sp : Sp} {pos apos : Pos} {o e : Expr} {es : List Expr} {ta : TE} {t : TA} {C : Addr}
theorem pe_ownM {pl : Sem Bool} (c : Cls X.K C) (h : HasM X.prog X.w X.K X.mg X.base k C m ps sp) (hr : Room k X.A) (he : PE X o ta) (ha : PA X (e :: es) t)
    (hst : starEach (e :: es) X.env = (false, eval e X.env) :: starEach es X.env := by rfl) (hpl : (backTo pos (starEach es X.env)).any (·.1) = false := by rfl)
    (ht : eval (.Call (.Attribute o m apos) (e :: es) [] pos) X.env = (do
      let ov ← eval o X.env
      standAt apos.atName
      let (f, first) ← holding [ov] (getMethod ov m pl)
      callWith pos f first (backTo pos (starEach (e :: es) X.env)) (backToKw pos (keywordEach [] X.env))) := by rfl) :
    PE X (.Call (.Attribute o m apos) (e :: es) [] pos) (tMeth C m sp [] E0 ta t) := by
  obtain ⟨f, fd, F, M, b⟩ := h.ex
  exact pe_meth he c M F hr b .nil pass0 ha hst hpl ht
theorem pe_ownM0 {pl : Sem Bool} (c : Cls X.K C) (h : HasM X.prog X.w X.K X.mg X.base k C m ps sp) (hr : Room k X.A) (he : PE X o ta)
    (ht : eval (.Call (.Attribute o m apos) [] [] pos) X.env = (do
      let ov ← eval o X.env
      standAt apos.atName
      let (f, first) ← holding [ov] (getMethod ov m pl)
      callWith pos f first (backTo pos (starEach [] X.env)) (backToKw pos (keywordEach [] X.env))) := by rfl) :
    PE X (.Call (.Attribute o m apos) [] [] pos) (tMeth C m sp [] E0 ta tNil) := by
  obtain ⟨f, fd, F, M, b⟩ := h.ex
  exact pe_meth0 he c M F hr b .nil pass0 ht
end
/-! ### a maker by position -/
structure HasC (P : Program) (w : World) (K : PySem.W.Frag) (mg : Str → Option Value) (base : Heap) (k : Nat) (x : Str) (C : Addr) (ps : List Str) (sp : Sp) : Prop where
  ex : ∃ (f : Addr) (fd : FuncData), Mk K C f ∧ FnOk P w K mg base CX0 k f fd ps sp ∧ mg x = some (.ref C) ∧ Binds K fd ps []
theorem pe_mkC {X : Cx} {k : Nat} {x : Str} {C : Addr} {ps : List Str} {sp : Sp} {p pos : Pos} {e : Expr} {es : List Expr} {t : TA} (h : HasC X.prog X.w X.K X.mg X.base k x C ps sp) (hx : Passes CX0 X E0) (hr : Room (k + 1) X.A) (hg : Gl X x) (ha : PA X (e :: es) t)
    (hdb : (x == ("__debug__" : Str)) = false := by decide) (he : starEach (e :: es) X.env = (false, eval e X.env) :: starEach es X.env := by rfl) (hpl : (backTo pos (starEach es X.env)).any (·.1) = false := by rfl) : PE X (.Call (.Name x p) (e :: es) [] pos) (tMake C sp [] E0 t) := by
  obtain ⟨f, fd, M, F, m, b⟩ := h.ex
  exact pe_make M F hr hg m b .nil hx ha hdb he hpl
/-! ### pairs of lists -/
theorem pget {α β : Type} {F : α → β → Prop} : ∀ {xs : List α} {ys : List β} {i : Nat} {x : α} {y : β}, Paired F xs ys → xs[i]? = some x → ys[i]? = some y → F x y
  | _, _, i, x, y, .nil, hx, _ => by simp at hx
  | _, _, 0, x, y, .cons r _, hx, hy => by
    cases hx
    cases hy
    exact r
  | _, _, i + 1, x, y, .cons _ t, hx, hy => pget t (i := i) (by simpa using hx) (by simpa using hy)
theorem plen {α β : Type} {F : α → β → Prop} : ∀ {xs : List α} {ys : List β}, Paired F xs ys → xs.length = ys.length
  | _, _, .nil => rfl
  | _, _, .cons _ t => congrArg (· + 1) (plen t)
theorem pmono {α β : Type} {F G : α → β → Prop} (h : ∀ a b, F a b → G a b) : ∀ {xs : List α} {ys : List β}, Paired F xs ys → Paired G xs ys
  | _, _, .nil => .nil
  | _, _, .cons r t => .cons (h _ _ r) (pmono h t)
theorem papp {α β : Type} {F : α → β → Prop} : ∀ {xs : List α} {ys : List β} {us : List α} {vs : List β}, Paired F xs ys → Paired F us vs → Paired F (xs ++ us) (ys ++ vs)
  | _, _, _, _, .nil, h => h
  | _, _, _, _, .cons r t, h => .cons r (papp t h)
/-- the i-th pair, by the place on the left -/
theorem pat {α β : Type} {F : α → β → Prop} {xs : List α} {ys : List β} {i : Nat} (h : Paired F xs ys) (hi : i < ys.length) : ∃ x y, xs[i]? = some x ∧ ys[i]? = some y ∧ F x y := by
  have e := plen h
  have hx : xs[i]? = some (xs[i]'(by omega)) := List.getElem?_eq_getElem (by omega)
  have hy : ys[i]? = some ys[i] := List.getElem?_eq_getElem hi
  exact ⟨_, _, hx, hy, pget h hx hy⟩
theorem pmem {α β : Type} {F G : α → β → Prop} : ∀ {xs : List α} {ys : List β}, Paired F xs ys → (∀ a b, b ∈ ys → F a b → G a b) → Paired G xs ys
  | _, _, .nil, _ => .nil
  | _, _, .cons r t, h => .cons (h _ _ List.mem_cons_self r) (pmem t fun a b m z => h a b (List.mem_cons_of_mem _ m) z)
theorem decI (a b : Int) : decide (V.int a = V.int b) = decide (a = b) := by
  by_cases z : a = b
  · subst z
    rw [decide_eq_true rfl, decide_eq_true rfl]
  · rw [decide_eq_false z, decide_eq_false]
    intro y
    injection y with y
    exact z y
/-- the i-th of a mapped list -/
theorem at_map {α : Type} {f : α → V} {xs : List α} {i : Nat} {v : V} (h : (xs.map f)[i]? = some v) : ∃ x, xs[i]? = some x ∧ v = f x := by
  rw [List.getElem?_map] at h
  cases hi : xs[i]? with
  | none => rw [hi] at h; cases h
  | some x =>
    rw [hi] at h
    exact ⟨x, rfl, (Option.some.inj h).symm⟩
theorem at_some {α : Type} {f : α → V} {xs : List α} {i : Nat} {x : α} (h : xs[i]? = some x) : (xs.map f)[i]? = some (f x) := by
  rw [List.getElem?_map, h]
  rfl
theorem take_snoc {α : Type} {xs : List α} {i : Nat} {x : α} (h : xs[i]? = some x) : xs.take (i + 1) = xs.take i ++ [x] := by
  rw [List.take_add_one, h]
  rfl
end My
/-! an own error whose __init__ says super().__init__(a text) and stores what it got and its code -/
namespace PySem
namespace ErrX
open PySem.W PySem.Calls PyProof.Rows PySem.HandSPX
/-- the statements of such an __init__: the field is called f, the code is q -/
def eArgs (f : Str) (p1 p2 : Pos) : Arguments := { posonlyargs := [], args := [{ arg := "self", annotation := none, pos := p1 }, { arg := f, annotation := none, pos := p2 }], vararg := none, kwonlyargs := [], kw_defaults := [], kwarg := none, defaults := [] }
def eBody (f msg q : Str) (k1 k2 : Nat) (a1 a2 a3 a4 a5 a6 b1 b2 b3 b4 c1 c2 c3 c4 : Pos) : List Stmt :=
  [.Expr (.Call (.Attribute (.Call (.Name "super" a1) [] [] a2) "__init__" a3) [.Constant (.str msg) k1 a4] [] a5) a6,
   .Assign [.Attribute (.Name "self" b1) f b2] (.Name f b3) b4,
   .Assign [.Attribute (.Name "self" c1) "code" c2] (.Constant (.str q) k2 c3) c4]
def eScope (f : Str) : Scope := { kind := .function, names := [(PySem.Str.ofString "self", .local), (f, .local), (PySem.Str.ofString "__class__", .free), (PySem.Str.ofString "super", .globalImplicit)], isGenerator := false, isCoroutine := false, more := [] }
/-- how the first statement's call is evaluated -/
def InitEval (msg : Str) (k1 : Nat) (a1 a2 a3 a4 a5 : Pos) : Prop := ∃ pl : Sem Bool, ∀ env : Env,
  eval (.Call (.Attribute (.Call (.Name "super" a1) [] [] a2) "__init__" a3) [.Constant (.str msg) k1 a4] [] a5) env = (do
    let ov ← attributeBase (.Call (.Name "super" a1) [] [] a2) "__init__" env (eval (.Call (.Name "super" a1) [] [] a2) env)
    standAt a3.atName
    let (g, first) ← holding [ov] (getMethod ov "__init__" pl)
    callWith a5 g first (backTo a5 (starEach [.Constant (.str msg) k1 a4] env)) [])
/-- what the written part says of the class at C, of its __init__ at fI, of the cell cc that holds the class, of the code object cd -/
structure ErrTxt (prog : Program) (K : Frag) (mg : Str → Option Value) (nm f q : Str) (C fI cc cd : Addr) : Prop where
  gC : mg nm = some (.ref C)
  gS : mg "super" = none
  cls : ∃ nm' q' N bs bm sn sub ab col dd k0 k1 k2 k3 k5, K.lookup C = some (excClassObj nm' q' C N bs bm true sn sub ab col dd k0 k1 k2 k3 k5 "ValueError.__new__") ∧ refsVE bm = true ∧ alongIn K "__init__" bm = some (some (.builtin "ValueError.__init__"))
  sa : findIn K (.ref C) "__setattr__" = some (some (.builtin "object.__setattr__"))
  ga : findIn K (.ref C) "__getattribute__" = some (some (.builtin "BaseException.__getattribute__"))
  gg : findIn K (.ref C) "__getattr__" = some none
  noF : findIn K (.ref C) f = some none
  noC : findIn K (.ref C) "code" = some none
  iC : findIn K (.ref C) "__init__" = some (some (.ref fI))
  tC : typeIn K (.ref fI) = some (.type "function")
  kC : keepIn K (.ref C) = true
  exC : subIn K (.ref C) (.type "BaseException") = some true
  veC : subIn K (.ref C) (.type "ValueError") = some true
  slf : mroIn K C (.ref C) = some true
  tyC : typeIn K (.ref C) = some (.type "type")
  hdC : hasDictIn K C = true
  opq : nsIn K cStatics "thirdparty.any" = some none
  cell : ∃ cl cld csl, K.lookup cc = some ⟨cl, cld, .cell (some (.ref C)), csl⟩
  code : ∃ ccl cdd vs ccs file tf, K.lookup cd = some ⟨ccl, cdd, .fields vs, ccs⟩ ∧ vs[2]? = some (.str file tf) ∧ ((prog.main.file : Str) == file) = true
  top : (prog.main.scope.names.lookup ("super" : Str)).isSome = false
  fn : ∃ (oc : Value) (od : Option Addr) (doc pm : Value) (an : Option Addr) (ct : Value) (osl : Array (Option Value)) (qual msg : Str) (k1 k2 : Nat) (p1 p2 a1 a2 a3 a4 a5 a6 b1 b2 b3 b4 c1 c2 c3 c4 : Pos),
    K.lookup fI = some ⟨oc, od, .func (ksFn "__init__" qual (eArgs f p1 p2) (eBody f msg q k1 k2 a1 a2 a3 a4 a5 a6 b1 b2 b3 b4 c1 c2 c3 c4) (eScope f) .none .none doc pm an (.ref cd) ct cc), osl⟩ ∧ codeIn K (.ref cd) qual = true ∧
    (∀ (s : Shared) (a b : Value), BindsTo s (ksFn "__init__" qual (eArgs f p1 p2) (eBody f msg q k1 k2 a1 a2 a3 a4 a5 a6 b1 b2 b3 b4 c1 c2 c3 c4) (eScope f) .none .none doc pm an (.ref cd) ct cc) ⟨[a, b], []⟩ [("self", a), (f, b)]) ∧ InitEval msg k1 a1 a2 a3 a4 a5
  nf : f ≠ "self" ∧ f ≠ "code" ∧ f ≠ "super" ∧ f ≠ "__class__" ∧ f ≠ "__debug__"
theorem kept_x {K : Frag} {h h' : Heap} {x : Addr} (X : K.In h) (hx : K.lookup x = none) (k : ∀ b o, b ≠ x → h.get? b = some o → h'.get? b = some o) : K.In h' := fun a o e =>
  k a o (fun z => by rw [z, hx] at e; cases e) (X a o e)
/-- what it leaves of a fresh exception at x -/
structure Made (h h' : Heap) (x C dx t1 : Addr) (f q : Str) (v : Value) : Prop where
  keep : ∀ b o, b ≠ x → h.get? b = some o → h'.get? b = some o
  obj : h'.get? x = some { cls := .ref C, dict := some dx, data := .fields #[.ref t1, .none, .none, .none, .bool false, .none] }
  dbig : h.objs.size ≤ dx
  dne : dx ≠ x
  ns : ∃ tk, h'.Ns1 dx (fun y => if y = "code" then some (.str q tk) else if y = f then some v else none)
section
variable {prog : Program} {w : World} {M : Model} {A : Around} {E : Value → Shared → Prop} {R : Result → Shared → Prop} {s : Shared} {K : Frag} {mg : Str → Option Value} {nm f q : Str} {C fI cc cd : Addr}
/-- the bound built-in __init__, called with one value -/
theorem mw_call {hp : Heap} {g : Array GenState} {d : Drawn} {t : Nat} {os : OsState} {u e t0 : Addr} {rest : List Value} {Q : Value → Shared → Prop} {nm' q' : Str} {N : Addr} {bs bm : List Value} {hdct : Bool} {sn : List Str} {sub : List Value} {ab : Bool} {col : Option Bool} {dd : Option Addr} {k0 k1 k2 k3 k5 : Option Value}
    (hC : hp.get? C = some (excClassObj nm' q' C N bs bm hdct sn sub ab col dd k0 k1 k2 k3 k5 "ValueError.__new__")) (he : hp.get? e = some (excO C t0)) (hu : hp.get? u = some (kxs_mw "ValueError.__init__" e)) (hrest : rest.length ≤ sizeLine)
    (hq : ∀ h' t1, (∀ b o, b ≠ e → hp.get? b = some o → h'.get? b = some o) → h'.get? e = some (excO C t1) → Q .none ⟨h', g, d, t, os⟩) :
    wpAny (model prog w) A (call (.ref u) rest) Q E ⟨hp, g, d, t, os⟩ := by
  refine wpAny_call (codeAny_of_tree ?_)
  show wpAny _ A.in1 (callAny (.ref u) ⟨rest, []⟩) _ _ _
  unfold callAny
  refine wpAny_bind (wpAny_load hu ?_)
  refine KFB.if_so rfl ?_
  refine wpAny_bind (ESX.check_bound F.excBase_ValueError hC he rfl ?_)
  refine wpAny_bind (wpAny_pure (wpAny_pure ⟨Code.quiet_builtin _ (by decide +kernel), codeAny_builtin F.excBase_ValueError.initEntry ?_⟩))
  rw [Around.under_plainId F.excBase_ValueError.init.plain _]
  wp_walk
  refine hq _ hp.objs.size (fun b o hb ho => ?_) ?_
  · rw [Heap.get?_update_other _ _ (Ne.symm hb)]
    exact Heap.get?_push_of_some _ ho
  · rw [Heap.get?_update_self _ (Heap.get?_push_of_some _ he) rfl]
    rfl
theorem err_init (T : ErrTxt prog K mg nm f q C fI cc cd) {x t0 : Addr} {v : Value} (X : K.In s.heap) (hG : s.heap.Ns mainGlobals mg) (hB : ∃ mb, s.heap.Ns builtinsNs mb ∧ mb "super" = some (.type "super")) (hlim : s.heap.NoLimit) (hx : s.heap.get? x = some (excO C t0)) (hnx : K.lookup x = none) (hroom : A.depth < recursionLimit)
    (hq : ∀ h' tk dx t1, Made s.heap h' x C dx t1 f q v → R (.ok (.ret .none)) { s with heap := h', toks := tk }) :
    codeAny (model prog w) A (.call (.ref fI) ⟨[.ref x, v], []⟩) R s := by
  obtain ⟨oc, od, doc, pm, an, ct, osl, qual, msg, k1, k2, p1, p2, a1, a2, a3, a4, a5, a6, b1, b2, b3, b4, c1, c2, c3, c4, ho, hcd, hbind, pl, hev⟩ := T.fn
  obtain ⟨nm', q', N, bs, bm, sn, sub, ab, col, dd, k0, k1', k2', k3, k5, hC, hbm, hal⟩ := T.cls
  obtain ⟨cl, cld, csl, hcell⟩ := T.cell
  obtain ⟨ccl, cdd, vs, ccs, file, tf, hcode, hvs, hfile⟩ := T.code
  obtain ⟨n1, n2, n3, n4, n5⟩ := T.nf
  have lk : (eScope f).names.lookup f = some .local := by
    show List.lookup f [(PySem.Str.ofString "self", NameKind.local), (f, .local), (PySem.Str.ofString "__class__", .free), (PySem.Str.ofString "super", .globalImplicit)] = some .local
    have e : (f == PySem.Str.ofString "self") = false := by simpa using n1
    simp only [List.lookup, e, beq_self_eq_true]
  refine ks_codeAny_call_defAt (binds := [("self", .ref x), (f, v)]) hroom (X _ _ ho) rfl hlim (codeRec_of X hcd) rfl (hbind _ _ _) ?_ ?_ (fun h₁ hns hk => ?_) rfl rfl rfl
  · intro y hy
    simp only [eScope, List.mem_cons, List.not_mem_nil, or_false] at hy
    rcases hy with rfl | rfl | rfl | rfl <;> (intro z; cases z)
  · intro y hy
    simp only [List.mem_cons, List.not_mem_nil, or_false] at hy
    rcases hy with rfl | rfl
    · rfl
    · exact lk
  have z1 : (PySem.Str.ofString "super" == f) = false := by simpa using n3.symm
  have z2 : (PySem.Str.ofString "__class__" == f) = false := by simpa using n4.symm
  have z3 : (PySem.Str.ofString "self" == f) = false := by simpa using n1.symm
  have z4 : (f == PySem.Str.ofString "self") = false := by simpa using n1
  have lkS : (eScope f).names.lookup ("super" : Str) = some .globalImplicit := by
    simp only [eScope, List.lookup, z1, show (PySem.Str.ofString "super" == PySem.Str.ofString "self") = false by decide +kernel, show (PySem.Str.ofString "super" == PySem.Str.ofString "__class__") = false by decide +kernel, beq_self_eq_true]
  have lkC : (eScope f).names.lookup ("__class__" : Str) = some .free := by
    simp only [eScope, List.lookup, z2, show (PySem.Str.ofString "__class__" == PySem.Str.ofString "self") = false by decide +kernel, beq_self_eq_true]
  have lkX : (eScope f).names.lookup ("self" : Str) = some .local := by
    simp only [eScope, List.lookup, beq_self_eq_true]
  have mS : List.lookup (PySem.Str.ofString "self") ([(PySem.Str.ofString "self", Value.ref x), (f, v)] : List (Str × Value)).reverse = some (.ref x) := by
    show List.lookup (PySem.Str.ofString "self") [(f, v), (PySem.Str.ofString "self", Value.ref x)] = _
    simp only [List.lookup, z3, beq_self_eq_true]
  have mF : List.lookup f ([(PySem.Str.ofString "self", Value.ref x), (f, v)] : List (Str × Value)).reverse = some v := by
    show List.lookup f [(f, v), (PySem.Str.ofString "self", Value.ref x)] = _
    simp only [List.lookup, beq_self_eq_true]
  refine ks_wpAt_execs_cons (ks_wpAt_Expr_any (ks_wpAt_MethodCall (pl := pl) ?_ (hev _)))
  have X₁ : K.In h₁ := X.keeps hk
  have hx₁ := hk _ _ hx
  refine ks_wpAt_super_base (of := ⟨oc, od, _, osl⟩) (oc := ⟨ccl, cdd, .fields vs, ccs⟩) lkS lkC rfl rfl (X₁ _ _ ho) rfl rfl rfl (X₁ _ _ hcode) rfl hvs hfile T.top ?_
  obtain ⟨mb, hmb, hsb⟩ := hB
  refine ks_loadName_global rfl lkS (loadGlobal_builtin (hG.keeps hk) T.gS (hmb.keeps hk) hsb ⟨rfl, ?_⟩)
  refine wpAny_loadName_free rfl lkC rfl ⟨_, X₁ _ _ hcell, rfl⟩ ?_
  refine wpAny_loadName_local rfl lkX hns mS ?_
  refine ks_wpAny_isType_cls (X₁ _ _ hC) rfl ⟨rfl, ?_⟩
  refine ks_wpAny_call_super (X₁ _ _ hC) rfl hx₁ rfl (fun c e => by cases e) (looks_mroIn X₁ T.slf) (fun h₂ hso k₂ => ?_)
  have X₂ : K.In h₂ := X₁.keeps k₂
  have hx₂ := k₂ _ _ hx₁
  have I₂ : InstAt h₂ x (excO C t0) C none := ⟨hx₂, rfl, rfl, trivial⟩
  have nxC : x ≠ C := fun z => by rw [z, hC] at hnx; cases hnx
  have hcl : clsIn K C = some { name := nm', bases := bs, mro := .ref C :: bm, ns := N, qualname := q', hasDict := true, slotNames := sn, subclasses := sub, abstract := ab, collection := col, hasDel := false } := by unfold clsIn; rw [hC] <;> rfl
  refine kxs_getMethod kxs_ValueError hso (looks_opaque X₂ T.opq) ((looks_clsIn X₂ hcl).andThen .now) (ESX.drop_own C bm) X₂ hal (I₂.type.andThen (looks_subIn X₂ T.veC)) nxC rfl ?_
  have hu : (h₂.push (kxs_mw "ValueError.__init__" x)).get? h₂.objs.size = some (kxs_mw "ValueError.__init__" x) := Heap.get?_push_at rfl rfl
  have k₃ : ∀ b o, h₂.get? b = some o → (h₂.push (kxs_mw "ValueError.__init__" x)).get? b = some o := fun b o e => Heap.get?_push_of_some _ e
  refine kxs_callWith (i := "ValueError.__init__") (x := x) rfl (evalArgs_plain ?_)
  refine Calls.spliced_cons (Calls.Constant_str (k := k1) (pos := a4) (Calls.spliced_nil ⟨hu, ?_⟩))
  have X₃ : K.In (h₂.push (kxs_mw "ValueError.__init__" x)) := X₂.keeps k₃
  refine mw_call (X₃ _ _ hC) (k₃ _ _ hx₂) hu (by show 1 ≤ sizeLine; decide) (fun h₄ t1 k₄ hx₄ => ?_)
  have keep₄ : ∀ b o, b ≠ x → s.heap.get? b = some o → h₄.get? b = some o := fun b o nb e => k₄ b o nb (k₃ b o (k₂ b o (hk b o e)))
  have X₄ : K.In h₄ := kept_x X hnx keep₄
  have hxL : s.heap.objs.size ≠ x := Nat.ne_of_gt (Heap.lt_size hx)
  obtain ⟨oL, es, ep, hL, rL⟩ := id hns
  have hns₄ : h₄.Ns s.heap.objs.size fun y => List.lookup y ([(PySem.Str.ofString "self", Value.ref x), (f, v)] : List (Str × Value)).reverse := ⟨oL, es, ep, k₄ _ _ hxL (k₃ _ _ (k₂ _ _ hL)), rL⟩
  have hLt : s.heap.objs.size < h₄.objs.size := Heap.lt_size (k₄ _ _ hxL (k₃ _ _ (k₂ _ _ hL)))
  -- self.f = f
  refine wpAt_of_wpAny (wpAny_execs_cons (plainObj_wpAny_Assign_Attribute ?_))
  refine ESX.ldL hns₄ mF (ESX.ldL hns₄ mS ?_ rfl lkX (by decide +kernel)) rfl lk (by simpa using n5)
  refine set_plain X₄ (ox := excO C t1) (od := none) ⟨hx₄, rfl, rfl, trivial⟩ T.sa ?_
  refine exc_osa X₄ hx₄ hcl (show refsVE (.ref C :: bm) = true from hbm) rfl T.noF (fun h₅ tk₅ dx k₅ dn dne hx₅ hn₅ => ?_)
  have keep₅ : ∀ b o, b ≠ x → s.heap.get? b = some o → h₅.get? b = some o := fun b o nb e => k₅ b o nb (keep₄ b o nb e)
  have X₅ : K.In h₅ := kept_x X hnx keep₅
  have hns₅ : h₅.Ns s.heap.objs.size fun y => List.lookup y ([(PySem.Str.ofString "self", Value.ref x), (f, v)] : List (Str × Value)).reverse := ⟨oL, es, ep, k₅ _ _ hxL (k₄ _ _ hxL (k₃ _ _ (k₂ _ _ hL))), rL⟩
  -- self.code = q
  refine wpAny_execs_cons (plainObj_wpAny_Assign_Attribute ?_)
  refine Calls.Constant_str (k := k2) (pos := c3) (ESX.ldL hns₅ mS ?_ rfl lkX (by decide +kernel))
  obtain ⟨oD, eD, pD, hD, rD⟩ := id hn₅
  refine set_plain X₅ (ox := { cls := .ref C, dict := some dx, data := .fields #[.ref t1, .none, .none, .none, .bool false, .none] }) (od := some oD) ⟨hx₅, rfl, rfl, hD⟩ T.sa ?_
  have hw : Within (fun y => if y = f then some v else none) [f] := fun y hy => by
    by_cases e : y = f
    · rw [e]
      exact List.mem_singleton.mpr rfl
    · exact absurd (show (if y = f then some v else none) = none from if_neg e) hy
  refine OEX.osa_old X₅ hx₅ hn₅ hw (by show 1 ≤ 1000; decide) hcl (show refsVE (.ref C :: bm) = true from hbm) rfl T.noC (fun h₆ tk₆ k₆ hn₆ => ?_)
  refine wpAny_execs_nil (hq h₆ tk₆ dx t1 ⟨fun b o nb e => ?_, k₆ _ _ dne.symm hx₅, Nat.le_trans (Nat.le_of_lt hLt) dn, dne, _, hn₆⟩)
  have nbd : b ≠ dx := Nat.ne_of_lt (Nat.lt_of_lt_of_le (Heap.lt_size e) (Nat.le_trans (Nat.le_of_lt hLt) dn))
  exact k₆ b o nbd (keep₅ b o nb e)
/-- a made error -/
structure Own (h h' : Heap) (e C d : Addr) (f q : Str) (v : Value) : Prop where
  keep : ∀ b o, h.get? b = some o → h'.get? b = some o
  new : h.objs.size ≤ e
  obj : ∃ oe vs, h'.get? e = some oe ∧ oe.cls = .ref C ∧ oe.dict = some d ∧ oe.data = .fields vs ∧ vs[1]? = some .none
  dbig : h.objs.size ≤ d
  dne : d ≠ e
  ns : ∃ tk, h'.Ns1 d (fun y => if y = "code" then some (.str q tk) else if y = f then some v else none)
theorem err_made (T : ErrTxt prog K mg nm f q C fI cc cd) {v : Value} (X : K.In s.heap) (hG : s.heap.Ns mainGlobals mg) (hB : ∃ mb, s.heap.Ns builtinsNs mb ∧ mb "super" = some (.type "super")) (hlim : s.heap.NoLimit) (hroom : A.depth + 1 < recursionLimit)
    (hq : ∀ h' tk e d, Own s.heap h' e C d f q v → R (.ok (.ret (.ref e))) { s with heap := h', toks := tk }) :
    codeAny (model prog w) A (.call (.ref C) ⟨[v], []⟩) R s := by
  obtain ⟨nm', q', N, bs, bm, sn, sub, ab, col, dd, k0, k1', k2', k3, k5, hC, hbm, hal⟩ := T.cls
  obtain ⟨hp, g, dr, tk, os⟩ := s
  have k : ∀ b o, hp.get? b = some o → ((hp.push (kdv_tup [v])).push (excO C hp.objs.size)).get? b = some o := fun b o e => Heap.get?_push_of_some _ (Heap.get?_push_of_some _ e)
  have hget : ((hp.push (kdv_tup [v])).push (excO C hp.objs.size)).get? (hp.objs.size + 1) = some (excO C hp.objs.size) := by heap_get
  have hnx : K.lookup (hp.objs.size + 1) = none := by
    cases e : K.lookup (hp.objs.size + 1) with
    | none => rfl
    | some o =>
      have z : hp.get? (hp.objs.size + 1) = some o := X _ _ e
      exact absurd (Nat.lt_of_succ_lt (Heap.lt_size z)) (Nat.lt_irrefl _)
  obtain ⟨mb, hmb, hsb⟩ := hB
  refine call_own F.excBase_ValueError (fun X => refsVE_contains X bm hbm) (X _ _ hC) (looks_findIn X T.iC) (fun self => bind_fn X self T.tC) (by show 1 ≤ sizeLine; decide) ?_
  refine err_init (s := ⟨(hp.push (kdv_tup [v])).push (excO C hp.objs.size), g, dr, tk, os⟩) T (X.keeps k) (hG.keeps k) ⟨mb, hmb.keeps k, hsb⟩ (hlim.keeps k) hget hnx (show A.depth + 1 < recursionLimit from hroom) fun h' tk' dx t1 M => ?_
  have old : ∀ b o, hp.get? b = some o → h'.get? b = some o := fun b o e => M.keep b o (Nat.ne_of_lt (Nat.lt_succ_of_lt (Heap.lt_size e))) (k b o e)
  have z : hp.objs.size + 1 + 1 ≤ dx := by
    have dn := M.dbig
    rw [Heap.size_push, Heap.size_push] at dn
    exact dn
  exact ⟨rfl, hq h' tk' (hp.objs.size + 1) dx ⟨old, Nat.le_succ _, ⟨_, _, M.obj, rfl, rfl, rfl, rfl⟩, Nat.le_trans (Nat.le_trans (Nat.le_succ _) (Nat.le_succ _)) z, M.dne, M.ns⟩⟩
end
end ErrX
end PySem
namespace My
open PySem PySem.Spec PyProof.Rows L2
abbrev errD (f q : Str) (v : V) : List (Str × V) := [("code", .str q), (f, v)]
theorem relO_err {v : V} {v' : Value} {f q : Str} {tk : Tok} (r : RelV v v') (g : Str) : RelO (List.lookup g (errD f q v)) (if g = "code" then some (.str q tk) else if g = f then some v' else none) := by
  by_cases hc : g = "code"
  · rw [if_pos hc]
    have e : List.lookup g (errD f q v) = some (.str q) := by
      subst hc
      simp [errD, List.lookup]
    rw [e]
    exact ⟨_, rfl⟩
  · rw [if_neg hc]
    have e1 : (g == ("code" : Str)) = false := by simpa using hc
    by_cases hf : g = f
    · rw [if_pos hf]
      have e : List.lookup g (errD f q v) = some v := by
        subst hf
        simp [errD, List.lookup, e1]
      rw [e]
      exact r
    · rw [if_neg hf]
      have e2 : (g == f) = false := by simpa using hf
      have e : List.lookup g (errD f q v) = none := by simp [errD, List.lookup, e1, e2]
      rw [e]
      trivial
section
variable {X : Cx} {C fI cc cd : Addr} {nm f q : Str}
/-- X(e), the error made -/
def tMkErr (C : Addr) (f q : Str) (ta : TA) : L2.St → Hp → XK → Prop := fun σ H Q => ta σ H fun vs H1 => ∃ v, vs = [v] ∧ ∀ d, H1 d = none → Q (.ref C) (some d) (upd H1 d (.xd (errD f q v)))
theorem pmk_err {a : Expr} {ta : TA} {p pos : Pos} {k : Nat} (T : ErrX.ErrTxt X.prog X.K X.mg nm f q C fI cc cd) (hr : Room k X.A) (ha : PA X [a] ta) (hg : Gl X nm) (hd : (nm == ("__debug__" : Str)) = false := by decide)
    (he : starEach (a :: []) X.env = (false, eval a X.env) :: starEach [] X.env := by rfl) (hpl : (backTo pos (starEach [] X.env)).any (·.1) = false := by rfl) :
    PMk X (.Call (.Name nm p) [a] [] pos) (tMkErr C f q ta) := by
  intro pins s σ H Q I h
  refine wpAny_Call_Name_kw (ld_glob I hg T.gC ?_ hd)
  refine PySem.W.callWith_K (h₀ := X.base) I.ok.mod.kin T.kC (thn (ha.run pos pins s σ H _ I h) fun us s1 hh => ?_) he hpl
  obtain ⟨vs, H1, I1, r1, v, ev, q1⟩ := hh
  subst ev
  refine ⟨I1.kIn, ?_⟩
  cases r1 with
  | cons rv rn =>
    rename_i v' us'
    cases rn
    have hlim := I1.nolimit
    obtain ⟨mb, hb1, hb2⟩ := I1.mod.blt
    have hB : ∃ mb, s1.heap.Ns builtinsNs mb ∧ mb "super" = some (.type "super") := ⟨mb, hb1.keeps I1.bk, (hb2 _ (by decide +kernel)).trans (by decide +kernel)⟩
    refine wpAny_call (ErrX.err_made T I1.kIn (I1.mod.glob.keeps I1.bk) hB hlim (by have := hr.dp; omega) fun h' tk' e d M => ?_)
    obtain ⟨hp, g, dr, tok, os⟩ := s1
    obtain ⟨oe, fv, hoe, hc, hdct, hdat, h1⟩ := M.obj
    obtain ⟨tk0, hns⟩ := M.ns
    obtain ⟨G', g1, g2⟩ := restrict h' fun b => decide (b ≠ e)
    have gk : ∀ b, b ≠ e → G'.get? b = h'.get? b := fun b hb => g1 b (decide_eq_true hb)
    have ge : G'.get? e = none := g2 e (by simp)
    have old : ∀ b o, hp.get? b = some o → G'.get? b = some o := fun b o z => (gk b (Nat.ne_of_lt (Nat.lt_of_lt_of_le (Heap.lt_size z) M.new))).trans (M.keep b o z)
    have ob : ObjOk X.prog X.w (upd H1 d (.xd (errD f q v))) G' d (.xd (errD f q v)) := ⟨_, hns.at (fun o z => (gk d M.dne).trans z), fun y => relO_err rv y⟩
    have J : Inv X pins σ (upd H1 d (.xd (errD f q v))) ⟨G', g, dr, tk', os⟩ := I1.laid (t' := tk') old M.dbig ob
    refine ⟨e, oe, fv, ⟨G', g, dr, tk', os⟩, _, .ref C, some d, rfl, J, fun b o z => ?_, ge, hoe, ⟨hc, hdct⟩, hdat, h1, ?_, rfl, I1.bare, raises_own T.exC T.tyC, q1 d (I1.hok.fresh M.dbig)⟩
    · by_cases hb : b = e
      · have z' : G'.get? b = some o := z
        rw [hb, ge] at z'
        cases z'
      · exact (gk b hb).symm.trans z
    · rw [upd_ne (Ne.symm M.dne)]
      exact I1.hok.fresh M.new
end
end My
namespace My
open PySem PySem.Spec PyProof.Rows L2
/-! ### a field of a caught exception, wherever it is pinned -/
def tXg (K : PySem.W.Frag) (a : Addr) (cls : Value) (d : Option Addr) (n : Str) (te : TE) : TE := fun σ H Q => te σ H fun x H1 => x = .ref a ∧
  ∃ (C dd : Addr) (fs : List (Str × V)) (v : V), cls = .ref C ∧ XfC K C ∧ PySem.W.findIn K (.ref C) n = some none ∧ d = some dd ∧ H1 dd = some (.xd fs) ∧ fs.lookup n = some v ∧ Q v H1
section
variable {X : Cx} {a : Addr} {oe : Obj} {cls : Value} {d : Option Addr} {e : Expr} {te : TE} {pos : Pos} {n : Str}
theorem pe_xg {K : PySem.W.Frag} (hp : (a, oe) ∈ X.pn) (hz : Zc cls d oe) (hf : ∃ vs, oe.data = .fields vs) (he : PE X e te) (hK : X.K = K := by rfl) (hb : attributeBase e n X.env (eval e X.env) = eval e X.env := by rfl) : PE X (.Attribute e n pos) (tXg K a cls d n te) := by
  subst hK
  constructor
  intro pins s σ H Q I h
  apply attr_of hb
  apply thn (he.run pins s σ H _ I h)
  rintro u s1 ⟨x, H1, I1, rx, rfl, C, dd, fs, v, rfl, T, hno, rfl, ea, l, q⟩
  obtain rfl : u = Value.ref a := rx
  have pn := (I1.pin (a, oe) (List.mem_append_left _ hp)).1
  obtain ⟨vs, hd⟩ := hf
  obtain ⟨mA, hns, hr⟩ : ObjOk X.prog X.w H1 s1.heap dd (.xd fs) := I1.hok dd _ ea
  obtain ⟨od, ho, hl⟩ := lookIn_ns hns
  have rn := hr n
  rw [l] at rn
  obtain ⟨u, hu, ru⟩ := RelO.some_of (v := v) (o := mA n) rn
  have at_ : PySem.W.InstAt s1.heap a oe C (some od) := ⟨pn, hz.1, by unfold PySem.W.notCls; rw [hd] <;> rfl, by rw [hz.2]; exact ho⟩
  exact HandSPX.exc_get I1.kIn at_ T.ga T.gg T.exC (PySem.W.findObj_own T.hdC hno rfl (by rw [hl, hu])) (handed_of ru) ⟨v, H1, I1.tok _, ru, q⟩
end
/-! ### an own def, called where an exception is pinned -/
structure FnP (P : Program) (w : World) (K : PySem.W.Frag) (mg : Str → Option Value) (base : Heap) (k : Nat) (f : Addr) (fd : FuncData) (ps : List Str) (sp : Addr × Obj → Sp) : Prop where
  len : ∀ p vs H Q E, sp p vs H Q E → vs.length = ps.length
  run : ∀ (A : Around) (outer : List Env) (s : Shared) (H : Hp) (args : Args) (us : List Value) (vs : List V) (Q : VK) (p : Addr × Obj), L2H.RoomH k A → L2H.PinOk outer H s p → Env0 P w K mg base A outer s H → BindsTo s fd args (ps.zip us) → Vals vs us → sp p vs H Q E0 →
    codeAny (model P w) A (.call (.ref f) args) (CR CX0 outer P w H s Q E0) s
section
variable {P : Program} {w : World} {K : PySem.W.Frag} {mg : Str → Option Value} {base : Heap}
theorem Fun.pinned {x qual : Str} {st : Stmt} {f : Addr} {fd : FuncData} {N ps : List Str} {k : Nat} {sp : Addr × Obj → Sp} (F : Fun K x qual st f fd) (S : FnScope N ps (defScope st)) (len : ∀ p vs H Q E, sp p vs H Q E → vs.length = ps.length)
    (hbody : ∀ (cdv : Value) (A : Around) (outer : List Env) (s : Shared) (H : Hp) (vs : List V) (Q : VK) (p : Addr × Obj), L2H.RoomH k (A.deeper (envOfC qual (defScope st) s.heap.objs.size f cdv)) → sp p vs H Q E0 →
      ∃ t, PSs (L2H.cxH CX0 P w K mg base N qual (defScope st) f cdv A outer s H E0 p) (defBody st) t ∧ t { nx := fun _ H' => Q .non H', rt := Q } (L2.start N vs) H) : FnP P w K mg base (k + 1) f fd ps sp := by
  obtain ⟨oc, od, kV, doc, pm, an, cdv, ct, osl, rfl, lk, hcd⟩ := F.ex
  constructor
  · exact len
  intro A outer s H args us vs Q p hr hpin e0 hb r hsp
  have hl := len _ _ _ _ _ hsp
  have KX : K.In s.heap := e0.mod.kin.keeps fun b o e => (e0.bs b o e).1
  have lim : s.heap.NoLimit := e0.mod.nolimit.keeps fun b o e => (e0.bs b o e).1
  have kinds : ∀ y ∈ ps.zip us, (defScope st).names.lookup y.1 = some .local ∨ ((defScope st).names.lookup y.1 = some .cell ∧ ((cellsFrom (s.heap.objs.size + 1) (defScope st).names []).lookup y.1).isSome = true) := by
    rintro ⟨n, v⟩ hy
    cases S.par n (List.of_mem_zip hy).1 with
    | inl q => exact .inl q
    | inr q => exact .inr ⟨q, PySem.W.cellsFrom_some _ _ _ (.inl q)⟩
  apply codeAny_call_function hr.depth (KX _ _ lk) rfl S.co S.gen rfl (PySem.W.codeRec_of KX hcd)
  apply hb
  apply wpAny_newFunctionEnv_cells S.kind kinds
  rintro env rfl s1 x
  refine ⟨lim.keeps x.toInCall.keep, codeAny_func ?_⟩
  obtain ⟨t, ht, hq⟩ := hbody cdv A outer s H vs Q p (hr.deeper _) hsp
  have I := L2H.inv_startH (CX := CX0) (E := E0) (f := f) (cd := cdv) S hpin e0 hl r x
  apply wpAny_mono (ht.run [] s1 (L2.start N vs) H _ I hq)
  · intro fl s' hs
    cases fl with
    | ret u =>
      obtain ⟨v, σ', H', J, rv, q⟩ := hs
      exact ⟨v, H', J.os, J.bare, J.base, J.hok, rv, q⟩
    | next =>
      obtain ⟨σ', H', J, q⟩ := hs
      exact ⟨V.non, H', J.os, J.bare, J.base, J.hok, rfl, q⟩
    | brk =>
      obtain ⟨_, _, _, q⟩ := hs
      exact q.elim
    | cont =>
      obtain ⟨_, _, _, q⟩ := hs
      exact q.elim
  · exact fun e s' hs => hs
end
structure HasP (P : Program) (w : World) (K : PySem.W.Frag) (mg : Str → Option Value) (base : Heap) (k : Nat) (x : Str) (ps : List Str) (sp : Addr × Obj → Sp) : Prop where
  ex : ∃ (f : Addr) (fd : FuncData), FnP P w K mg base k f fd ps sp ∧ mg x = some (.ref f) ∧ PySem.W.keepIn K (.ref f) = true ∧ Binds K fd ps []
section
variable {X : Cx} {k : Nat} {x : Str} {ps : List Str} {sp : Addr × Obj → Sp} {p : Addr × Obj} {ps1 pos : Pos} {e : Expr} {es : List Expr} {t : TA}
theorem pe_ownP (h : HasP X.prog X.w X.K X.mg X.base k x ps sp) (hr : L2H.RoomH k X.A) (hp : p ∈ X.pn) {sp1 : Sp} (hs : ∀ vs H Q, sp1 vs H Q E0 → sp p vs H Q E0) (hg : Gl X x) (ha : PA X (e :: es) t) (hdb : (x == ("__debug__" : Str)) = false := by decide)
    (he : starEach (e :: es) X.env = (false, eval e X.env) :: starEach es X.env := by rfl) (hpl : (backTo pos (starEach es X.env)).any (·.1) = false := by rfl) : PE X (.Call (.Name x ps1) (e :: es) [] pos) (tCall sp1 [] E0 t) := by
  obtain ⟨f, fd, F, m, kp, hb⟩ := h.ex
  constructor
  intro pins s σ H Q I h
  apply wpAny_Call_Name_kw (ld_glob I hg m ?_ hdb)
  apply PySem.W.callWith_K (h₀ := X.base) I.ok.mod.kin kp _ he hpl
  apply thn (ha.run pos pins s σ H _ I h)
  rintro us s1 ⟨vs, H1, I1, r, q⟩
  rw [List.append_nil] at q
  replace q := hs _ _ _ q
  refine ⟨I1.kIn, ?_⟩
  have b := hb s1 us I1.kIn (by rw [List.append_nil, ← r.length]; exact F.len _ _ _ _ _ q)
  rw [List.append_nil] at b
  have P1 := I1.pin p (List.mem_append_left _ hp)
  have pok : L2H.PinOk X.stack H1 s1 p := ⟨P1.1, P1.2.1, fun hm => (List.mem_cons.mp (I1.stkSub p.1 hm)).elim P1.2.2.1 P1.2.2.2.1, P1.2.2.2.2⟩
  apply wpAny_call
  apply codeAny_mono (F.run X.A X.stack s1 H1 ⟨us, []⟩ us vs Q p hr pok I1.env0 b r q)
  intro r s' hq
  cases r with
  | error e => exact (show False from hq).elim
  | ok fl =>
    cases fl with
    | ret u => exact I1.after hq
    | next => exact False.elim hq
    | brk => exact False.elim hq
    | cont => exact False.elim hq
end
/-! ### except (x1, x2, x3) as n, one of which always fits -/
theorem fly_push {B h : Heap} {l : List Env} {e : Addr} {Z : Obj → Prop} (x : HandSPX.FlyingZ B l e Z h) (o : Obj) : HandSPX.FlyingZ B l e Z (h.push o) := by
  have k : ∀ b u, h.get? b = some u → (h.push o).get? b = some u := fun b u z => Heap.get?_push_of_some _ z
  obtain ⟨x1, x2, x3, oe, vs, T, oT, ts, y1, y2, y3, y4, y5, y6, y7, y8, y9⟩ := x
  exact ⟨fun b u z => k b u (x1 b u z), x2, Heap.FunFrames.of_keeps (fun b u z _ => ⟨u, k b u z, rfl⟩) x3, oe, vs, T, oT, ts, k _ _ y1, y2, y3, y4, y5, y6, k _ _ y7, y8, y9⟩
def endsOff (i : Nat) (D : Ends) : Ends := { nx := fun σ' H' => D.nx (σ'.set i none) H', rt := D.rt, bk := fun σ' H' => D.bk (σ'.set i none) H', ct := fun σ' H' => D.ct (σ'.set i none) H' }
/-- the wish for an exception that some of the classes cs takes -/
def wTup (K : PySem.W.Frag) (cs : List Value) (len i : Nat) (ts : Addr → Value → Option Addr → TS) (D : Ends) : WX := fun cls d σ H => PySem.W.exmAny K cls cs = some true ∧ ∀ a, H a = none → σ.length = len → ts a cls d (endsOff i D) (σ.set i (some (.ref a))) H
section
variable {X : Cx} {x1 x2 x3 n : Str} {c1 c2 c3 : Value} {i j : Nat} {body suite : List Stmt} {b₀ : Stmt} {p1 p2 p3 p4 pos pos' : Pos} {tb : WX → TS} {ts : Addr → Value → Option Addr → TS}
theorem ps_try_tup3 (hs : X.stack = X.env :: X.outer) (hf : X.env.frame = some X.env.locals) (hN : X.N.Nodup) (hi : X.N[i]? = some n) (hln : X.env.kindOf n = some .local) (n1 : Names X x1 c1) (n2 : Names X x2 c2) (n3 : Names X x3 c3)
    (hb : ∀ (W : WX) (pn : List (Addr × Obj)) (xe : Value → Shared → Prop), Takes (X.tr pn xe) W → PassesOwn (model X.prog X.w) X.A X.env xe → PSs (X.tr pn xe) body (tb W))
    (hsu : ∀ (a : Addr) (oe : Obj) (cls : Value) (d : Option Addr) (pn : List (Addr × Obj)), Zc cls d oe → (∃ vs, oe.data = .fields vs) → PSs (X.suite a ((a, oe) :: pn)) (b₀ :: suite) (ts a cls d)) :
    PS X (.Try body [.ExceptHandler (some (.Tuple [.Name x1 p1, .Name x2 p2, .Name x3 p3] j p4)) (some n) (b₀ :: suite) pos'] [] [] pos) (fun D σ H => tb (wTup X.K [c1, c2, c3] X.N.length i ts D) D σ H) := by
  constructor
  intro pins s σ H D I h
  have ok := I.ok
  have hfr : X.A.frames = some (X.env :: X.outer) := by rw [ok.frames, hs]
  apply wpAny_Try_except
  generalize hh : ExceptHandler.ExceptHandler (some (Expr.Tuple [.Name x1 p1, .Name x2 p2, .Name x3 p3] j p4)) (some n) (b₀ :: suite) pos' = hd
  have run := (hb (wTup X.K [c1, c2, c3] X.N.length i ts D) (X.pn ++ pins) (fun e s₁ => wpAny (model X.prog X.w) X.A (noteFrame e X.env) (fun _ s₂ => wpAny (model X.prog X.w) X.A (setFlight e none) (fun _ s₃ =>
    wpAny (model X.prog X.w) X.A (handleBy e X.env [hd]) (SP X pins D) X.xe s₃) X.xe s₂) X.xe s₁) ?tk PassesOwn.looking).run [] s σ H D (I.toTry _) h
  case tk =>
    rintro u s' ⟨a, B, sI, pins', σ', H', cls, d, rfl, J', nb, up, sky, na, os, ag, hm, hyes⟩
    have J : Inv X pins σ' H' sI := J'.ofTry ok
    have sky' : Sky B (X.env :: X.outer) a (Zc cls d) X.env.locals s'.heap := by rw [← hs]; exact sky
    show wpAny (model X.prog X.w) X.A (noteFrame (.ref a) X.env) _ _ _
    apply Sky.land Zc.steady hfr hf sky'
    intro h3 fl3 up3
    obtain ⟨oe3, vs3, he3, hz3, hd3⟩ := fl3.there
    have out : a ∉ frs (X.env :: X.outer) := fun hm => by
      obtain ⟨_, o', e', hnf⟩ := fl3.2.2.1.mem hm
      rw [he3] at e'
      cases e'
      exact hnf _ hd3
    have nL : a ≠ X.env.locals := fun z => out (List.mem_filterMap.mpr ⟨X.env, List.mem_cons_self, by rw [hf, z]⟩)
    have nF : a ∉ X.fs := fun hm => by
      obtain ⟨e, he, q⟩ := List.mem_filterMap.mp hm
      exact out (List.mem_filterMap.mpr ⟨e, List.mem_cons_of_mem _ he, q⟩)
    have J3 : Inv X pins σ' H' { s' with heap := h3 } := J.landed nb fl3.1 (up.trans up3) os ag
    have S3 := J3.suite he3 hd3 na nL nF
    subst hh
    refine wpAny_handleBy_cons (codeAny_handlers_test ?_) (by intro q; cases q)
    have nm : ∀ {x : Str} {c : Value} {p : Pos} {Q : Value → Shared → Prop} {E : Value → Shared → Prop}, Names X x c → Q c { s' with heap := h3 } → wpAny (model X.prog X.w) (X.A.mark (some (.ref a))) (eval (.Name x p) X.env) Q E { s' with heap := h3 } := by
      rintro x c p Q E ⟨hg, hdbg, hm | ⟨hm, hv, hnn⟩⟩ q
      · exact ld_glob (X := X.suite a ((a, oe3) :: (X.pn ++ pins))) S3 hg hm q hdbg
      · exact ld_blt (X := X.suite a ((a, oe3) :: (X.pn ++ pins))) S3 hg hm hv q hnn hdbg
    apply wpAny_Tuple
    refine wpAny_items_cons (nm n1 (wpAny_items_cons (nm n2 (wpAny_items_cons (nm n3 (wpAny_items_nil ⟨by show 3 ≤ sizeLine; decide, ?_⟩))))))
    have fl5 := fly_push fl3 { cls := .type "tuple", data := .seq [c1, c2, c3].toArray }
    have up5 : s'.heap.UpToSlots (h3.push { cls := .type "tuple", data := .seq [c1, c2, c3].toArray }) := up3.trans (Heap.UpToSlots.of_keeps fun b o e => Heap.get?_push_of_some _ e)
    have J5 : Inv X pins σ' H' { s' with heap := h3.push { cls := .type "tuple", data := .seq [c1, c2, c3].toArray } } := J.landed nb fl5.1 (up.trans up5) os ag
    have LT : PySem.W.Looks (model X.prog X.w) (h3.push { cls := .type "tuple", data := .seq [c1, c2, c3].toArray }) (typeOf (.ref a)) cls := fun A Q E s k q => wpAny_typeOf_ref (k _ _ (Heap.get?_push_of_some _ he3)) (by rw [hz3.1]; exact q)
    have LM := PySem.W.exm_tup3 (M := model X.prog X.w) (J5.kIn) LT (Heap.get?_push_size _ rfl) hm
    apply LM.here
    apply codeAny_handlers_suite_as
    apply HandSPX.lands_againZ fl5
    intro h4 fl4 up4
    have J4 : Inv X pins σ' H' { s' with heap := h4 } := J.landed nb fl4.1 ((up.trans up5).trans up4) os ag
    obtain ⟨oe4, vs4, he4, hz4, hd4⟩ := fl4.there
    have S4 := J4.suite he4 hd4 na nL nF
    refine store_ok (X := X.suite a ((a, oe4) :: (X.pn ++ pins))) (v := .ref a) S4 hN hi (.inl hln) rfl (fun s5 S5 => ?_) (.inr hln)
    apply wpAny_mono ((hsu a oe4 cls d (X.pn ++ pins) hz4 ⟨_, hd4⟩).run [] s5 _ H' _ S5 (hyes a na J.len))
    · have off : ∀ {σ6 : L2.St} {H6 : Hp} {s6 : Shared} {Q : Shared → Prop}, Inv (X.suite a ((a, oe4) :: (X.pn ++ pins))) [] σ6 H6 s6 → (∀ s7, Inv X pins (σ6.set i none) H6 s7 → Q s7) →
          wpAny (model X.prog X.w) X.A (do bindName X.env n .none; unbindBehindTheSuite X.env n pos') (fun _ s7 => Q s7) X.xe s6 := fun S6 hq => gone_ok (S6.unsuite ok) hN hi hln hq
      intro f s6 hsp
      cases f with
      | ret u =>
        obtain ⟨v6, σ6, H6, S6, r6, q6⟩ := hsp
        exact off S6 fun s7 J7 => ⟨_, _, _, J7, r6, q6⟩
      | next =>
        obtain ⟨σ6, H6, S6, q6⟩ := hsp
        exact off S6 fun s7 J7 => ⟨_, _, J7, q6⟩
      | brk =>
        obtain ⟨σ6, H6, S6, q6⟩ := hsp
        exact off S6 fun s7 J7 => ⟨_, _, J7, q6⟩
      | cont =>
        obtain ⟨σ6, H6, S6, q6⟩ := hsp
        exact off S6 fun s7 J7 => ⟨_, _, J7, q6⟩
    · exact fun _ _ z => z.elim
  refine wpAny_mono run (fun f s1 hsp => ?_) (fun e s1 he => he)
  cases f with
  | next =>
    obtain ⟨σ', H', J', q⟩ := hsp
    exact wpAny_execs_nil ⟨σ', H', J'.ofTry ok, q⟩
  | ret u =>
    obtain ⟨v, σ', H', J', r, q⟩ := hsp
    exact ⟨v, σ', H', J'.ofTry ok, r, q⟩
  | brk =>
    obtain ⟨σ', H', J', q⟩ := hsp
    exact ⟨σ', H', J'.ofTry ok, q⟩
  | cont =>
    obtain ⟨σ', H', J', q⟩ := hsp
    exact ⟨σ', H', J'.ofTry ok, q⟩
end
end My
namespace My
open PySem PySem.Spec PyProof.Rows L2
/-! ### which field an error's code tells -/
abbrev cGiven : List V := [.str "InvalidNumber", .str "InvalidThing", .str "InvalidRing", .str "InvalidName", .str "InvalidOrder", .str "WrongCount"]
abbrev cAt : List V := [.str "InvalidTerm", .str "InvalidLine", .str "InvalidProduct", .str "InvalidCommand", .str "DegreeTooHigh", .str "NotWhole", .str "NotStraight", .str "NoUnit"]
abbrev cNumber : List V := [.str "NoInverse", .str "Unsound", .str "InUse", .str "Broken", .str "UnknownNumber"]
abbrev cName : List V := [.str "Unused", .str "DuplicateName", .str "UnknownName"]
abbrev cMost : List V := [.str "TooMany", .str "TooGreat", .str "Full"]
def fieldName (q : Str) : Option Str :=
  if inV (.str q) cGiven then some "given" else if inV (.str q) cAt then some "at" else if inV (.str q) cNumber then some "number" else if inV (.str q) cName then some "name" else if inV (.str q) cMost then some "most" else if q = "InvalidHead" then some "part" else if q = "InvalidTable" then some "rule" else if q = "InvalidText" then some "line" else none
/-- an error of an own class at C, its dict fs: its code, the field that the code tells -/
structure ErrAt (K : PySem.W.Frag) (cls : Value) (d : Option Addr) (H : Hp) (q : Str) (v : V) : Prop where
  ex : ∃ (C dd : Addr) (fs : List (Str × V)) (f : Str), cls = .ref C ∧ XfC K C ∧ d = some dd ∧ H dd = some (.xd fs) ∧ PySem.W.findIn K (.ref C) "code" = some none ∧ fs.lookup ("code" : Str) = some (V.str q) ∧
    fieldName q = some f ∧ PySem.W.findIn K (.ref C) f = some none ∧ fs.lookup f = some v
theorem ErrAt.same {K : PySem.W.Frag} {cls : Value} {d : Option Addr} {H H' : Hp} {q : Str} {v : V} (h : ErrAt K cls d H q v) (s : Same H H') : ErrAt K cls d H' q v := by
  obtain ⟨C, dd, fs, f, a, b, c, e, r⟩ := h.ex
  exact ⟨C, dd, fs, f, a, b, c, s _ _ e, r⟩
def spField (K : PySem.W.Frag) (p : Addr × Obj) : Sp := fun vs H Q _ => ∃ (cls : Value) (d : Option Addr) (q : Str) (v : V), vs = [.ref p.1] ∧ Zc cls d p.2 ∧ (∃ ws, p.2.data = .fields ws) ∧ ErrAt K cls d H q v ∧ ∀ H', Same H H' → Q v H'
section
variable {P : Program} {w : World} {K : PySem.W.Frag} {mg : Str → Option Value} {base : Heap}
theorem ok_field (F : Fn K mg "_law_field" s_l_field ["_law_e"]) : HasP P w K mg base 1 "_law_field" ["_law_e"] (spField K) := by
  obtain ⟨f, fd, F, m, b⟩ := F.ex
  refine ⟨f, fd, Fun.pinned F sc_l_field (fun p vs H Q E h => ?_) (fun cdv A outer s H vs Q p hr h => ?_), m, F.kp, b⟩
  · obtain ⟨cls, d, q, v, rfl, _⟩ := h
    rfl
  obtain ⟨cls, d, q, v, rfl, hz, hf, er, hq⟩ := h
  refine ⟨_, (pss_cons (ps_if (pt_cmpR op_in_seq (pe_xg (K := K) (List.mem_cons_self) hz hf (pv 0)) (pe_lst (pa_cons pe_str (pa_cons pe_str (pa_cons pe_str (pa_cons pe_str (pa_cons pe_str (pa_cons pe_str pa_nil))))))) rfl)
        (pss_one (ps_ret (pe_xg (K := K) (List.mem_cons_self) hz hf (pv 0))))
        pss_nil)
      (pss_cons (ps_if (pt_cmpR op_in_seq (pe_xg (K := K) (List.mem_cons_self) hz hf (pv 0)) (pe_lst (pa_cons pe_str (pa_cons pe_str (pa_cons pe_str (pa_cons pe_str (pa_cons pe_str (pa_cons pe_str (pa_cons pe_str (pa_cons pe_str pa_nil))))))))) rfl)
        (pss_one (ps_ret (pe_xg (K := K) (List.mem_cons_self) hz hf (pv 0))))
        pss_nil)
      (pss_cons (ps_if (pt_cmpR op_in_seq (pe_xg (K := K) (List.mem_cons_self) hz hf (pv 0)) (pe_lst (pa_cons pe_str (pa_cons pe_str (pa_cons pe_str (pa_cons pe_str (pa_cons pe_str pa_nil)))))) rfl)
        (pss_one (ps_ret (pe_xg (K := K) (List.mem_cons_self) hz hf (pv 0))))
        pss_nil)
      (pss_cons (ps_if (pt_cmpR op_in_seq (pe_xg (K := K) (List.mem_cons_self) hz hf (pv 0)) (pe_lst (pa_cons pe_str (pa_cons pe_str (pa_cons pe_str pa_nil)))) rfl)
        (pss_one (ps_ret (pe_xg (K := K) (List.mem_cons_self) hz hf (pv 0))))
        pss_nil)
      (pss_cons (ps_if (pt_cmpR op_in_seq (pe_xg (K := K) (List.mem_cons_self) hz hf (pv 0)) (pe_lst (pa_cons pe_str (pa_cons pe_str (pa_cons pe_str pa_nil)))) rfl)
        (pss_one (ps_ret (pe_xg (K := K) (List.mem_cons_self) hz hf (pv 0))))
        pss_nil)
      (pss_cons (ps_if (pt_cmpR op_eq (pe_xg (K := K) (List.mem_cons_self) hz hf (pv 0)) pe_str (nomark _))
        (pss_one (ps_ret (pe_tup (pa_cons (pe_xg (K := K) (List.mem_cons_self) hz hf (pv 0)) (pa_cons (pe_xg (K := K) (List.mem_cons_self) hz hf (pv 0)) pa_nil)))))
        pss_nil)
      (pss_cons (ps_if (pt_cmpR op_eq (pe_xg (K := K) (List.mem_cons_self) hz hf (pv 0)) pe_str (nomark _))
        (pss_one (ps_ret (pe_xg (K := K) (List.mem_cons_self) hz hf (pv 0))))
        pss_nil)
      (pss_cons (ps_if (pt_cmpR op_eq (pe_xg (K := K) (List.mem_cons_self) hz hf (pv 0)) pe_str (nomark _))
        (pss_one (ps_ret (pe_xg (K := K) (List.mem_cons_self) hz hf (pv 0))))
        pss_nil)
      (pss_one (ps_ret (pe_ifExp (pt_cmpR op_eq (pe_xg (K := K) (List.mem_cons_self) hz hf (pv 0)) pe_str (nomark _)) (pe_xg (K := K) (List.mem_cons_self) hz hf (pv 0)) pe_non))))))))))), ?_⟩
  obtain ⟨C, dd, fs, fn, rfl, T, rfl, hd, noC, lC, hfn, noF, lF⟩ := er.ex
  have step : ∀ {H' : Hp} {l : Addr} {o : HO}, H' dd = some (.xd fs) → H' l = none → upd H' l o dd = some (.xd fs) := fun e n => by rw [upd_ne (ne_of_none e n)]; exact e
  unfold fieldName at hfn
  refine ⟨_, rfl, rfl, C, dd, fs, _, rfl, T, noC, rfl, hd, lC, (by show 6 ≤ sizeLine; decide), fun l1 h1 => ⟨l1, cGiven, rfl, .inl (SqL.of upd_same), rfl, rfl, ?_⟩⟩
  have d1 := step (o := .lst cGiven) hd h1
  have m1 : Same H (upd H l1 (.lst cGiven)) := same_upd h1
  cases i1 : inV (.str q) cGiven with
  | true =>
    rw [i1] at hfn
    cases hfn
    exact ⟨_, rfl, iteT ⟨_, rfl, rfl, C, dd, fs, _, rfl, T, noF, rfl, d1, lF, hq _ m1⟩⟩
  | false =>
  rw [i1] at hfn
  refine ⟨_, rfl, iteF ?_⟩
  refine ⟨_, rfl, rfl, C, dd, fs, _, rfl, T, noC, rfl, d1, lC, (by show 8 ≤ sizeLine; decide), fun l2 h2 => ⟨l2, cAt, rfl, .inl (SqL.of upd_same), rfl, rfl, ?_⟩⟩
  have d2 := step (o := .lst cAt) d1 h2
  have m2 := m1.trans (same_upd (o := .lst cAt) h2)
  cases i2 : inV (.str q) cAt with
  | true =>
    rw [i2] at hfn
    cases hfn
    exact ⟨_, rfl, iteT ⟨_, rfl, rfl, C, dd, fs, _, rfl, T, noF, rfl, d2, lF, hq _ m2⟩⟩
  | false =>
  rw [i2] at hfn
  refine ⟨_, rfl, iteF ?_⟩
  refine ⟨_, rfl, rfl, C, dd, fs, _, rfl, T, noC, rfl, d2, lC, (by show 5 ≤ sizeLine; decide), fun l3 h3 => ⟨l3, cNumber, rfl, .inl (SqL.of upd_same), rfl, rfl, ?_⟩⟩
  have d3 := step (o := .lst cNumber) d2 h3
  have m3 := m2.trans (same_upd (o := .lst cNumber) h3)
  cases i3 : inV (.str q) cNumber with
  | true =>
    rw [i3] at hfn
    cases hfn
    exact ⟨_, rfl, iteT ⟨_, rfl, rfl, C, dd, fs, _, rfl, T, noF, rfl, d3, lF, hq _ m3⟩⟩
  | false =>
  rw [i3] at hfn
  refine ⟨_, rfl, iteF ?_⟩
  refine ⟨_, rfl, rfl, C, dd, fs, _, rfl, T, noC, rfl, d3, lC, (by show 3 ≤ sizeLine; decide), fun l4 h4 => ⟨l4, cName, rfl, .inl (SqL.of upd_same), rfl, rfl, ?_⟩⟩
  have d4 := step (o := .lst cName) d3 h4
  have m4 := m3.trans (same_upd (o := .lst cName) h4)
  cases i4 : inV (.str q) cName with
  | true =>
    rw [i4] at hfn
    cases hfn
    exact ⟨_, rfl, iteT ⟨_, rfl, rfl, C, dd, fs, _, rfl, T, noF, rfl, d4, lF, hq _ m4⟩⟩
  | false =>
  rw [i4] at hfn
  refine ⟨_, rfl, iteF ?_⟩
  refine ⟨_, rfl, rfl, C, dd, fs, _, rfl, T, noC, rfl, d4, lC, (by show 3 ≤ sizeLine; decide), fun l5 h5 => ⟨l5, cMost, rfl, .inl (SqL.of upd_same), rfl, rfl, ?_⟩⟩
  have d5 := step (o := .lst cMost) d4 h5
  have m5 := m4.trans (same_upd (o := .lst cMost) h5)
  cases i5 : inV (.str q) cMost with
  | true =>
    rw [i5] at hfn
    cases hfn
    exact ⟨_, rfl, iteT ⟨_, rfl, rfl, C, dd, fs, _, rfl, T, noF, rfl, d5, lF, hq _ m5⟩⟩
  | false =>
  rw [i5] at hfn
  have hfn : (if q = "InvalidHead" then some ("part" : Str) else if q = "InvalidTable" then some ("rule" : Str) else if q = "InvalidText" then some ("line" : Str) else none) = some fn := hfn
  have ev : ∀ z : Str, q ≠ z → (decide (V.str q = V.str z)) = false := fun z n => decide_eq_false fun e => n (V.str.inj e)
  refine ⟨_, rfl, iteF ?_⟩
  have nS : q ≠ "InvalidStep" := fun z => by
    subst z
    have : (none : Option Str) = some fn := hfn
    cases this
  refine ⟨_, rfl, rfl, C, dd, fs, _, rfl, T, noC, rfl, d5, lC, rfl, _, rfl, ite_no (by rw [ev _ nS]; decide) ?_⟩
  refine ⟨_, rfl, rfl, C, dd, fs, _, rfl, T, noC, rfl, d5, lC, rfl, _, rfl, ?_⟩
  by_cases z1 : q = "InvalidHead"
  · rw [if_pos z1] at hfn
    cases hfn
    exact ite_of (decide_eq_true (congrArg V.str z1)) ⟨_, rfl, rfl, C, dd, fs, _, rfl, T, noF, rfl, d5, lF, hq _ m5⟩
  rw [if_neg z1] at hfn
  refine ite_no (by rw [ev _ z1]; decide) ?_
  refine ⟨_, rfl, rfl, C, dd, fs, _, rfl, T, noC, rfl, d5, lC, rfl, _, rfl, ?_⟩
  by_cases z2 : q = "InvalidTable"
  · rw [if_pos z2] at hfn
    cases hfn
    exact ite_of (decide_eq_true (congrArg V.str z2)) ⟨_, rfl, rfl, C, dd, fs, _, rfl, T, noF, rfl, d5, lF, hq _ m5⟩
  rw [if_neg z2] at hfn
  refine ite_no (by rw [ev _ z2]; decide) ?_
  refine ⟨_, rfl, rfl, C, dd, fs, _, rfl, T, noC, rfl, d5, lC, rfl, _, rfl, ?_⟩
  by_cases z3 : q = "InvalidText"
  · rw [if_pos z3] at hfn
    cases hfn
    exact ite_of (decide_eq_true (congrArg V.str z3)) ⟨_, rfl, rfl, C, dd, fs, _, rfl, T, noF, rfl, d5, lF, hq _ m5⟩
  rw [if_neg z3] at hfn
  cases hfn
end
/-! ### ask and tell: a value with no code, or an error's code and field -/
/-- what is wished of the exceptions that ask() lets out -/
def ErrWish (K : PySem.W.Frag) (cs : List Value) (Q : VK) : XK := fun cls d H => PySem.W.exmAny K cls cs = some true ∧ ∃ (q : Str) (v : V), ErrAt K cls d H q v ∧ ∀ H2 p, Same H H2 → H2 p = none → Q (.ref p) (upd H2 p (.tup [.str q, v]))
def spField1 (K : PySem.W.Frag) (a : Addr) (cls : Value) (d : Option Addr) : Sp := fun vs H Q _ => ∃ (q : Str) (v : V), vs = [.ref a] ∧ ErrAt K cls d H q v ∧ ∀ H', Same H H' → Q v H'
theorem pe_fld {Y : Cx} (K : PySem.W.Frag) {a : Addr} {oe : Obj} {cls : Value} {d : Option Addr} {ps1 pos : Pos} {e : Expr} {es : List Expr} {t : TA} (G : HasP Y.prog Y.w Y.K Y.mg Y.base 1 "_law_field" ["_law_e"] (spField Y.K)) (hr : L2H.RoomH 1 Y.A) (hp : (a, oe) ∈ Y.pn)
    (hz : Zc cls d oe) (hf : ∃ vs, oe.data = .fields vs) (hg : Gl Y "_law_field") (ha : PA Y (e :: es) t) (hK : Y.K = K := by rfl) (he : starEach (e :: es) Y.env = (false, eval e Y.env) :: starEach es Y.env := by rfl) (hpl : (backTo pos (starEach es Y.env)).any (·.1) = false := by rfl) :
    PE Y (.Call (.Name "_law_field" ps1) (e :: es) [] pos) (tCall (spField1 K a cls d) [] E0 t) := by
  subst hK
  exact pe_ownP G hr hp (fun vs H Q ⟨q, v, e, r⟩ => ⟨cls, d, q, v, e, hz, hf, r⟩) hg ha (by decide) he hpl
def TGot (K : PySem.W.Frag) (cs : List Value) : (XK → Hp → VK → Prop) → Hp → VK → Prop := fun tl H Q => tl (ErrWish K cs Q) H fun v H1 => 2 ≤ sizeLine ∧ ∀ p, H1 p = none → Q (.ref p) (upd H1 p (.tup [.str "", v]))
section
variable {X : Cx}
theorem got_gives {g : Addr} {cdg : Value} {q : Str} {C1 C2 C3 : Value} {k : Nat} (hr : Room (k + 2) X.A) (G_l_field : HasP X.prog X.w X.K X.mg X.base 1 "_law_field" ["_law_e"] (spField X.K)) (m1 : X.mg "RingError" = some C1) (m2 : X.mg "Missing" = some C2) (m3 : X.mg "NothingLeft" = some C3) :
    LamX.GivesTo X N_l_got "_law_got" (defScope s_l_got) g cdg (defBody s_l_got) "_law_ask" q (TGot X.K [C1, C2, C3]) := by
  intro f c' s H Q tl act hc h
  have hr1 : Room (k + 1) (X.A.deeper (envOfC "_law_got" (defScope s_l_got) s.heap.objs.size g cdg)) := hr.deeper _
  have hr2 : ∀ a : Addr, L2H.RoomH 1 ((X.A.deeper (envOfC "_law_got" (defScope s_l_got) s.heap.objs.size g cdg)).mark (some (.ref a))) := fun a => by
    have r := hr1.mono (Nat.succ_le_succ (Nat.zero_le k))
    exact ⟨r.dp, r.un⟩
  refine ⟨_, pss_one (ps_try_tup3 (X := (cxOf C8.CX0 X.prog X.w X.K X.mg X.base N_l_got "_law_got" (defScope s_l_got) g cdg X.A X.stack s H C8.E0).nox) (i := 1) (c1 := C1) (c2 := C2) (c3 := C3)
      (tb := fun W D σ H => ∃ Ech : XK, (∀ cls d σ' H', Ech cls d H' → W cls d σ' H') ∧ σ[0]? = some (some (.ref f)) ∧ H c' = some (LamX.CodeO c' q) ∧ tl Ech H (fun v H1 => 2 ≤ sizeLine ∧ ∀ p, H1 p = none → D.rt (.ref p) (upd H1 p (.tup [.str "", v]))))
      rfl rfl sc_l_got.nd rfl rfl ⟨rfl, by decide, .inl m1⟩ ⟨rfl, by decide, .inl m2⟩ ⟨rfl, by decide, .inl m3⟩ (fun W pn xe tk _ => ?_) (fun a oe cls d pn hz hf => pss_one (ps_ret (pe_tup (pa_cons (pe_xg (K := X.K) (List.mem_cons_self) hz hf (pv 1)) (pa_cons (pe_fld (Y := Cx.suite (cxOf C8.CX0 X.prog X.w X.K X.mg X.base N_l_got "_law_got" (defScope s_l_got) g cdg X.A X.stack s H C8.E0).nox a ((a, oe) :: pn)) X.K G_l_field (hr2 a) (List.mem_cons_self) hz hf rfl (pa_cons (pv 1) pa_nil)) pa_nil)))))), ?_⟩
  · constructor
    intro pins s' σ H' D I h'
    obtain ⟨Ech, hW, h1, h2, h3⟩ := h'
    have hp := fun p1 p2 => act W pn xe Ech p1 p2 tk hW
    exact (pss_one (ps_ret (pe_tup (pa_cons pe_str (pa_cons (hp _ _) pa_nil))))).run pins s' σ H' D I ⟨h1, h2, h3⟩
  · refine ⟨ErrWish X.K [C1, C2, C3] Q, fun cls d σ' H' ⟨hm, qq, v, er, hQ⟩ => ⟨hm, fun a na hl => ?_⟩, rfl, hc, h⟩
    obtain ⟨C, dd, fs, fn, rfl, T, rfl, hd, noC, lC, hfn, noF, lF⟩ := er.ex
    have hv : (σ'.set 1 (some (.ref a)))[1]? = some (some (V.ref a)) := List.getElem?_set_self (by rw [hl]; show 1 < N_l_got.length; decide)
    exact ⟨_, hv, rfl, C, dd, fs, _, rfl, T, noC, rfl, hd, lC, _, hv, qq, v, rfl, er, fun H2 s2 => ⟨by show 2 ≤ sizeLine; decide, fun p hp => hQ H2 p s2 hp⟩⟩
end
end My
/-! lambdas that a list holds: made, handed on, called by defs of one's own -/
namespace LamL
open PySem PySem.Spec PyProof.Rows L2 LamX My
/-- what is asked of the state at a call holds over a larger ground: all that is there, but the tracked things and the frames that run -/
theorem ground {X : Cx} {pins : List (Addr × Obj)} {σ : L2.St} {H : Hp} {s : Shared} (I : Inv X pins σ H s) (hfn : ∀ x, X.fn x = true) :
    ∃ B : Heap, Env0 X.prog X.w X.K X.mg B X.A X.stack s H ∧ (∀ b o, X.base.get? b = some o → B.get? b = some o) ∧ X.base.objs.size ≤ B.objs.size ∧ (∀ b o, B.get? b = some o → s.heap.get? b = some o) ∧ ∀ x c, X.env.cells.lookup x = some c → ∃ o, s.heap.get? c = some o ∧ B.get? c = some o := by
  have kp : ∀ b o, s.heap.get? b = some o → H b = none → b ∉ frs X.stack → (PySem.W.hideAll s.heap (trk s.heap H ++ frs X.stack)).get? b = some o := fun b o e n f =>
    PySem.W.hideAll_get _ e fun m => (List.mem_append.mp m).elim (fun z => by
      have q : (H b).isSome = true := (List.mem_filter.mp z).2
      rw [n] at q
      cases q) f
  have bk : ∀ b o, X.base.get? b = some o → (PySem.W.hideAll s.heap (trk s.heap H ++ frs X.stack)).get? b = some o := fun b o e => kp b o (I.bs b o e).1 (I.bs b o e).2 fun hm => by
    have z := (I.stack.mem hm).1
    rw [e] at z
    cases z
  have hs : (PySem.W.hideAll s.heap (trk s.heap H ++ frs X.stack)).objs.size = s.heap.objs.size := PySem.W.hideAll_size _ _
  obtain ⟨mb, b1, b2⟩ := I.mod.blt
  refine ⟨_, ⟨I.ok.frames, ⟨I.mod.kin.keeps bk, I.mod.glob.keeps bk, ⟨mb, b1.keeps bk, b2⟩, I.mod.nolimit.keeps bk⟩, fun b o e => ?_, Nat.le_of_eq hs, funFrames_none I.stack fun L hL => PySem.W.hideAll_none _ (List.mem_append_right _ hL), I.stkFree, I.hok, I.bare⟩, bk, by rw [hs]; exact Nat.le_trans I.ok.bsz I.sz, fun b o e => PySem.W.of_hideAll _ e, fun x c e => ?_⟩
  · have e1 := PySem.W.of_hideAll _ e
    refine ⟨e1, ?_⟩
    cases q : H b with
    | none => rfl
    | some u =>
      have hm : b ∈ trk s.heap H := List.mem_filter.mpr ⟨List.mem_range.mpr (Heap.lt_size e1), by rw [q]; rfl⟩
      rw [PySem.W.hideAll_none _ (List.mem_append_left _ hm)] at e
      cases e
  · obtain ⟨v, o, ho, hd⟩ := I.cell x c e
    refine ⟨o, ho, kp c o ho (I.freeC x c e) fun hm => ?_⟩
    rcases List.mem_cons.mp (I.stkSub c hm) with z | z
    · exact I.cne x c e z
    · obtain ⟨_, o', e', _⟩ := I.ok.funs.mem z
      exact Nat.lt_irrefl _ (Nat.lt_of_lt_of_le (Heap.lt_size e') (I.ok.cab x c (hfn x) e))
/-! ### the function's object -/
def FunO (f : Addr) (fd : FuncData) : HO := .ext fun h => h.get? f = some { cls := .type "function", data := .func fd }
theorem funO_ne {f : Addr} {fd : FuncData} (ps : Array Value) : FunO f fd ≠ .tbl ps := fun z => by
  unfold FunO at z
  cases z
theorem funO_get {P : Program} {w : World} {H : Hp} {h : Heap} {f : Addr} {fd : FuncData} (k : HOk P w H h) (e : H f = some (FunO f fd)) : h.get? f = some { cls := .type "function", data := .func fd } := (k f _ e).1
/-- a lambda, as it is written: the names with a default (one at most), its text -/
structure LamD where
  pn : List Str
  params : Arguments
  body : Expr
  scope : Scope
  /-- the slots of the maker's names that a parameter hides -/
  ws : List Nat
abbrev lamFd (X : Cx) (L : LamD) (dV doc pm : Value) (c' : Addr) (ctv : Value) : FuncData :=
  PySem.W.kdv_fn "<lambda>" (X.env.qual ++ "<lambda>") L.params (.expr L.body) L.scope (cloFrom X.env.cells L.scope.names []) dV doc pm (.ref c') ctv
/-- it was made here, and lies at f -/
def IsLam (X : Cx) (L : LamD) (H : Hp) (f : Addr) : Prop := ∃ (c' : Addr) (dV doc pm ctv : Value), H f = some (FunO f (lamFd X L dV doc pm c' ctv)) ∧ H c' = some (CodeO c' (X.env.qual ++ "<lambda>")) ∧
  ((L.pn = [] ∧ dV = .none) ∨ ∃ n T, L.pn = [n] ∧ dV = .ref T ∧ H T = some (.tup [.int 0]))
theorem IsLam.ext {X : Cx} {L : LamD} {H H' : Hp} {f : Addr} (h : IsLam X L H f) (e : ExtN H H') : IsLam X L H' f := by
  obtain ⟨c', dV, doc, pm, ctv, h1, h2, h3⟩ := h
  refine ⟨c', dV, doc, pm, ctv, e _ _ h1 funO_ne, e _ _ h2 codeO_ne, ?_⟩
  rcases h3 with ⟨a, b⟩ | ⟨n, T, a, b, c⟩
  · exact .inl ⟨a, b⟩
  · exact .inr ⟨n, T, a, b, e _ _ c fun ps z => by cases z⟩
theorem IsLam.same {X : Cx} {L : LamD} {H H' : Hp} {f : Addr} (h : IsLam X L H f) (e : Same H H') : IsLam X L H' f := h.ext (ExtN.of e)
/-- the lambdas of a list, in their order -/
def LamsAt (X : Cx) : List LamD → Hp → List Addr → Prop
  | [], _, [] => True
  | L :: Ls, H, f :: fs => IsLam X L H f ∧ LamsAt X Ls H fs
  | _, _, _ => False
theorem LamsAt.ext {X : Cx} {H H' : Hp} (e : ExtN H H') : ∀ {Ls : List LamD} {fs : List Addr}, LamsAt X Ls H fs → LamsAt X Ls H' fs
  | [], [], _ => True.intro
  | _ :: _, _ :: _, h => ⟨h.1.ext e, LamsAt.ext e h.2⟩
  | [], _ :: _, h => h.elim
  | _ :: _, [], h => h.elim
theorem LamsAt.same {X : Cx} {H H' : Hp} {Ls : List LamD} {fs : List Addr} (h : LamsAt X Ls H fs) (e : Same H H') : LamsAt X Ls H' fs := h.ext (ExtN.of e)
theorem LamsAt.len {X : Cx} {H : Hp} : ∀ {Ls : List LamD} {fs : List Addr}, LamsAt X Ls H fs → fs.length = Ls.length
  | [], [], _ => rfl
  | _ :: _, _ :: _, h => congrArg (· + 1) (LamsAt.len h.2)
  | [], _ :: _, h => h.elim
  | _ :: _, [], h => h.elim
/-! ### making -/
def tMk (X : Cx) (T : List (Addr × Str)) (L : LamD) : TE := fun _ H Q => Tabs T H ∧ ∀ f H1, ExtN H H1 → Tabs T H1 → IsLam X L H1 f → Q (.ref f) H1
section
variable {X : Cx} {pins : List (Addr × Obj)} {σ : L2.St} {H : Hp} {s : Shared}
theorem mk_core {T : List (Addr × Str)} {c P : Addr} {L : LamD} {pos : Pos} {dV : Value} {E : Value → Shared → Prop} {Q : Value → Shared → Prop} (I : Inv X pins σ H s) (TB : TabB X.base X.mg c P) (hcode : X.env.code = .ref c)
    (hm : (P, X.env.qual ++ "<lambda>") ∈ T) (hu : ∀ p ∈ T, p.1 = P → p.2 = X.env.qual ++ "<lambda>") (hT : Tabs T H) (hfree : ∀ y ∈ L.scope.names, y.2 = .free → ∃ c, X.env.cells.lookup y.1 = some c)
    (h : ∀ (f c' : Addr) (doc pm ctv : Value) (H1 : Hp) (s' : Shared), Inv X pins σ H1 s' → ExtN H H1 → Tabs T H1 → H1 f = some (FunO f (lamFd X L dV doc pm c' ctv)) → H1 c' = some (CodeO c' (X.env.qual ++ "<lambda>")) → Q (.ref f) s') :
    wpAny (model X.prog X.w) X.A (makeTail "<lambda>" (X.env.qual ++ "<lambda>") L.params (.expr L.body) L.scope X.env dV .none none pos pos.line) Q E s := by
  obtain ⟨ps, tP, t3, look⟩ := hT _ hm
  have oP : s.heap.get? P = some { cls := .none, data := .fields ps } := I.hok P _ tP
  have bP : s.heap.BuiltinsAt X.mg P := TB.bm.keeps I.bk
  -- the function's object, laid behind a state that knows the tables
  have fin : ∀ {H2 : Hp} {h2 : Heap} {tk t2 : Nat} {c' : Addr} {doc pm ctv : Value}, Inv X pins σ H2 { s with heap := h2, toks := t2 } → ExtN H H2 → Tabs T H2 → H2 c' = some (CodeO c' (X.env.qual ++ "<lambda>")) →
      Q (.ref h2.objs.size) { s with heap := h2.push { cls := .type "function", data := .func (lamFd X L dV doc pm c' ctv) }, toks := tk } := fun {H2 h2 tk t2 c' doc pm ctv} I2 e2 T2 hc => by
    have n2 : H2 h2.objs.size = none := I2.hok.fresh (Nat.le_refl _)
    have sm : Same H2 (upd H2 h2.objs.size (FunO h2.objs.size (lamFd X L dV doc pm c' ctv))) := same_upd n2
    have I3 : Inv X pins σ (upd H2 h2.objs.size (FunO h2.objs.size (lamFd X L dV doc pm c' ctv))) { s with heap := h2.push { cls := .type "function", data := .func (lamFd X L dV doc pm c' ctv) }, toks := tk } :=
      I2.laid (t' := tk) (fun b u e => Heap.get?_push_of_some _ e) (Nat.le_refl _) ⟨Heap.get?_push_size _ rfl, ⟨_, Heap.get?_push_size _ rfl⟩, fun h1 h2 p st => st _ p⟩
    exact h _ c' doc pm ctv _ _ I3 (e2.trans (ExtN.of sm)) (T2.ext sm) upd_same (sm _ _ hc)
  cases hc : codeAmong pos ps.toList with
  | none =>
    refine PySem.W.kdv_makeTail (mg := X.mg) (c := c) (P := P) (ps := ps) (closure_ok hfree) I.ok.glob (I.mod.glob.keeps I.bk) hcode (TB.code.keeps I.bk) oP t3 hc TB.gP bP fun c' ctv doc h' tk hx hge hlt hrec htb => ?_
    obtain ⟨c2, oc, vs, t, e2, hoc, hd, hv⟩ := hrec
    cases e2
    have nC : H c' = none := I.hok.fresh hge
    have I1 := inv_table (t' := tk) (more := #[rawInt pos.line, rawInt pos.col, .ref c']) (h' := h') I tP hx htb hge ⟨oc, vs, t, hoc, hd, hv⟩
    have eN : ExtN H (upd (upd H P (.tbl (ps ++ #[rawInt pos.line, rawInt pos.col, .ref c']))) c' (CodeO c' (X.env.qual ++ "<lambda>"))) := by
      intro b o e n
      have bP' : b ≠ P := fun z => by
        rw [z, tP] at e
        exact n ps (Option.some.inj e).symm
      rw [upd_ne (ne_of_none e nC), upd_ne bP']
      exact e
    have atP : upd (upd H P (.tbl (ps ++ #[rawInt pos.line, rawInt pos.col, .ref c']))) c' (CodeO c' (X.env.qual ++ "<lambda>")) P = some (.tbl (ps ++ #[rawInt pos.line, rawInt pos.col, .ref c'])) := by rw [upd_ne (ne_of_none tP nC), upd_same]
    have eL : (ps ++ #[rawInt pos.line, rawInt pos.col, .ref c']).toList = ps.toList ++ [rawInt pos.line, rawInt pos.col, .ref c'] := by simp
    refine fin I1 eN (fun p hp => ?_) upd_same
    by_cases hb : p.1 = P
    · rw [hu p hp hb, hb]
      refine ⟨_, atP, by rw [eL]; exact PySem.TriplesOk_snoc _ _ _ _ t3, fun p' cv hcv => ?_⟩
      rw [eL] at hcv
      rcases among_app _ t3 hcv with z | z
      · obtain ⟨c0, e1, e2⟩ := look p' cv z
        exact ⟨c0, e1, eN _ _ e2 codeO_ne⟩
      · exact ⟨c', z, upd_same⟩
    · obtain ⟨ps', a1, a2, a3⟩ := hT p hp
      refine ⟨ps', by rw [upd_ne (ne_of_none a1 nC), upd_ne hb]; exact a1, a2, fun p' cv hcv => ?_⟩
      obtain ⟨c0, e1, e2⟩ := a3 p' cv hcv
      exact ⟨c0, e1, eN _ _ e2 codeO_ne⟩
  | some cv =>
    obtain ⟨c', e, hco⟩ := look pos cv hc
    subst e
    refine PySem.W.kdv_makeTailHit (mg := X.mg) (c := c) (P := P) (ps := ps) (closure_ok hfree) I.ok.glob (I.mod.glob.keeps I.bk) hcode (TB.code.keeps I.bk) oP t3 hc bP fun ctv doc h' tk hx hsz => ?_
    exact fin (I.kept (t' := tk) hx) (ExtN.refl H) hT hco
/-- what is asked of a lambda's text: no parameter, or one with the default 0 -/
structure LamTxt (X : Cx) (L : LamD) : Prop where
  kind : L.scope.kind = .function
  co : L.scope.isCoroutine = false
  gen : L.scope.isGenerator = false
  cell : ∀ y ∈ L.scope.names, y.2 ≠ .cell
  loc : ∀ y ∈ L.scope.names, y.2 = .local → y.1 ∈ L.pn ∧ ∀ i, X.N[i]? = some y.1 → i ∈ L.ws
  par : ∀ n ∈ L.pn, L.scope.names.lookup n = some .local
  free : ∀ y ∈ L.scope.names, y.2 = .free → X.env.scope.names.lookup y.1 = some .cell ∨ X.env.scope.names.lookup y.1 = some .free
def lamTxtB (N : List Str) (sc : Scope) (pn : List Str) (ws : List Nat) (scope : Scope) : Bool :=
  decide (scope.kind = .function) && !scope.isCoroutine && !scope.isGenerator && (scope.names.all fun y => !decide (y.2 = .cell) && (!decide (y.2 = .local) || (decide (y.1 ∈ pn) && (List.range N.length).all fun i => !decide (N[i]? = some y.1) || decide (i ∈ ws))) && (!decide (y.2 = .free) || decide (sc.names.lookup y.1 = some .cell) || decide (sc.names.lookup y.1 = some .free))) &&
    pn.all fun n => decide (scope.names.lookup n = some .local)
theorem lamTxt_by {X : Cx} {L : LamD} (h : lamTxtB X.N X.env.scope L.pn L.ws L.scope = true) : LamTxt X L := by
  unfold lamTxtB at h
  simp only [Bool.and_eq_true, Bool.or_eq_true, Bool.not_eq_true', decide_eq_true_eq, decide_eq_false_iff_not, List.all_eq_true] at h
  obtain ⟨⟨⟨⟨h1, h2⟩, h3⟩, h4⟩, h5⟩ := h
  refine ⟨h1, h2, h3, fun y hy => (h4 y hy).1.1, fun y hy e => ?_, h5, fun y hy e => ?_⟩
  · obtain ⟨z1, z2⟩ := ((h4 y hy).1.2).resolve_left fun z => z e
    exact ⟨z1, fun i hi => (z2 i (List.mem_range.mpr (List.getElem?_eq_some_iff.mp hi).1)).resolve_left fun z => z hi⟩
  rcases (h4 y hy).2 with (z | z) | z
  · exact absurd e z
  · exact .inl z
  · exact .inr z
theorem lamTxt_at {X : Cx} {L : LamD} (N : List Str) (sc : Scope) (h : lamTxtB N sc L.pn L.ws L.scope = true) (hN : X.N = N := by rfl) (hs : X.env.scope = sc := by rfl) : LamTxt X L := by
  subst hN
  subst hs
  exact lamTxt_by h
theorem LamTxt.has {L : LamD} (t : LamTxt X L) (ok : X.Ok) : ∀ y ∈ L.scope.names, y.2 = .free → ∃ c, X.env.cells.lookup y.1 = some c := fun y hy e => ok.has _ (t.free y hy e)
/-- lambda: body -/
theorem pe_mk0 {T : List (Addr × Str)} {c P : Addr} {params : Arguments} {body : Expr} {scope : Scope} {pos : Pos} (TB : TabB X.base X.mg c P) (hcode : X.env.code = .ref c) (hm : (P, X.env.qual ++ "<lambda>") ∈ T) (hu : ∀ p ∈ T, p.1 = P → p.2 = X.env.qual ++ "<lambda>")
    (t : LamTxt X ⟨[], params, body, scope, []⟩) (hdef : defaultsOf params X.env = ([], [])) : PE X (.Lambda params body scope pos) (tMk X T ⟨[], params, body, scope, []⟩) := by
  refine ⟨fun pins s σ H Q I h => ?_⟩
  obtain ⟨hT, h⟩ := h
  refine PySem.W.kla_eval hdef ?_
  rw [makeFunction_eq]
  simp only [List.zip_nil_right, List.filterMap_nil, List.isEmpty_nil, if_true, pure_bind]
  refine mk_core (L := ⟨[], params, body, scope, []⟩) I TB hcode hm hu hT (t.has I.ok) fun f c' doc pm ctv H1 s' I1 e1 T1 hf hc => ?_
  exact ⟨.ref f, H1, I1, rfl, h f H1 e1 T1 ⟨c', _, doc, pm, ctv, hf, hc, .inl ⟨rfl, rfl⟩⟩⟩
/-- lambda n=0: body -/
theorem pe_mk1 (ws : List Nat) {T : List (Addr × Str)} {c P : Addr} {n : Str} {params : Arguments} {body d0 : Expr} {scope : Scope} {pos : Pos} (TB : TabB X.base X.mg c P) (hcode : X.env.code = .ref c) (hm : (P, X.env.qual ++ "<lambda>") ∈ T) (hu : ∀ p ∈ T, p.1 = P → p.2 = X.env.qual ++ "<lambda>")
    (t : LamTxt X ⟨[n], params, body, scope, ws⟩) (hd : params.defaults = [d0]) (hk0 : params.kw_defaults = []) (h0 : PE X d0 (tC (.int 0))) : PE X (.Lambda params body scope pos) (tMk X T ⟨[n], params, body, scope, ws⟩) := by
  refine ⟨fun pins s σ H Q I h => ?_⟩
  obtain ⟨hT, h⟩ := h
  refine PySem.W.kdv_lam (by rw [hd]; rfl) hk0 ?_
  rw [hd]
  refine PySem.W.kdv_all1 (thn (h0.run pins s σ H (fun v H' => v = .int 0 ∧ H' = H) I ⟨rfl, rfl⟩) fun u s1 ⟨v, H', I1, r, ev, eH⟩ => PySem.W.kdv_all0 ?_)
  subst ev
  subst eH
  rw [makeFunction_eq]
  simp only [List.zip_nil_right, List.filterMap_nil, List.isEmpty_nil, if_true, pure_bind, List.isEmpty_cons, Bool.false_eq_true, if_false]
  have nT : H' s1.heap.objs.size = none := I1.hok.fresh (Nat.le_refl _)
  have sm : Same H' (upd H' s1.heap.objs.size (.tup [.int 0])) := same_upd nT
  refine wpAny_bind (wpAny_newTextTuple ?_)
  have I2 : Inv X pins σ (upd H' s1.heap.objs.size (.tup [.int 0])) { s1 with heap := s1.heap.push { cls := .type "tuple", data := .seq [u].toArray } } :=
    I1.laid (t' := s1.toks) (fun b u e => Heap.get?_push_of_some _ e) (Nat.le_refl _) ⟨by show 1 ≤ sizeLine; decide, [u], .cons r .nil, ⟨_, Heap.get?_push_size _ rfl, rfl, _, rfl⟩⟩
  refine mk_core (L := ⟨[n], params, body, scope, ws⟩) I2 TB hcode hm hu (hT.ext sm) (t.has I2.ok) fun f c' doc pm ctv H1 s' I3 e1 T1 hf hc => ?_
  exact ⟨.ref f, H1, I3, rfl, h f H1 ((ExtN.of sm).trans e1) T1 ⟨c', _, doc, pm, ctv, hf, hc, .inr ⟨n, _, rfl, rfl, e1 _ _ upd_same fun ps z => by cases z⟩⟩⟩
/-- a list's lambdas -/
def tMks (X : Cx) (T : List (Addr × Str)) (Ls : List LamD) : TA := fun _ H Q => Tabs T H ∧ ∀ fs H1, ExtN H H1 → Tabs T H1 → LamsAt X Ls H1 fs → Q (fs.map V.ref) H1
theorem pal_nil {T : List (Addr × Str)} : PA X [] (tMks X T []) := ⟨fun pos pins s σ H Q I h => pa_nil.run pos pins s σ H Q I (h.2 [] H (ExtN.refl H) h.1 True.intro)⟩
theorem pal_cons {T : List (Addr × Str)} {L : LamD} {Ls : List LamD} {e : Expr} {es : List Expr} (he : PE X e (tMk X T L)) (ha : PA X es (tMks X T Ls)) (hs : starEach (e :: es) X.env = (false, eval e X.env) :: starEach es X.env := by rfl) : PA X (e :: es) (tMks X T (L :: Ls)) :=
  ⟨fun pos pins s σ H Q I h => (pa_cons he ha hs).run pos pins s σ H Q I ⟨h.1, fun f H1 e1 T1 l1 => ⟨T1, fun fs H2 e2 T2 l2 => h.2 (f :: fs) H2 (e1.trans e2) T2 ⟨l1.ext e2, l2⟩⟩⟩⟩
end
end LamL
namespace LamL
open PySem PySem.Spec PyProof.Rows L2 LamX My
/-! ### calling -/
/-- f() at any state over the ground B keeps what tl reads -/
def Can (P : Program) (w : World) (K : PySem.W.Frag) (mg : Str → Option Value) (B : Heap) (k : Nat) (f : Addr) (tl : XK → Hp → VK → Prop) : Prop := ∀ (A : Around) (outer : List Env) (s : Shared) (H : Hp) (Q : VK) (E : XK),
  Room k A → Env0 P w K mg B A outer s H → tl E H Q → codeAny (model P w) A (.call (.ref f) ⟨[], []⟩) (CR (L2.CX P w) outer P w H s Q E) s
/-- how the call binds -/
def LamBind (L : LamD) : Prop :=
  (L.pn = [] → ∀ (q : Str) (cl : List (Str × Addr)) (doc pm cv ctv : Value), bindArgs (PySem.W.kdv_fn "<lambda>" q L.params (.expr L.body) L.scope cl .none doc pm cv ctv) ⟨[], []⟩ = pure []) ∧
  ∀ n, L.pn = [n] → ∀ (q : Str) (cl : List (Str × Addr)) (T : Addr) (doc pm cv ctv u : Value), ∃ k : Option (Array Value) → Sem (List (Str × Value)),
    bindArgs (PySem.W.kdv_fn "<lambda>" q L.params (.expr L.body) L.scope cl (.ref T) doc pm cv ctv) ⟨[], []⟩ = seqItems? (.ref T) >>= k ∧ k (some #[u]) = pure [(n, u)]
section
variable {X : Cx} {pins : List (Addr × Obj)} {σ : L2.St} {H : Hp} {s : Shared}
theorem lam_enter {A : Around} {outer : List Env} {E : XK} {L : LamD} {f c' : Addr} {h₁ : Heap} {tk : Nat} {B : Heap} {s1 : Shared} {HZ : Hp} {binds : List (Str × Value)} (I : Inv X pins σ H s) (t : LamTxt X L) (e0 : Env0 X.prog X.w X.K X.mg B A outer s1 HZ) (hd : A.handled = none)
    (bk : ∀ b o, X.base.get? b = some o → B.get? b = some o) (bsz : X.base.objs.size ≤ B.objs.size) (bc : ∀ x c, X.env.cells.lookup x = some c → ∃ o, s.heap.get? c = some o ∧ B.get? c = some o)
    (hns : h₁.Ns s1.heap.objs.size fun y => binds.reverse.lookup y) (kp : ∀ b o, s1.heap.get? b = some o → h₁.get? b = some o) :
    Inv (lamCx X A outer s1 HZ E L.scope f c') [] (wipe σ L.ws) HZ { s1 with heap := h₁, toks := tk } := by
  have hfree := t.has I.ok
  have cm : ∀ {y c}, (cloFrom X.env.cells L.scope.names []).lookup y = some c → X.env.cells.lookup y = some c := by
    intro y c e
    cases cloFrom_mem (PySem.mem_of_lookup e) with
    | inl hm => cases hm
    | inr hm =>
      obtain ⟨h1, h2⟩ := hm
      obtain ⟨c1, hc⟩ := hfree _ h1 rfl
      have hc : X.env.cells.lookup y = some c1 := hc
      rw [h2, hc]
      rfl
  have look : ∀ {y}, L.scope.names.lookup y = some .free → ∃ c, (cloFrom X.env.cells L.scope.names []).lookup y = some c := by
    intro y hl
    exact mem_lookup (cloFrom_has (cells := X.env.cells) (acc := []) (PySem.mem_of_lookup hl))
  have old : ∀ {x c}, X.env.cells.lookup x = some c → ∀ v, s.heap.IsCell c v → HZ c = none ∧ h₁.IsCell c v := by
    rintro x c e v ⟨o, ho, hd⟩
    obtain ⟨o', ho', hb⟩ := bc x c e
    rw [ho] at ho'
    cases ho'
    obtain ⟨q1, q2⟩ := e0.bs c o hb
    exact ⟨q2, o, kp c o q1, hd⟩
  have none' : ∀ b : Addr, b ∉ (lamCx X A outer s1 HZ E L.scope f c').ex := by
    intro b z
    cases (show b ∈ ([] : List Addr) from z)
  have bs' : ∀ b o, X.base.get? b = some o → s1.heap.get? b = some o ∧ HZ b = none := fun b o e => e0.bs b o (bk b o e)
  have fr' : s1.heap.FunFrames X.base outer := funFrames_none e0.funs fun b hb => by
    have z := (e0.funs.mem hb).1
    cases q : X.base.get? b with
    | none => rfl
    | some o =>
      rw [bk b o q] at z
      cases z
  have okX : (lamCx X A outer s1 HZ E L.scope f c').Ok := by
    refine ⟨I.mod, t.kind, rfl, rfl, Nat.le_refl _, ?_, ?_, ?_, fun _ => hd, Around.frames_deeper e0.frames, .inr ⟨rfl, rfl⟩, fun b z => absurd z (none' b), bs', Nat.le_trans bsz e0.bsz, fun b _ _ => none' b, fun b z => absurd z (none' b), fr', e0.frf⟩
    · exact fun y z c e1 e2 => I.ok.inj y z c (cm e1) (cm e2)
    · intro y hy
      have hy : L.scope.names.lookup y = some .cell ∨ L.scope.names.lookup y = some .free := hy
      cases hy with
      | inl hy => exact absurd rfl (t.cell _ (PySem.mem_of_lookup hy))
      | inr hy => exact look hy
    · intro y c z _
      cases (show false = true from z)
  refine ⟨okX, rfl, e0.bare, Un.kept kp, ⟨_, hns, ?_⟩, ?_, e0.hok.fresh (Nat.le_refl _), ?_, fun q hq => absurd (show q ∈ ([] : List (Addr × Obj)) ++ [] from hq) (by simp), e0.hok.kept kp, by rw [wipe_length]; exact I.len⟩
  · intro i y v e1 e2 e3
    have e3 : Vis L.scope y := e3
    have e1 : X.N[i]? = some y := e1
    rcases e3 with k | k | k
    · exact absurd ((t.loc _ (PySem.mem_of_lookup k) rfl).2 i e1) (wipe_some e2).2
    · exact absurd rfl (t.cell _ (PySem.mem_of_lookup k))
    · obtain ⟨m, hn, hl⟩ := I.loc
      have fr := t.free _ (PySem.mem_of_lookup k) rfl
      obtain ⟨w', r, q⟩ := hl i y v e1 (wipe_some e2).1 (fr.elim (fun k => .inr (.inl k)) fun k => .inr (.inr k))
      obtain ⟨c2, h2⟩ := look k
      refine ⟨w', r, .inr ⟨.inr k, c2, h2, ?_⟩⟩
      have c1 := cm h2
      rcases q with ⟨k', _⟩ | ⟨_, c3, e', z⟩
      · have k' : X.env.scope.names.lookup y = some .local := k'
        cases fr with
        | inl k2 =>
          rw [show X.env.scope.names.lookup y = _ from k2] at k'
          cases k'
        | inr k2 =>
          rw [show X.env.scope.names.lookup y = _ from k2] at k'
          cases k'
      · rw [c1] at e'
        cases e'
        exact (old c1 _ z).2
  · intro y c e
    obtain ⟨w', z⟩ := I.cell y c (cm e)
    exact ⟨w', (old (cm e) _ z).2⟩
  · intro y c e
    obtain ⟨w', z⟩ := I.cell y c (cm e)
    exact (old (cm e) _ z).1
theorem lam_can {L : LamD} {B : Heap} {k : Nat} {f : Addr} {tb : XK → TE} (I : Inv X pins σ H s) (t : LamTxt X L) (hb : LamBind L) (bk : ∀ b o, X.base.get? b = some o → B.get? b = some o) (bsz : X.base.objs.size ≤ B.objs.size)
    (bc : ∀ x c, X.env.cells.lookup x = some c → ∃ o, s.heap.get? c = some o ∧ B.get? c = some o)
    (hbody : ∀ (A : Around) (outer : List Env) (s : Shared) (H : Hp) (E : XK) (f c' : Addr), Room k (A.deeper (lamEnv X L.scope s.heap.objs.size f c')) → PE (lamCx X A outer s H E L.scope f c') L.body (tb E)) :
    Can X.prog X.w X.K X.mg B (k + 1) f fun E HZ Q => IsLam X L HZ f ∧ tb E (wipe σ L.ws) HZ Q := by
  rintro A outer s1 HZ Q E hr e0 ⟨⟨c', dV, doc, pm, ctv, hf, hc, hp⟩, ht⟩
  have of1 := funO_get e0.hok hf
  obtain ⟨⟨oc, vs, tt, hoc, hdc, hvc⟩, _, _⟩ := e0.hok c' _ hc
  have lim : s1.heap.NoLimit := e0.mod.nolimit.keeps fun b o e => (e0.bs b o e).1
  have run : ∀ binds : List (Str × Value), (∀ y ∈ binds, L.scope.names.lookup y.1 = some .local) → BindsTo s1 (lamFd X L dV doc pm c' ctv) ⟨[], []⟩ binds → codeAny (model X.prog X.w) A (.call (.ref f) ⟨[], []⟩) (CR (L2.CX X.prog X.w) outer X.prog X.w HZ s1 Q E) s1 := by
    intro binds hl hbd
    refine PySem.W.kla_callFunE hr.depth of1 rfl t.co t.gen rfl ⟨c', oc, vs, tt, rfl, hoc, hdc, hvc⟩ (hbd _ _ _ _ ?_)
    refine wpAny_newFunctionEnv (fun y hy => t.cell y hy) hl (fun h₁ hns hsb => ⟨lim.fresh _ hsb, ?_⟩) t.kind
    have kp : ∀ b o, s1.heap.get? b = some o → h₁.get? b = some o := fun b o e => hsb.extBut b o (Nat.ne_of_lt (Heap.lt_size e)) (Heap.get?_push_of_some _ e)
    have J := lam_enter (tk := s1.toks + binds.length) (E := E) (f := f) (c' := c') I t e0 hr.hd bk bsz bc hns kp
    refine PySem.W.kla_codeExpr (wpAny_mono ((hbody A outer s1 HZ E f c' (hr.deeper _)).run [] _ _ HZ Q J ht) ?_ fun e s' hq => hq)
    rintro v s' ⟨w', H', J', rv, q⟩
    exact ⟨w', H', J'.os, J'.bare, J'.base, J'.hok, rv, q⟩
  rcases hp with ⟨hn, rfl⟩ | ⟨n, T, hn, rfl, hT⟩
  · exact run [] (fun y hy => by cases hy) (.of_eq (hb.1 hn _ _ _ _ _ _))
  · obtain ⟨_, its, r, o, ho, _, m, hd⟩ := e0.hok T _ hT
    cases r with
    | cons r1 r2 =>
      cases r2
      rename_i u
      obtain ⟨k', h1, h2⟩ := hb.2 n hn (X.env.qual ++ "<lambda>") (cloFrom X.env.cells L.scope.names []) T doc pm (.ref c') ctv u
      refine run [(n, u)] (fun y hy => ?_) (.of_defaults rfl ho hd h1 h2)
      rw [List.mem_singleton.mp hy]
      exact t.par n (by rw [hn]; exact List.mem_cons_self)
end
end LamL
namespace LamL
open PySem PySem.Spec PyProof.Rows L2 LamX My
/-! ### x(), in the def that got the lambda -/
def Known (H : Hp) (f : Addr) : Prop := (∃ fd, H f = some (FunO f fd)) ∧ ∃ c' q, H c' = some (CodeO c' q)
theorem Known.same {H H' : Hp} {f : Addr} (h : Known H f) (s : Same H H') : Known H' f := by
  obtain ⟨⟨fd, a⟩, c', q, b⟩ := h
  exact ⟨⟨fd, s _ _ a⟩, c', q, s _ _ b⟩
theorem IsLam.known {X : Cx} {L : LamD} {H : Hp} {f : Addr} (h : IsLam X L H f) : Known H f := by
  obtain ⟨c', dV, doc, pm, ctv, h1, h2, _⟩ := h
  exact ⟨⟨_, h1⟩, c', _, h2⟩
theorem act_can {Z : Cx} {f : Addr} {k i : Nat} {a : Str} {W : WX} {E : XK} {tl : XK → Hp → VK → Prop} {p1 p2 : Pos} (can : Can Z.prog Z.w Z.K Z.mg Z.base k f tl) (hr : Room k Z.A) (tk : Takes Z W) (hW : ∀ cls d σ' H', E cls d H' → W cls d σ' H')
    (hN : Z.N[i]? = some a) (hv : Vis Z.env.scope a) (hd : (a == ("__debug__" : Str)) = false := by decide) (hcd : (a == ("__classdict__" : Str)) = false := by decide) :
    PE Z (.Call (.Name a p1) [] [] p2) (fun σZ HZ Q => σZ[i]? = some (some (.ref f)) ∧ (∃ fd, HZ f = some (FunO f fd)) ∧ tl E HZ Q) := by
  constructor
  rintro pins s σ H Q I ⟨hs, ⟨fd, hf⟩, ht⟩
  apply wpAny_Call_Name_kw
  apply thn ((pe_var (pos := p1) (i := i) hN hv hd hcd).run pins s σ H (fun v H1 => v = .ref f ∧ H1 = H) I ⟨.ref f, hs, rfl, rfl⟩)
  rintro u s1 ⟨v, H1, I1, r1, ev, eH⟩
  subst ev
  rw [eH] at I1
  obtain rfl : u = Value.ref f := r1
  refine PySem.W.callWith_F0 ⟨_, _, _, _, funO_get I1.hok hf⟩ (wpAny_call (codeAny_mono (can Z.A Z.stack s1 H Q E hr I1.env0 ht) fun r s' hq => ?_))
  cases r with
  | error e => exact passes_call tk hW pins σ H s1 e s' I1 hq
  | ok fl =>
    cases fl with
    | ret u => exact I1.after hq
    | next => exact False.elim hq
    | brk => exact False.elim hq
    | cont => exact False.elim hq
/-! ### _law_got, _law_all -/
section
variable {P : Program} {w : World} {K : PySem.W.Frag} {mg : Str → Option Value} {B : Heap}
/-- what f() gives, told as _law_got tells it -/
def Asked (P : Program) (w : World) (K : PySem.W.Frag) (mg : Str → Option Value) (B : Heap) (k : Nat) (cs : List Value) (f : Addr) (H : Hp) (Q : VK) : Prop :=
  ∃ tl, Can P w K mg B k f tl ∧ Known H f ∧ TGot K cs tl H Q
def spGotL (P : Program) (w : World) (K : PySem.W.Frag) (mg : Str → Option Value) (B : Heap) (k : Nat) (cs : List Value) : Sp := fun vs H Q _ => ∃ f, vs = [.ref f] ∧ Asked P w K mg B k cs f H Q
theorem ok_gotL {C1 C2 C3 : Value} {k : Nat} (F : Fn K mg "_law_got" s_l_got ["_law_ask"]) (m1 : mg "RingError" = some C1) (m2 : mg "Missing" = some C2) (m3 : mg "NothingLeft" = some C3)
    (G_l_field : HasP P w K mg B 1 "_law_field" ["_law_e"] (spField K)) : Has P w K mg B (k + 2) "_law_got" ["_law_ask"] (spGotL P w K mg B (k + 1) [C1, C2, C3]) := by
  obtain ⟨f, fd, F, m, b⟩ := F.ex
  have kp := F.kp
  obtain ⟨oc, od, kV, doc, pm, an, cdv, ct, osl, rfl, lk, hcd⟩ := F.ex
  refine ⟨f, _, ⟨fun vs H Q E h => ?_, fun A outer s H args us vs Q E hr e0 hb r h => ?_⟩, m, kp, b⟩
  · obtain ⟨g, rfl, _⟩ := h
    rfl
  obtain ⟨g, rfl, tl, can, ⟨⟨gd, hg⟩, c', q, hc⟩, ht⟩ := h
  refine run_ofS lk hcd sc_l_got hr e0 hb r rfl fun hr' => ?_
  have GG := got_gives (X := { prog := P, w := w, K := K, mg := mg, base := B, A := A, N := [], s_0 := s, H_0 := H, env := envOfC "_law_got" (defScope s_l_got) s.heap.objs.size f cdv, outer := outer, stack := outer, ex := [], fn := fun _ => true, calm := true, pn := [], xe := fun _ _ => False })
    (g := f) (cdg := cdv) (q := q) (k := k) hr G_l_field m1 m2 m3
  obtain ⟨t, h1, h2⟩ := GG g c' s H Q (fun E H' Q' => (∃ fd, H' g = some (FunO g fd)) ∧ tl E H' Q') (fun W pn xe E p1 p2 tk hW => by
    have pa := act_can (Z := Cx.tr (cxOf C8.CX0 P w K mg B N_l_got "_law_got" (defScope s_l_got) f cdv A outer s H C8.E0) pn xe) (i := 0) (a := "_law_ask") (p1 := p1) (p2 := p2) (f := g) can hr' tk hW rfl (by exact .inl rfl)
    exact ⟨fun pins s' σ' H' Q' I ⟨e1, _, e2, e3⟩ => pa.run pins s' σ' H' Q' I ⟨e1, e2, e3⟩⟩) hc ⟨⟨gd, hg⟩, ht⟩
  exact ⟨t, h1.nox, h2⟩
/-! ### a list of one's own, out of a callee's sight -/
def hid (H : Hp) (D : Addr) : Hp := fun b => if b = D then none else H b
theorem hid_at {H : Hp} {D : Addr} : hid H D D = none := if_pos rfl
theorem hid_ne {H : Hp} {D b : Addr} (h : b ≠ D) : hid H D b = H b := if_neg h
theorem hid_some {H : Hp} {D b : Addr} {o : HO} (h : hid H D b = some o) : b ≠ D ∧ H b = some o := by
  by_cases z : b = D
  · rw [z, hid_at] at h
    cases h
  · rw [hid_ne z] at h
    exact ⟨z, h⟩
theorem hid_none {H : Hp} {D b : Addr} (h : H b = none) : hid H D b = none := by
  by_cases z : b = D
  · rw [z, hid_at]
  · rw [hid_ne z, h]
theorem hid_sub {H : Hp} {D : Addr} : Same (hid H D) H := fun b o h => (hid_some h).2
theorem hid_same {H H' : Hp} {D : Addr} (h : H D = none) (s : Same H H') : Same H (hid H' D) := fun b o e => by
  rw [hid_ne (ne_of_none e h)]
  exact s _ _ e
theorem hid_upd {H : Hp} {D : Addr} {o : HO} (h : H D = none) : hid (upd H D o) D = H := by
  funext b
  by_cases z : b = D
  · rw [z, hid_at, h]
  · rw [hid_ne z, upd_ne z]
theorem hok_hid {h : Heap} {H : Hp} {D : Addr} {xs : List V} (k : HOk P w H h) (hD : H D = some (.lst xs)) : HOk P w (hid H D) h := fun b o e => by
  obtain ⟨_, e'⟩ := hid_some e
  refine (k b o e').stay (fun _ _ _ q => q) (fun c q => ?_) fun c ys q => ?_
  · rw [hid_ne (ne_of q hD fun z => by cases z)]
    exact q
  · rw [hid_ne (ne_of q hD fun z => by cases z)]
    exact q
/-- the callee runs, the list at D hidden from it -/
theorem ce_hid {outer : List Env} {H : Hp} {s s' : Shared} {D : Addr} {xs : List V} {Q : VK} {u : Value} (k : HOk P w H s.heap) (hD : H D = some (.lst xs)) (fr : D ∉ frs outer)
    (h : CE outer P w (hid H D) s (fun v H' => H' D = none → Q v (upd H' D (.lst xs))) u s') : CE outer P w H s Q u s' := by
  obtain ⟨v, H', os, ag, un, hok, r, q⟩ := h
  obtain ⟨hl, its, n, rv, ho⟩ : ObjOk P w H s.heap D (.lst xs) := k D _ hD
  have nD : H' D = none := un.free D _ ho hid_at (fun z => by cases z)
  have oD := un.keep D _ ho hid_at fr (fun z => by cases z)
  have ne : ∀ {b : Addr} {o : HO}, H' b = some o → b ≠ D := fun e => ne_of_none e nD
  have nh : ∀ {b : Addr} {o : HO}, H b = some o → (∀ ys, o ≠ .lst ys) → b ≠ D := fun {b o} e n z => by
    rw [z, hD] at e
    exact n xs (Option.some.inj e).symm
  refine ⟨v, _, os, ag, ⟨fun b o e n => un.keep b o e (hid_none n), fun b o e n => un.slot b o e (hid_none n), fun b o e n hx => ?_, un.there, fun b ys e => ?_, fun b o z e => ?_, fun b ps e => ?_⟩, fun b o e => ?_, r, q nD⟩
  · have z : b ≠ D := fun z => by
      rw [z, hD] at n
      cases n
    rw [upd_ne z]
    exact un.free b o e (hid_none n) hx
  · have z := nh e fun ys q => by cases q
    rw [upd_ne z]
    exact un.tups b ys (by rw [hid_ne z]; exact e)
  · have z' := nh e fun ys q => by cases q
    rw [upd_ne z']
    exact un.frzs b o z (by rw [hid_ne z']; exact e)
  · have z := nh e fun ys q => by cases q
    rw [upd_ne z]
    exact un.tbls b ps (by rw [hid_ne z]; exact e)
  · by_cases z : b = D
    · rw [z, upd_same] at e
      cases e
      rw [z]
      exact ⟨hl, its, n, rv, oD⟩
    · rw [upd_ne z] at e
      refine (hok b o e).stay (fun _ _ _ q => q) (fun c q => ?_) fun c ys q => ?_
      · rw [upd_ne (ne q)]
        exact q
      · rw [upd_ne (ne q)]
        exact q
def tCallD (sp : Sp) (t : TA) : TE := fun σ H Q => t σ H fun vs H1 => ∃ D xs, H1 D = some (.lst xs) ∧ sp vs (hid H1 D) (fun v H' => H' D = none → Q v (upd H' D (.lst xs))) E0
theorem pe_ownD {X : Cx} {k : Nat} {x : Str} {ps : List Str} {sp : Sp} {p pos : Pos} {e : Expr} {es : List Expr} {t : TA} (h : Has X.prog X.w X.K X.mg X.base k x ps sp) (hr : Room k X.A) (hg : Gl X x) (ha : PA X (e :: es) t) (hdb : (x == ("__debug__" : Str)) = false := by decide)
    (he : starEach (e :: es) X.env = (false, eval e X.env) :: starEach es X.env := by rfl) (hpl : (backTo pos (starEach es X.env)).any (·.1) = false := by rfl) : PE X (.Call (.Name x p) (e :: es) [] pos) (tCallD sp t) := by
  obtain ⟨f, fd, F, m, kp, hb⟩ := h.ex
  constructor
  intro pins s σ H Q I h
  apply wpAny_Call_Name_kw (ld_glob I hg m ?_ hdb)
  apply PySem.W.callWith_K (h₀ := X.base) I.ok.mod.kin kp _ he hpl
  apply thn (ha.run pos pins s σ H _ I h)
  rintro us s1 ⟨vs, H1, I1, r, D, xs, hD, q⟩
  refine ⟨I1.kIn, ?_⟩
  have b := hb s1 us I1.kIn (by rw [List.append_nil, ← r.length]; exact F.len _ _ _ _ q)
  rw [List.append_nil] at b
  have e1 := I1.env0
  have e2 : Env0 X.prog X.w X.K X.mg X.base X.A X.stack s1 (hid H1 D) := ⟨e1.frames, e1.mod, fun b o e => ⟨(e1.bs b o e).1, hid_none (e1.bs b o e).2⟩, e1.bsz, e1.funs, fun b hb => hid_none (e1.frf b hb), hok_hid e1.hok hD, e1.bare⟩
  apply wpAny_call
  apply codeAny_mono (F.run X.A X.stack s1 (hid H1 D) ⟨us, []⟩ us vs _ E0 hr e2 b r q)
  intro r s' hq
  cases r with
  | error e => exact (show False from hq).elim
  | ok fl =>
    cases fl with
    | ret u => exact I1.after (ce_hid I1.hok hD (fun z => by have := I1.stkFree D z; rw [hD] at this; cases this) hq)
    | next => exact False.elim hq
    | brk => exact False.elim hq
    | cont => exact False.elim hq
abbrev Res := V → Hp → Prop
def Keeps (R : Res) : Prop := ∀ v H H', R v H → Same H H' → R v H'
/-- each lambda gives, wherever it is asked behind H, what its R says -/
def AskedAll (P : Program) (w : World) (K : PySem.W.Frag) (mg : Str → Option Value) (B : Heap) (k : Nat) (cs : List Value) (H : Hp) (fs : List Addr) (Rs : List Res) : Prop :=
  Paired (fun f R => Keeps R ∧ Known H f ∧ ∀ Hb Q, Same H Hb → (∀ v H', Same Hb H' → R v H' → Q v H') → Asked P w K mg B k cs f Hb Q) fs Rs
def spAllL (P : Program) (w : World) (K : PySem.W.Frag) (mg : Str → Option Value) (B : Heap) (k : Nat) (cs : List Value) : Sp := fun vs H Q _ => ∃ (a : Addr) (fs : List Addr) (Rs : List Res), vs = [.ref a] ∧ H a = some (.lst (fs.map V.ref)) ∧ fs.length ≤ 100 ∧ AskedAll P w K mg B k cs H fs Rs ∧
  ∀ (xs : List V) (l : Addr) (H' : Hp), Same H H' → H l = none → H' l = some (.lst xs) → Paired (fun x R => R x H') xs Rs → Q (.ref l) H'
/-- what holds of each pair, told of what stands on the right -/
theorem pall {α β : Type} {F : α → β → Prop} : ∀ {xs : List α} {ys : List β} {y : β}, Paired F xs ys → y ∈ ys → ∃ x, F x y
  | _, _, _, .nil, h => by cases h
  | _, _, _, .cons r t, h => by
    rcases List.mem_cons.mp h with e | h
    · rw [e]
      exact ⟨_, r⟩
    · exact pall t h
theorem ok_allL {cs : List Value} {k : Nat} (F : Fn K mg "_law_all" s_l_all ["_law_asks"]) (G_l_got : Has P w K mg B (k + 2) "_law_got" ["_law_ask"] (spGotL P w K mg B (k + 1) cs)) : Has P w K mg B (k + 3) "_law_all" ["_law_asks"] (spAllL P w K mg B (k + 1) cs) := by
  refine F.has sc_l_all (fun vs H Q E h => ?_) (fun f cdv A outer s H vs Q E hr h => ?_)
  · obtain ⟨a, fs, Rs, rfl, _⟩ := h
    rfl
  obtain ⟨a, fs, Rs, rfl, ha, hn, hA, q⟩ := h
  refine ⟨_, (pss_one (ps_ret (pe_lc (own := [("_law_ask", 1)]) (g := gName 1) (tt := tYes) (by rfl) sc_l_all.nd (pi_list (pv 0)) (blkOk_by (own := [("_law_ask", 1)]) (N := N_l_all) (sc := defScope s_l_all) (by decide +kernel)) (fun _ _ _ _ _ => (pg_name (i := 1) sc_l_all.nd rfl (Or.inl rfl))) (fun _ _ _ _ _ => pts_nil) (fun _ _ _ _ _ => (LamL.pe_ownD G_l_got hr (by rfl) (pa_cons (pv 1) pa_nil)))))), ?_⟩
  refine ⟨_, rfl, a, rfl, ⟨_, SqL.of ha⟩, fun D hD => ?_⟩
  refine lc_it (walk_list (xs := fs.map V.ref)) (fun i H' => Same H H' ∧ ∃ xs, H' D = some (.lst xs) ∧ Paired (fun x R => R x (hid H' D)) xs (Rs.take i)) ⟨same_upd hD, [], upd_same, .nil⟩ (fun i H' _ e => SqL.of (e.1 _ _ ha)) ?_ ?_
  · rintro i v Ha Hb hi ⟨sa, xs, ea, pa⟩ ⟨rfl, hv⟩
    obtain ⟨g, hg, rfl⟩ := at_map hv
    have lr := plen hA
    have hi : i < fs.length := by simpa using hi
    obtain ⟨g', R, hg', hR, kR, kn, ask⟩ := pat hA (i := i) (by omega)
    rw [hg] at hg'
    cases hg'
    have lx := plen pa
    have lt : (Rs.take i).length ≤ 100 := by rw [List.length_take]; omega
    refine ⟨rfl, tYes_ok ⟨_, rfl, D, xs, ea, g, rfl, ask (hid Hb D) _ (hid_same hD sa) fun v H' s' r' nD => ⟨xs, upd_same, small1000 (by omega), fun c o e => ?_, xs ++ [v], upd_same, ?_⟩⟩⟩
    · rw [upd_ne (ne_of_none e hD), upd_ne (ne_of_none e hD)]
      exact s' _ _ (hid_same hD sa _ _ e)
    · rw [upd_upd, hid_upd nD, take_snoc hR]
      exact papp (pmem pa fun x R hm h => by obtain ⟨_, kR, _⟩ := pall hA (List.mem_of_mem_take hm); exact kR x _ _ h s') (.cons r' .nil)
  · rintro H2 ⟨s2, xs, e2, p2⟩
    rw [List.length_map, plen hA, List.take_length] at p2
    exact q xs D H2 s2 hD e2 (pmem p2 fun x R hm h => by obtain ⟨_, kR, _⟩ := pall hA hm; exact kR x _ _ h hid_sub)
end
end LamL
namespace LamL
open PySem PySem.Spec PyProof.Rows L2 LamX My
/-! ### _law_all(asks), in the def that made the lambdas -/
inductive LamsOk (X : Cx) (k : Nat) : List LamD → List (XK → TE) → Prop
  | nil : LamsOk X k [] []
  | cons {L : LamD} {Ls : List LamD} {t : XK → TE} {ts : List (XK → TE)} (h : LamTxt X L) (b : LamBind L)
      (hbody : ∀ (A : Around) (outer : List Env) (s : Shared) (H : Hp) (E : XK) (f c' : Addr), Room k (A.deeper (lamEnv X L.scope s.heap.objs.size f c')) → PE (lamCx X A outer s H E L.scope f c') L.body (t E)) (r : LamsOk X k Ls ts) : LamsOk X k (L :: Ls) ((fun E σ H Q => t E (wipe σ L.ws) H Q) :: ts)
theorem bind0 {params : Arguments} {body : Expr} {scope : Scope} (h : ∀ (q : Str) (cl : List (Str × Addr)) (doc pm cv ctv : Value), bindArgs (PySem.W.kdv_fn "<lambda>" q params (.expr body) scope cl .none doc pm cv ctv) ⟨[], []⟩ = pure []) : LamBind ⟨[], params, body, scope, []⟩ :=
  ⟨fun _ => h, fun n z => by cases z⟩
theorem bind1 {n : Str} {ws : List Nat} {params : Arguments} {body : Expr} {scope : Scope} (h : ∀ (q : Str) (cl : List (Str × Addr)) (T : Addr) (doc pm cv ctv u : Value), ∃ k : Option (Array Value) → Sem (List (Str × Value)),
    bindArgs (PySem.W.kdv_fn "<lambda>" q params (.expr body) scope cl (.ref T) doc pm cv ctv) ⟨[], []⟩ = seqItems? (.ref T) >>= k ∧ k (some #[u]) = pure [(n, u)]) : LamBind ⟨[n], params, body, scope, ws⟩ :=
  ⟨fun z => (by cases z), fun m z => (by cases z; exact h)⟩
/-- what is wished of each: wherever it is asked behind H, it gives what its R says -/
def Wish (K : PySem.W.Frag) (cs : List Value) (σ : L2.St) (H : Hp) : List (XK → TE) → List Res → Prop
  | [], [] => True
  | t :: ts, R :: Rs => Keeps R ∧ (∀ Hb Q, Same H Hb → (∀ v H', Same Hb H' → R v H' → Q v H') → TGot K cs (fun E H' Q' => t E σ H' Q') Hb Q) ∧ Wish K cs σ H ts Rs
  | _, _ => False
def AllP (X : Cx) (k : Nat) (cs : List Value) (σ : L2.St) (Q : VK) (vs : List V) (H1 : Hp) : Prop := ∃ (a : Addr) (fs : List Addr) (Ls : List LamD) (ts : List (XK → TE)) (Rs : List Res), vs = [.ref a] ∧ H1 a = some (.lst (fs.map V.ref)) ∧ fs.length ≤ 100 ∧ LamsAt X Ls H1 fs ∧ LamsOk X k Ls ts ∧ Wish X.K cs σ H1 ts Rs ∧
  ∀ (xs : List V) (l : Addr) (H' : Hp), Same H1 H' → H1 l = none → H' l = some (.lst xs) → Paired (fun x R => R x H') xs Rs → Q (.ref l) H'
def tAllL (X : Cx) (k : Nat) (cs : List Value) (te : TE) : TE := fun σ H Q => te σ H fun v H1 => AllP X k cs σ Q [v] H1
section
variable {X : Cx} {pins : List (Addr × Obj)} {σ : L2.St} {H : Hp} {s : Shared}
theorem asked_of {B : Heap} {k : Nat} {cs : List Value} (I : Inv X pins σ H s) (bk : ∀ b o, X.base.get? b = some o → B.get? b = some o) (bsz : X.base.objs.size ≤ B.objs.size) (bc : ∀ x c, X.env.cells.lookup x = some c → ∃ o, s.heap.get? c = some o ∧ B.get? c = some o) :
    ∀ {Ls : List LamD} {ts : List (XK → TE)} {fs : List Addr} {Rs : List Res}, LamsOk X k Ls ts → LamsAt X Ls H fs → Wish X.K cs σ H ts Rs → AskedAll X.prog X.w X.K X.mg B (k + 1) cs H fs Rs
  | [], _, [], [], .nil, _, _ => .nil
  | [], _, [], _ :: _, .nil, _, w => w.elim
  | [], _, _ :: _, _, .nil, l, _ => l.elim
  | _ :: _, _, [], _, .cons _ _ _ _, l, _ => l.elim
  | _ :: _, _, _ :: _, [], .cons _ _ _ _, _, w => w.elim
  | L :: Ls, _ :: ts, f :: fs, R :: Rs, .cons h b hb r, l, w =>
    .cons ⟨w.1, l.1.known, fun Hb Q s q => ⟨_, lam_can I h b bk bsz bc hb, l.1.known.same s, ⟨l.1.same s, w.2.1 Hb Q s q⟩⟩⟩ (asked_of I bk bsz bc r l.2 w.2.2)
theorem pe_allL {k : Nat} {cs : List Value} {p pos : Pos} {e : Expr} {te : TE} (F : ∀ B : Heap, Has X.prog X.w X.K X.mg B (k + 3) "_law_all" ["_law_asks"] (spAllL X.prog X.w X.K X.mg B (k + 1) cs)) (hr : Room (k + 3) X.A) (hfn : ∀ x, X.fn x = true) (hg : Gl X "_law_all") (he : PE X e te)
    (hst : starEach [e] X.env = (false, eval e X.env) :: starEach [] X.env := by rfl) (hpl : (backTo pos (starEach [] X.env)).any (·.1) = false := by rfl) : PE X (.Call (.Name "_law_all" p) [e] [] pos) (tAllL X k cs te) := by
  obtain ⟨f, fd, _, m, kp, _⟩ := (F X.base).ex
  constructor
  intro pins s σ H Q I h
  apply wpAny_Call_Name_kw (ld_glob I hg m ?_ (by decide))
  apply PySem.W.callWith_K (h₀ := X.base) I.ok.mod.kin kp _ hst hpl
  apply thn ((pa_cons he pa_nil hst).run pos pins s σ H (AllP X k cs σ Q) I h)
  rintro us s1 ⟨vs, H1, I1, r, a, fs, Ls, ts, Rs, rfl, ha, hn, hl, hok, hw, q⟩
  refine ⟨I1.kIn, ?_⟩
  obtain ⟨B, e0, bk, bsz, _, bc⟩ := ground I1 hfn
  obtain ⟨f', fd', F', m', _, hb⟩ := (F B).ex
  rw [m] at m'
  cases m'
  have b := hb s1 us I1.kIn (by rw [List.append_nil, ← r.length]; rfl)
  rw [List.append_nil] at b
  apply wpAny_call
  apply codeAny_mono (F'.run X.A X.stack s1 H1 ⟨us, []⟩ us _ Q E0 hr e0 b r ⟨a, fs, Rs, rfl, ha, hn, asked_of I1 bk bsz bc hok hl hw, q⟩)
  intro r s' hq
  cases r with
  | error e => exact (show False from hq).elim
  | ok fl =>
    cases fl with
    | ret u => exact I1.after hq
    | next => exact False.elim hq
    | brk => exact False.elim hq
    | cont => exact False.elim hq
end
theorem pcons {α β : Type} {F : α → β → Prop} {xs : List α} {y : β} {ys : List β} (h : Paired F xs (y :: ys)) : ∃ x xs', xs = x :: xs' ∧ F x y ∧ Paired F xs' ys := by
  cases h with
  | cons r t => exact ⟨_, _, rfl, r, t⟩
theorem pnil {α β : Type} {F : α → β → Prop} {xs : List α} (h : Paired F xs ([] : List β)) : xs = [] := by
  cases h
  rfl
/-- the tuple (code, what it tells) -/
def RT (xs : List V) : Res := fun v H => ∃ p, v = .ref p ∧ H p = some (.tup xs)
theorem RT.keeps {xs : List V} : Keeps (RT xs) := fun v H H' ⟨p, e, h⟩ s => ⟨p, e, s _ _ h⟩
end LamL
namespace My
open PySem PySem.Spec PyProof.Rows L2
/-! ### a def that may raise, by its name -/
structure HasX (P : Program) (w : World) (K : PySem.W.Frag) (mg : Str → Option Value) (base : Heap) (k : Nat) (x : Str) (ps : List Str) (sp : Sp) : Prop where
  ex : ∃ (f : Addr) (fd : FuncData), FnOk P w K mg base (L2.CX P w) k f fd ps sp ∧ mg x = some (.ref f) ∧ PySem.W.keepIn K (.ref f) = true ∧ Binds K fd ps []
section
variable {X : Cx} {k : Nat} {x : Str} {ps : List Str} {sp : Sp} {p pos : Pos} {e : Expr} {es : List Expr} {t : TA}
/-- called where it raises nothing -/
theorem pe_ownX (h : HasX X.prog X.w X.K X.mg X.base k x ps sp) (hr : Room k X.A) (hg : Gl X x) (ha : PA X (e :: es) t) (hdb : (x == ("__debug__" : Str)) = false := by decide)
    (he : starEach (e :: es) X.env = (false, eval e X.env) :: starEach es X.env := by rfl) (hpl : (backTo pos (starEach es X.env)).any (·.1) = false := by rfl) : PE X (.Call (.Name x p) (e :: es) [] pos) (tCall sp [] E0 t) := by
  obtain ⟨f, fd, F, m, kp, b⟩ := h.ex
  exact pe_call F hr hg m kp b .nil passL ha hdb he hpl
/-- called where what it raises is taken by E -/
theorem pe_ownE {E : XK} (h : HasX X.prog X.w X.K X.mg X.base k x ps sp) (tk : Takes X (fun cls d _ H => E cls d H)) (hr : Room k X.A) (hg : Gl X x) (ha : PA X (e :: es) t) (hdb : (x == ("__debug__" : Str)) = false := by decide)
    (he : starEach (e :: es) X.env = (false, eval e X.env) :: starEach es X.env := by rfl) (hpl : (backTo pos (starEach es X.env)).any (·.1) = false := by rfl) : PE X (.Call (.Name x p) (e :: es) [] pos) (tCall sp [] E t) := by
  obtain ⟨f, fd, F, m, kp, b⟩ := h.ex
  exact pe_call F hr hg m kp b .nil (passes_call tk fun _ _ _ _ h => h) ha hdb he hpl
end
/-! ### a maker by position that may raise -/
structure HasCX (P : Program) (w : World) (K : PySem.W.Frag) (mg : Str → Option Value) (base : Heap) (k : Nat) (x : Str) (C : Addr) (ps : List Str) (sp : Sp) : Prop where
  ex : ∃ (f : Addr) (fd : FuncData), Mk K C f ∧ FnOk P w K mg base (L2.CX P w) k f fd ps sp ∧ mg x = some (.ref C) ∧ Binds K fd ps []
section
variable {X : Cx} {k : Nat} {x : Str} {C : Addr} {ps : List Str} {sp : Sp} {p pos : Pos} {e : Expr} {es : List Expr} {t : TA} {E : XK}
theorem pe_mkX (h : HasCX X.prog X.w X.K X.mg X.base k x C ps sp) (hr : Room (k + 1) X.A) (hg : Gl X x) (ha : PA X (e :: es) t)
    (hdb : (x == ("__debug__" : Str)) = false := by decide) (he : starEach (e :: es) X.env = (false, eval e X.env) :: starEach es X.env := by rfl) (hpl : (backTo pos (starEach es X.env)).any (·.1) = false := by rfl) : PE X (.Call (.Name x p) (e :: es) [] pos) (tMake C sp [] E0 t) := by
  obtain ⟨f, fd, M, F, m, b⟩ := h.ex
  exact pe_make M F hr hg m b .nil passL ha hdb he hpl
theorem pe_mkE (h : HasCX X.prog X.w X.K X.mg X.base k x C ps sp) (tk : Takes X (fun cls d _ H => E cls d H)) (hr : Room (k + 1) X.A) (hg : Gl X x) (ha : PA X (e :: es) t)
    (hdb : (x == ("__debug__" : Str)) = false := by decide) (he : starEach (e :: es) X.env = (false, eval e X.env) :: starEach es X.env := by rfl) (hpl : (backTo pos (starEach es X.env)).any (·.1) = false := by rfl) : PE X (.Call (.Name x p) (e :: es) [] pos) (tMake C sp [] E t) := by
  obtain ⟨f, fd, M, F, m, b⟩ := h.ex
  exact pe_make M F hr hg m b .nil (passes_call tk fun _ _ _ _ h => h) ha hdb he hpl
end
end My
/-! forms: ints and names -/
namespace My
open PySem PySem.Spec PyProof.Rows L2
abbrev letters : Str := "abcdefghijklmnopqrstuvwxyz"
abbrev kept : List V := [.str "in", .str "out", .str "proc", .str "give"]
structure Txt (K : PySem.W.Frag) (mg : Str → Option Value) (kw : Addr) : Prop where
  m_LETTERS : ∃ u, mg "LETTERS" = some (.str letters u)
  m_MOST_LETTERS : ∃ u, mg "MOST_LETTERS" = some (.int 6 u)
  m_KEPT_WORDS : mg "KEPT_WORDS" = some (.ref kw)
  t_KEPT_WORDS : ∀ H, SqT K H kw kept
/-- whether a text is a name -/
def nameB (z : Str) : Bool := if 1 ≤ z.length ∧ z.length ≤ 6 then (!inV (.str z) kept) && (z.cps.toList.map fun c => decide (c ∈ letters.cps.toList)).all id else false
def nameV : V → Bool
  | .str z => nameB z
  | _ => false
def spIsInt : Sp := fun vs H Q _ => ∃ (x : V) (t : String), vs = [x] ∧ Typ H x t ∧ Q (.bl (isIntV x)) H
def spIsName : Sp := fun vs H Q _ => ∃ (x : V) (t : String), vs = [x] ∧ Typ H x t ∧ (∀ z, x = .str z → z.length ≤ 1000) ∧ ∀ H', Same H H' → Q (.bl (nameV x)) H'
section
variable {P : Program} {w : World} {K : PySem.W.Frag} {mg : Str → Option Value} {base : Heap} {kw : Addr}
theorem ok_is_int (F : Fn K mg "is_int" s_is_int ["value"]) (B : Blt mg) : Has P w K mg base 1 "is_int" ["value"] spIsInt := by
  refine F.has sc_is_int (fun vs H Q E h => ?_) (fun f cdv A outer s H vs Q E hr h => ?_)
  · obtain ⟨a, t, rfl, _⟩ := h
    rfl
  obtain ⟨x, t, rfl, ht, q⟩ := h
  refine ⟨_, (pss_one (ps_ret (pe_and (pe_callB call_isi (by rfl) B.isinstance bb_isinstance (pa_cons (pv 0) (pa_cons (pe_bltn (v := .ty "int") (by rfl) B.int bb_int rfl) pa_nil))) (pe_one (pe_not (pe_callB call_isi (by rfl) B.isinstance bb_isinstance (pa_cons (pv 0) (pa_cons (pe_bltn (v := .ty "bool") (by rfl) B.bool bb_bool rfl) pa_nil)))))))), ?_⟩
  have ty := ht.tyx (K := K)
  cases ht with
  | non =>
    refine ⟨_, rfl, _, .ty "int", _, .type "int", false, rfl, .ty _, ty, kit_ty (by decide +kernel), _, rfl, iteF ?_⟩
    exact q
  | bl x =>
    refine ⟨_, rfl, _, .ty "int", _, .type "int", true, rfl, .ty _, ty, kit_ty (by decide +kernel), _, rfl, iteT ?_⟩
    refine ⟨_, rfl, _, .ty "bool", _, .type "bool", true, rfl, .ty _, ty, kit_ty (by decide +kernel), _, rfl, ?_⟩
    exact q
  | int i =>
    refine ⟨_, rfl, _, .ty "int", _, .type "int", true, rfl, .ty _, ty, kit_ty (by decide +kernel), _, rfl, iteT ?_⟩
    refine ⟨_, rfl, _, .ty "bool", _, .type "bool", false, rfl, .ty _, ty, kit_ty (by decide +kernel), _, rfl, ?_⟩
    exact q
  | str z =>
    refine ⟨_, rfl, _, .ty "int", _, .type "int", false, rfl, .ty _, ty, kit_ty (by decide +kernel), _, rfl, iteF ?_⟩
    exact q
  | lst h =>
    refine ⟨_, rfl, _, .ty "int", _, .type "int", false, rfl, .ty _, ty, kit_ty (by decide +kernel), _, rfl, iteF ?_⟩
    exact q
  | tup h =>
    refine ⟨_, rfl, _, .ty "int", _, .type "int", false, rfl, .ty _, ty, kit_ty (by decide +kernel), _, rfl, iteF ?_⟩
    exact q
theorem ok_is_name (F : Fn K mg "is_name" s_is_name ["value"]) (B : Blt mg) (T : Txt K mg kw) : Has P w K mg base 1 "is_name" ["value"] spIsName := by
  refine F.has sc_is_name (fun vs H Q E h => ?_) (fun f cdv A outer s H vs Q E hr h => ?_)
  · obtain ⟨a, t, rfl, _⟩ := h
    rfl
  obtain ⟨x, t, rfl, ht, hz, q⟩ := h
  refine ⟨_, (pss_cons (ps_if (PW.pt (pw_or (pt_not (pt_val (pe_callB call_isi (by rfl) B.isinstance bb_isinstance (pa_cons (pv 0) (pa_cons (pe_bltn (v := .ty "str") (by rfl) B.str bb_str rfl) pa_nil))))) (pw_or1 (pt_not (pt_chain op_le op_le pe_int (pe_callB call_len (by rfl) B.len bb_len (pa_cons (pv 0) pa_nil)) (pe_gint T.m_MOST_LETTERS (by rfl)))))))
        (pss_one (ps_ret pe_bl))
        pss_nil)
      (pss_one (ps_ret (pe_and (pe_cmpR op_notIn_seq (pv 0) (pe_gref T.m_KEPT_WORDS (by rfl)) rfl) (pe_one (pe_callB (cr_all rfl) (by rfl) B.all bb_all (pa_cons (pe_lc (own := [("sign", 1)]) (g := gName 1) (tt := tYes) (by rfl) sc_is_name.nd (pi_str (pv 0)) (blkOk_by (own := [("sign", 1)]) (N := N_is_name) (sc := defScope s_is_name) (by decide +kernel)) (fun _ _ _ _ _ => (pg_name (i := 1) sc_is_name.nd rfl (Or.inl rfl))) (fun _ _ _ _ _ => pts_nil) (fun _ _ _ _ _ => (pe_cmpR op_in_sign (pv 1) (pe_gstr T.m_LETTERS (by rfl)) rfl))) pa_nil))))))), ?_⟩
  have ty := ht.tyx (K := K)
  cases ht with
  | str z =>
    have hl := hz z rfl
    refine ⟨_, rfl, _, .ty "str", _, .type "str", true, rfl, .ty _, ty, kit_ty (by decide +kernel), _, rfl, iteF ?_⟩
    refine ⟨_, rfl, .str z, z.length, rfl, ⟨Nat.le_of_lt (small1000 hl), rfl⟩, _, _, rfl, rfl, _, rfl, ?_⟩
    by_cases h1 : 1 ≤ z.length
    · refine ite_of (decide_eq_true (by omega)) ⟨_, _, rfl, rfl, _, rfl, ?_⟩
      by_cases h2 : z.length ≤ 6
      · refine iteNS (by omega) ?_
        refine ⟨_, rfl, kw, kept, rfl, .inr (T.t_KEPT_WORDS _), rfl, rfl, !inV (.str z) kept, rfl, ?_⟩
        cases hin : inV (.str z) kept with
        | true =>
          refine iteF ?_
          have e : nameV (.str z) = false := by
            show nameB z = false
            unfold nameB
            rw [if_pos ⟨h1, h2⟩, hin]
            rfl
          have q' := q H (Same.refl H)
          rw [e] at q'
          exact q'
        | false =>
          refine iteT ?_
          refine ⟨_, rfl, z, rfl, fun D hD => lc_it walk_str (fun i H' => Same H H' ∧ H' D = some (.lst (((z.cps.toList.map fun c => decide (c ∈ letters.cps.toList)).take i).map V.bl)))
            ⟨same_upd hD, upd_same⟩ (fun _ _ _ _ => True.intro) ?_ ?_⟩
          · rintro i v H1 H2 hi ⟨s1, e1⟩ ⟨rfl, c, hc, rfl⟩
            refine ⟨rfl, tYes_ok ?_⟩
            refine ⟨_, rfl, c, letters, rfl, rfl, _, e1, ?_, ?_, ?_⟩
            · rw [List.length_map, List.length_take, List.length_map, Array.length_toList]
              exact Nat.lt_of_le_of_lt (Nat.min_le_right _ _) (small1000 hl)
            · intro a o ha
              rw [upd_ne (ne_of_none ha hD)]
              exact s1 _ _ ha
            · rw [upd_same]
              have e2 : (z.cps.toList.map fun c => decide (c ∈ letters.cps.toList))[i]? = some (decide (c ∈ letters.cps.toList)) := by
                rw [List.getElem?_map, Array.getElem?_toList, hc]
                rfl
              rw [List.take_add_one, e2, List.map_append]
              rfl
          · rintro H1 ⟨s1, e1⟩
            have e2 : ((z.cps.toList.map fun c => decide (c ∈ letters.cps.toList)).take z.cps.size) = (z.cps.toList.map fun c => decide (c ∈ letters.cps.toList)) := List.take_of_length_le (by rw [List.length_map, Array.length_toList]; exact Nat.le_refl _)
            rw [e2] at e1
            refine ⟨D, _, rfl, SqL.of e1, ?_⟩
            have e : nameV (.str z) = (z.cps.toList.map fun c => decide (c ∈ letters.cps.toList)).all id := by
              show nameB z = _
              unfold nameB
              rw [if_pos ⟨h1, h2⟩, hin]
              rfl
            have q' := q H1 s1
            rw [e] at q'
            exact q'
      · refine ite_of (by rw [decide_eq_false (by omega)]; rfl) ?_
        have e : nameV (.str z) = false := by
          show nameB z = false
          unfold nameB
          rw [if_neg fun k => h2 k.2]
        have q' := q H (Same.refl H)
        rw [e] at q'
        exact q'
    · refine ite_no (by rw [decide_eq_false (by omega)]; decide) ⟨_, rfl, iteT ?_⟩
      have e : nameV (.str z) = false := by
        show nameB z = false
        unfold nameB
        rw [if_neg fun k => h1 k.1]
      have q' := q H (Same.refl H)
      rw [e] at q'
      exact q'
  | non =>
    refine ⟨_, rfl, _, .ty "str", _, .type "str", false, rfl, .ty _, ty, kit_ty (by decide +kernel), _, rfl, iteT (iteT ?_)⟩
    exact q _ (Same.refl _)
  | bl x =>
    refine ⟨_, rfl, _, .ty "str", _, .type "str", false, rfl, .ty _, ty, kit_ty (by decide +kernel), _, rfl, iteT (iteT ?_)⟩
    exact q _ (Same.refl _)
  | int i =>
    refine ⟨_, rfl, _, .ty "str", _, .type "str", false, rfl, .ty _, ty, kit_ty (by decide +kernel), _, rfl, iteT (iteT ?_)⟩
    exact q _ (Same.refl _)
  | lst h =>
    refine ⟨_, rfl, _, .ty "str", _, .type "str", false, rfl, .ty _, ty, kit_ty (by decide +kernel), _, rfl, iteT (iteT ?_)⟩
    exact q _ (Same.refl _)
  | tup h =>
    refine ⟨_, rfl, _, .ty "str", _, .type "str", false, rfl, .ty _, ty, kit_ty (by decide +kernel), _, rfl, iteT (iteT ?_)⟩
    exact q _ (Same.refl _)
end
theorem flat_names (ns : List Str) : (ns.map V.str).all flatV = true := by
  rw [List.all_map, List.all_eq_true]
  exact fun _ _ => rfl
theorem inV_names (x : Str) (ns : List Str) : inV (.str x) (ns.map V.str) = decide (x ∈ ns) := by
  unfold inV
  induction ns with
  | nil => rfl
  | cons y ys ih =>
    rw [List.map_cons, List.any_cons, ih]
    have e : eqV (.str y) (.str x) = decide (x = y) := by
      show (y == x) = _
      by_cases e : x = y
      · rw [decide_eq_true e, e]
        exact beq_self_eq_true y
      · rw [decide_eq_false e]
        exact beq_eq_false_iff_ne.mpr fun z => e z.symm
    rw [e]
    by_cases e1 : x = y <;> by_cases e2 : x ∈ ys <;> simp [e1, e2]
end My
/-! forms: words and terms -/
namespace My
open PySem PySem.Spec PyProof.Rows L2
/-- no tuple -/
inductive NoTup (H : Hp) : V → Prop
  | non : NoTup H .non
  | bl (b : Bool) : NoTup H (.bl b)
  | int (i : Int) : NoTup H (.int i)
  | str (x : Str) : NoTup H (.str x)
  | lst {a : Addr} {xs : List V} : H a = some (.lst xs) → NoTup H (.ref a)
theorem NoTup.same {H H' : Hp} {v : V} (h : NoTup H v) (s : Same H H') : NoTup H' v := by
  cases h with
  | non => exact .non
  | bl b => exact .bl b
  | int i => exact .int i
  | str x => exact .str x
  | lst e => exact .lst (s _ _ e)
theorem NoTup.ext {H H' : Hp} {v : V} (h : NoTup H v) (e : LamX.ExtN H H') : NoTup H' v := by
  cases h with
  | non => exact .non
  | bl b => exact .bl b
  | int i => exact .int i
  | str x => exact .str x
  | lst h => exact .lst (e _ _ h fun ps z => by cases z)
theorem NoTup.typ {H : Hp} {v : V} (h : NoTup H v) : ∃ t, Typ H v t ∧ (∀ {K : PySem.W.Frag}, PySem.W.kitOne K (.type t) (.type "tuple") = some false) := by
  cases h with
  | non => exact ⟨_, .non, kit_ty (by decide +kernel)⟩
  | bl b => exact ⟨_, .bl b, kit_ty (by decide +kernel)⟩
  | int i => exact ⟨_, .int i, kit_ty (by decide +kernel)⟩
  | str x => exact ⟨_, .str x, kit_ty (by decide +kernel)⟩
  | lst h => exact ⟨_, .lst h, kit_ty (by decide +kernel)⟩
/-- a value without parts -/
def Sca : V → Prop
  | .non => True
  | .bl _ => True
  | .int _ => True
  | .str z => z.length ≤ 1000
  | _ => False
theorem Sca.typ {H : Hp} : ∀ {v : V}, Sca v → ∃ t, Typ H v t
  | .non, _ => ⟨_, .non⟩
  | .bl b, _ => ⟨_, .bl b⟩
  | .int i, _ => ⟨_, .int i⟩
  | .str z, _ => ⟨_, .str z⟩
/-- a word: a tuple of values without parts, or no tuple -/
inductive WordD
  | names (es : List V)
  | other
def WordAt (H : Hp) (v : V) : WordD → Prop
  | .names es => ∃ a, v = .ref a ∧ H a = some (.tup es) ∧ (∀ e ∈ es, Sca e) ∧ es.length ≤ 100
  | .other => NoTup H v
theorem WordAt.same {H H' : Hp} {v : V} : ∀ {d : WordD}, WordAt H v d → Same H H' → WordAt H' v d
  | .names _, ⟨a, e, h, r⟩, s => ⟨a, e, s _ _ h, r⟩
  | .other, h, s => NoTup.same h s
theorem WordAt.ext {H H' : Hp} {v : V} : ∀ {d : WordD}, WordAt H v d → LamX.ExtN H H' → WordAt H' v d
  | .names _, ⟨a, q, h, r⟩, e => ⟨a, q, e _ _ h (fun ps z => by cases z), r⟩
  | .other, h, e => NoTup.ext h e
def wordB : WordD → Bool
  | .names es => decide (es.length ≤ 2) && (es.map nameV).all id
  | .other => false
def posV : V → Bool
  | .int i => decide (1 ≤ i)
  | _ => false
inductive TermD
  | tri (w : WordD) (p q : V)
  | short
  | other
def TermAt (H : Hp) (v : V) : TermD → Prop
  | .tri w p q => ∃ a x, v = .ref a ∧ H a = some (.tup [x, p, q]) ∧ WordAt H x w ∧ Sca p ∧ Sca q
  | .short => ∃ a xs, v = .ref a ∧ H a = some (.tup xs) ∧ xs.length ≠ 3 ∧ xs.length ≤ 100
  | .other => NoTup H v
theorem TermAt.same {H H' : Hp} {v : V} : ∀ {d : TermD}, TermAt H v d → Same H H' → TermAt H' v d
  | .tri _ _ _, ⟨a, x, e, h, w, r⟩, s => ⟨a, x, e, s _ _ h, w.same s, r⟩
  | .short, ⟨a, xs, e, h, r⟩, s => ⟨a, xs, e, s _ _ h, r⟩
  | .other, h, s => NoTup.same h s
theorem TermAt.ext {H H' : Hp} {v : V} : ∀ {d : TermD}, TermAt H v d → LamX.ExtN H H' → TermAt H' v d
  | .tri _ _ _, ⟨a, x, q, h, w, r⟩, e => ⟨a, x, q, e _ _ h (fun ps z => by cases z), w.ext e, r⟩
  | .short, ⟨a, xs, q, h, r⟩, e => ⟨a, xs, q, e _ _ h (fun ps z => by cases z), r⟩
  | .other, h, e => NoTup.ext h e
def termB : TermD → Bool
  | .tri w p q => wordB w && (isIntV p && (isIntV q && posV q))
  | _ => false
def spWord : Sp := fun vs H Q _ => ∃ (v : V) (d : WordD), vs = [v] ∧ WordAt H v d ∧ ∀ H', Same H H' → Q (.bl (wordB d)) H'
def spTerm : Sp := fun vs H Q _ => ∃ (v : V) (d : TermD), vs = [v] ∧ TermAt H v d ∧ ∀ H', Same H H' → Q (.bl (termB d)) H'
structure Deg (mg : Str → Option Value) : Prop where
  m_MOST_DEGREE : ∃ u, mg "MOST_DEGREE" = some (.int 2 u)
section
variable {P : Program} {w : World} {K : PySem.W.Frag} {mg : Str → Option Value} {base : Heap}
theorem ok_is_word (F : Fn K mg "is_word" s_is_word ["value"]) (B : Blt mg) (T : Deg mg) (G_is_name : Has P w K mg base 1 "is_name" ["value"] spIsName) : Has P w K mg base 2 "is_word" ["value"] spWord := by
  refine F.has sc_is_word (fun vs H Q E h => ?_) (fun f cdv A outer s H vs Q E hr h => ?_)
  · obtain ⟨v, d, rfl, _⟩ := h
    rfl
  obtain ⟨v, d, rfl, hv, q⟩ := h
  refine ⟨_, (pss_cons (ps_if (PW.pt (pw_or (pt_not (pt_val (pe_callB call_isi (by rfl) B.isinstance bb_isinstance (pa_cons (pv 0) (pa_cons (pe_bltn (v := .ty "tuple") (by rfl) B.tuple bb_tuple rfl) pa_nil))))) (pw_or1 (pt_cmpR op_gt (pe_callB call_len (by rfl) B.len bb_len (pa_cons (pv 0) pa_nil)) (pe_gint T.m_MOST_DEGREE (by rfl)) (nomark _)))))
        (pss_one (ps_ret pe_bl))
        pss_nil)
      (pss_one (ps_ret (pe_callB (cr_all rfl) (by rfl) B.all bb_all (pa_cons (pe_lc (own := [("name", 1)]) (g := gName 1) (tt := tYes) (by rfl) sc_is_word.nd (pi_tup (pv 0)) (blkOk_by (own := [("name", 1)]) (N := N_is_word) (sc := defScope s_is_word) (by decide +kernel)) (fun _ _ _ _ _ => (pg_name (i := 1) sc_is_word.nd rfl (Or.inl rfl))) (fun _ _ _ _ _ => pts_nil) (fun _ _ _ _ _ => (pe_own G_is_name (hr.mono (by decide)) (by rfl) (pa_cons (pv 1) pa_nil)))) pa_nil))))), ?_⟩
  match d, hv with
  | .other, hv =>
    have q' := q H (Same.refl H)
    obtain ⟨t, ht, hk⟩ := hv.typ
    exact ⟨_, rfl, _, .ty "tuple", _, .type "tuple", false, rfl, .ty _, ht.tyx, hk, _, rfl, iteT (iteT q')⟩
  | .names es, ⟨a, e, h, hs, hl⟩ =>
    subst e
    refine ⟨_, rfl, _, .ty "tuple", _, .type "tuple", true, rfl, .ty _, (Typ.tup h).tyx, kit_ty (by decide +kernel), _, rfl, iteF ?_⟩
    refine ⟨_, rfl, .ref a, es.length, rfl, .inr ⟨_, SqT.of h, rfl⟩, _, _, rfl, rfl, _, rfl, ?_⟩
    by_cases c : es.length ≤ 2
    · refine ite_no (by rw [decide_eq_false (by omega)]; decide) ?_
      refine ⟨_, rfl, a, rfl, ⟨_, SqT.of h⟩, fun D hD => ?_⟩
      refine lc_it (walk_tup (xs := es)) (fun i H' => Same H H' ∧ H' D = some (.lst (((es.take i).map nameV).map V.bl))) ⟨same_upd hD, upd_same⟩ (fun i H' _ e => SqT.of (e.1 _ _ h)) ?_ ?_
      · rintro i v Ha Hb hi ⟨sa, ea⟩ ⟨rfl, hv⟩
        have hx : es[i]? = some v := hv
        have sc := hs v (List.mem_of_getElem? hx)
        obtain ⟨t, ht⟩ := sc.typ (H := Hb)
        refine ⟨rfl, tYes_ok ⟨_, rfl, v, t, rfl, ht, fun z e => (by subst e; exact sc), fun Hc s2 => ⟨_, s2 _ _ ea, small1000 (by simp; omega), fun c o hc => ?_, ?_⟩⟩⟩
        · rw [upd_ne (ne_of_none hc hD)]
          exact s2 _ _ (sa _ _ hc)
        · rw [upd_same, take_snoc hx]
          simp
      · rintro H2 ⟨s2, e2⟩
        rw [List.take_length] at e2
        refine ⟨D, _, rfl, SqL.of e2, ?_⟩
        have q' := q H2 s2
        have e0 : wordB (.names es) = (es.map nameV).all id := by
          show (decide (es.length ≤ 2) && (es.map nameV).all id) = _
          rw [decide_eq_true c, Bool.true_and]
        rw [e0] at q'
        exact q'
    · have q' := q H (Same.refl H)
      have e0 : wordB (.names es) = false := by
        show (decide (es.length ≤ 2) && (es.map nameV).all id) = _
        rw [decide_eq_false c, Bool.false_and]
      rw [e0] at q'
      exact ite_of (decide_eq_true (by omega)) q'
theorem ok_is_term (F : Fn K mg "is_term" s_is_term ["value"]) (B : Blt mg) (G_is_int : Has P w K mg base 1 "is_int" ["value"] spIsInt) (G_is_word : Has P w K mg base 2 "is_word" ["value"] spWord) : Has P w K mg base 3 "is_term" ["value"] spTerm := by
  refine F.has sc_is_term (fun vs H Q E h => ?_) (fun f cdv A outer s H vs Q E hr h => ?_)
  · obtain ⟨v, d, rfl, _⟩ := h
    rfl
  obtain ⟨v, d, rfl, hv, q⟩ := h
  refine ⟨_, (pss_cons (ps_if (PW.pt (pw_or (pt_not (pt_val (pe_callB call_isi (by rfl) B.isinstance bb_isinstance (pa_cons (pv 0) (pa_cons (pe_bltn (v := .ty "tuple") (by rfl) B.tuple bb_tuple rfl) pa_nil))))) (pw_or1 (pt_cmpR op_ne (pe_callB call_len (by rfl) B.len bb_len (pa_cons (pv 0) pa_nil)) pe_int (nomark _)))))
        (pss_one (ps_ret pe_bl))
        pss_nil)
      (pss_cons (ps_asg (pv 0) (pg_tup rfl (pgs_cons (pg_name (i := 1) sc_is_term.nd rfl (Or.inl rfl)) (pgs_cons (pg_name (i := 2) sc_is_term.nd rfl (Or.inl rfl)) (pgs_cons (pg_name (i := 3) sc_is_term.nd rfl (Or.inl rfl)) pgs_nil)))))
      (pss_one (ps_ret (pe_and (pe_own G_is_word (hr.mono (by decide)) (by rfl) (pa_cons (pv 1) pa_nil)) (pe_and (pe_own G_is_int (hr.mono (by decide)) (by rfl) (pa_cons (pv 2) pa_nil)) (pe_and (pe_own G_is_int (hr.mono (by decide)) (by rfl) (pa_cons (pv 3) pa_nil)) (pe_one (pe_cmpR op_ge (pv 3) pe_int (nomark _)))))))))), ?_⟩
  match d, hv with
  | .other, hv =>
    have q' := q H (Same.refl H)
    obtain ⟨t, ht, hk⟩ := hv.typ
    exact ⟨_, rfl, _, .ty "tuple", _, .type "tuple", false, rfl, .ty _, ht.tyx, hk, _, rfl, iteT (iteT q')⟩
  | .short, ⟨a, xs, e, h, n3, hl⟩ =>
    subst e
    have q' := q H (Same.refl H)
    exact ⟨_, rfl, _, .ty "tuple", _, .type "tuple", true, rfl, .ty _, (Typ.tup h).tyx, kit_ty (by decide +kernel), _, rfl, iteF ⟨_, rfl, _, _, rfl, .inr ⟨_, SqT.of h, rfl⟩, rfl, _, rfl, ite_of (by simpa using fun z => n3 (by omega)) q'⟩⟩
  | .tri wd p z, ⟨a, x, e, h, hw, hp, hz⟩ =>
    subst e
    refine ⟨_, rfl, _, .ty "tuple", _, .type "tuple", true, rfl, .ty _, (Typ.tup h).tyx, kit_ty (by decide +kernel), _, rfl, iteF ?_⟩
    refine ⟨_, rfl, .ref a, 3, rfl, .inr ⟨_, SqT.of h, rfl⟩, rfl, _, rfl, ite_no (by decide) ?_⟩
    refine ⟨_, rfl, a, _, rfl, SqT.of h, rfl, _, _, rfl, _, _, rfl, _, _, rfl, rfl, ?_⟩
    refine ⟨_, rfl, x, wd, rfl, hw, fun H1 s1 => ⟨_, rfl, ?_⟩⟩
    obtain ⟨tp, htp⟩ := hp.typ (H := H1)
    obtain ⟨tz, htz⟩ := hz.typ (H := H1)
    have q' := q H1 s1
    have e0 : termB (.tri wd p z) = (wordB wd && (isIntV p && (isIntV z && posV z))) := rfl
    rw [e0] at q'
    cases h1 : wordB wd with
    | false =>
      rw [h1] at q'
      exact iteF q'
    | true =>
      rw [h1] at q'
      refine iteT ⟨_, rfl, p, tp, rfl, htp, _, rfl, ?_⟩
      cases h2 : isIntV p with
      | false =>
        rw [h2] at q'
        exact iteF q'
      | true =>
        rw [h2] at q'
        match z, hz, htz, q' with
        | .int i, _, htz, q' => exact iteT ⟨_, rfl, .int i, tz, rfl, htz, true, rfl, iteT ⟨_, rfl, _, _, rfl, rfl, q'⟩⟩
        | .non, _, htz, q' => exact iteT ⟨_, rfl, .non, tz, rfl, htz, false, rfl, iteF q'⟩
        | .bl b, _, htz, q' => exact iteT ⟨_, rfl, .bl b, tz, rfl, htz, false, rfl, iteF q'⟩
        | .str x, _, htz, q' => exact iteT ⟨_, rfl, .str x, tz, rfl, htz, false, rfl, iteF q'⟩
end
end My
/-! forms: shares -/
namespace My
open PySem PySem.Spec PyProof.Rows L2
structure TxtG (mg : Str → Option Value) : Prop where
  m_gcd : mg "gcd" = some (.builtin "math.gcd")
def gcdI (a b : Int) : Int := ((Nat.gcd a.natAbs b.natAbs : Nat) : Int)
abbrev Amt := Int × Int
def shareF (p q : Int) : Amt := (p / gcdI p q, q / gcdI p q)
def sumF (x y : Amt) : Amt := shareF (x.1 * y.2 + y.1 * x.2) (x.2 * y.2)
theorem gcdI_pos {a b : Int} (h : b ≠ 0) : (0 : Int) < gcdI a b := by
  unfold gcdI
  have := Nat.gcd_pos_of_pos_right a.natAbs (Int.natAbs_pos.mpr h)
  omega
theorem gcdI_le {a b : Int} (h : 0 < b) : gcdI a b ≤ b := by
  unfold gcdI
  have := Nat.le_of_dvd (by omega : 0 < b.natAbs) (Nat.gcd_dvd_right a.natAbs b.natAbs)
  omega
theorem gcdI_dvd {a b : Int} : gcdI a b ∣ b := Int.natAbs_dvd_natAbs.mp (show Nat.gcd a.natAbs b.natAbs ∣ b.natAbs from Nat.gcd_dvd_right _ _)
theorem gcdI_dvdl {a b : Int} : gcdI a b ∣ a := Int.natAbs_dvd_natAbs.mp (show Nat.gcd a.natAbs b.natAbs ∣ a.natAbs from Nat.gcd_dvd_left _ _)
theorem share_q {p q : Int} (h : 1 ≤ q) : 1 ≤ (shareF p q).2 ∧ (shareF p q).2 ≤ q := by
  have g0 := gcdI_pos (a := p) (b := q) (by omega)
  have g1 := gcdI_le (a := p) (b := q) (by omega)
  refine ⟨?_, ?_⟩
  · show 1 ≤ q / gcdI p q
    exact (Int.le_ediv_iff_mul_le g0).mpr (by omega)
  · show q / gcdI p q ≤ q
    exact Int.ediv_le_self _ (by omega)
theorem share_p {p q : Int} (h : 1 ≤ q) : (shareF p q).1.natAbs ≤ p.natAbs := by
  obtain ⟨k, hk⟩ := gcdI_dvdl (a := p) (b := q)
  have g0 := gcdI_pos (a := p) (b := q) (by omega)
  show (p / gcdI p q).natAbs ≤ _
  have e : p / gcdI p q = k := by
    rw [Int.ediv_eq_iff_eq_mul_right (by omega) ⟨k, hk⟩]
    exact hk
  rw [e]
  generalize gcdI p q = g at hk g0
  rw [hk, Int.natAbs_mul]
  have : 1 ≤ g.natAbs := by omega
  exact Nat.le_mul_of_pos_left _ this
theorem divW {y z : Int} (h : 0 < z) (h2 : z < 2 ^ 160) : CDivW y z := by
  refine wide_div (b := 160) (by omega) ?_ (by decide) (by decide)
  omega
/-- the share in lowest terms, or the error of a denominator that is none or below 1 -/
def spShare (CE : Addr) : Sp := fun vs H Q E => (∃ p q : Int, vs = [.int p, .int q] ∧ 1 ≤ q ∧ q < 2 ^ 150 ∧ ∀ t, H t = none → Q (.ref t) (upd H t (.tup [.int (shareF p q).1, .int (shareF p q).2]))) ∨
  ∃ (p x : V) (ty : String), vs = [p, x] ∧ Typ H x ty ∧ (∀ i : Int, x = .int i → i < 1) ∧ ∀ d, H d = none → E (.ref CE) (some d) (upd H d (.xd (errD "given" "InvalidNumber" x)))
def AmtAt (H : Hp) (a : Addr) (x : Amt) : Prop := H a = some (.tup [.int x.1, .int x.2])
def spSum : Sp := fun vs H Q _ => ∃ (a b : Addr) (x y : Amt), vs = [.ref a, .ref b] ∧ AmtAt H a x ∧ AmtAt H b y ∧ 1 ≤ x.2 ∧ 1 ≤ y.2 ∧ x.2 * y.2 < 2 ^ 150 ∧ y.2 < 2 ^ 60 ∧ y.1.natAbs < 2 ^ 60 ∧ ∀ (H' : Hp) (t : Addr), Same H H' → H t = none → AmtAt H' t (sumF x y) → Q (.ref t) H'
section
variable {P : Program} {w : World} {K : PySem.W.Frag} {mg : Str → Option Value} {base : Heap}
theorem ok_share {CE fI cc cd f : Addr} {fd : FuncData} (D : FunD K "share" "share" (defArgs s_share) (defBody s_share) (defScope s_share) [.int 1] [] f fd) (hm : mg "share" = some (.ref f)) (T : TxtG mg)
    (E_InvalidNumber : ErrX.ErrTxt P K mg "InvalidNumber" "given" "InvalidNumber" CE fI cc cd) (G_is_int : Has P w K mg base 1 "is_int" ["value"] spIsInt) : HasX P w K mg base 2 "share" ["p", "q"] (spShare CE) := by
  refine ⟨f, fd, D.ok sc_share (fun vs H Q E h => ?_) (fun cdv A outer s H vs Q E hr h => ?_), hm, D.kp, ?_⟩
  · rcases h with ⟨n, v, rfl, _⟩ | ⟨x, t, y, rfl, _⟩
    · rfl
    · rfl
  · have TK : Takes (cxOf (L2.CX P w) P w K mg base N_share "share" (defScope s_share) f cdv A outer s H E) (fun cls d _ H => E cls d H) := takes_of rfl rfl rfl rfl
    refine ⟨_, (pss_cons (ps_if (PW.pt (pw_or (pt_not (pt_val (pe_own G_is_int (hr.mono (by decide)) (by rfl) (pa_cons (pv 1) pa_nil)))) (pw_or1 (pt_cmpR op_lt (pv 1) pe_int (nomark _)))))
        (pss_one (ps_raise rfl TK (pmk_err E_InvalidNumber hr (pa_cons (pv 1) pa_nil) (by rfl))))
        pss_nil)
      (pss_cons (ps_set (i := 2) sc_share.nd rfl (Or.inl rfl) (pe_callBfun cr_gcd (by rfl) T.m_gcd (pa_cons (pv 0) (pa_cons (pv 1) pa_nil))))
      (pss_one (ps_ret (pe_tup (pa_cons (pe_op op_fdivW (pv 0) (pv 2)) (pa_cons (pe_op op_fdivW (pv 1) (pv 2)) pa_nil))))))), ?_⟩
    rcases h with ⟨pp, qq, rfl, h1, h2, q⟩ | ⟨pp, x, ty, rfl, ht, hn, q⟩
    · refine ⟨_, rfl, _, "int", rfl, .int _, ?_⟩
      have g0 : (0 : Int) < gcdI pp qq := gcdI_pos (by omega)
      have g1 : gcdI pp qq ≤ qq := gcdI_le (by omega)
      refine ⟨_, rfl, iteF ⟨_, rfl, _, _, rfl, rfl, _, rfl, ite_no (by simp; omega) ?_⟩⟩
      refine ⟨_, rfl, _, rfl, _, _, rfl, _, rfl, _, rfl, _, _, rfl, rfl, divW g0 (Int.lt_of_le_of_lt g1 (by omega)), _, rfl, _, rfl, _, _, rfl, rfl, divW g0 (Int.lt_of_le_of_lt g1 (by omega)), (by show 2 ≤ sizeLine; decide), fun t ht => q t ht⟩
    · refine ⟨_, rfl, x, ty, rfl, ht, ?_⟩
      cases hx : isIntV x with
      | false => exact ⟨_, rfl, iteT ⟨_, rfl, x, rfl, q⟩⟩
      | true =>
        cases x with
        | int i =>
          have := hn i rfl
          exact ⟨_, rfl, iteF ⟨_, rfl, _, _, rfl, rfl, _, rfl, ite_of (decide_eq_true this) ⟨_, rfl, _, rfl, q⟩⟩⟩
        | _ => cases hx
  · obtain ⟨ds, hd, b⟩ := FunD.binds1 D (ps := ["p", "q"]) 2 1 (by simp) rfl (fun _ _ _ _ _ _ _ us its h1 h2 => match us, its, h1, h2 with | [_, _], [_], _, _ => ⟨_, rfl, rfl⟩)
    cases hd
    exact b
theorem ok_sum_of_shares {CE : Addr} (F : Fn K mg "sum_of_shares" s_sum_of_shares ["x", "y"]) (B : Blt mg) (G_share : HasX P w K mg base 2 "share" ["p", "q"] (spShare CE)) : Has P w K mg base 3 "sum_of_shares" ["x", "y"] spSum := by
  refine F.has sc_sum_of_shares (fun vs H Q E h => ?_) (fun f cdv A outer s H vs Q E hr h => ?_)
  · obtain ⟨a, b, x, y, rfl, _⟩ := h
    rfl
  obtain ⟨a, b, x, y, rfl, hx, hy, x1, y1, xy, y2, yp, q⟩ := h
  refine ⟨_, (pss_one (ps_ret (pe_ownX G_share (hr.mono (by decide)) (by rfl) (pa_cons (pe_op op_add (pe_op op_mul (pe_ix ix_tup (pv 0) pe_int (fun _ _ => rfl)) (pe_ix ix_tup (pv 1) pe_int (fun _ _ => rfl))) (pe_op op_mul (pe_ix ix_tup (pv 1) pe_int (fun _ _ => rfl)) (pe_ix ix_tup (pv 0) pe_int (fun _ _ => rfl)))) (pa_cons (pe_op op_mul (pe_ix ix_tup (pv 0) pe_int (fun _ _ => rfl)) (pe_ix ix_tup (pv 1) pe_int (fun _ _ => rfl))) pa_nil))))), ?_⟩
  unfold AmtAt at hx hy
  have mY2 : ∀ i : Int, CMul i y.2 := fun i => .inr ⟨by omega, by omega⟩
  have mY1 : CMul y.1 x.2 := .inl ⟨by omega, by omega⟩
  refine ⟨_, rfl, a, _, _, _, rfl, rfl, SqT.of hx, atI_nat (j := 0) rfl, _, rfl, b, _, _, _, rfl, rfl, SqT.of hy, atI_nat (j := 1) rfl, _, _, rfl, rfl, mY2 _, ?_⟩
  refine ⟨_, rfl, b, _, _, _, rfl, rfl, SqT.of hy, atI_nat (j := 0) rfl, _, rfl, a, _, _, _, rfl, rfl, SqT.of hx, atI_nat (j := 1) rfl, _, _, rfl, rfl, mY1, _, _, rfl, rfl, ?_⟩
  refine ⟨_, rfl, a, _, _, _, rfl, rfl, SqT.of hx, atI_nat (j := 1) rfl, _, rfl, b, _, _, _, rfl, rfl, SqT.of hy, atI_nat (j := 1) rfl, _, _, rfl, rfl, mY2 _, ?_⟩
  exact .inl ⟨_, _, rfl, Int.mul_pos (by omega) (by omega), xy, fun t nt => q _ t (same_upd nt) nt upd_same⟩
end
end My
/-! sorted of tuples that read as data -/
namespace SortD
open PySem PySem.Spec PyProof.Rows L2
section
variable {X : Cx} {β : Type}
theorem refs_vals {ad : β → Addr} : ∀ {ts : List β} {us : List Value}, Vals (ts.map fun t => V.ref (ad t)) us → us = ts.map fun t => Value.ref (ad t)
  | [], us, h => by
    cases h
    rfl
  | t :: ts, us, h => by
    cases h with
    | cons r h => rw [show _ = _ from r, refs_vals h]; rfl
theorem vals_refs {ad : β → Addr} : ∀ {ts : List β} {us : List Value}, PySem.W.EachIs (fun v (t : β) => v = Value.ref (ad t)) us ts → Vals (ts.map fun t => V.ref (ad t)) us
  | [], us, h => by
    cases h
    exact .nil
  | t :: ts, us, h => by
    cases h with
    | cons r h => exact .cons r (vals_refs h)
theorem each_self {ad : β → Addr} : ∀ ts : List β, PySem.W.EachIs (fun v (t : β) => v = Value.ref (ad t)) (ts.map fun t => Value.ref (ad t)) ts
  | [] => .nil
  | t :: ts => .cons rfl (each_self ts)
theorem each_all {ad : β → Addr} {R : Value → β → Prop} : ∀ ts : List β, (∀ t ∈ ts, R (.ref (ad t)) t) → PySem.W.EachIs R (ts.map fun t => Value.ref (ad t)) ts
  | [], _ => .nil
  | t :: ts, h => .cons (h t List.mem_cons_self) (each_all ts fun u hu => h u (List.mem_cons_of_mem _ hu))
/-- what sorted gives: the items in the order of enc, equal ones as they stood -/
def sortF (enc : β → PyData) (ts : List β) : List β := ts.mergeSort (PySem.W.dataLe false enc)
def rSortD (K : PySem.W.Frag) (ad : β → Addr) (enc : β → PyData) (D : Hp → β → Prop) : List V → Hp → VK → Prop := fun vs H Q => ∃ (a : Addr) (ts : List β), vs = [.ref a] ∧ SqL K H a (ts.map fun t => V.ref (ad t)) ∧ (∀ t ∈ ts, D H t) ∧
  ∀ p, H p = none → Q (.ref p) (upd H p (.lst ((sortF enc ts).map fun t => V.ref (ad t))))
theorem cr_sortD {ad : β → Addr} {enc : β → PyData} {D : Hp → β → Prop} (K : PySem.W.Frag) (hK : X.K = K) (hu : X.A.units + 64 < cLine) (rd : ∀ {pins : List (Addr × Obj)} {σ : L2.St} {H : Hp} {s : Shared} (I : Inv X pins σ H s) (b : β), D H b → ∃ as, Reads s.heap (.ref (ad b)) (enc b) as)
    (al : ∀ b b', PySem.W.alike (enc b) (enc b') = true) (tp : ∀ b, ∃ x r, enc b = .tuple (x :: r)) (dp : ∀ b, (enc b).depth ≤ 10) : CallR X (.builtin "sorted") (rSortD K ad enc D) := by
  subst hK
  intro pins s σ H vs us Q I r h
  obtain ⟨a, ts, rfl, hs, hx, q⟩ := h
  obtain ⟨its, rv, hl, hz⟩ := I.list hs
  obtain ⟨u, rfl, ru⟩ := vals1 r
  obtain rfl : u = Value.ref a := ru
  obtain rfl := refs_vals rv
  rw [List.length_map] at hz
  refine PySem.W.sorted_data (enc := enc) (R := fun v (t : β) => v = Value.ref (ad t)) hl.isList (each_self ts) (each_all ts fun t ht => rd I t (hx t ht)) (PySem.W.AllAlike.of al) (PySem.W.Sortable.tuples tp) hz (fun b _ => by
    have := dp b
    omega) fun out hlen he => ?_
  obtain ⟨ep, he'⟩ := PyProof.Rows.sortedAll_at s.heap (ts.map fun t => Value.ref (ad t)) out.toArray
  have lm : (ts.mergeSort (PySem.W.dataLe false enc)).length = ts.length := List.length_mergeSort _
  exact ⟨.ref _, upd H (s.heap.objs.size + 1) (.lst ((sortF enc ts).map fun t => V.ref (ad t))), I.laid (t' := s.toks) (fun _ _ => PyProof.Rows.sortedAll_old) (Nat.le_succ _) ⟨by rw [List.length_map]; unfold sortF; rw [lm]; exact hz, out, ep, vals_refs he, he'⟩, rfl, q _ (I.hok.fresh (Nat.le_succ _))⟩
end
/-! ### pairs of an int and a word -/
abbrev IW := Addr × Int × Addr × List Str
def adW (t : IW) : Addr := t.1
def encW (t : IW) : PyData := .tuple [.int t.2.1, .tuple (t.2.2.2.map .str)]
def AtW (H : Hp) (t : IW) : Prop := H t.1 = some (.tup [.int t.2.1, .ref t.2.2.1]) ∧ H t.2.2.1 = some (.tup (t.2.2.2.map V.str))
theorem reads_strs {h : Heap} : ∀ {w : List Str} {us : List Value}, Vals (w.map V.str) us → ReadsAll h us (w.map .str) []
  | [], us, r => by
    cases r
    exact .nil
  | x :: w, us, r => by
    cases r with
    | cons r1 r2 =>
      obtain ⟨t, rfl⟩ := r1
      exact .cons (as := []) (bs := []) (.str x t) (reads_strs r2)
theorem reads_word {X : Cx} {pins : List (Addr × Obj)} {σ : L2.St} {H : Hp} {s : Shared} (I : Inv X pins σ H s) {a : Addr} {w : List Str} (h : H a = some (.tup (w.map V.str))) : Reads s.heap (.ref a) (.tuple (w.map .str)) [] := by
  obtain ⟨_, its, r, o, ho, hc, n, hd⟩ := I.hok _ _ h
  exact .tuple ho hc hd (by rw [List.toList_toArray]; exact reads_strs r)
theorem readsW {X : Cx} {pins : List (Addr × Obj)} {σ : L2.St} {H : Hp} {s : Shared} (I : Inv X pins σ H s) (t : IW) (h : AtW H t) : ∃ as, Reads s.heap (.ref (adW t)) (encW t) as := by
  obtain ⟨_, its, r, o, ho, hc, n, hd⟩ := I.hok _ _ h.1
  obtain ⟨u1, u2, rfl, ri, rj⟩ := vals2 r
  obtain ⟨t1, rfl⟩ := ri
  obtain rfl : u2 = Value.ref t.2.2.1 := rj
  exact ⟨_, .tuple ho hc hd (.cons (.int _ _) (.cons (reads_word I h.2) .nil))⟩
theorem alike_strs : ∀ v w : List Str, PySem.W.alikeAll (v.map .str) (w.map .str) = true
  | [], _ => by simp [PySem.W.alikeAll]
  | _ :: _, [] => by simp [PySem.W.alikeAll]
  | x :: v, y :: w => by
    have := alike_strs v w
    simp [PySem.W.alikeAll, PySem.W.alike, this]
theorem depth_strs : ∀ w : List Str, PyData.depthAll (w.map .str) = 0
  | [] => by simp [PyData.depthAll]
  | x :: w => by
    have := depth_strs w
    simp [PyData.depthAll, PyData.depth, this]
theorem cr_sortW {X : Cx} (K : PySem.W.Frag) (hK : X.K = K) (hu : X.A.units + 64 < cLine) : CallR X (.builtin "sorted") (rSortD K adW encW AtW) :=
  cr_sortD K hK hu (fun I b h => readsW I b h) (fun b b' => by
    have := alike_strs b.2.2.2 b'.2.2.2
    simp [encW, PySem.W.alike, PySem.W.alikeAll, this]) (fun b => ⟨_, _, rfl⟩) (fun b => by
    have := depth_strs b.2.2.2
    simp [encW, PyData.depth, PyData.depthAll, this])
end SortD
/-! {k: v for x in xs}, the keys tuples of ints and texts -/
namespace DcT
open PySem PySem.Spec PyProof.Rows L2
section
variable {X : Cx}
/-- one more key for the dict at D -/
theorem put_ok {pins : List (Addr × Obj)} {σ : L2.St} {H : Hp} {s : Shared} {Er : Value → Shared → Prop} {D b : Addr} {ents : List (List Key × V)} {ks : List Key} {v : V} {u r : Value} {Q : Unit → Shared → Prop} (hu : X.A.units + 1 < cLine) (I : Inv X pins σ H s) (hD : H D = some (.dT ents)) (few : ents.length < sizeLine)
    (hb : H b = some (.tup (ks.map kV))) (ru : RelV (.ref b) u) (rr : RelV v r) (q : ∀ s', Inv X pins σ (upd H D (.dT (putK ents ks v))) s' → Q () s') : wpAny (model X.prog X.w) X.A (dictSet D u r) Q Er s := by
  obtain rfl : u = Value.ref b := ru
  obtain ⟨le, far, xs, rel, held⟩ := dt_of I.hok hD
  have lx : xs.length ≤ sizeLine := (Paired.length rel) ▸ le
  have more : (putK ents ks v).length ≤ sizeLine := Nat.le_trans (length_putK ents ks v) few
  refine wpAny_dictSet_heap (hsz := lx) (show X.A.units < cLine by omega) (key_of I.hok hb) held fun h2 held2 rest => q _ ?_
  obtain ⟨o, es, ep, a1, a2, a3, a4, _, a6⟩ := held2
  have stay : ∀ c ys, H c = some (.tup ys) → (upd H D (.dT (putK ents ks v))) c = some (.tup ys) := fun c ys hc => (upd_ne (ne_of hc hD fun z => nomatch z)).trans hc
  exact d_write I (by rw [hD]; exact True.intro) rest ⟨o, a1⟩ ⟨more, far, _, (rel.put ks hb rr).keeps stay, o, es, ep, a1, a2, a3, a4, a6⟩
def tDcT (wi : TI) (g : TG) (tt : TT) (tk tv : TE) (vs : List Nat) : TE := fun σ H Q => wi σ H fun J H1 => ∀ D, H1 D = none → ∃ W : Nat → Nat → Hp → Prop, (∃ m, W 0 m (upd H1 D (.dT []))) ∧ ∀ i m H, W i m H →
  (J.stop i H ∧ Q (.ref D) H) ∨ (J.go i H ∧ ∃ Nx : Hp → Prop, (∀ H', Nx H' → ∃ k, k < m ∧ W (i + 1) k H') ∧ ∀ x H', J.yld i H x H' → g x (wipe σ vs) H' fun σ2 H2 => wipe σ2 vs = wipe σ vs ∧ tt σ2 H2 fun b H3 =>
    if b = true then tk σ2 H3 fun y H4 => tv σ2 H4 fun z H5 => ∃ (ents : List (List Key × V)) (ks : List Key) (c : Addr), y = .ref c ∧ H5 c = some (.tup (ks.map kV)) ∧ H5 D = some (.dT ents) ∧ ents.length < sizeLine ∧ Nx (upd H5 D (.dT (putK ents ks z))) else Nx H3)
section
variable {kx vx tg iter : Expr} {ifs : List Expr} {scope : Scope} {own : List (Str × Nat)} {pos : Pos} {wi : TI} {g : TG} {tt : TT} {tk tv : TE}
/-- the turns, in the block's own context Y -/
theorem turns {Y : Cx} {pins : List (Addr × Obj)} (calm : Y.calm = true) (quiet : Y.xe = fun _ _ => False) (room : Y.A.units + 1 < cLine) (pg : PG Y tg g) (pt : PTs Y ifs tt) (pk : PE Y kx tk) (pv : PE Y vx tv) {vs : List Nat} {σ : L2.St} {itv D : Addr} {fp : List Addr} {tn : Nat → Heap → Prop} {J : It} (T : Turn Y.prog Y.w Y.K tg J fp itv tn)
    {Done : Hp → Prop} {W : Nat → Nat → Hp → Prop} {m : Nat} {H : Hp} {s : Shared} (I : Inv Y pins (wipe σ vs) H s) (st : tn 0 s.heap) (f : ∀ b ∈ fp, FpOk Y pins H b) (w0 : W 0 m H)
    (turn : ∀ i m H, W i m H → (J.stop i H ∧ Done H) ∨ (J.go i H ∧ ∃ Nx : Hp → Prop, (∀ H', Nx H' → ∃ k, k < m ∧ W (i + 1) k H') ∧ ∀ x H', J.yld i H x H' → g x (wipe σ vs) H' fun σ2 H2 => wipe σ2 vs = wipe σ vs ∧ tt σ2 H2 fun b H3 =>
      if b = true then tk σ2 H3 fun y H4 => tv σ2 H4 fun z H5 => ∃ (ents : List (List Key × V)) (ks : List Key) (c : Addr), y = .ref c ∧ H5 c = some (.tup (ks.map kV)) ∧ H5 D = some (.dT ents) ∧ ents.length < sizeLine ∧ Nx (upd H5 D (.dT (putK ents ks z))) else Nx H3)) :
    codeAny (model Y.prog Y.w) Y.A (.compLoop (.DictComp kx vx [⟨tg, iter, ifs, 0⟩] scope pos) 0 (.ref itv) (.ref D) Y.env) (fun r s' => match r with | .ok fl => fl = .next ∧ ∃ H', Inv Y pins (wipe σ vs) H' s' ∧ Done H' | .error _ => False) s := by
  have still : ∀ {H' : Hp}, (∀ b ∈ fp, H' b = none) → ∀ b ∈ fp, FpOk Y pins H' b := fun hn b hb => ⟨hn b hb, (f b hb).2⟩
  refine compLoop_anyD (fun n s' => ∃ i H', Inv Y pins (wipe σ vs) H' s' ∧ tn i s'.heap ∧ (∀ b ∈ fp, H' b = none) ∧ W i n H') ?_ m ⟨0, H, I, st, fun b hb => (f b hb).1, w0⟩
  rintro n s1 ⟨i, H1, I1, st1, n1, w1⟩
  rcases turn i n H1 w1 with ⟨stop, dn⟩ | ⟨go, Nx, hN, step⟩
  · refine LcN.out_of (E := fun _ _ => False) rfl (thnF (T.done Y rfl rfl rfl calm i pins s1 _ H1 (fun _ _ => False) I1 (still n1) st1 stop) fun r s2 ⟨hr, I2⟩ => ?_)
    subst hr
    exact ⟨rfl, H1, I2, dn⟩
  · refine LcN.out_of (E := fun _ _ => False) rfl (thnF (T.item Y rfl rfl rfl calm i pins s1 _ H1 (fun _ _ => False) I1 (still n1) st1 go) fun r s2 ⟨u, hr, h2⟩ => ?_)
    subst hr
    refine LcN.out_of (E := fun _ _ => False) rfl (thnF h2 fun _ s3 ⟨x, H3, I3, r3, y3, st3, n3⟩ => ?_)
    have P3 := I3.pinned (still n3) (T.obj _ _ st3)
    refine LcN.out_of quiet (thn (pg.run _ s3 _ H3 x u _ P3 r3 (step x H3 y3)) fun _ s4 ⟨σ4, H4, I4, e4, q4⟩ => ?_)
    refine LcN.out_of quiet (thn (pt.run _ s4 σ4 H4 _ I4 q4) fun b s5 ⟨H5, I5, q5⟩ => ?_)
    have back : ∀ {s' : Shared} {H' : Hp}, Inv Y (pins ++ pinsAt fp s3.heap) σ4 H' s' → Nx H' → ∃ k, k < n ∧ ∃ i H', Inv Y pins (wipe σ vs) H' s' ∧ tn i s'.heap ∧ (∀ b ∈ fp, H' b = none) ∧ W i k H' := fun {s' H'} I' nx => by
      obtain ⟨k, lt, w'⟩ := hN H' nx
      have held : ∀ b ∈ fp, ∀ o, s3.heap.get? b = some o → s'.heap.get? b = some o ∧ H' b = none := fun b hb o e =>
        have z := I'.pin (b, o) (List.mem_append_right _ (List.mem_append_right _ (mem_pinsAt hb e)))
        ⟨z.1, z.2.1⟩
      refine ⟨k, lt, i + 1, H', I'.unpinned.weak (by rw [← e4, wipe_length]) (fun j v e => ?_), T.keep _ _ _ st3 fun b hb o e => (held b hb o e).1, fun b hb => ?_, w'⟩
      · exact (wipe_some (by rw [e4]; exact e)).1
      · obtain ⟨o, e, _⟩ := T.obj _ _ st3 b hb
        exact (held b hb o e).2
    cases b with
    | false => exact back I5 q5
    | true =>
      refine LcN.out_of quiet (thn (pk.run _ s5 σ4 H5 _ I5 q5) fun z s6 ⟨yk, H6, I6, r6, q6⟩ => ?_)
      refine LcN.out_of quiet (thn (pv.run _ s6 σ4 H6 _ I6 q6) fun z2 s7 ⟨yv, H7, I7, r7, ents, ks, c, ec, hc, hD, few, nx⟩ => ?_)
      subst ec
      exact put_ok room I7 hD few hc r6 r7 fun s8 I8 => back I8 nx
/-- as a value -/
theorem pe_dcT (calm : X.calm = true) (nd : X.N.Nodup) (room : X.A.units + 1 < cLine) (hi : PI X tg iter wi) (ok : BlkOk X.N X.env.scope scope own)
    (hg : ∀ (s : Shared) (H : Hp) (C : Addr) (cl : List (Str × Addr)) (fp : List Addr), PG (X.blk s H scope (compEnvC scope cl C X.env) fp) tg g)
    (ht : ∀ (s : Shared) (H : Hp) (C : Addr) (cl : List (Str × Addr)) (fp : List Addr), PTs (X.blk s H scope (compEnvC scope cl C X.env) fp) ifs tt)
    (hk : ∀ (s : Shared) (H : Hp) (C : Addr) (cl : List (Str × Addr)) (fp : List Addr), PE (X.blk s H scope (compEnvC scope cl C X.env) fp) kx tk)
    (hv : ∀ (s : Shared) (H : Hp) (C : Addr) (cl : List (Str × Addr)) (fp : List Addr), PE (X.blk s H scope (compEnvC scope cl C X.env) fp) vx tv) (plain : ∀ x, foldedSetIterable iter X.env x = pure x := by intro _; rfl) :
    PE X (.DictComp kx vx [⟨tg, iter, ifs, 0⟩] scope pos) (tDcT wi g tt tk tv (own.map (·.2))) := by
  refine ⟨fun pins s σ H Q I h => ?_⟩
  rw [arm_eval_DictComp]
  have free : ∀ y ∈ scope.names, y.2 = .free → ∃ c, X.env.cells.lookup y.1 = some c := fun y hy e => I.ok.has _ (ok.free y hy e)
  refine wpAny_comprehension_free rfl plain (closure_ok free) ok.kind (fun y hy e => (ok.uniq y hy).trans (congrArg some e)) (thn (hi.run pins s σ H _ I h) fun xv s1 hx => thn hx fun itv s2 h2 => ?_)
  obtain ⟨it, fp, tn, J, H2, rfl, I2, T, st2, f2, q⟩ := h2
  refine wpAny_newObj_type (newEnv_comp ?_)
  obtain ⟨D, hD⟩ : ∃ D, D = s2.heap.objs.size := ⟨_, rfl⟩
  have new : H2 D = none := I2.hok.fresh (Nat.le_of_eq hD.symm)
  obtain ⟨W, ⟨m0, w0⟩, turn⟩ := q D new
  obtain ⟨s3, e3⟩ : ∃ s3 : Shared, s3 = { s2 with heap := s2.heap.push { cls := .type "dict", data := .dict #[] } } := ⟨_, rfl⟩
  have g3 : s3.heap = s2.heap.push { cls := .type "dict", data := .dict #[] } := by rw [e3]
  have I3 : Inv X pins σ (upd H2 D (.dT [])) s3 := by
    rw [e3, hD]
    exact I2.laid (t' := s2.toks) (fun b o e => Heap.get?_push_of_some _ e) (Nat.le_refl _) (dt_empty s2.heap I2.big)
  have f3 : ∀ b ∈ fp, FpOk X pins (upd H2 D (.dT [])) b ∧ b < s3.heap.objs.size := fun b hb => by
    obtain ⟨o, e, _⟩ := T.obj _ _ st2 b hb
    have lt := Heap.lt_size e
    exact ⟨⟨(upd_ne (by rw [hD]; exact Nat.ne_of_lt lt)).trans (f2 b hb).1, (f2 b hb).2⟩, by rw [g3, Heap.size_push]; exact Nat.lt_succ_of_lt lt⟩
  have I4 := block_start I3 ok nd f3
  rw [← e3, ← hD]
  have env_eq : ∀ c : List (Str × Addr), ({ newEnv scope s3.heap.objs.size X.env.globals c X.env.qual none Value.none (some X.env) builtinsNs with scope := relabel scope X.env } : Env) = compEnvC scope c s3.heap.objs.size X.env := fun c => rfl
  obtain ⟨ce, hce⟩ : ∃ ce, ce = compEnvC scope (cellsFrom (s3.heap.objs.size + 1) scope.names (cloFrom X.env.cells scope.names [])) s3.heap.objs.size X.env := ⟨_, rfl⟩
  obtain ⟨s4, e4⟩ : ∃ s4 : Shared, s4 = { s3 with heap := pushCells (s3.heap.push { cls := .type "dict", data := .dict #[] }) scope.names } := ⟨_, rfl⟩
  show codeAny _ _ (.compStart (.DictComp kx vx [⟨tg, iter, ifs, 0⟩] scope pos) 0 (.ref it) (.ref D) (compEnvC scope (cellsFrom (s3.heap.objs.size + 1) scope.names (cloFrom X.env.cells scope.names [])) s3.heap.objs.size X.env)) (compPost _ X.A X.xe none _ (.ref D) s3.heap.objs.size) { s3 with heap := pushCells (s3.heap.push { cls := .type "dict", data := .dict #[] }) scope.names }
  rw [← hce, ← e4]
  rw [← hce, ← e4] at I4
  have G := hg s3 (upd H2 D (.dT [])) s3.heap.objs.size (cellsFrom (s3.heap.objs.size + 1) scope.names (cloFrom X.env.cells scope.names [])) fp
  have Tt := ht s3 (upd H2 D (.dT [])) s3.heap.objs.size (cellsFrom (s3.heap.objs.size + 1) scope.names (cloFrom X.env.cells scope.names [])) fp
  have Kk := hk s3 (upd H2 D (.dT [])) s3.heap.objs.size (cellsFrom (s3.heap.objs.size + 1) scope.names (cloFrom X.env.cells scope.names [])) fp
  have Vv := hv s3 (upd H2 D (.dT [])) s3.heap.objs.size (cellsFrom (s3.heap.objs.size + 1) scope.names (cloFrom X.env.cells scope.names [])) fp
  rw [← hce] at G Tt Kk Vv
  have cL : ce.locals = s3.heap.objs.size := by rw [hce]; rfl
  have st4 : tn 0 s4.heap := T.keep _ _ _ st2 fun b _ o e => by
    rw [e4, g3]
    exact pushCells_keeps _ _ _ _ (Heap.get?_push_of_some _ (Heap.get?_push_of_some _ e))
  have held : ∀ b ∈ fp, FpOk (X.blk s3 (upd H2 D (.dT [])) scope ce fp) [] (upd H2 D (.dT [])) b := fun b hb =>
    ⟨(f3 b hb).1.1, (I4.ok.exf b hb).1, I4.ok.exfs b hb, .inl hb, fun x c e => (I4.ok.exf b hb).2 x c e, fun p hp => absurd (show p ∈ ([] : List (Addr × Obj)) ++ [] from hp) (by simp)⟩
  have run := turns (Y := X.blk s3 (upd H2 D (.dT [])) scope ce fp) (pos := pos) (scope := scope) (iter := iter) (Done := fun H' => Q (.ref D) H') calm rfl room G Tt Kk Vv T I4 st4 held w0 turn
  have loop : codeAny (model X.prog X.w) X.A (.compLoop (.DictComp kx vx [⟨tg, iter, ifs, 0⟩] scope pos) 0 (.ref it) (.ref D) ce) (compPost (model X.prog X.w) X.A X.xe none (fun v s' => ∃ x H', Inv X pins σ H' s' ∧ RelV x v ∧ Q x H') (.ref D) s3.heap.objs.size) s4 := by
    refine codeAny_mono run fun r s6 hr => ?_
    cases r with
    | error e => exact hr.elim
    | ok fl =>
      obtain ⟨rfl, H5, I6, qq⟩ := hr
      have I7 : Inv X pins σ H5 s6 := I3.call' (ch := fp) I6.os I6.base I6.hok I6.bare fun b hb => by
        obtain ⟨⟨a0, a1, a2, a3, a4, a5⟩, _⟩ := f3 b hb
        exact ⟨a3, a1, a4, a5⟩
      have gone : H5 s3.heap.objs.size = none := cL ▸ (show H5 ce.locals = none from I6.free)
      obtain ⟨m, hn, _⟩ := I6.loc
      have hn : s6.heap.Ns s3.heap.objs.size m := cL ▸ (show s6.heap.Ns ce.locals m from hn)
      obtain ⟨b0, b1, b2, b3, b4, b5⟩ := I3.fpOk (Nat.le_refl _) gone
      exact ⟨m, hn, fun h2 sb => ⟨.ref D, H5, I7.turned (t' := s6.toks) (fun b o hb e => (sb.2 b hb).trans e) b0 b1 b3 b4 b5, rfl, qq⟩⟩
  exact codeAny_compStart_dict loop (T.self X.A 0 _ _ _ st4 loop)
end
end
/-- the reading over a walk -/
theorem dcT_it {J : It} {n : Nat} {Gd : Hp → Prop} {Y : Nat → Hp → V → Hp → Prop} (wk : Walk J n Gd Y) {g : TG} {tt : TT} {tk tv : TE} {vs : List Nat} {σ : L2.St} {H1 : Hp} {D : Addr} {Done : Hp → Prop} (Pv : Nat → Hp → Prop) (first : Pv 0 (upd H1 D (.dT []))) (src : ∀ i H, i ≤ n → Pv i H → Gd H)
    (one : ∀ i x H H', i < n → Pv i H → Y i H x H' → g x (wipe σ vs) H' fun σ2 H2 => wipe σ2 vs = wipe σ vs ∧ tt σ2 H2 fun b H3 =>
      if b = true then tk σ2 H3 fun y H4 => tv σ2 H4 fun z H5 => ∃ (ents : List (List Key × V)) (ks : List Key) (c : Addr), y = .ref c ∧ H5 c = some (.tup (ks.map kV)) ∧ H5 D = some (.dT ents) ∧ ents.length < sizeLine ∧ Pv (i + 1) (upd H5 D (.dT (putK ents ks z))) else Pv (i + 1) H3) (last : ∀ H, Pv n H → Done H) :
    ∃ W : Nat → Nat → Hp → Prop, (∃ m, W 0 m (upd H1 D (.dT []))) ∧ ∀ i m H, W i m H →
      (J.stop i H ∧ Done H) ∨ (J.go i H ∧ ∃ Nx : Hp → Prop, (∀ H', Nx H' → ∃ k, k < m ∧ W (i + 1) k H') ∧ ∀ x H', J.yld i H x H' → g x (wipe σ vs) H' fun σ2 H2 => wipe σ2 vs = wipe σ vs ∧ tt σ2 H2 fun b H3 =>
        if b = true then tk σ2 H3 fun y H4 => tv σ2 H4 fun z H5 => ∃ (ents : List (List Key × V)) (ks : List Key) (c : Addr), y = .ref c ∧ H5 c = some (.tup (ks.map kV)) ∧ H5 D = some (.dT ents) ∧ ents.length < sizeLine ∧ Nx (upd H5 D (.dT (putK ents ks z))) else Nx H3) := by
  refine ⟨fun i m H => i + m = n ∧ Pv i H, ⟨n, Nat.zero_add n, first⟩, ?_⟩
  rintro i m H ⟨e, pv⟩
  have gd := src i H (by omega) pv
  rcases Nat.eq_zero_or_pos m with h0 | h0
  · obtain rfl : i = n := by omega
    exact .inl ⟨wk.stops H gd, last H pv⟩
  · have lt : i < n := by omega
    exact .inr ⟨wk.goes i H lt gd, Pv (i + 1), fun H' p' => ⟨m - 1, by omega, by omega, p'⟩, fun x H' y => one i x H H' lt pv (wk.yields i H x H' lt gd y)⟩
end DcT
/-! forms: what stands for the same word gathered, as a function -/
namespace My
open PySem PySem.Spec PyProof.Rows L2
abbrev WordT := List Str
abbrev Ents := List (WordT × Amt)
def keyW (w : WordT) : List Key := w.map Sum.inr
theorem keyW_kV (w : WordT) : (keyW w).map kV = w.map V.str := by
  unfold keyW
  rw [List.map_map]
  rfl
theorem keyW_inj {v w : WordT} (h : keyW v = keyW w) : v = w := (List.map_inj_right (fun x y z => Sum.inr.inj z)).mp h
def getA (es : Ents) (w : WordT) : Option Amt := (es.find? fun e => decide (e.1 = w)).map (·.2)
def putA (es : Ents) (w : WordT) (x : Amt) : Ents := if (es.any fun e => decide (e.1 = w)) = true then es.map (fun e => if e.1 = w then (e.1, x) else e) else es ++ [(w, x)]
def addA (es : Ents) (g : WordT × Amt) : Ents := putA es g.1 (match getA es g.1 with | some y => sumF y g.2 | none => g.2)
def foundF (gs : Ents) : Ents := gs.foldl addA []
theorem foundF_snoc (gs : Ents) (g : WordT × Amt) : foundF (gs ++ [g]) = addA (foundF gs) g := by
  unfold foundF
  rw [List.foldl_append]
  rfl
theorem getA_any (es : Ents) (w : WordT) : (es.any fun e => decide (e.1 = w)) = (getA es w).isSome := by
  induction es with
  | nil => rfl
  | cons e es ih =>
    unfold getA at ih ⊢
    rw [List.any_cons, List.find?_cons]
    by_cases c : e.1 = w
    · rw [decide_eq_true c]
      rfl
    · rw [decide_eq_false c, Bool.false_or, ih]
theorem getA_mem {es : Ents} {w : WordT} {x : Amt} (h : getA es w = some x) : (w, x) ∈ es := by
  unfold getA at h
  cases q : es.find? fun e => decide (e.1 = w) with
  | none => rw [q] at h; cases h
  | some e =>
    rw [q] at h
    have h1 := List.mem_of_find?_eq_some q
    have h0 := List.find?_some (p := fun e : WordT × Amt => decide (e.1 = w)) q
    have h2 : e.1 = w := of_decide_eq_true h0
    have h3 : e.2 = x := Option.some.inj h
    rw [← h2, ← h3]
    exact h1
theorem getA_of {es : Ents} (nd : (es.map (·.1)).Nodup) {w : WordT} {x : Amt} (h : (w, x) ∈ es) : getA es w = some x := by
  induction es with
  | nil => cases h
  | cons e es ih =>
    rw [List.map_cons, List.nodup_cons] at nd
    unfold getA
    rw [List.find?_cons]
    by_cases c : e.1 = w
    · rw [decide_eq_true c]
      rcases List.mem_cons.mp h with h | h
      · rw [← h]
        rfl
      · exact absurd (List.mem_map.mpr ⟨(w, x), h, c.symm⟩) nd.1
    · rw [decide_eq_false c]
      refine ih nd.2 ((List.mem_cons.mp h).resolve_left fun z => c (by rw [← z]))
theorem putA_keys (es : Ents) (w : WordT) (x : Amt) : (putA es w x).map (·.1) = if (getA es w).isSome = true then es.map (·.1) else es.map (·.1) ++ [w] := by
  unfold putA
  rw [getA_any]
  split
  · rw [List.map_map]
    refine List.map_congr_left fun e _ => ?_
    show (if e.1 = w then (e.1, x) else e).1 = e.1
    split <;> rfl
  · rw [List.map_append]
    rfl
theorem getA_none {es : Ents} {w : WordT} (h : getA es w = none) : w ∉ es.map (·.1) := fun hm => by
  obtain ⟨e, he, rfl⟩ := List.mem_map.mp hm
  have := getA_any es e.1
  rw [h] at this
  have t : (es.any fun f => decide (f.1 = e.1)) = true := List.any_eq_true.mpr ⟨e, he, decide_eq_true rfl⟩
  rw [t] at this
  cases this
theorem putA_nodup {es : Ents} (nd : (es.map (·.1)).Nodup) (w : WordT) (x : Amt) : ((putA es w x).map (·.1)).Nodup := by
  rw [putA_keys]
  cases h : getA es w with
  | none =>
    rw [if_neg (by decide)]
    exact List.nodup_append.mpr ⟨nd, by simp, fun a ha b hb e => getA_none h (by rw [List.mem_singleton.mp hb] at e; rw [← e]; exact ha)⟩
  | some y =>
    rw [if_pos (by rfl)]
    exact nd
theorem found_nodup : ∀ (gs acc : Ents), (acc.map (·.1)).Nodup → ((gs.foldl addA acc).map (·.1)).Nodup
  | [], acc, h => h
  | g :: gs, acc, h => found_nodup gs (addA acc g) (putA_nodup h _ _)
theorem putA_len (es : Ents) (w : WordT) (x : Amt) : (putA es w x).length ≤ es.length + 1 := by
  unfold putA
  split
  · rw [List.length_map]
    omega
  · rw [List.length_append]
    exact Nat.le_refl _
theorem found_len : ∀ (gs acc : Ents), (gs.foldl addA acc).length ≤ acc.length + gs.length
  | [], acc => Nat.le_refl _
  | g :: gs, acc => by
    have h1 := found_len gs (addA acc g)
    have h2 := putA_len acc g.1 (match getA acc g.1 with | some y => sumF y g.2 | none => g.2)
    have h3 : (addA acc g).length ≤ acc.length + 1 := h2
    show (gs.foldl addA (addA acc g)).length ≤ _
    rw [List.length_cons]
    omega
theorem putA_all {Pr : Amt → Prop} {es : Ents} (h : ∀ e ∈ es, Pr e.2) {w : WordT} {x : Amt} (hx : Pr x) : ∀ e ∈ putA es w x, Pr e.2 := fun e he => by
  unfold putA at he
  split at he
  · obtain ⟨f, hf, rfl⟩ := List.mem_map.mp he
    by_cases c : f.1 = w
    · rw [if_pos c]
      exact hx
    · rw [if_neg c]
      exact h f hf
  · rcases List.mem_append.mp he with he | he
    · exact h e he
    · rw [List.mem_singleton.mp he]
      exact hx
/-- denominators stay below -/
theorem found_q {b : Nat} (b1 : 1 ≤ b) : ∀ gs : Ents, (∀ g ∈ gs, 1 ≤ g.2.2 ∧ g.2.2 ≤ b) → ∀ e ∈ foundF gs, 1 ≤ e.2.2 ∧ e.2.2 ≤ ((b ^ gs.length : Nat) : Int) := by
  have key : ∀ (n : Nat) (gs : Ents), gs.length = n → (∀ g ∈ gs, 1 ≤ g.2.2 ∧ g.2.2 ≤ b) → ∀ e ∈ foundF gs, 1 ≤ e.2.2 ∧ e.2.2 ≤ ((b ^ gs.length : Nat) : Int) := by
    intro n
    induction n with
    | zero =>
      intro gs hn h e he
      obtain rfl := List.length_eq_zero_iff.mp hn
      cases he
    | succ n ih =>
      intro gs hn h e he
      obtain ⟨gs, g, rfl⟩ : ∃ (a : Ents) (c : WordT × Amt), gs = a ++ [c] := ⟨gs.dropLast, gs.getLast (fun z => by rw [z] at hn; simp at hn), (List.dropLast_concat_getLast _).symm⟩
      rw [foundF_snoc] at he
      have hl : gs.length = n := by simpa using hn
      have hg := h g (List.mem_append.mpr (.inr (List.mem_singleton.mpr rfl)))
      have hi := ih gs hl fun f hf => h f (List.mem_append.mpr (.inl hf))
      have pw : 1 ≤ b ^ gs.length := Nat.one_le_pow _ _ b1
      have eq : b ^ (gs ++ [g]).length = b ^ gs.length * b := by
        rw [List.length_append]
        show b ^ (gs.length + 1) = _
        exact Nat.pow_succ _ _
      rw [eq]
      have up : ∀ q : Int, 1 ≤ q ∧ q ≤ ((b ^ gs.length : Nat) : Int) → 1 ≤ q ∧ q ≤ ((b ^ gs.length * b : Nat) : Int) := fun q hq => by
        have : b ^ gs.length ≤ b ^ gs.length * b := Nat.le_mul_of_pos_right _ b1
        omega
      refine putA_all (Pr := fun x => 1 ≤ x.2 ∧ x.2 ≤ ((b ^ gs.length * b : Nat) : Int)) (fun f hf => up _ (hi f hf)) ?_ e he
      cases hq : getA (foundF gs) g.1 with
      | none =>
        refine ⟨hg.1, ?_⟩
        have : b ≤ b ^ gs.length * b := Nat.le_mul_of_pos_left _ pw
        show g.2.2 ≤ _
        omega
      | some y =>
        have hy := hi _ (getA_mem hq)
        have hm : y.2 * g.2.2 ≤ ((b ^ gs.length * b : Nat) : Int) := by
          rw [Int.natCast_mul]
          exact Int.mul_le_mul hy.2 hg.2 (by omega) (by omega)
        have h1 : 1 ≤ y.2 * g.2.2 := Int.mul_pos (by have := hy.1; show 0 < y.2; exact this) (by omega)
        have := share_q (p := y.1 * g.2.2 + g.2.1 * y.2) h1
        exact ⟨this.1, Int.le_trans this.2 hm⟩
  exact fun gs => key gs.length gs rfl
/-! ### in order -/
def encWd (w : WordT) : PyData := .tuple [.int (-(w.length : Int)), .tuple (w.map .str)]
def sortWords (ws : List WordT) : List WordT := ws.mergeSort (PySem.W.dataLe false encWd)
def liveF (es : Ents) : List WordT := (es.filter fun e => decide (e.2 ≠ ((0, 1) : Amt))).map (·.1)
def gatherF (gs : Ents) : Ents := (sortWords (liveF (foundF gs))).map fun w => (w, (getA (foundF gs) w).getD (0, 1))
theorem gather_len (gs : Ents) : (gatherF gs).length ≤ gs.length := by
  unfold gatherF sortWords liveF
  rw [List.length_map, List.length_mergeSort, List.length_map]
  have h1 := List.length_filter_le (fun e : WordT × Amt => decide (e.2 ≠ ((0, 1) : Amt))) (foundF gs)
  have h2 := found_len gs []
  unfold foundF at h1 ⊢
  simp at h2
  omega
theorem gather_one {w : WordT} {x : Amt} (h : x ≠ (0, 1)) : gatherF [(w, x)] = [(w, x)] := by
  have f : foundF [(w, x)] = [(w, x)] := rfl
  unfold gatherF
  rw [f]
  have l : liveF [(w, x)] = [w] := by
    unfold liveF
    rw [List.filter_cons, if_pos (decide_eq_true h)]
    rfl
  rw [l]
  have s : sortWords [w] = [w] := by
    unfold sortWords
    exact List.mergeSort_singleton _
  rw [s]
  unfold getA
  simp
/-- the entries of a dict -/
def EntsAt (H : Hp) (kvs : List (List Key × V)) (es : Ents) : Prop := Paired (fun (kv : List Key × V) (e : WordT × Amt) => kv.1 = keyW e.1 ∧ ∃ m, kv.2 = .ref m ∧ AmtAt H m e.2) kvs es
theorem EntsAt.same {H H' : Hp} {kvs : List (List Key × V)} {es : Ents} (h : EntsAt H kvs es) (s : Same H H') : EntsAt H' kvs es := pmono (fun kv e ⟨h1, m, h2, h3⟩ => ⟨h1, m, h2, s _ _ h3⟩) h
theorem EntsAt.get {H : Hp} : ∀ {kvs : List (List Key × V)} {es : Ents} (w : WordT), EntsAt H kvs es → match getA es w with | some x => ∃ m, valV kvs (keyW w) = some (.ref m) ∧ AmtAt H m x | none => valV kvs (keyW w) = none
  | _, _, w, .nil => rfl
  | _, _, w, .cons (a := kv) (b := e) (l₁ := kvs) (l₂ := es) h t => by
    obtain ⟨h1, m, h2, h3⟩ := h
    by_cases c : e.1 = w
    · have eg : getA (e :: es) w = some e.2 := by
        unfold getA
        rw [List.find?_cons, decide_eq_true c]
        rfl
      rw [eg]
      exact ⟨m, by rw [valV_pos (by rw [h1, c])]; exact congrArg some h2, h3⟩
    · have eg : getA (e :: es) w = getA es w := by
        unfold getA
        rw [List.find?_cons, decide_eq_false c]
      have ev : valV (kv :: kvs) (keyW w) = valV kvs (keyW w) := valV_neg fun z => c (keyW_inj (h1.symm.trans z))
      rw [eg, ev]
      exact EntsAt.get w t
theorem pmap_both {α β γ δ : Type} {F : α → β → Prop} {G : γ → δ → Prop} {f : α → γ} {g : β → δ} (h : ∀ x y, F x y → G (f x) (g y)) : ∀ {xs : List α} {ys : List β}, Paired F xs ys → Paired G (xs.map f) (ys.map g)
  | _, _, .nil => .nil
  | _, _, .cons a t => .cons (h _ _ a) (pmap_both h t)
theorem EntsAt.put {H : Hp} {kvs : List (List Key × V)} {es : Ents} {w : WordT} {m : Addr} {x : Amt} (h : EntsAt H kvs es) (hm : AmtAt H m x) : EntsAt H (putK kvs (keyW w) (.ref m)) (putA es w x) := by
  have hg := h.get w
  unfold putK putA
  rw [valV_any, getA_any]
  cases q : getA es w with
  | none =>
    rw [q] at hg
    rw [show valV kvs (keyW w) = none from hg, if_neg (by decide), if_neg (by decide)]
    exact h.snoc ⟨rfl, m, rfl, hm⟩
  | some y =>
    rw [q] at hg
    obtain ⟨m2, e2, _⟩ := hg
    rw [e2, if_pos (by rfl), if_pos (by rfl)]
    refine pmap_both (fun kv e ⟨h1, m3, h2, h3⟩ => ?_) h
    by_cases c : e.1 = w
    · rw [if_pos (h1.trans (congrArg keyW c)), if_pos c]
      exact ⟨h1, m, rfl, hm⟩
    · rw [if_neg (fun z => c (keyW_inj (h1.symm.trans z))), if_neg c]
      exact ⟨h1, m3, h2, h3⟩
theorem putA_new {es : Ents} {w : WordT} (x : Amt) (h : w ∉ es.map (·.1)) : putA es w x = es ++ [(w, x)] := by
  unfold putA
  rw [if_neg]
  rw [Bool.not_eq_true, List.any_eq_false]
  intro e he
  have : ¬ e.1 = w := fun z => h (List.mem_map.mpr ⟨e, he, z⟩)
  simpa using this
theorem live_snoc {es : Ents} {i : Nat} {e : WordT × Amt} (h : es[i]? = some e) : liveF (es.take (i + 1)) = if e.2 ≠ (0, 1) then liveF (es.take i) ++ [e.1] else liveF (es.take i) := by
  unfold liveF
  rw [take_snoc h, List.filter_append, List.map_append, List.filter_cons]
  by_cases c : e.2 ≠ ((0, 1) : Amt)
  · rw [if_pos (decide_eq_true c), if_pos c]
    rfl
  · rw [if_neg (by rw [decide_eq_false c]; decide), if_neg c]
    simp
theorem live_sub (es : Ents) : List.Sublist (liveF es) (es.map (·.1)) := List.Sublist.map _ List.filter_sublist
/-- the words of the sorted pairs -/
theorem sort_words {its : List SortD.IW} (h : ∀ t ∈ its, t.2.1 = -(t.2.2.2.length : Int)) : (SortD.sortF SortD.encW its).map (fun t => t.2.2.2) = sortWords (its.map fun t => t.2.2.2) := by
  unfold SortD.sortF sortWords
  refine PySem.W.sort_maps (fun t : SortD.IW => t.2.2.2) fun a ha b hb => ?_
  have ea : SortD.encW a = encWd a.2.2.2 := by
    unfold SortD.encW encWd
    rw [h a ha]
  have eb : SortD.encW b = encWd b.2.2.2 := by
    unfold SortD.encW encWd
    rw [h b hb]
  show (!PySem.W.dataLt (SortD.encW b) (SortD.encW a)) = (!PySem.W.dataLt (encWd b.2.2.2) (encWd a.2.2.2))
  rw [ea, eb]
theorem sort_perm (ws : List WordT) : (sortWords ws).Perm ws := List.mergeSort_perm _ _
end My
/-! forms: what stands for the same word gathered -/
namespace My
open PySem PySem.Spec PyProof.Rows L2
theorem un64 {k : Nat} {A : Around} (r : Room k A) : A.units + 64 < cLine := by
  have := r.un
  omega
theorem op_eqDK {X : Cx} (K : PySem.W.Frag) (hK : X.K = K) (hu : X.A.units + 64 < cLine) : OpR X (compareOp .Eq) (rEqD K) := by
  subst hK
  exact op_eqD hu
theorem op_neDK {X : Cx} (K : PySem.W.Frag) (hK : X.K = K) (hu : X.A.units + 64 < cLine) : OpR X (compareOp .NotEq) (rNeD K) := by
  subst hK
  exact op_neD hu
structure TxtN (K : PySem.W.Frag) (mg : Str → Option Value) (kn : Addr) : Prop where
  m_NOTHING : mg "NOTHING" = some (.ref kn)
  t_NOTHING : ∀ H, SqT K H kn [.int 0, .int 1]
def PairAt (H : Hp) (p : Addr) (g : WordT × Amt) : Prop := ∃ w m, H p = some (.tup [.ref w, .ref m]) ∧ H w = some (.tup (g.1.map V.str)) ∧ AmtAt H m g.2
theorem PairAt.same {H H' : Hp} {p : Addr} {g : WordT × Amt} (h : PairAt H p g) (s : Same H H') : PairAt H' p g := by
  obtain ⟨w, m, h1, h2, h3⟩ := h
  exact ⟨w, m, s _ _ h1, s _ _ h2, s _ _ h3⟩
def spGather : Sp := fun vs H Q _ => ∃ (a : Addr) (ps : List Addr) (gs : Ents) (b : Nat), vs = [.ref a] ∧ H a = some (.lst (ps.map V.ref)) ∧ Paired (PairAt H) ps gs ∧ gs.length ≤ 1000 ∧ 1 ≤ b ∧ b < 2 ^ 60 ∧ b ^ gs.length < 2 ^ 150 ∧ (∀ g ∈ gs, 1 ≤ g.2.2 ∧ g.2.2 ≤ b ∧ g.2.1.natAbs < 2 ^ 60) ∧
  ∀ (H' : Hp) (D : Addr) (kvs : List (List Key × V)), Same H H' → H D = none → H' D = some (.dT kvs) → EntsAt H' kvs (gatherF gs) → Q (.ref D) H'
theorem EntsAt.putD {H : Hp} {D : Addr} {kvs : List (List Key × V)} {o1 o2 : HO} {es : Ents} (h : EntsAt H kvs es) (e : H D = some o1) (nt : ∀ xs, o1 ≠ .tup xs := by intro _ z; cases z) : EntsAt (upd H D o2) kvs es := pmono (fun kv en ⟨h1, m, h2, h3⟩ => ⟨h1, m, h2, by
  unfold AmtAt
  rw [upd_ne (ne_of h3 e (fun z => nt _ z.symm))]
  exact h3⟩) h
theorem val_at {k : List Key} {v : V} : ∀ {kvs : List (List Key × V)}, (kvs.map (·.1)).Nodup → (k, v) ∈ kvs → valV kvs k = some v
  | [], _, h => by cases h
  | kv :: kvs, nd, h => by
    rw [List.map_cons, List.nodup_cons] at nd
    by_cases c : kv.1 = k
    · rw [valV_pos c]
      rcases List.mem_cons.mp h with h | h
      · rw [← h]
      · exact absurd (List.mem_map.mpr ⟨(k, v), h, c.symm⟩) nd.1
    · rw [valV_neg c]
      exact val_at nd.2 ((List.mem_cons.mp h).resolve_left fun z => c (by rw [← z]))
theorem nodup_new {α : Type} {xs : List α} {i : Nat} {x : α} (nd : xs.Nodup) (h : xs[i]? = some x) : x ∉ xs.take i := fun hm => by
  obtain ⟨j, hj, e⟩ := List.mem_take_iff_getElem.mp hm
  obtain ⟨hi, e2⟩ := List.getElem?_eq_some_iff.mp h
  have := (List.getElem_inj nd).mp (e.trans e2.symm)
  omega
theorem ne_nothing (x : Amt) : (!PyData.eqv (.tuple [.int x.1, .int x.2]) (.tuple [.int 0, .int 1])) = decide (x ≠ ((0, 1) : Amt)) := by
  obtain ⟨p, q⟩ := x
  unfold PyData.eqv PyData.eqvAll
  unfold PyData.eqv PyData.eqvAll
  unfold PyData.eqv PyData.eqvAll
  by_cases h1 : p = 0 <;> by_cases h2 : q = 1 <;> simp [h1, h2]
theorem ents_keys {H : Hp} {kvs : List (List Key × V)} {es : Ents} (h : EntsAt H kvs es) : kvs.map (·.1) = (es.map (·.1)).map keyW := by
  induction h with
  | nil => rfl
  | cons h t ih => rw [List.map_cons, List.map_cons, List.map_cons, ih, h.1]
section
variable {P : Program} {w : World} {K : PySem.W.Frag} {mg : Str → Option Value} {base : Heap} {kn : Addr}
theorem ok_gathered (F : Fn K mg "gathered" s_gathered ["pairs"]) (B : Blt mg) (T : TxtN K mg kn) (G_sum_of_shares : Has P w K mg base 3 "sum_of_shares" ["x", "y"] spSum) : Has P w K mg base 4 "gathered" ["pairs"] spGather := by
  refine F.has sc_gathered (fun vs H Q E h => ?_) (fun f cdv A outer s H vs Q E hr h => ?_)
  · obtain ⟨a, _, _, _, rfl, _⟩ := h
    rfl
  obtain ⟨a, ps, gs, b, rfl, ha, pg, lg, b1, b60, bp, hg, q⟩ := h
  refine ⟨_, (pss_cons (ps_set (i := 1) sc_gathered.nd rfl (Or.inr rfl) pe_dnewT)
      (pss_cons (ps_for PassesOwn.never rfl (pi_list (pv 0)) (pg_tup rfl (pgs_cons (pg_name (i := 2) sc_gathered.nd rfl (Or.inl rfl)) (pgs_cons (pg_name (i := 3) sc_gathered.nd rfl (Or.inl rfl)) pgs_nil)))
        (pss_one (ps_dput (hu_of hr) (pv 1) (pv 2) (pe_ifExp (pt_cmp (pc_din (hu_of hr) (pv 2) (pv 1))) (pe_own G_sum_of_shares (hr.mono (by decide)) (by rfl) (pa_cons (pe_dget (hu_of hr) (pv 1) (pv 2) (fun _ _ => rfl)) (pa_cons (pv 3) pa_nil))) (pv 3)) (by rfl))))
      (pss_cons (ps_set (i := 4) sc_gathered.nd rfl (Or.inl rfl) (pe_callB (SortD.cr_sortW K rfl (un64 hr)) (by rfl) B.sorted bb_sorted (pa_cons (pe_lock (pe_lc (own := [("word", 2)]) (g := gName 2) (by rfl) sc_gathered.nd (pi_keys (pv 1)) (blkOk_by (own := [("word", 2)]) (N := N_gathered) (sc := defScope s_gathered) (by decide +kernel)) (fun _ _ _ _ _ => (pg_name (i := 2) sc_gathered.nd rfl (Or.inl rfl))) (fun _ _ _ _ _ => (pts_one (pt_cmpR (op_neDK K rfl (un64 hr)) (pe_dget (hu_of hr) (pv 1) (pv 2) (fun _ _ => rfl)) (pe_gref T.m_NOTHING (by rfl)) (nomark _)))) (fun _ _ _ _ _ => (pe_tup (pa_cons (pe_un un_neg (pe_callB (NK.call_lenK K rfl) (by rfl) B.len bb_len (pa_cons (pv 2) pa_nil))) (pa_cons (pv 2) pa_nil)))))) pa_nil)))
      (pss_one (ps_ret (DcT.pe_dcT (own := [("_", 5), ("word", 2)]) (g := gTup K 2 (gCons (gName 5) (gCons (gName 2) gNil))) (tt := tYes) (by rfl) sc_gathered.nd (hu_of hr) (pi_list (pv 4)) (blkOk_by (own := [("_", 5), ("word", 2)]) (N := N_gathered) (sc := defScope s_gathered) (by decide +kernel)) (fun _ _ _ _ _ => (pg_tup rfl (pgs_cons (pg_name (i := 5) sc_gathered.nd rfl (Or.inl rfl)) (pgs_cons (pg_name (i := 2) sc_gathered.nd rfl (Or.inl rfl)) pgs_nil)))) (fun _ _ _ _ _ => pts_nil) (fun _ _ _ _ _ => (pv 2)) (fun _ _ _ _ _ => (pe_dget (hu_of hr) (pv 1) (pv 2) (fun _ _ => rfl))))))))), ?_⟩
  have lps := plen pg
  refine fun D nD => ?_
  have cD := same_upd (o := .dT []) nD
  refine ⟨_, rfl, a, rfl, ⟨_, SqL.of (cD _ _ ha)⟩, for_list (xs := ps.map V.ref) (fun i σ H' => ∃ y2 y3, σ = [some (.ref a), some (.ref D), y2, y3, none, none] ∧ Same H H' ∧ ∃ kvs, H' D = some (.dT kvs) ∧ EntsAt H' kvs (foundF (gs.take i)))
    ⟨_, _, rfl, cD, [], upd_same, .nil⟩ (fun i σ H' _ e => by obtain ⟨_, _, _, s, _⟩ := e; exact SqL.of (s _ _ ha)) ?_ ?_⟩
  · rintro i v σ Ha hv ⟨y2, y3, rfl, sa, kvs, eD, ea⟩
    obtain ⟨p, hp, rfl⟩ := at_map hv
    have hi := (List.getElem?_eq_some_iff.mp hp).1
    obtain ⟨p', g, hp', hgi, w, m, h1, h2, h3⟩ := pat pg (by omega : i < gs.length)
    rw [hp] at hp'
    cases hp'
    obtain ⟨q1, q2, q3⟩ := hg g (List.mem_of_getElem? hgi)
    have hw : Ha w = some (.tup ((keyW g.1).map kV)) := by
      rw [keyW_kV]
      exact sa _ _ h2
    have hm := sa _ _ h3
    have tk : foundF (gs.take (i + 1)) = addA (foundF (gs.take i)) g := by rw [take_snoc hgi, foundF_snoc]
    have lt : (gs.take i).length = i := by
      rw [List.length_take]
      omega
    have lk : kvs.length ≤ 1000 := by
      have l1 := plen ea
      have l2 := found_len (gs.take i) []
      unfold foundF at l1
      rw [l1]
      simp at l2
      omega
    have fq := found_q b1 (gs.take i) (fun f hf => ⟨(hg f (List.mem_of_mem_take hf)).1, (hg f (List.mem_of_mem_take hf)).2.1⟩)
    have gt := ea.get g.1
    refine ⟨p, _, rfl, SqT.of (sa _ _ h1), rfl, _, _, rfl, _, _, rfl, rfl, ?_⟩
    refine ⟨_, rfl, _, rfl, D, _, rfl, DGet.t eD hw, ?_⟩
    have fin : ∀ (H1 : Hp) (t : Addr) (x : Amt), Same Ha H1 → AmtAt H1 t x → foundF (gs.take (i + 1)) = putA (foundF (gs.take i)) g.1 x → Same H (upd H1 D (.dT (putK kvs (keyW g.1) (.ref t)))) ∧ EntsAt (upd H1 D (.dT (putK kvs (keyW g.1) (.ref t)))) (putK kvs (keyW g.1) (.ref t)) (foundF (gs.take (i + 1))) := fun H1 t x s1 hx ef => by
      refine ⟨fun c o hc => ?_, ?_⟩
      · rw [upd_ne (ne_of_none hc nD)]
        exact s1 _ _ (sa _ _ hc)
      · rw [ef]
        exact ((ea.same s1).put hx).putD (s1 _ _ eD)
    cases hq : getA (foundF (gs.take i)) g.1 with
    | none =>
      rw [hq] at gt
      have gt : valV kvs (keyW g.1) = none := gt
      have ef : foundF (gs.take (i + 1)) = putA (foundF (gs.take i)) g.1 g.2 := by
        rw [tk]
        unfold addA
        rw [hq]
      obtain ⟨f1, f2⟩ := fin Ha m g.2 (Same.refl _) hm ef
      rw [gt]
      refine ⟨_, rfl, iteF ⟨_, rfl, _, rfl, _, rfl, D, _, rfl, DPut.t eD hw (small1000 lk), _, _, rfl, f1, _, upd_same, f2⟩⟩
    | some y =>
      rw [hq] at gt
      obtain ⟨m2, e2, hy⟩ := (gt : ∃ m, valV kvs (keyW g.1) = some (.ref m) ∧ AmtAt Ha m y)
      have ef : foundF (gs.take (i + 1)) = putA (foundF (gs.take i)) g.1 (sumF y g.2) := by
        rw [tk]
        unfold addA
        rw [hq]
      obtain ⟨y1, y2'⟩ := fq _ (getA_mem hq)
      have big : y.2 * g.2.2 < 2 ^ 150 := by
        have h0 : y.2 * g.2.2 ≤ ((b ^ i * b : Nat) : Int) := by
          rw [Int.natCast_mul]
          rw [lt] at y2'
          exact Int.mul_le_mul y2' q2 (by omega) (by omega)
        have h1 : b ^ i * b ≤ b ^ gs.length := by
          rw [← Nat.pow_succ]
          exact Nat.pow_le_pow_right b1 (by omega)
        omega
      rw [e2]
      refine ⟨_, rfl, iteT ⟨_, rfl, _, rfl, D, _, rfl, by rw [← e2]; exact DGet.t eD hw, _, rfl, m2, m, y, g.2, rfl, hy, hm, y1, q1, big, by omega, q3, fun H1 t s1 nt ht => ?_⟩⟩
      obtain ⟨f1, f2⟩ := fin H1 t _ s1 ht ef
      exact ⟨_, rfl, _, rfl, D, _, rfl, DPut.t (s1 _ _ eD) (s1 _ _ hw) (small1000 lk), _, _, rfl, f1, _, upd_same, f2⟩
  · rintro σ H1 ⟨y2, y3, rfl, s1, kvs, eD, ea⟩
    rw [List.length_map, lps, List.take_length] at ea
    obtain ⟨es, hes⟩ : ∃ es, es = foundF gs := ⟨_, rfl⟩
    rw [← hes] at ea
    have nd : (es.map (·.1)).Nodup := by
      rw [hes]
      exact found_nodup gs [] List.nodup_nil
    have les : es.length ≤ 1000 := by
      have l2 := found_len gs []
      unfold foundF at hes
      rw [hes]
      simp at l2
      omega
    have lk : kvs.length = es.length := plen ea
    refine ⟨D, .dT kvs, eD, True.intro, fun od => ⟨_, rfl, D, od, rfl, .inr ⟨kvs, upd_same, fun L nL => ?_⟩⟩⟩
    obtain ⟨F1, hF1⟩ : ∃ F1, F1 = upd H1 D (.frz od (.dT kvs)) := ⟨_, rfl⟩
    rw [← hF1] at nL ⊢
    have eF : F1 D = some (.frz od (.dT kvs)) := by rw [hF1]; exact upd_same
    have sF : ∀ c o, H c = some o → F1 c = some o := fun c o hc => by
      rw [hF1, upd_ne (ne_of_none hc nD)]
      exact s1 _ _ hc
    have aF : EntsAt F1 kvs es := by
      rw [hF1]
      exact ea.putD eD
    refine lc_it walk_keysT (fun i H' => Same F1 H' ∧ ∃ its : List SortD.IW, H' L = some (.lst (its.map fun t => V.ref t.1)) ∧ (∀ t ∈ its, SortD.AtW H' t ∧ t.2.1 = -(t.2.2.2.length : Int)) ∧ its.map (fun t => t.2.2.2) = liveF (es.take i)) ⟨same_upd nL, [], upd_same, (fun t ht => by cases ht), rfl⟩ (fun i H' _ e => e.1 _ _ eF) ?_ ?_
    · rintro i v Ha Hb hi ⟨sa, its, eL, hat, hw⟩ ⟨rfl, k, vv, qa, hk, rfl, hq⟩
      obtain ⟨kv, e, hkv, he, hk1, m, hm1, hm2⟩ := pat aF (by omega : i < es.length)
      rw [hk] at hkv
      cases hkv
      obtain rfl : k = keyW e.1 := hk1
      obtain rfl : vv = .ref m := hm1
      have ge : getA es e.1 = some e.2 := getA_of nd (List.mem_of_getElem? he)
      have gv : valV kvs (keyW e.1) = some (.ref m) := val_at (by rw [ents_keys aF]; exact List.Pairwise.map keyW (fun _ _ h z => h (keyW_inj z)) nd) (List.mem_of_getElem? hk)
      have eq : Hb qa = some (.tup ((e.1).map V.str)) := by rw [← keyW_kV]; exact hq
      have em := sa _ _ hm2
      refine ⟨rfl, ⟨_, rfl, _, rfl, D, _, rfl, .inr ⟨kvs, _, qa, .inr ⟨od, sa _ _ eF⟩, rfl, hq, gv.symm⟩, ?_⟩⟩
      refine ⟨_, _, Dp.tup (SqT.of em) (.cons (.int _) (.cons (.int _) .nil)), Dp.tup (T.t_NOTHING _) (.cons (.int _) (.cons (.int _) .nil)), rfl, rfl, _, rfl, ?_⟩
      have ec : (!PyData.eqv (.tuple [.int e.2.1, .int e.2.2]) (.tuple [.int 0, .int 1])) = decide (e.2 ≠ ((0, 1) : Amt)) := ne_nothing _
      rw [ec]
      by_cases c : e.2 ≠ ((0, 1) : Amt)
      · rw [decide_eq_true c]
        refine iteT ?_
        refine ⟨_, rfl, _, _, rfl, .inr ⟨_, SqT.of eq, rfl⟩, _, rfl, _, rfl, (by show 2 ≤ sizeLine; decide), fun t nt => ?_⟩
        have u1 := same_upd (o := .tup [V.int (-(((e.1.map V.str).length : Nat) : Int)), V.ref qa]) nt
        have ntL : L ≠ t := fun z => by
          rw [z, nt] at eL
          cases eL
        have ll : its.length ≤ 1000 := by
          have h1 := congrArg List.length hw
          rw [List.length_map] at h1
          have h2 := (live_sub (es.take i)).length_le
          rw [List.length_map, List.length_take] at h2
          omega
        refine ⟨_, u1 _ _ eL, small1000 (by rw [List.length_map]; omega), fun c o hc => ?_, its ++ [(t, -(e.1.length : Int), qa, e.1)], ?_, fun x hx => ?_, ?_⟩
        · rw [upd_ne (ne_of_none hc nL)]
          exact u1 _ _ (sa _ _ hc)
        · rw [upd_same, List.map_append]
          rfl
        · have keep : ∀ {c : Addr} {vs : List V}, upd Hb t (.tup [V.int (-(((e.1.map V.str).length : Nat) : Int)), V.ref qa]) c = some (.tup vs) → upd (upd Hb t (.tup [V.int (-(((e.1.map V.str).length : Nat) : Int)), V.ref qa])) L (.lst ((its.map fun t => V.ref t.1) ++ [V.ref t])) c = some (.tup vs) := fun {c vs} hc => by
            rw [upd_ne (ne_of hc (u1 _ _ eL) (by intro z; cases z))]
            exact hc
          rcases List.mem_append.mp hx with hx | hx
          · obtain ⟨⟨h1, h2⟩, h3⟩ := hat x hx
            exact ⟨⟨keep (u1 _ _ h1), keep (u1 _ _ h2)⟩, h3⟩
          · rw [List.mem_singleton.mp hx]
            refine ⟨⟨keep ?_, keep (u1 _ _ eq)⟩, rfl⟩
            rw [upd_same, List.length_map]
        · rw [List.map_append, hw, live_snoc he, if_pos c]
          rfl
      · rw [decide_eq_false c]
        refine iteF ⟨sa, its, eL, hat, ?_⟩
        rw [hw, live_snoc he, if_neg c]
    · rintro H2 ⟨s2, its, eL, hat, hw⟩
      have e2 := s2 _ _ eF
      obtain ⟨H3, hH3⟩ : ∃ H3, H3 = upd H2 D (.dT kvs) := ⟨_, rfl⟩
      have neL : L ≠ D := fun z => by
        rw [z] at nL
        rw [nL] at eF
        cases eF
      have s3 : Same H H3 := fun c o hc => by
        rw [hH3, upd_ne (ne_of_none hc nD)]
        exact s2 _ _ (sF _ _ hc)
      have e3 : H3 D = some (.dT kvs) := by rw [hH3]; exact upd_same
      have a3 : EntsAt H3 kvs es := by
        rw [hH3]
        exact (aF.same s2).putD e2
      refine ⟨e2, ?_⟩
      rw [← hH3]
      have l3 : H3 L = some (.lst (its.map fun t => V.ref t.1)) := by
        rw [hH3, upd_ne neL]
        exact eL
      have at3 : ∀ t ∈ its, SortD.AtW H3 t := fun t ht => by
        obtain ⟨h1, h2⟩ := (hat t ht).1
        rw [hH3]
        exact ⟨by rw [upd_ne (ne_of h1 e2 (by intro z; cases z))]; exact h1, by rw [upd_ne (ne_of h2 e2 (by intro z; cases z))]; exact h2⟩
      rw [List.take_of_length_le (by omega)] at hw
      refine ⟨L, its, rfl, SqL.of l3, at3, fun p np => ?_⟩
      obtain ⟨ts, hts⟩ : ∃ ts, ts = SortD.sortF SortD.encW its := ⟨_, rfl⟩
      have wts : ts.map (fun t => t.2.2.2) = sortWords (liveF es) := by rw [hts, sort_words fun t ht => (hat t ht).2, hw]
      have mts : ∀ t ∈ ts, t ∈ its := fun t ht => by
        rw [hts] at ht
        exact (List.mergeSort_perm its _).mem_iff.mp ht
      rw [← hts]
      obtain ⟨H4, hH4⟩ : ∃ H4, H4 = upd H3 p (.lst (ts.map fun t => V.ref (SortD.adW t))) := ⟨_, rfl⟩
      have s34 : Same H3 H4 := by rw [hH4]; exact same_upd np
      have ndw : (sortWords (liveF es)).Nodup := (sort_perm _).nodup_iff.mpr (List.Sublist.nodup (live_sub es) nd)
      have lw : (sortWords (liveF es)).length ≤ 1000 := by
        rw [(sort_perm (liveF es)).length_eq]
        have h2 := (live_sub es).length_le
        rw [List.length_map] at h2
        omega
      have ltw : ts.length = (sortWords (liveF es)).length := by rw [← wts, List.length_map]
      refine ⟨_, rfl, p, rfl, ⟨_, SqL.of upd_same⟩, fun D2 nD2 => ?_⟩
      rw [← hH4] at nD2 ⊢
      refine DcT.dcT_it (walk_list (xs := ts.map fun t => V.ref (SortD.adW t))) (fun i H' => Same H4 H' ∧ ∃ kvs2, H' D2 = some (.dT kvs2) ∧ EntsAt H' kvs2 (((sortWords (liveF es)).take i).map fun w => (w, (getA es w).getD (0, 1)))) ⟨same_upd nD2, [], upd_same, .nil⟩ (fun i H' _ e => SqL.of (e.1 _ _ (by rw [hH4]; exact upd_same))) ?_ ?_
      · rintro i v Ha Hb hi ⟨sa, kvs2, eD2, ea2⟩ ⟨rfl, hv⟩
        rw [List.getElem?_map] at hv
        cases ht : ts[i]? with
        | none =>
          rw [ht] at hv
          cases hv
        | some t =>
          rw [ht] at hv
          obtain rfl : V.ref (SortD.adW t) = v := Option.some.inj hv
          have hm := mts t (List.mem_of_getElem? ht)
          obtain ⟨h1, h2⟩ := at3 t hm
          have g1 := sa _ _ (s34 _ _ h1)
          have g2 : Hb t.2.2.1 = some (.tup ((keyW t.2.2.2).map kV)) := by
            rw [keyW_kV]
            exact sa _ _ (s34 _ _ h2)
          have hwi : (sortWords (liveF es))[i]? = some t.2.2.2 := by
            rw [← wts, List.getElem?_map, ht]
            rfl
          have mw : t.2.2.2 ∈ es.map (·.1) := (live_sub es).subset ((sort_perm _).mem_iff.mp (List.mem_of_getElem? hwi))
          have ge := (a3.same (s34.trans sa)).get t.2.2.2
          cases hq : getA es t.2.2.2 with
          | none => exact absurd mw (getA_none hq)
          | some x =>
            rw [hq] at ge
            obtain ⟨m, gv, hx⟩ := (ge : ∃ m, valV kvs (keyW t.2.2.2) = some (.ref m) ∧ AmtAt Hb m x)
            refine ⟨_, _, rfl, SqT.of g1, rfl, _, _, rfl, _, _, rfl, rfl, rfl, ?_⟩
            refine tYes_ok ⟨_, rfl, _, rfl, _, rfl, D, _, rfl, by rw [← gv]; exact DGet.t (sa _ _ (s34 _ _ e3)) g2, kvs2, _, _, rfl, g2, eD2, small1000 ?_, fun c o hc => ?_, _, upd_same, ?_⟩
            · rw [plen ea2, List.length_map, List.length_take]
              omega
            · rw [upd_ne (ne_of_none hc nD2)]
              exact sa _ _ hc
            · rw [take_snoc hwi, List.map_append]
              have new : t.2.2.2 ∉ (((sortWords (liveF es)).take i).map fun w => (w, (getA es w).getD ((0, 1) : Amt))).map (·.1) := by
                rw [List.map_map]
                have : ((fun e : WordT × Amt => e.1) ∘ fun w => (w, (getA es w).getD ((0, 1) : Amt))) = id := rfl
                rw [this, List.map_id]
                exact nodup_new ndw hwi
              have pn := putA_new x new
              have ee : ([t.2.2.2].map fun w => (w, (getA es w).getD ((0, 1) : Amt))) = [(t.2.2.2, x)] := by
                show [(t.2.2.2, (getA es t.2.2.2).getD ((0, 1) : Amt))] = _
                rw [hq]
                rfl
              rw [ee, ← pn]
              exact (ea2.put hx).putD eD2
      · rintro H5 ⟨s5, kvs2, eD2, ea2⟩
        rw [List.length_map, List.take_of_length_le (by omega)] at ea2
        refine q H5 D2 kvs2 (s3.trans (s34.trans s5)) ?_ eD2 ?_
        · cases z : H D2 with
          | none => rfl
          | some o =>
            have := s34 _ _ (s3 _ _ z)
            rw [nD2] at this
            cases this
        · rw [hes] at ea2
          exact ea2
end
end My
/-! forms: the making -/
namespace My
open PySem PySem.Spec PyProof.Rows L2
theorem pi_or {X : Cx} {tg e : Expr} {t1 t2 : TI} (h1 : PI X tg e t1) (h2 : PI X tg e t2) : PI X tg e (fun σ H R => t1 σ H R ∨ t2 σ H R) :=
  ⟨fun pins s σ H R I h => h.elim (h1.run pins s σ H R I) (h2.run pins s σ H R I)⟩
structure FCls (K : PySem.W.Frag) (C : Addr) : Prop where
  cl : Cls K C
  n1 : NoAttr K C "_shares"
def FormAt (C : Addr) (H : Hp) (a : Addr) (es : Ents) : Prop := ∃ dx D kvs, H a = some (.ins C dx [("_shares", .ref D)]) ∧ H D = some (.dT kvs) ∧ EntsAt H kvs es
theorem FormAt.same {C : Addr} {H H' : Hp} {a : Addr} {es : Ents} (h : FormAt C H a es) (s : Same H H') : FormAt C H' a es := by
  obtain ⟨dx, D, kvs, h1, h2, h3⟩ := h
  exact ⟨dx, D, kvs, s _ _ h1, s _ _ h2, h3.same s⟩
/-- a good term -/
def TermOf (d : TermD) (g : WordT × Amt) : Prop := ∃ p q : Int, d = .tri (.names (g.1.map V.str)) (.int p) (.int q) ∧ wordB (.names (g.1.map V.str)) = true ∧ 1 ≤ q ∧ q < 2 ^ 150 ∧ g.2 = shareF p q
def Mild (gs : Ents) : Prop := gs.length ≤ 100 ∧ ∃ b : Nat, 1 ≤ b ∧ b < 2 ^ 60 ∧ b ^ gs.length < 2 ^ 150 ∧ ∀ g ∈ gs, 1 ≤ g.2.2 ∧ g.2.2 ≤ b ∧ g.2.1.natAbs < 2 ^ 60
theorem TermOf.good {d : TermD} {g : WordT × Amt} (h : TermOf d g) : termB d = true := by
  obtain ⟨p, q, rfl, h1, h2, _⟩ := h
  show (wordB _ && (true && (true && decide (1 ≤ q)))) = true
  rw [h1, decide_eq_true h2]
  rfl
def InitG (C CT : Addr) (K : PySem.W.Frag) (t : Addr) (H : Hp) (G : Ents → Prop) (E : XK) : Prop :=
  (∃ xs ds gs, H t = some (.lst xs) ∧ Paired (TermAt H) xs ds ∧ Paired TermOf ds gs ∧ Mild gs ∧ G (gatherF gs)) ∨
  (∃ xs ds n d, H t = some (.lst xs) ∧ Paired (TermAt H) xs ds ∧ ds.length ≤ 100 ∧ ds[n]? = some d ∧ termB d = false ∧ (∀ j e, j < n → ds[j]? = some e → termB e = true) ∧ ∀ H' d, Same H H' → H' d = none → E (.ref CT) (some d) (upd H' d (.xd (errD "at" "InvalidTerm" (.int (n : Nat)))))) ∨
  ((∀ H' : Hp, SqT K H' t []) ∧ G [])
def spInitF (K : PySem.W.Frag) (C CT : Addr) : Sp := fun vs H Q E => ∃ (a dx t : Addr), vs = [.ref a, .ref t] ∧ H a = some (.ins C dx []) ∧ InitG C CT K t H (fun es => ∀ H', Kp a H H' → FormAt C H' a es → Q .non H') E
theorem PairAt.putL {H : Hp} {D p : Addr} {g : WordT × Amt} {xs : List V} {o : HO} (h : PairAt H p g) (e : H D = some (.lst xs)) : PairAt (upd H D o) p g := by
  obtain ⟨w, m, h1, h2, h3⟩ := h
  have k : ∀ {b : Addr} {vs : List V}, H b = some (.tup vs) → upd H D o b = some (.tup vs) := fun hb => by
    rw [upd_ne (ne_of hb e (by intro z; cases z))]
    exact hb
  exact ⟨w, m, k h1, k h2, k h3⟩
theorem pget2 {α β : Type} {F : α → β → Prop} {xs : List α} {ys : List β} {i : Nat} {x : α} (h : Paired F xs ys) (hx : xs[i]? = some x) : ∃ y, ys[i]? = some y ∧ F x y := by
  have hi := (List.getElem?_eq_some_iff.mp hx).1
  rw [plen h] at hi
  obtain ⟨x', y, e1, e2, f⟩ := pat h hi
  rw [hx] at e1
  cases e1
  exact ⟨y, e2, f⟩
section
variable {P : Program} {w : World} {K : PySem.W.Frag} {mg : Str → Option Value} {base : Heap} {C CT CE fT xT dT' : Addr}
theorem ok_initF {dvs : List V} {f : Addr} {fd : FuncData} (R : FCls K C) (B : Blt mg) (E_InvalidTerm : ErrX.ErrTxt P K mg "InvalidTerm" "at" "InvalidTerm" CT fT xT dT') (D : FunD K "__init__" "Form.__init__" (defArgs s_Form_init) (defBody s_Form_init) (defScope s_Form_init) dvs [] f fd)
    (G_is_term : Has P w K mg base 3 "is_term" ["value"] spTerm) (G_share : HasX P w K mg base 2 "share" ["p", "q"] (spShare CE)) (G_gathered : Has P w K mg base 4 "gathered" ["pairs"] spGather) :
    FnOk P w K mg base (L2.CX P w) 5 f fd ["self", "terms"] (spInitF K C CT) := by
  refine D.ok sc_Form_init (fun vs H Q E h => ?_) (fun cdv A outer s H vs Q E hr h => ?_)
  · obtain ⟨a, dx, t, rfl, _⟩ := h
    rfl
  obtain ⟨a, dx, t, rfl, ha, h⟩ := h
  have TK : Takes (cxOf (L2.CX P w) P w K mg base N_Form_init "Form.__init__" (defScope s_Form_init) f cdv A outer s H E) (fun cls d _ H => E cls d H) := takes_of rfl rfl rfl rfl
  refine ⟨_, (pss_cons (ps_for (passes_of rfl) rfl (pi_or (NK.pi_enumK K rfl (by rfl) B.enumerate (pa_cons (pv 1) pa_nil)) (EM.pi_enumT K rfl (by rfl) B.enumerate (pa_cons (pv 1) pa_nil))) (pg_tup rfl (pgs_cons (pg_name (i := 2) sc_Form_init.nd rfl (Or.inl rfl)) (pgs_cons (pg_name (i := 3) sc_Form_init.nd rfl (Or.inl rfl)) pgs_nil)))
        (pss_one (ps_if (pt_not (pt_val (pe_own G_is_term (hr.mono (by decide)) (by rfl) (pa_cons (pv 3) pa_nil))))
        (pss_one (ps_raise rfl TK (pmk_err E_InvalidTerm hr (pa_cons (pv 2) pa_nil) (by rfl))))
        pss_nil)))
      (pss_one (ps_fld (pv 0) (pe_own G_gathered (hr.mono (by decide)) (by rfl) (pa_cons (pe_lc (own := [("word", 4), ("p", 5), ("q", 6)]) (g := gTup K 3 (gCons (gName 4) (gCons (gName 5) (gCons (gName 6) gNil)))) (tt := tYes) (by rfl) sc_Form_init.nd (pi_or (NK.pi_listK K rfl (pv 1)) (NK.pi_tupK K rfl (pv 1))) (blkOk_by (own := [("word", 4), ("p", 5), ("q", 6)]) (N := N_Form_init) (sc := defScope s_Form_init) (by decide +kernel)) (fun _ _ _ _ _ => (pg_tup rfl (pgs_cons (pg_name (i := 4) sc_Form_init.nd rfl (Or.inl rfl)) (pgs_cons (pg_name (i := 5) sc_Form_init.nd rfl (Or.inl rfl)) (pgs_cons (pg_name (i := 6) sc_Form_init.nd rfl (Or.inl rfl)) pgs_nil))))) (fun _ _ _ _ _ => pts_nil) (fun _ _ _ _ _ => (pe_tup (pa_cons (pv 4) (pa_cons (pe_ownX G_share (hr.mono (by decide)) (by rfl) (pa_cons (pv 5) (pa_cons (pv 6) pa_nil))) pa_nil))))) pa_nil)) rfl))), ?_⟩
  rcases h with ⟨xs, ds, gs, ht, pt, pg, ⟨lg, b, b1, b60, bp, hg⟩, q⟩ | ⟨xs, ds, n, d, ht, pt, lt, hn, hd, before, q⟩ | ⟨ht, q⟩
  · have lx := plen pt
    have ld := plen pg
    refine .inl ⟨_, rfl, t, _, rfl, SqL.of ht, for_it (walk_enum (xs := xs)) (fun i σ H' => ∃ y2 y3, σ = [some (.ref a), some (.ref t), y2, y3, none, none, none] ∧ Same H H') ⟨_, _, rfl, Same.refl _⟩ (fun i σ H' _ e => by obtain ⟨_, _, _, e⟩ := e; exact SqL.of (e _ _ ht)) ?_ ?_⟩
    · rintro i v σ Ha Hb hi ⟨y2, y3, rfl, sa⟩ ⟨U, x, y, rfl, hU, rfl, hx, hy⟩
      obtain ⟨d, hd, htd⟩ := pget2 pt hy
      obtain ⟨g, hg1, hdg⟩ := pget2 pg hd
      have ex : x = V.int (i : Nat) := (Option.some.inj hx).symm
      subst ex
      have sU := same_upd (o := .tup [.int (i : Nat), y]) hU
      refine ⟨U, [.int (i : Nat), y], rfl, SqT.of upd_same, rfl, .int (i : Nat), [y], rfl, y, [], rfl, rfl, ?_⟩
      refine ⟨_, rfl, y, d, rfl, (htd.same sa).same sU, fun H3 s3 => ⟨_, rfl, ?_⟩⟩
      rw [hdg.good]
      exact iteF ⟨_, _, rfl, sa.trans (sU.trans s3)⟩
    · rintro σ H1 ⟨y2, y3, rfl, s1⟩
      refine .inl ⟨_, rfl, t, rfl, ⟨_, SqL.of (s1 _ _ ht)⟩, fun D nD => ?_⟩
      refine lc_it (walk_list (xs := xs)) (fun i H' => Same H1 H' ∧ ∃ ps : List Addr, H' D = some (.lst (ps.map V.ref)) ∧ Paired (PairAt H') ps (gs.take i)) ⟨same_upd nD, [], upd_same, .nil⟩ (fun i H' _ e => SqL.of (e.1 _ _ (s1 _ _ ht))) ?_ ?_
      · rintro i v Ha Hb hi ⟨sa, ps, ea, pp⟩ ⟨rfl, hv⟩
        obtain ⟨d, hd, htd⟩ := pget2 pt hv
        obtain ⟨g, hg1, pp', qq', rfl, wb, h1, h2, hs⟩ := pget2 pg hd
        obtain ⟨a0, x, rfl, h3, ⟨wa, rfl, h4, _, _⟩, _, _⟩ := (htd.same s1).same sa
        refine ⟨_, _, rfl, SqT.of h3, rfl, _, _, rfl, _, _, rfl, _, _, rfl, rfl, rfl, ?_⟩
        refine tYes_ok ⟨_, rfl, _, rfl, _, rfl, .inl ⟨pp', qq', rfl, h1, h2, fun m nm => ⟨(by show 2 ≤ sizeLine; decide), fun T nT => ?_⟩⟩⟩
        have u1 := same_upd (o := .tup [V.int (shareF pp' qq').1, V.int (shareF pp' qq').2]) nm
        have u2 := same_upd (o := .tup [V.ref wa, V.ref m]) nT
        have eD := u2 _ _ (u1 _ _ ea)
        refine ⟨_, eD, small1000 ?_, fun c o hc => ?_, ps ++ [T], ?_, ?_⟩
        · have := plen pp
          rw [List.length_map, this, List.length_take]
          omega
        · rw [upd_ne (ne_of_none hc nD)]
          exact u2 _ _ (u1 _ _ (sa _ _ hc))
        · rw [upd_same, List.map_append]
          rfl
        · rw [take_snoc hg1]
          refine Paired.snoc (pmono (fun c g h => ((h.same u1).same u2).putL eD) pp) (PairAt.putL ⟨wa, m, upd_same, u2 _ _ (u1 _ _ h4), ?_⟩ eD)
          rw [hs]
          exact u2 _ _ upd_same
      · rintro H2 ⟨s2, ps, ea, pp⟩
        rw [List.take_of_length_le (by omega)] at pp
        refine ⟨D, ps, gs, b, rfl, ea, pp, by omega, b1, b60, bp, hg, fun H3 D3 kvs s3 nD3 eD3 eA => ?_⟩
        have s03 := s1.trans (s2.trans s3)
        have ha3 := s03 _ _ ha
        refine ⟨_, rfl, a, C, dx, [], rfl, ha3, R.cl, R.n1, by decide, ?_⟩
        have neD : D3 ≠ a := fun z => by
          rw [z] at eD3
          rw [eD3] at ha3
          cases ha3
        exact q _ ((Kp.of s03).trans Kp.upd) ⟨dx, D3, kvs, upd_same, by rw [upd_ne neD]; exact eD3, eA.putD ha3⟩
  · have lx := plen pt
    have ln := (List.getElem?_eq_some_iff.mp hn).1
    refine .inl ⟨_, rfl, t, _, rfl, SqL.of ht, for_it (walk_enum (xs := xs)) (fun i σ H' => i ≤ n ∧ ∃ y2 y3, σ = [some (.ref a), some (.ref t), y2, y3, none, none, none] ∧ Same H H') ⟨Nat.zero_le _, _, _, rfl, Same.refl _⟩ (fun i σ H' _ e => by obtain ⟨_, _, _, _, e⟩ := e; exact SqL.of (e _ _ ht)) ?_ ?_⟩
    · rintro i v σ Ha Hb hi ⟨le, y2, y3, rfl, sa⟩ ⟨U, x, y, rfl, hU, rfl, hx, hy⟩
      obtain ⟨d2, hd2, htd⟩ := pget2 pt hy
      have ex : x = V.int (i : Nat) := (Option.some.inj hx).symm
      subst ex
      have sU := same_upd (o := .tup [.int (i : Nat), y]) hU
      refine ⟨U, [.int (i : Nat), y], rfl, SqT.of upd_same, rfl, .int (i : Nat), [y], rfl, y, [], rfl, rfl, ?_⟩
      refine ⟨_, rfl, y, d2, rfl, (htd.same sa).same sU, fun H3 s3 => ⟨_, rfl, ?_⟩⟩
      rcases Nat.lt_or_eq_of_le le with c | c
      · rw [before i d2 c hd2]
        exact iteF ⟨c, _, _, rfl, sa.trans (sU.trans s3)⟩
      · rw [c, hn] at hd2
        cases hd2
        rw [hd]
        refine iteT ⟨_, rfl, .int (i : Nat), rfl, fun x hx => ?_⟩
        rw [c]
        exact q _ x (sa.trans (sU.trans s3)) hx
    · rintro σ H1 ⟨le, _⟩
      omega
  · refine .inr ⟨_, rfl, t, [], rfl, ht H, for_it (EM.walk_enumT (xs := [])) (fun i σ H' => ∃ y2 y3, σ = [some (.ref a), some (.ref t), y2, y3, none, none, none] ∧ Same H H') ⟨_, _, rfl, Same.refl _⟩ (fun i σ H' _ e => ht H') ?_ ?_⟩
    · rintro i v σ Ha Hb hi
      exact absurd hi (Nat.not_lt_zero _)
    · rintro σ H1 ⟨y2, y3, rfl, s1⟩
      refine .inr ⟨_, rfl, t, rfl, ⟨_, ht H1⟩, fun D nD => ?_⟩
      refine lc_it (walk_tup (xs := [])) (fun i H' => Same H1 H' ∧ H' D = some (.lst [])) ⟨same_upd nD, upd_same⟩ (fun i H' _ e => ht H') ?_ ?_
      · rintro i v Ha Hb hi
        exact absurd hi (Nat.not_lt_zero _)
      · rintro H2 ⟨s2, ea⟩
        refine ⟨D, [], [], 1, rfl, ea, .nil, by decide, by decide, by decide, by decide, (fun g hg => by cases hg), fun H3 D3 kvs s3 nD3 eD3 eA => ?_⟩
        have s03 := s1.trans (s2.trans s3)
        have ha3 := s03 _ _ ha
        refine ⟨_, rfl, a, C, dx, [], rfl, ha3, R.cl, R.n1, by decide, ?_⟩
        have neD : D3 ≠ a := fun z => by
          rw [z] at eD3
          rw [eD3] at ha3
          cases ha3
        have eg : gatherF [] = [] := List.length_eq_zero_iff.mp (Nat.le_zero.mp (gather_len []))
        rw [eg] at eA
        exact q _ ((Kp.of s03).trans Kp.upd) ⟨dx, D3, kvs, upd_same, by rw [upd_ne neD]; exact eD3, eA.putD ha3⟩
end
end My
/-! forms: of pairs; the word; lengths and shares -/
namespace My
open PySem PySem.Spec PyProof.Rows L2
/-- the class, with its default -/
structure FormC (P : Program) (w : World) (K : PySem.W.Frag) (mg : Str → Option Value) (base : Heap) (C CT e0 : Addr) : Prop where
  ex : ∃ (f : Addr) (fd : FuncData), Mk K C f ∧ FnOk P w K mg base (L2.CX P w) 5 f fd ["self", "terms"] (spInitF K C CT) ∧ mg "Form" = some (.ref C) ∧ Binds K fd ["self", "terms"] [] ∧ Binds K fd ["self", "terms"] [.ref e0]
  e0 : ∀ H : Hp, SqT K H e0 []
theorem FormC.mk' {P : Program} {w : World} {K : PySem.W.Frag} {mg : Str → Option Value} {base : Heap} {C CT e0 : Addr} (h : FormC P w K mg base C CT e0) : HasCX P w K mg base 5 "Form" C ["self", "terms"] (spInitF K C CT) := by
  obtain ⟨f, fd, M, F, m, b, _⟩ := h.ex
  exact ⟨f, fd, M, F, m, b⟩
section
variable {X : Cx} {C CT e0 : Addr} {p pos : Pos}
/-- Form() -/
theorem pe_form0 (R : FormC X.prog X.w X.K X.mg X.base C CT e0) (hr : Room 6 X.A) (hg : Gl X "Form") :
    PE X (.Call (.Name "Form" p) [] [] pos) (fun _ H Q => ∀ H' a, Same H H' → H a = none → FormAt C H' a [] → Q (.ref a) H') := by
  obtain ⟨f, fd, M, F, m, _, b⟩ := R.ex
  refine ⟨fun pins s σ H Q I h => ?_⟩
  refine (pe_make0 (E := E0) (dvs := [.ref e0]) M F hr hg m b (.cons rfl .nil) passL).run pins s σ H Q I fun x dx h1 h2 h3 => ?_
  have s1 : Same H (upd (upd H dx (.own x)) x (.ins C dx [])) := fun b o e => by
    rw [upd_ne (ne_of_none e h1), upd_ne (ne_of_none e h2)]
    exact e
  exact ⟨x, dx, e0, rfl, upd_same, .inr (.inr ⟨R.e0, fun H' kp hf => ⟨rfl, h H' x (fun b u e => kp b u (ne_of_none e h1) (s1 b u e)) h1 hf⟩⟩)⟩
end
def spFormOf (C : Addr) : Sp := fun vs H Q _ => ∃ (a : Addr) (ps : List Addr) (gs : Ents), vs = [.ref a] ∧ H a = some (.lst (ps.map V.ref)) ∧ Paired (PairAt H) ps gs ∧ Mild gs ∧ ∀ (H' : Hp) (x : Addr), Same H H' → H x = none → FormAt C H' x (gatherF gs) → Q (.ref x) H'
/-- a static method with *args that may raise -/
structure HasStX (P : Program) (w : World) (K : PySem.W.Frag) (mg : Str → Option Value) (base : Heap) (k : Nat) (C : Addr) (m : Str) (sp : Sp) : Prop where
  ex : ∃ p g : Addr, ClX.CRead K C (.type "type") ∧ OwO.CStat K C (.type "type") m p g ∧ FnR P w K mg base (L2.CX P w) k g sp ∧ PySem.W.keepIn K (.ref g) = true
section
variable {X : Cx} {k : Nat} {C : Addr} {sp : Sp} {E : XK} {o e : Expr} {es : List Expr} {m : Str} {pos apos : Pos} {ta : TE} {t : TA} {pl : Sem Bool}
/-- C.m(e, ..) -/
theorem pe_statX (he : PE X o ta) (h : HasStX X.prog X.w X.K X.mg X.base k C m sp) (tk : Takes X (fun cls d _ H => E cls d H)) (hr : Room k X.A) (ha : PA X (e :: es) t)
    (hst : starEach (e :: es) X.env = (false, eval e X.env) :: starEach es X.env := by rfl) (hpl : (backTo pos (starEach es X.env)).any (·.1) = false := by rfl)
    (ht : eval (.Call (.Attribute o m apos) (e :: es) [] pos) X.env = (do
      let ov ← eval o X.env
      standAt apos.atName
      let (f, first) ← holding [ov] (getMethod ov m pl)
      callWith pos f first (backTo pos (starEach (e :: es) X.env)) (backToKw pos (keywordEach [] X.env))) := by rfl) :
    PE X (.Call (.Attribute o m apos) (e :: es) [] pos) (fun σ H Q => ta σ H fun x H1 => x = .ref C ∧ t σ H1 fun vs H2 => sp vs H2 Q E) := by
  obtain ⟨p, g, r, c, F, hk⟩ := h.ex
  refine ⟨fun pins s σ H Q I h => ?_⟩
  refine PySem.W.methodCall_KW (pl := pl) (thn (he.run pins s σ H _ I h) fun u s1 ⟨x, H1, I1, rx, ex, q⟩ => ?_) ht
  subst ex
  obtain rfl : u = Value.ref C := rx
  refine OwO.getmethst_ok I1 r c fun s2 I2 => ?_
  refine PySem.W.callWith_K (h₀ := X.base) I2.ok.mod.kin hk (thn (ha.run pos pins s2 σ H1 _ I2 q) fun us s3 ⟨vs, H2, I3, rv, q2⟩ => ⟨I3.kIn, ?_⟩) hst hpl
  exact wpAny_call (run_fnR F hr (passes_call tk fun _ _ _ _ h => h) I3 rv q2)
end
/-- Form.word: the error of the first value that is no name, the error of too many, or the form -/
def spWordS (C CN CD : Addr) : Sp := fun vs H Q E => vs.length ≤ 100 ∧ (∀ v ∈ vs, (∃ t, Typ H v t) ∧ ∀ z, v = .str z → z.length ≤ 1000) ∧
  match vs.find? fun v => !nameV v with
  | some v => ∀ H' d, Same H H' → H' d = none → E (.ref CN) (some d) (upd H' d (.xd (errD "given" "InvalidName" v)))
  | none => if vs.length ≤ 2 then ∀ (ws : WordT) (H' : Hp) (a : Addr), vs = ws.map V.str → Same H H' → H a = none → FormAt C H' a [(ws, (1, 1))] → Q (.ref a) H'
    else ∀ H' d, Same H H' → H' d = none → E (.ref CD) (some d) (upd H' d (.xd (errD "at" "DegreeTooHigh" .non)))
section
variable {P : Program} {w : World} {K : PySem.W.Frag} {mg : Str → Option Value} {base : Heap} {C CT CN CD e0 fN xN dN fD xD dD : Addr}
theorem ok_form_of (F : Fn K mg "form_of" s_form_of ["pairs"]) (R : FCls K C) (B : Blt mg) (FC : FormC P w K mg base C CT e0) (G_gathered : Has P w K mg base 4 "gathered" ["pairs"] spGather) : Has P w K mg base 7 "form_of" ["pairs"] (spFormOf C) := by
  refine F.has sc_form_of (fun vs H Q E h => ?_) (fun f cdv A outer s H vs Q E hr h => ?_)
  · obtain ⟨a, _, _, rfl, _⟩ := h
    rfl
  obtain ⟨a, ps, gs, rfl, ha, pg, ⟨lg, b, b1, b60, bp, hg⟩, q⟩ := h
  refine ⟨_, (pss_cons (ps_set (i := 1) sc_form_of.nd rfl (Or.inl rfl) (pe_form0 FC (hr.mono (by decide)) (by rfl)))
      (pss_cons (ps_fld (pv 1) (pe_own G_gathered (hr.mono (by decide)) (by rfl) (pa_cons (pv 0) pa_nil)) rfl)
      (pss_one (ps_ret (pv 1))))), ?_⟩
  refine fun H1 x s1 nx ⟨dx, D0, kvs0, h1, h2, h3⟩ => ?_
  refine ⟨_, rfl, a, ps, gs, b, rfl, s1 _ _ ha, pmono (fun c g h => h.same s1) pg, by omega, b1, b60, bp, hg, fun H2 D kvs s2 nD eD eA => ?_⟩
  have h12 := s2 _ _ h1
  refine ⟨_, rfl, x, C, dx, _, rfl, h12, R.cl, R.n1, by show 1 < 1000; decide, ?_⟩
  have neD : D ≠ x := fun z => by
    rw [z] at eD
    rw [eD] at h12
    cases h12
  refine ⟨_, rfl, q _ x (fun c o hc => ?_) nx ⟨dx, D, kvs, upd_same, by rw [upd_ne neD]; exact eD, eA.putD h12⟩⟩
  rw [upd_ne (ne_of_none hc nx)]
  exact s2 _ _ (s1 _ _ hc)
end
theorem mild_one (ws : WordT) : Mild [(ws, (1, 1))] := by
  refine ⟨by show 1 ≤ 100; decide, 1, by decide, by decide, ?_, fun g hg => ?_⟩
  · rw [Nat.one_pow]
    decide
  · rw [List.mem_singleton.mp hg]
    show (1 : Int) ≤ 1 ∧ (1 : Int) ≤ ((1 : Nat) : Int) ∧ (1 : Int).natAbs < 2 ^ 60
    decide
theorem spWordS.mono {C CN CD : Addr} {vs : List V} {H H' : Hp} {Q : VK} {E : XK} (h : spWordS C CN CD vs H Q E) (s : Same H H') : spWordS C CN CD vs H' Q E := by
  obtain ⟨h1, h2, h3⟩ := h
  refine ⟨h1, fun v hv => ⟨(h2 v hv).1.imp fun t e => e.same s, (h2 v hv).2⟩, ?_⟩
  cases e : vs.find? fun v => !nameV v with
  | some v =>
    rw [e] at h3
    exact fun H2 d s2 nd => h3 H2 d (s.trans s2) nd
  | none =>
    rw [e] at h3
    have h3 : if vs.length ≤ 2 then _ else _ := h3
    show if vs.length ≤ 2 then _ else _
    by_cases c : vs.length ≤ 2
    · rw [if_pos c] at h3 ⊢
      exact fun ws H2 a ev s2 na hf => h3 ws H2 a ev (s.trans s2) (s.free na) hf
    · rw [if_neg c] at h3 ⊢
      exact fun H2 d s2 nd => h3 H2 d (s.trans s2) nd
section
variable {P : Program} {w : World} {K : PySem.W.Frag} {mg : Str → Option Value} {base : Heap} {C CT CN CD e0 fN xN dN fD xD dD : Addr}
theorem ok_word (F : ∃ (p f : Addr) (fd : FuncData), Fun K "word" "Form.word" s_Form_word f fd ∧ ClX.CRead K C (.type "type") ∧ OwO.CStat K C (.type "type") "word" p f) (R : FCls K C) (B : Blt mg) (T : Deg mg) (E_InvalidName : ErrX.ErrTxt P K mg "InvalidName" "given" "InvalidName" CN fN xN dN)
    (E_DegreeTooHigh : ErrX.ErrTxt P K mg "DegreeTooHigh" "at" "DegreeTooHigh" CD fD xD dD) (G_is_name : Has P w K mg base 1 "is_name" ["value"] spIsName) (G_form_of : Has P w K mg base 7 "form_of" ["pairs"] (spFormOf C)) : HasStX P w K mg base 8 C "word" (spWordS C CN CD) := by
  obtain ⟨pp, f, fd, F, cr, cs⟩ := F
  have kp := F.kp
  obtain ⟨oc, od, kV, doc, pm, an, cdv, ct, osl, rfl, lk, hcd⟩ := F.ex
  have RR := StX.fn_star (P := P) (w := w) (mg := mg) (base := base) (CX := L2.CX P w) (k := 7) (sp := fun vs H Q E => ∃ (p : Addr) (ns : List V), vs = [.ref p] ∧ H p = some (.tup ns) ∧ spWordS C CN CD ns H Q E) (ps := []) (pv := "names") (N := N_Form_word) lk hcd sc_Form_word StX.cxUp (fun us rest hl => match us, rest, hl with | [], [], _ => rfl | [], _ :: _, _ => rfl) (fun A outer s H vs Q E hr h => by
    obtain ⟨p, ns, rfl, hp, l100, hv, h⟩ := h
    have TK : Takes (cxOf (L2.CX P w) P w K mg base N_Form_word "Form.word" (defScope s_Form_word) f cdv A outer s H E) (fun cls d _ H => E cls d H) := takes_of rfl rfl rfl rfl
    refine ⟨_, (pss_cons (ps_for (passes_of rfl) rfl (pi_tup (pv 0)) (pg_name (i := 1) sc_Form_word.nd rfl (Or.inl rfl))
        (pss_one (ps_if (pt_not (pt_val (pe_own G_is_name (hr.mono (by decide)) (by rfl) (pa_cons (pv 1) pa_nil))))
        (pss_one (ps_raise rfl TK (pmk_err E_InvalidName hr (pa_cons (pv 1) pa_nil) (by rfl))))
        pss_nil)))
      (pss_cons (ps_if (pt_cmpR op_gt (pe_callB call_len (by rfl) B.len bb_len (pa_cons (pv 0) pa_nil)) (pe_gint T.m_MOST_DEGREE (by rfl)) (nomark _))
        (pss_one (ps_raise rfl TK (pmk_err E_DegreeTooHigh hr (pa_cons pe_non pa_nil) (by rfl))))
        pss_nil)
      (pss_one (ps_ret (pe_own G_form_of (hr.mono (by decide)) (by rfl) (pa_cons (pe_lst (pa_cons (pe_tup (pa_cons (pv 0) (pa_cons (pe_tup (pa_cons pe_int (pa_cons pe_int pa_nil))) pa_nil))) pa_nil)) pa_nil)))))), ?_⟩
    cases hfd : ns.find? fun v => !nameV v with
    | some v =>
      rw [hfd] at h
      have h : ∀ H' d, Same H H' → H' d = none → E (.ref CN) (some d) (upd H' d (.xd (errD "given" "InvalidName" v))) := h
      obtain ⟨hb, n, ln, hn, before⟩ := List.find?_eq_some_iff_getElem.mp hfd
      refine ⟨_, rfl, p, rfl, ⟨_, SqT.of hp⟩, for_tup (xs := ns) (fun i σ H' => i ≤ n ∧ Same H H' ∧ ∃ y, σ = [some (.ref p), y]) ⟨Nat.zero_le _, Same.refl _, _, rfl⟩ (fun i σ H' _ e => SqT.of (e.2.1 _ _ hp)) ?_ ?_⟩
      · rintro i x σ H1 hx ⟨le, s1, y, rfl⟩
        have hm := hv x (List.mem_of_getElem? hx)
        obtain ⟨t, ht⟩ := hm.1
        refine ⟨_, rfl, x, t, rfl, ht.same s1, hm.2, fun H2 s2 => ⟨_, rfl, ?_⟩⟩
        rcases Nat.lt_or_eq_of_le le with c | c
        · have hb2 := before i c
          obtain ⟨li, ex⟩ := List.getElem?_eq_some_iff.mp hx
          have : nameV x = true := by
            rw [ex] at hb2
            simpa using hb2
          rw [this]
          exact iteF ⟨c, s1.trans s2, _, rfl⟩
        · subst c
          obtain ⟨li, ex⟩ := List.getElem?_eq_some_iff.mp hx
          have ev : x = v := ex.symm.trans hn
          subst ev
          have : nameV x = false := by simpa using hb
          rw [this]
          exact iteT ⟨_, rfl, x, rfl, fun d hd => h _ d (s1.trans s2) hd⟩
      · rintro σ H1 ⟨le, _⟩
        omega
    | none =>
      rw [hfd] at h
      have h : if ns.length ≤ 2 then _ else _ := h
      have all : ∀ x ∈ ns, nameV x = true := fun x hx => by
        have := List.find?_eq_none.mp hfd x hx
        simpa using this
      refine ⟨_, rfl, p, rfl, ⟨_, SqT.of hp⟩, for_tup (xs := ns) (fun i σ H' => Same H H' ∧ ∃ y, σ = [some (.ref p), y]) ⟨Same.refl _, _, rfl⟩ (fun i σ H' _ e => SqT.of (e.1 _ _ hp)) ?_ ?_⟩
      · rintro i x σ H1 hx ⟨s1, y, rfl⟩
        have hx := List.mem_of_getElem? hx
        have hm := hv x hx
        obtain ⟨t, ht⟩ := hm.1
        refine ⟨_, rfl, x, t, rfl, ht.same s1, hm.2, fun H2 s2 => ⟨_, rfl, ?_⟩⟩
        rw [all x hx]
        exact iteF ⟨s1.trans s2, _, rfl⟩
      · rintro σ H1 ⟨s1, y, rfl⟩
        refine ⟨_, rfl, .ref p, ns.length, rfl, .inr ⟨_, SqT.of (s1 _ _ hp), rfl⟩, _, _, rfl, rfl, _, rfl, ?_⟩
        by_cases c : ns.length ≤ 2
        · rw [if_pos c] at h
          refine ite_no (by rw [decide_eq_false (by omega)]; decide) ?_
          obtain ⟨ws, rfl⟩ : ∃ ws : WordT, ns = ws.map V.str := by
            refine ⟨ns.map fun v => match v with | .str z => z | _ => "", ?_⟩
            rw [List.map_map]
            refine (List.map_id ns).symm.trans (List.map_congr_left fun x hx => ?_)
            have := all x hx
            cases x with
            | str z => rfl
            | _ => cases this
          refine ⟨_, rfl, (by show 2 ≤ sizeLine; decide), fun m nm => ⟨(by show 2 ≤ sizeLine; decide), fun t nt => ⟨(by show 1 ≤ sizeLine; decide), fun l nl => ?_⟩⟩⟩
          have u1 := same_upd (o := .tup [V.int 1, V.int 1]) nm
          have u2 := same_upd (o := .tup [V.ref p, V.ref m]) nt
          have u3 := same_upd (o := .lst [V.ref t]) nl
          have s4 := s1.trans (u1.trans (u2.trans u3))
          refine ⟨l, [t], [(ws, (1, 1))], rfl, upd_same, .cons ⟨p, m, u3 _ _ upd_same, s4 _ _ hp, u3 _ _ (u2 _ _ upd_same)⟩ .nil, mild_one ws, fun H5 x s5 nx hf => ?_⟩
          rw [gather_one (by decide)] at hf
          exact h ws H5 x rfl (s4.trans s5) (s4.free nx) hf
        · rw [if_neg c] at h
          refine ite_of (decide_eq_true (by omega)) ⟨.non, rfl, fun d hd => ?_⟩
          exact h _ d s1 hd)
  refine ⟨pp, f, cr, cs, RR.imp fun vs H Q E h => ⟨[], vs, rfl, rfl, ?_, fun p hp => ⟨p, vs, rfl, upd_same, ?_⟩⟩, kp⟩
  · have := h.1
    exact Nat.le_of_lt (small1000 (by omega))
  · exact h.mono (same_upd hp)
end
end My
/-! the items of a dict whose keys are tuples -/
namespace DIt
open PySem PySem.Spec PyProof.Rows L2
/-- the pairs, each a new tuple of the key's own tuple and the value -/
def ItiT (d : Addr) (o : Obj) (kvs : List (List Key × V)) : It :=
  ⟨fun i H => H d = some (.frz o (.dT kvs)) ∧ i < kvs.length, fun i H x H' => ∃ T k v q, kvs[i]? = some (k, v) ∧ H q = some (.tup (k.map kV)) ∧ x = .ref T ∧ H T = none ∧ H' = upd H T (.tup [.ref q, v]), fun i H => H d = some (.frz o (.dT kvs)) ∧ kvs.length ≤ i⟩
section
variable {X : Cx} {pins : List (Addr × Obj)} {σ : L2.St} {H : Hp} {s : Shared} {d : Addr} {o : Obj}
theorem frzTV {kvs : List (List Key × V)} (I : Inv X pins σ H s) (h : H d = some (.frz o (.dT kvs))) :
    (d == sysModules) = false ∧ ∃ (es : Array DictEntry) (ep : Nat), s.heap.DictRaw d es ep ∧ o.data = .dict es ep ∧ es.size = kvs.length ∧
      ∀ (i : Nat) (k : List Key) (v : V), kvs[i]? = some (k, v) → ∃ (hi : i < es.size) (q : Addr), es[i].key = .ref q ∧ H q = some (.tup (k.map kV)) ∧ RelV v es[i].val := by
  obtain ⟨hd, z, hs, xs, pr, o', es, ep, ho, hx, hdt, he, _⟩ := I.hok d _ h
  rw [hd] at ho
  cases ho
  have l1 : es.size = xs.length := size_of_entries he
  have l2 : kvs.length = xs.length := Paired.length pr
  refine ⟨hs, es, ep, ⟨_, hd, hx, hdt⟩, hdt, by omega, fun i k v e => ?_⟩
  obtain ⟨b, hb, e1, e2, e3⟩ := paired_get pr e
  have q := entry_at he i
  rw [hb] at q
  obtain ⟨hi, qe⟩ := Array.getElem?_eq_some_iff.mp q
  exact ⟨hi, b.2.1, by rw [qe]; rfl, e2, by rw [qe]; exact e3⟩
end
section
variable {P : Program} {w : World} {K : PySem.W.Frag} {d : Addr} {o : Obj} {es : Array DictEntry} {ep : Nat}
theorem turn_itemsT {kvs : List (List Key × V)} {elts : List Expr} {kk : Nat} {tpos : Pos} (it : Addr) (hod : o.data = .dict es ep) :
    Turn P w K (.Tuple elts kk tpos) (ItiT d o kvs) [it] it (fun i h => ∃ ok ov, IsItemIter h it d i kvs.length ep ok ov) where
  mem := by simp
  obj := fun i h st b hb => by
    have e : b = it := by simpa using hb
    subst e
    obtain ⟨ok, ov, e⟩ := st
    exact ⟨_, e, fun v z => nomatch z⟩
  keep := fun i h h' st k => let ⟨ok, ov, e⟩ := st; ⟨ok, ov, k it (by simp) _ e⟩
  item := by
    intro X hP hw hK hc i pins s σ H E I hf st hg
    subst hP hw hK
    obtain ⟨hd, hi⟩ := hg
    obtain ⟨hs, es', ep', hm, hdt, hsz, ent⟩ := frzTV I hd
    obtain ⟨rfl, rfl⟩ := dict_ep hod hdt
    obtain ⟨⟨k, v⟩, hkv⟩ : ∃ p, kvs[i]? = some p := ⟨kvs[i], List.getElem?_eq_getElem hi⟩
    obtain ⟨hi', q, hkey, hq, rv⟩ := ent i k v hkv
    obtain ⟨ok, ov, he⟩ := st
    rw [← hsz] at he
    have hlt : it < s.heap.objs.size := Heap.lt_size he
    refine wpAny_pyNext_items_item_raw he hm hi' fun h' ho hT hz hk => ?_
    refine ⟨_, rfl, wpAny_letOwnedTupleGo_items (s := { s with heap := h' }) ho fun h'' he' sb => ?_⟩
    have hT2 : h''.get? s.heap.objs.size = some { cls := .type "tuple", data := .seq #[es'[i].key, es'[i].val] } := (sb.2 _ (Nat.ne_of_gt hlt)).trans hT
    have new : ObjOk X.prog X.w (upd H s.heap.objs.size (.tup [.ref q, v])) h'' s.heap.objs.size (.tup [.ref q, v]) :=
      ⟨by show 2 ≤ sizeLine; decide, [es'[i].key, es'[i].val], .cons hkey (.cons rv .nil), ⟨_, hT2, rfl, _, rfl⟩⟩
    have I1 : Inv X pins σ (upd H s.heap.objs.size (.tup [.ref q, v])) { s with heap := h'' } :=
      I.turnedNew (t' := s.toks) (ch := [it]) (fun b ob hb e => (sb.2 b (by simpa using hb)).trans (hk b ob (by simpa using hb) e)) hf (Nat.le_refl _) new
    refine ⟨.ref s.heap.objs.size, _, I1, rfl, ⟨_, k, v, q, hkv, hq, rfl, I.hok.fresh (Nat.le_refl _), rfl⟩, ⟨es'[i].key, es'[i].val, ?_⟩, fun b hb => ?_⟩
    · rw [← hsz]; exact he'
    · have e : b = it := by simpa using hb
      rw [e, upd_ne (Nat.ne_of_lt hlt)]
      exact (hf it (by simp)).1
  done := by
    intro X hP hw hK hc i pins s σ H E I hf st hg
    subst hP hw hK
    obtain ⟨hd, hi⟩ := hg
    obtain ⟨f0, f1, f2, f3, f4, f5⟩ := hf it (by simp)
    obtain ⟨hs, es', ep', hm, hdt, hsz, ent⟩ := frzTV I hd
    obtain ⟨rfl, rfl⟩ := dict_ep hod hdt
    obtain ⟨ok, ov, he⟩ := st
    rw [← hsz] at he
    exact wpAny_pyNext_items_end_raw (I.ok.hd hc) he hm (by omega) fun h' eb => ⟨rfl, I.turned (t' := s.toks) (fun b ob hb e => eb b ob hb e) f0 f1 f3 f4 f5⟩
  self := fun A i s Q E st h => let ⟨_, _, e⟩ := st; PySem.W.kcp_self e h
end
def iItemsT (td : TE) : TI := fun σ H R => td σ H fun x H1 => ∃ d o kvs, x = .ref d ∧ H1 d = some (.frz o (.dT kvs)) ∧ R (ItiT d o kvs) H1
section
variable {X : Cx} {tg e : Expr} {td : TE} {apos cpos : Pos}
theorem pi_itemsT {elts : List Expr} {kk : Nat} {tpos : Pos} (he : PE X e td) (hbase : attributeBase e "items" X.env (eval e X.env) = eval e X.env := by rfl) (hline : (apos.endLine == cpos.line) = true := by rfl) :
    PI X (.Tuple elts kk tpos) (.Call (.Attribute e "items" apos) [] [] cpos) (iItemsT td) := by
  refine ⟨fun pins s σ H R I h => ?_⟩
  refine wpAny_Call_method (T := "dict") (id := "dict.items") hbase rfl hline F.plainAttrs_dict F.slot_dict_items F.type_dict_items (thn (he.run pins s σ H _ I h) fun u s1 ⟨x, H1, I1, rx, d, o, kvs, ex, hd, q⟩ => ?_)
  subst ex
  obtain rfl : u = Value.ref d := rx
  obtain ⟨hs, es, ep, hm, hdt, hsz, ent⟩ := frzTV I1 hd
  refine ⟨hm.typeIs, ?_, ?_⟩
  · intro b e
    cases e
    obtain ⟨o1, h1, h2, _⟩ := hm
    exact ⟨o1, h1, h2.2.1⟩
  have I2 : Inv X pins σ H1 { s1 with heap := s1.heap.push { cls := .type "dict_items", data := .fields #[.ref d] } } := I1.kept (t' := s1.toks) fun b ob q => Heap.get?_push_of_some _ q
  have fin : wpAny (model X.prog X.w) X.A (pyIter (.ref s1.heap.objs.size)) (PIE X pins σ (.Tuple elts kk tpos) R) X.xe { s1 with heap := s1.heap.push { cls := .type "dict_items", data := .fields #[.ref d] } } := by
    refine wpAny_pyIter_items_raw (d := d) ⟨_, Heap.get?_push_size _ rfl, rfl, rfl⟩ (hm.at fun _ e => Heap.get?_push_of_some _ e) (pi_one (tk := s1.toks) I2 _ (turn_itemsT _ hdt) ⟨.none, .none, ?_⟩ q)
    rw [← hsz]
    exact Heap.get?_push_size _ rfl
  show wpAny _ _ (callWith cpos (.builtin "dict.items") [.ref d] [] []) _ X.xe s1
  exact method_meetsIn F.slot_dict_items F.entry_dict_items rfl (PySem.evalArgs_none ⟨rfl, hm.typeIs, F.args_dict_items_1 _, _, meets_dict_items_raw d hs, ⟨_, _, hm⟩, fin⟩)
end
theorem walk_itemsT {d : Addr} {o : Obj} {kvs : List (List Key × V)} : Walk (ItiT d o kvs) kvs.length (fun H => H d = some (.frz o (.dT kvs)))
    (fun i H x H' => ∃ T k v q, kvs[i]? = some (k, v) ∧ H q = some (.tup (k.map kV)) ∧ x = .ref T ∧ H T = none ∧ H' = upd H T (.tup [.ref q, v])) :=
  ⟨fun _ _ hi q => ⟨q, hi⟩, fun _ q => ⟨q, Nat.le_refl _⟩, fun _ _ _ _ _ _ y => y⟩
end DIt
/-! forms: lengths, shares, texts -/
namespace My
open PySem PySem.Spec PyProof.Rows L2
/-- an own method with *args -/
structure HasMR (P : Program) (w : World) (K : PySem.W.Frag) (mg : Str → Option Value) (base : Heap) (k : Nat) (C : Addr) (m : Str) (sp : Sp) : Prop where
  ex : ∃ f : Addr, FnR P w K mg base CX0 k f sp ∧ Meth K C m f
section
variable {X : Cx} {k : Nat} {m : Str} {sp : Sp} {pos apos : Pos} {o e : Expr} {es : List Expr} {ta : TE} {t : TA} {C : Addr}
theorem pe_ownMR {pl : Sem Bool} (c : Cls X.K C) (h : HasMR X.prog X.w X.K X.mg X.base k C m sp) (hr : Room k X.A) (he : PE X o ta) (ha : PA X (e :: es) t)
    (hst : starEach (e :: es) X.env = (false, eval e X.env) :: starEach es X.env := by rfl) (hpl : (backTo pos (starEach es X.env)).any (·.1) = false := by rfl)
    (ht : eval (.Call (.Attribute o m apos) (e :: es) [] pos) X.env = (do
      let ov ← eval o X.env
      standAt apos.atName
      let (f, first) ← holding [ov] (getMethod ov m pl)
      callWith pos f first (backTo pos (starEach (e :: es) X.env)) (backToKw pos (keywordEach [] X.env))) := by rfl) :
    PE X (.Call (.Attribute o m apos) (e :: es) [] pos) (tMeth C m sp [] E0 ta t) := by
  obtain ⟨f, F, hm⟩ := h.ex
  refine ⟨fun pins s σ H Q I h => ?_⟩
  refine PySem.W.methodCall_KW (pl := pl) (thn (he.run pins s σ H _ I h) fun u s1 ⟨x, H1, I1, rx, a, dx, fs, ex, ea, l, q⟩ => ?_) ht
  subst ex
  obtain rfl : u = Value.ref a := rx
  refine getmeth_ok I1 ea c hm l ?_
  refine PySem.W.callWith_K (first := [.ref a]) (h₀ := X.base) I.ok.mod.kin hm.kp (thn (ha.run pos pins s1 σ H1 _ I1 q) fun us s2 ⟨vs, H2, I2, r, q2⟩ => ⟨I2.kIn, ?_⟩) hst hpl
  exact wpAny_call (run_fnR (us := .ref a :: us) (vs := .ref a :: vs) F hr pass0 I2 (.cons rfl r) (by simpa using q2))
end
def spLenF (C : Addr) : Sp := fun vs H Q _ => ∃ (a : Addr) (es : Ents), vs = [.ref a] ∧ FormAt C H a es ∧ Q (.int (es.length : Nat)) H
def spShareOf (K : PySem.W.Frag) (C : Addr) : Sp := fun vs H Q _ => ∃ (a : Addr) (es : Ents) (ws : WordT), vs = .ref a :: ws.map V.str ∧ ws.length ≤ 100 ∧ FormAt C H a es ∧
  match getA es ws with
  | some x => ∀ H' m, Same H H' → AmtAt H' m x → Q (.ref m) H'
  | none => ∀ H' m, Same H H' → SqT K H' m [.int 0, .int 1] → Q (.ref m) H'
def spNever : Sp := fun _ _ _ _ => False
/-- two names with the share 1 -/
def spTermTwo : Sp := fun vs H Q _ => ∃ (a : Addr) (x y : Str), vs = [.ref a, .int 1, .int 1] ∧ H a = some (.tup [.str x, .str y]) ∧ x.length ≤ 1000 ∧ y.length ≤ 1000 ∧ ∀ H', Same H H' → Q (.str (x ++ "*" ++ y)) H'
def spTextTwo (C : Addr) : Sp := fun vs H Q _ => ∃ (a : Addr) (x y : Str), vs = [.ref a] ∧ FormAt C H a [([x, y], (1, 1))] ∧ x.length ≤ 1000 ∧ y.length ≤ 1000 ∧ ∀ H', Same H H' → Q (.str (x ++ "*" ++ y)) H'
section
variable {P : Program} {w : World} {K : PySem.W.Frag} {mg : Str → Option Value} {base : Heap} {C kn : Addr}
theorem ok_lenF {f : Addr} {fd : FuncData} (R : FCls K C) (B : Blt mg) (F : Fun K "__len__" "Form.__len__" s_Form_len f fd) : FnOk P w K mg base CX0 1 f fd ["self"] (spLenF C) := by
  refine F.ok sc_Form_len (fun vs H Q E h => ?_) (fun cdv A outer s H vs Q E hr h => ?_)
  · obtain ⟨a, es, rfl, _⟩ := h
    rfl
  obtain ⟨a, es, rfl, ⟨dx, D, kvs, h1, h2, h3⟩, q⟩ := h
  refine ⟨_, (pss_one (ps_ret (pe_callB call_len_dT (by rfl) B.len bb_len (pa_cons (L2.pe_fld (pv 0) rfl) pa_nil)))), ?_⟩
  have e := plen h3
  rw [← e] at q
  exact ⟨_, rfl, a, C, dx, _, _, rfl, h1, R.cl, R.n1, rfl, D, kvs, rfl, h2, q⟩
theorem ok_share_of (F : ∃ (f : Addr) (fd : FuncData), Fun K "share_of" "Form.share_of" s_Form_share_of f fd ∧ Meth K C "share_of" f) (R : FCls K C) (B : Blt mg) (T : TxtN K mg kn) : HasMR P w K mg base 2 C "share_of" (spShareOf K C) := by
  obtain ⟨f, fd, F, M⟩ := F
  obtain ⟨oc, od, kV, doc, pm, an, cdv, ct, osl, rfl, lk, hcd⟩ := F.ex
  have RR := StX.fn_star (P := P) (w := w) (mg := mg) (base := base) (CX := CX0) (k := 1) (sp := fun vs H Q E => ∃ (a p : Addr) (ns : List V), vs = [.ref a, .ref p] ∧ H p = some (.tup ns) ∧ spShareOf K C (.ref a :: ns) H Q E) (ps := ["self"]) (pv := "names") (N := N_Form_share_of) lk hcd sc_Form_share_of StX.cxUp_none (fun us rest hl => match us, rest, hl with | [_], [], _ => rfl | [_], _ :: _, _ => rfl) (fun A outer s H vs Q E hr h => by
    obtain ⟨a, p, ns, rfl, hp, a', es, ws, ev, lw, ⟨dx, D, kvs, h1, h2, h3⟩, h⟩ := h
    cases ev
    refine ⟨_, PSs.nox (pss_one (ps_ret (pe_dget2 (hu_of hr) (L2.pe_fld (pv 0) rfl) (pv 1) (pe_gref T.m_NOTHING (by rfl)) ⟨rfl, rfl, rfl, rfl⟩))), ?_⟩
    have gt := h3.get ws
    have hk : H p = some (.tup ((keyW ws).map L2.kV)) := by rw [keyW_kV]; exact hp
    refine ⟨_, rfl, a, C, dx, _, _, rfl, h1, R.cl, R.n1, rfl, D, rfl, .inr ⟨kvs, .inl h2⟩, _, rfl, _, DGet.t h2 hk, ?_⟩
    cases hq : getA es ws with
    | some x =>
      rw [hq] at gt h
      obtain ⟨m, gv, hx⟩ := (gt : ∃ m, valV kvs (keyW ws) = some (.ref m) ∧ AmtAt H m x)
      rw [gv]
      exact h H m (Same.refl _) hx
    | none =>
      rw [hq] at gt h
      rw [show valV kvs (keyW ws) = none from gt]
      exact h H kn (Same.refl _) (T.t_NOTHING H))
  refine ⟨f, RR.imp fun vs H Q E h => ?_, M⟩
  obtain ⟨a, es, ws, rfl, lw, hf, h⟩ := h
  refine ⟨[.ref a], ws.map V.str, rfl, rfl, by rw [List.length_map]; exact Nat.le_of_lt (small1000 (by omega)), fun p hp => ⟨a, p, ws.map V.str, rfl, upd_same, a, es, ws, rfl, lw, hf.same (same_upd hp), ?_⟩⟩
  have s1 := same_upd (o := .tup (ws.map V.str)) hp
  cases hq : getA es ws with
  | some x =>
    rw [hq] at h
    exact fun H' m s' hx => h H' m (s1.trans s') hx
  | none =>
    rw [hq] at h
    exact fun H' m s' hx => h H' m (s1.trans s') hx
theorem join2 (x y : Str) : Txt.join "*" [x, y] = x ++ "*" ++ y := rfl
theorem two_ne (x y : Str) : (x ++ "*" ++ y == ("" : Str)) = false := by
  refine beq_eq_false_iff_ne.mpr fun z => ?_
  have := congrArg Str.length z
  rw [Str.length_append, Str.length_append] at this
  have e1 : Str.length ("*" : Str) = 1 := rfl
  have e0 : Str.length ("" : Str) = 0 := rfl
  omega
theorem nil_app (z : Str) : ("" ++ "" ++ z : Str) = z := by
  have e : ("" ++ "" : Str) = "" := rfl
  rw [e]
  exact Str.ext' (by rw [Str.cps_append]; exact Array.empty_append)
theorem ok_term_text (F : Fn K mg "term_text" s_term_text ["word", "p", "q"]) (B : Blt mg) (G_written_share : Has P w K mg base 1 "written_share" ["p", "q"] spNever) : Has P w K mg base 2 "term_text" ["word", "p", "q"] spTermTwo := by
  refine F.has sc_term_text (fun vs H Q E h => ?_) (fun f cdv A outer s H vs Q E hr h => ?_)
  · obtain ⟨a, x, y, rfl, _⟩ := h
    rfl
  obtain ⟨a, x, y, rfl, ha, lx, ly, q⟩ := h
  refine ⟨_, (pss_cons (ps_set (i := 3) sc_term_text.nd rfl (Or.inl rfl) (pe_join pe_str (pv 0)))
      (pss_cons (ps_if (pt_cmpR op_eq (pv 3) pe_str (nomark _))
        (pss_one (ps_ret (pe_own G_written_share (hr.mono (by decide)) (by rfl) (pa_cons (pv 1) (pa_cons (pv 2) pa_nil)))))
        pss_nil)
      (pss_one (ps_ret (pe_ifExp (pt_cmpR (op_eqDK K rfl (un64 hr)) (pe_tup (pa_cons (pv 1) (pa_cons (pv 2) pa_nil))) (pe_tup (pa_cons pe_int (pa_cons pe_int pa_nil))) (nomark _)) (pv 3) (pe_op op_add_str (pe_op op_add_str (pe_own G_written_share (hr.mono (by decide)) (by rfl) (pa_cons (pv 1) (pa_cons (pv 2) pa_nil))) pe_str) (pv 3))))))), ?_⟩
  refine ⟨⟨_, rfl⟩, _, rfl, "*", a, [x, y], rfl, rfl, .inr (SqT.of ha), ?_, ?_⟩
  · have e1 : Str.length ("*" : Str) = 1 := rfl
    rw [e1]
    simp
    omega
  rw [join2]
  refine ⟨_, rfl, rfl, _, rfl, ite_no ?_ ?_⟩
  · rw [decide_eq_false fun z => by
      have := two_ne x y
      rw [V.str.inj z] at this
      exact absurd this (by decide)]
    decide
  refine ⟨_, rfl, _, rfl, (by show 2 ≤ sizeLine; decide), fun m nm => ⟨(by show 2 ≤ sizeLine; decide), fun m2 nm2 => ?_⟩⟩
  have u1 := same_upd (o := .tup [V.int 1, V.int 1]) nm
  have u2 := same_upd (o := .tup [V.int 1, V.int 1]) nm2
  refine ⟨_, _, Dp.tup (SqT.of (u2 _ _ upd_same)) (.cons (.int _) (.cons (.int _) .nil)), Dp.tup (SqT.of upd_same) (.cons (.int _) (.cons (.int _) .nil)), rfl, rfl, _, rfl, ite_of ?_ ⟨_, rfl, q _ (u1.trans u2)⟩⟩
  decide +kernel
theorem ok_text (F : ∃ (f : Addr) (fd : FuncData), Fun K "text" "Form.text" s_Form_text f fd ∧ Meth K C "text" f ∧ Binds K fd ["self"] []) (R : FCls K C) (B : Blt mg) (G_term_text : Has P w K mg base 2 "term_text" ["word", "p", "q"] spTermTwo) : HasM P w K mg base 3 C "text" ["self"] (spTextTwo C) := by
  obtain ⟨f, fd, F, M, b⟩ := F
  refine ⟨f, fd, F.ok sc_Form_text (fun vs H Q E h => ?_) (fun cdv A outer s H vs Q E hr h => ?_), M, b⟩
  · obtain ⟨a, x, y, rfl, _⟩ := h
    rfl
  obtain ⟨a, x, y, rfl, ⟨dx, D, kvs, h1, h2, h3⟩, lx, ly, q⟩ := h
  refine ⟨_, (pss_cons (ps_set (i := 1) sc_Form_text.nd rfl (Or.inl rfl) pe_str)
      (pss_cons (ps_lock (ps_for PassesOwn.never rfl (DIt.pi_itemsT (L2.pe_fld (pv 0) rfl)) (pg_tup rfl (pgs_cons (pg_name (i := 2) sc_Form_text.nd rfl (Or.inl rfl)) (pgs_cons (pg_tup rfl (pgs_cons (pg_name (i := 3) sc_Form_text.nd rfl (Or.inl rfl)) (pgs_cons (pg_name (i := 4) sc_Form_text.nd rfl (Or.inl rfl)) pgs_nil))) pgs_nil)))
        (pss_cons (ps_set (i := 5) sc_Form_text.nd rfl (Or.inl rfl) (pe_ifExp (pt_cmpR op_lt (pv 3) pe_int (nomark _)) pe_str pe_str))
      (pss_cons (ps_if (pt_cmpR op_eq (pv 1) pe_str (nomark _))
        (pss_one (ps_set (i := 5) sc_Form_text.nd rfl (Or.inl rfl) (pe_ifExp (pt_cmpR op_lt (pv 3) pe_int (nomark _)) pe_str pe_str)))
        pss_nil)
      (pss_one (ps_set (i := 1) sc_Form_text.nd rfl (Or.inl rfl) (pe_op op_add_str (pe_op op_add_str (pv 1) (pv 5)) (pe_own G_term_text (hr.mono (by decide)) (by rfl) (pa_cons (pv 2) (pa_cons (pe_callB call_abs (by rfl) B.abs bb_abs (pa_cons (pv 3) pa_nil)) (pa_cons (pv 4) pa_nil)))))))))))
      (pss_one (ps_ret (pe_ifExp (pt_cmpR op_eq (pv 1) pe_str (nomark _)) pe_str (pv 1)))))), ?_⟩
  refine ⟨D, .dT kvs, h2, True.intro, fun od => ?_⟩
  have s1 : ∀ {c : Addr} {o : HO}, c ≠ D → H c = some o → upd H D (.frz od (.dT kvs)) c = some o := fun n e => by
    rw [upd_ne n]
    exact e
  have neD : a ≠ D := fun z => by
    rw [z, h2] at h1
    cases h1
  obtain ⟨kv, l, r⟩ : ∃ kv m, kvs = [(keyW [x, y], .ref m)] ∧ AmtAt H m (1, 1) := by
    cases h3 with
    | cons h t =>
      cases t
      obtain ⟨h1, m, h2, h3⟩ := h
      exact ⟨(), m, by rw [← h1, ← h2], h3⟩
  obtain ⟨rfl, hm⟩ := r
  refine ⟨_, rfl, a, C, dx, _, _, rfl, s1 neD h1, R.cl, R.n1, rfl, D, od, _, rfl, upd_same, for_it DIt.walk_itemsT (fun i σ H' => Same (upd H D (.frz od (.dT [(keyW [x, y], .ref l)]))) H' ∧ ∃ y2 y3 y4 y5, σ = [some (.ref a), some (.str (if i = 0 then "" else x ++ "*" ++ y)), y2, y3, y4, y5]) ⟨Same.refl _, _, _, _, _, rfl⟩ (fun i σ H' _ e => e.1 _ _ upd_same) ?_ ?_⟩
  · rintro i v σ Ha Hb hi ⟨sa, y2, y3, y4, y5, rfl⟩ ⟨T, k, vv, qa, hk, hq, rfl, nT, rfl⟩
    obtain rfl : i = 0 := by
      have : i < 1 := hi
      omega
    cases hk
    have nm : l ≠ D := ne_of hm h2 (by intro z; cases z)
    have em := same_upd (o := .tup [V.ref qa, V.ref l]) nT _ _ (sa _ _ (s1 nm hm))
    have eq := same_upd (o := .tup [V.ref qa, V.ref l]) nT _ _ hq
    refine ⟨T, _, rfl, SqT.of upd_same, rfl, _, _, rfl, _, _, rfl, l, _, rfl, SqT.of em, rfl, _, _, rfl, _, _, rfl, rfl, rfl, ?_⟩
    refine ⟨_, rfl, _, _, rfl, rfl, _, rfl, ite_no (by decide) ?_⟩
    refine ⟨_, rfl, rfl, _, rfl, ite_of (decide_eq_true rfl) ?_⟩
    refine ⟨_, rfl, _, _, rfl, rfl, _, rfl, ite_no (by decide) ?_⟩
    refine ⟨_, rfl, _, rfl, "", "", rfl, rfl, by decide +kernel, _, rfl, _, rfl, 1, rfl, _, rfl, qa, x, y, rfl, eq, lx, ly, fun H5 s5 => ⟨_, _, rfl, rfl, ?_, sa.trans ((same_upd nT).trans s5), some (.ref qa), some (.int 1), some (.int 1), some (.str ""), ?_⟩⟩
    · have e1 : Str.length ("*" : Str) = 1 := rfl
      rw [Str.length_append, Str.length_append, Str.length_append, e1]
      have e0 : Str.length ("" : Str) = 0 := rfl
      have := sizeLine_eq
      omega
    · rw [nil_app]
      rfl
  · rintro σ H1 ⟨s2, y2, y3, y4, y5, rfl⟩
    refine ⟨s2 _ _ upd_same, ?_⟩
    refine ⟨_, rfl, rfl, _, rfl, ite_no ?_ ⟨_, rfl, q _ fun c o hc => ?_⟩⟩
    · rw [decide_eq_false fun z => by
        have := two_ne x y
        rw [show x ++ "*" ++ y = ("" : Str) from V.str.inj z] at this
        exact absurd this (by decide)]
      decide
    · by_cases n : c = D
      · rw [n] at hc ⊢
        rw [upd_same]
        exact h2.symm.trans hc
      · rw [upd_ne n]
        exact s2 _ _ (s1 n hc)
end
end My
/-! a text times 0 or 1, and the letters of a text -/
namespace My
open PySem PySem.Spec PyProof.Rows L2
def rMul01 : R2 := fun x y H Q => ∃ z k, x = .str z ∧ y = .int k ∧ (k = 0 ∨ k = 1) ∧ Q (.str (if k = 1 then z else Str.empty)) H
theorem op_mul01 {X : Cx} : OpR X (binaryOp .Mult) rMul01 := by
  intro pins s σ H x y v u Q I rx ry h
  obtain ⟨z, k, rfl, rfl, hk, q⟩ := h
  obtain ⟨t, rfl⟩ := rx
  obtain ⟨t', rfl⟩ := ry
  rcases hk with rfl | rfl
  · exact PySem.P.mul_str_none (by decide) (by decide) ⟨.str Str.empty, H, I.tok _, ⟨_, rfl⟩, q⟩
  · refine PySem.P.mul_str (by decide) (fun _ h => by simp at h) (fun _ h => by simp at h) ?_
    rw [if_neg (by decide), if_pos (by rfl)]
    exact ⟨.str z, H, I, ⟨t, rfl⟩, q⟩
theorem app_l (a y : Str) : (a ++ y).cps.toList = a.cps.toList ++ y.cps.toList := by
  show (a.cps ++ y.cps).toList = _
  exact Array.toList_append
theorem join1 : ∀ cs : List Nat, (Txt.join "" (cs.map fun c => (⟨#[c]⟩ : Str))).cps.toList = cs
  | [] => rfl
  | [c] => rfl
  | c :: d :: r => by
    have h := join1 (d :: r)
    unfold Txt.join at h ⊢
    rw [StrLaws.glued_eq_join] at h ⊢
    show ((⟨#[c]⟩ : Str) ++ ("" : Str) ++ Str.join "" ((d :: r).map fun c => (⟨#[c]⟩ : Str))).cps.toList = c :: d :: r
    rw [app_l, app_l, h]
    rfl
theorem str_len (z : Str) : z.length = z.cps.toList.length := (Array.length_toList).symm
/-- a text of letters is a name if it has the length and is none of the four -/
theorem word_name {z : Str} (h : ∀ c ∈ z.cps.toList, c ∈ letters.cps.toList) : nameB z = if 1 ≤ z.length ∧ z.length ≤ 6 then !inV (.str z) kept else false := by
  unfold nameB
  have e : (z.cps.toList.map fun c => decide (c ∈ letters.cps.toList)).all id = true := by
    rw [List.all_eq_true]
    intro b hb
    obtain ⟨c, hc, rfl⟩ := List.mem_map.mp hb
    exact decide_eq_true (h c hc)
  rw [e, Bool.and_true]
theorem ones_sum : ∀ cs : List Nat, ((cs.map fun c => (⟨#[c]⟩ : Str)).map (·.length)).sum = cs.length
  | [] => rfl
  | c :: cs => by
    rw [List.map_cons, List.map_cons, List.sum_cons, ones_sum cs, List.length_cons]
    show 1 + _ = _
    omega
end My
/-! the law's names -/
namespace My
open PySem PySem.Spec PyProof.Rows L2
theorem kp_push {b D : Addr} {H Hn : Hp} {o : HO} (k : Kp b H Hn) (hD : H D = none) : Kp b H (upd Hn D o) := fun x u nx hx => by
  rw [upd_ne (ne_of_none hx hD)]
  exact k x u nx hx
theorem Kp.free {b D : Addr} {H H' : Hp} (k : Kp b H H') (n : D ≠ b) (h : H' D = none) : H D = none := by
  cases e : H D with
  | none => rfl
  | some o =>
    rw [k D o n e] at h
    cases h
def sgn (base step : Int) (k : Nat) : Nat := letters.cps.toList.getD ((base + step * k) % 26).toNat 0
def moreS (more : Str) (k : Nat) : Str := if k % 2 = 1 then more else Str.empty
def word0 (stem : Str) (sp base step : Int) (more : Str) (k : Nat) : Str := cutS stem none (some sp) ++ (⟨#[sgn base step k]⟩ : Str) ++ cutS stem (some sp) none ++ moreS more k
def wordF (stem : Str) (sp base step : Int) (more : Str) (k : Nat) : Str := if inV (.str (word0 stem sp base step more k)) kept = true then word0 stem sp base step more k ++ ("q" : Str) else word0 stem sp base step more k
structure NameP (stem : Str) (sp base step : Int) (more : Str) : Prop where
  l4 : stem.length ≤ 4
  lets : ∀ c ∈ stem.cps.toList, c ∈ letters.cps.toList
  b0 : 0 ≤ base
  b9 : base < 26
  st : step = 1 ∨ step = 3 ∨ step = 5 ∨ step = 7
  mo : more = "" ∨ more = "a" ∨ more = "z"
theorem letters_inj : ∀ a < 26, ∀ b < 26, letters.cps.toList.getD a 0 = letters.cps.toList.getD b 0 → a = b := by decide +kernel
theorem letters_mem : ∀ a < 26, letters.cps.toList.getD a 0 ∈ letters.cps.toList := by decide +kernel
theorem sgn_inj {stem : Str} {sp base step : Int} {more : Str} (N : NameP stem sp base step more) {j k : Nat} (hj : j < 20) (hk : k < 20) (e : sgn base step j = sgn base step k) : j = k := by
  have h := letters_inj ((base + step * j) % 26).toNat (by omega) ((base + step * k) % 26).toNat (by omega) e
  have := N.b0
  have := N.b9
  rcases N.st with rfl | rfl | rfl | rfl <;> omega
theorem cut_lets {stem : Str} {lo hi : Option Int} (h : ∀ c ∈ stem.cps.toList, c ∈ letters.cps.toList) : ∀ c ∈ (cutS stem lo hi).cps.toList, c ∈ letters.cps.toList := fun c hc => by
  unfold cutS at hc
  exact h c (List.mem_of_mem_drop (List.mem_of_mem_take (by simpa using hc)))
theorem cut_parts (z : Str) {sp : Int} (h0 : 0 ≤ sp) (h1 : sp ≤ z.length) : (cutS z none (some sp)).length + (cutS z (some sp) none).length = z.length := by
  obtain ⟨n, rfl⟩ : ∃ n : Nat, sp = n := ⟨sp.toNat, by omega⟩
  rw [str_len, str_len]
  unfold cutS
  have hz := str_len z
  simp only [HT.sIx_none, HT.sIx_nat, List.length_take, List.length_drop, Nat.sub_zero]
  omega
theorem mem_app {a y : Str} {c : Nat} : c ∈ (a ++ y).cps.toList ↔ c ∈ a.cps.toList ∨ c ∈ y.cps.toList := by
  rw [app_l, List.mem_append]
theorem word_shape (stem : Str) (sp base step : Int) (more : Str) (k : Nat) : ∃ r, (wordF stem sp base step more k).cps.toList = (cutS stem none (some sp)).cps.toList ++ sgn base step k :: r := by
  have h0 : (word0 stem sp base step more k).cps.toList = (cutS stem none (some sp)).cps.toList ++ sgn base step k :: ((cutS stem (some sp) none).cps.toList ++ (moreS more k).cps.toList) := by
    unfold word0
    rw [app_l, app_l, app_l]
    show ((_ ++ [sgn base step k]) ++ _) ++ _ = _
    simp
  unfold wordF
  split
  · exact ⟨_, by rw [app_l, h0, List.append_assoc, List.cons_append]⟩
  · exact ⟨_, h0⟩
theorem word_inj {stem : Str} {sp base step : Int} {more : Str} (N : NameP stem sp base step more) {j k : Nat} (hj : j < 20) (hk : k < 20) (e : wordF stem sp base step more j = wordF stem sp base step more k) : j = k := by
  obtain ⟨r, hr⟩ := word_shape stem sp base step more j
  obtain ⟨t, ht⟩ := word_shape stem sp base step more k
  rw [e, ht] at hr
  have := List.append_cancel_left hr
  injection this with h _
  exact (sgn_inj N hk hj h).symm
theorem word0_len {stem : Str} {sp base step : Int} {more : Str} (N : NameP stem sp base step more) (h0 : 0 ≤ sp) (h1 : sp ≤ stem.length) (k : Nat) : 1 ≤ (word0 stem sp base step more k).length ∧ (word0 stem sp base step more k).length ≤ 6 := by
  have := cut_parts stem h0 h1
  have l4 := N.l4
  have lm : (moreS more k).length ≤ 1 := by
    unfold moreS
    split
    · rcases N.mo with rfl | rfl | rfl <;> decide
    · decide
  have e : (word0 stem sp base step more k).length = (cutS stem none (some sp)).length + 1 + (cutS stem (some sp) none).length + (moreS more k).length := by
    unfold word0
    rw [Str.length_append, Str.length_append, Str.length_append]
    rfl
  omega
theorem word0_lets {stem : Str} {sp base step : Int} {more : Str} (N : NameP stem sp base step more) (k : Nat) : ∀ c ∈ (word0 stem sp base step more k).cps.toList, c ∈ letters.cps.toList := fun c hc => by
  unfold word0 at hc
  rcases mem_app.mp hc with hc | hc
  · rcases mem_app.mp hc with hc | hc
    · rcases mem_app.mp hc with hc | hc
      · exact cut_lets N.lets c hc
      · rw [List.mem_singleton.mp (show c ∈ [sgn base step k] from hc)]
        exact letters_mem _ (by omega)
    · exact cut_lets N.lets c hc
  · have : ∀ m : Str, (m = "" ∨ m = "a" ∨ m = "z") → ∀ c ∈ m.cps.toList, c ∈ letters.cps.toList := fun m h => by
      rcases h with rfl | rfl | rfl <;> decide +kernel
    unfold moreS at hc
    split at hc
    · exact this more N.mo c hc
    · exact this "" (.inl rfl) c hc
theorem word_ok {stem : Str} {sp base step : Int} {more : Str} (N : NameP stem sp base step more) (h0 : 0 ≤ sp) (h1 : sp ≤ stem.length) (k : Nat) : nameB (wordF stem sp base step more k) = true := by
  have l := word0_len N h0 h1 k
  have w := word_name (word0_lets N k)
  unfold wordF
  by_cases h : inV (.str (word0 stem sp base step more k)) kept = true
  · rw [if_pos h]
    generalize word0 stem sp base step more k = z at h
    have e : inV (.str z) ((["in", "out", "proc", "give"] : List Str).map V.str) = true := h
    rw [inV_names] at e
    have m := of_decide_eq_true e
    simp only [List.mem_cons, List.not_mem_nil, or_false] at m
    rcases m with rfl | rfl | rfl | rfl <;> decide +kernel
  · rw [if_neg h, w, if_pos l]
    simpa using h
/-- up to twenty names -/
def spNamesN : Sp := fun vs H Q _ => ∃ (b c : Addr) (nn : Nat), vs = [V.ref b, .int (nn : Nat)] ∧ nn ≤ 20 ∧ Bg H b c ∧ ∀ (H' : Hp) (D : Addr) (ws : List Str), Kp b H H' → Bg H' b c → H D = none → D ≠ b → H' D = some (.lst (ws.map V.str)) → ws.length = nn → ws.Nodup → (∀ x ∈ ws, nameB x = true) → Q (.ref D) H'
section
variable {P : Program} {w : World} {K : PySem.W.Frag} {mg : Str → Option Value} {base : Heap}
theorem ok_l_names (F : Fn K mg "_law_names" s_l_names ["_law_bag_here", "_law_many"]) (B : Blt mg) (G_l_draw : Has P w K mg base 1 "_law_draw" ["_law_bag_here", "_law_many"] spDraw) (G_l_pick : Has P w K mg base 2 "_law_pick" ["_law_bag_here", "_law_some"] (spPick K)) (G_l_letters : Has P w K mg base 1 "_law_letters" [] (fun vs H Q _ => vs = [] ∧ Q (.str letters) H)) : Has P w K mg base 3 "_law_names" ["_law_bag_here", "_law_many"] spNamesN := by
  refine F.has sc_l_names (fun vs H Q E h => ?_) (fun f cdv A outer s H vs Q E hr h => ?_)
  · obtain ⟨a, _, _, rfl, _⟩ := h
    rfl
  obtain ⟨b, cc, nn, rfl, n20, B0, q⟩ := h
  refine ⟨_, (pss_cons (ps_set (i := 2) sc_l_names.nd rfl (Or.inl rfl) (pe_join pe_str (pe_lc (own := [("_law_k", 3)]) (g := gName 3) (tt := tYes) (by rfl) sc_l_names.nd (pi_range1 (by rfl) B.range (pa_cons (pe_own G_l_draw (hr.mono (by decide)) (by rfl) (pa_cons (pv 0) (pa_cons pe_int pa_nil))) pa_nil)) (blkOk_by (own := [("_law_k", 3)]) (N := N_l_names) (sc := defScope s_l_names) (by decide +kernel)) (fun _ _ _ _ _ => (pg_name (i := 3) sc_l_names.nd rfl (Or.inl rfl))) (fun _ _ _ _ _ => pts_nil) (fun _ _ _ _ _ => (pe_own G_l_pick (hr.mono (by decide)) (by rfl) (pa_cons (pv 0) (pa_cons (pe_own0 G_l_letters (hr.mono (by decide)) (by rfl)) pa_nil)))))))
      (pss_cons (ps_par3 (i := 4) (j := 5) (l := 6) rfl sc_l_names.nd rfl rfl rfl (by decide) (by decide) (by decide) rfl rfl rfl (pa_cons (pe_own G_l_draw (hr.mono (by decide)) (by rfl) (pa_cons (pv 0) (pa_cons (pe_op op_add (pe_callB call_len (by rfl) B.len bb_len (pa_cons (pv 2) pa_nil)) pe_int) pa_nil))) (pa_cons (pe_own G_l_draw (hr.mono (by decide)) (by rfl) (pa_cons (pv 0) (pa_cons pe_int pa_nil))) (pa_cons (pe_own G_l_pick (hr.mono (by decide)) (by rfl) (pa_cons (pv 0) (pa_cons (pe_lst (pa_cons pe_int (pa_cons pe_int (pa_cons pe_int (pa_cons pe_int pa_nil))))) pa_nil))) pa_nil))) rfl)
      (pss_cons (ps_set (i := 7) sc_l_names.nd rfl (Or.inl rfl) (pe_own G_l_pick (hr.mono (by decide)) (by rfl) (pa_cons (pv 0) (pa_cons (pe_lst (pa_cons pe_str (pa_cons pe_str (pa_cons pe_str (pa_cons pe_str pa_nil))))) pa_nil))))
      (pss_cons (ps_set (i := 8) sc_l_names.nd rfl (Or.inl rfl) (pe_lst pa_nil))
      (pss_cons (ps_for PassesOwn.never rfl (pi_range1 (by rfl) B.range (pa_cons (pv 1) pa_nil)) (pg_name (i := 3) sc_l_names.nd rfl (Or.inl rfl))
        (pss_cons (ps_set (i := 9) sc_l_names.nd rfl (Or.inl rfl) (pe_ix ix_str (pe_own0 G_l_letters (hr.mono (by decide)) (by rfl)) (pe_op op_mod (pe_callTy call_int1 (by rfl) B.int bb_int (pa_cons (pe_op op_add (pv 5) (pe_op op_mul (pv 6) (pv 3))) pa_nil)) pe_int) (fun _ _ => rfl)))
      (pss_cons (ps_set (i := 10) sc_l_names.nd rfl (Or.inl rfl) (pe_op op_add_str (pe_op op_add_str (pe_op op_add_str (pe_slice sl_str (pv 2) po_none (po_some (pv 4))) (pv 9)) (pe_slice sl_str (pv 2) (po_some (pv 4)) po_none)) (pe_op op_mul01 (pv 7) (pe_callTy call_int1 (by rfl) B.int bb_int (pa_cons (pe_cmpR op_eq (pe_op op_mod (pv 3) pe_int) pe_int (nomark _)) pa_nil)))))
      (pss_one (ps_expr (pe_bm PySem.F.plainAttrs_list PySem.F.slot_list_append PySem.F.type_list_append mt_append (pv 8) (pa_cons (pe_ifExp (pt_cmpR op_in_seq (pv 10) (pe_lst (pa_cons pe_str (pa_cons pe_str (pa_cons pe_str (pa_cons pe_str pa_nil))))) rfl) (pe_op op_add_str (pv 10) pe_str) (pv 10)) pa_nil)))))))
      (pss_one (ps_ret (pv 8)))))))), ?_⟩
  refine ⟨⟨"", rfl⟩, ?_⟩
  refine ⟨_, rfl, b, cc, _, rfl, B0, by decide, by decide, fun n H5 n0 n9 k5 B5 => ?_⟩
  refine ⟨n, rfl, by omega, by omega, fun D hD => lc_it walk_range (fun i H' => ∃ cs : List Nat, cs.length = i ∧ (∀ c ∈ cs, c ∈ letters.cps.toList) ∧ Kp b H5 H' ∧ Bg H' b cc ∧ H' D = some (.lst (cs.map fun c => V.str ⟨#[c]⟩)))
    ⟨[], rfl, by simp, Kp.of (same_upd hD), B5.same (same_upd hD), upd_same⟩ (fun _ _ _ _ => True.intro) ?_ ?_⟩
  · rintro j v Ha Hb hj ⟨cs, rfl, hcs, ka, Ba, ea⟩ ⟨rfl, rfl⟩
    refine ⟨rfl, tYes_ok ?_⟩
    refine ⟨_, rfl, rfl, b, cc, .str letters, rfl, Ba, .inr ⟨letters, rfl, by decide +kernel, by decide +kernel, fun c Hc hc kc Bc => ?_⟩⟩
    have hDb : D ≠ b := B5.ne_new hD
    have ec := kc _ _ hDb ea
    have kd : Kp D Hc (upd Hc D (.lst (cs.map (fun c => V.str ⟨#[c]⟩) ++ [.str ⟨#[c]⟩]))) := Kp.upd
    refine ⟨_, ec, by rw [List.length_map]; exact small1000 (by omega), cs ++ [c], by rw [List.length_append]; rfl, ?_, ?_, ?_, ?_⟩
    · intro d hd
      rcases List.mem_append.mp hd with h | h
      · exact hcs d h
      · rw [List.mem_singleton.mp h]
        exact hc
    · intro x o hx ho
      have hxD : x ≠ D := ne_of_none ho hD
      rw [upd_ne hxD]
      exact kc _ _ hx (ka _ _ hx ho)
    · exact Bc.kp hDb (B5.ne_new2 hD) kd
    · rw [upd_same, List.map_append]
      rfl
  rintro H6 ⟨cs, hcl, hcs, k6, B6, e6⟩
  have k06 := k5.trans k6
  have eys : cs.map (fun c => V.str ⟨#[c]⟩) = (cs.map fun c => (⟨#[c]⟩ : Str)).map V.str := by rw [List.map_map]; rfl
  refine ⟨"", D, cs.map fun c => (⟨#[c]⟩ : Str), rfl, rfl, .inl (SqL.of (by rw [e6, eys])), ?_, ?_⟩
  · rw [ones_sum, List.length_map]
    show cs.length + cs.length * 0 ≤ 16777216
    omega
  obtain ⟨z, hz⟩ : ∃ z : Str, z = Txt.join "" (cs.map fun c => (⟨#[c]⟩ : Str)) := ⟨_, rfl⟩
  have zl : z.cps.toList = cs := by rw [hz, join1]
  rw [← hz]
  have zlen : z.length ≤ 4 := by
    rw [str_len, zl, hcl]
    omega
  have zlet : ∀ c ∈ z.cps.toList, c ∈ letters.cps.toList := by rw [zl]; exact hcs
  have zs : z.length ≤ sizeLine := Nat.le_of_lt (small1000 (by omega))
  refine ⟨_, rfl, _, rfl, .str z, z.length, rfl, ⟨zs, rfl⟩, _, _, rfl, rfl, b, cc, _, rfl, B6, by omega, by omega, fun sp H7 p0 p9 k7 B7 => ?_⟩
  refine ⟨_, rfl, b, cc, _, rfl, B7, by decide, by decide, fun ba H8 b0 b9 k8 B8 => ?_⟩
  refine ⟨_, rfl, (by show 4 ≤ sizeLine; decide), fun l3 n3 => ?_⟩
  refine ⟨b, cc, .ref l3, rfl, B8.same (same_upd n3), .inl ⟨l3, _, rfl, B8.ne_new n3, upd_same, by simp, (by show 4 ≤ 1000; decide), fun v H9 hv k9 B9 => ?_⟩⟩
  obtain ⟨st, rfl, hst⟩ : ∃ st : Int, v = .int st ∧ (st = 1 ∨ st = 3 ∨ st = 5 ∨ st = 7) := by
    simp only [List.mem_cons, List.not_mem_nil, or_false] at hv
    rcases hv with rfl | rfl | rfl | rfl
    · exact ⟨_, rfl, .inl rfl⟩
    · exact ⟨_, rfl, .inr (.inl rfl)⟩
    · exact ⟨_, rfl, .inr (.inr (.inl rfl))⟩
    · exact ⟨_, rfl, .inr (.inr (.inr rfl))⟩
  refine ⟨_, _, _, rfl, ?_⟩
  refine ⟨_, rfl, (by show 4 ≤ sizeLine; decide), fun l4 n4 => ?_⟩
  refine ⟨b, cc, .ref l4, rfl, B9.same (same_upd n4), .inl ⟨l4, _, rfl, B9.ne_new n4, upd_same, by simp, (by show 4 ≤ 1000; decide), fun v Ha hv ka Ba => ?_⟩⟩
  obtain ⟨mo, rfl, hmo⟩ : ∃ mo : Str, v = .str mo ∧ (mo = "" ∨ mo = "a" ∨ mo = "z") := by
    simp only [List.mem_cons, List.not_mem_nil, or_false] at hv
    rcases hv with rfl | rfl | rfl | rfl
    · exact ⟨_, rfl, .inl rfl⟩
    · exact ⟨_, rfl, .inl rfl⟩
    · exact ⟨_, rfl, .inr (.inl rfl)⟩
    · exact ⟨_, rfl, .inr (.inr rfl)⟩
  have N : NameP z sp ba st mo := ⟨zlen, zlet, b0, b9, hst, hmo⟩
  have k0a : Kp b H Ha := k06.trans (k7.trans (k8.trans ((Kp.of (same_upd n3)).trans (k9.trans ((Kp.of (same_upd n4)).trans ka)))))
  refine ⟨by show 0 ≤ sizeLine; decide, fun D hD2 => ?_⟩
  have nDb := Ba.ne_new hD2
  have nDc := Ba.ne_new2 hD2
  refine ⟨_, rfl, (nn : Nat), rfl, by omega, by omega, for_range (n := nn) (fun i σ H' => ∃ y3 y9 y10, σ = [some (.ref b), some (.int (nn : Nat)), some (.str z), y3, some (.int sp), some (.int ba), some (.int st), some (.str mo), some (.ref D), y9, y10] ∧ Kp b H H' ∧ Bg H' b cc ∧ H' D = some (.lst (((List.range i).map (wordF z sp ba st mo)).map V.str)))
    ⟨_, _, _, rfl, k0a.trans (Kp.of (same_upd hD2)), Ba.same (same_upd hD2), upd_same⟩ ?_ ?_⟩
  · rintro i σ H' hi ⟨y3, y9, y10, rfl, kk, Bk, ek⟩
    have hin : (0 + (i : Int)) = (i : Int) := by omega
    refine ⟨rfl, _, rfl, _, rfl, _, rfl, _, _, rfl, rfl, by unfold CMul; constructor <;> omega, _, _, rfl, rfl, .inl ⟨_, rfl, _, _, rfl, rfl, (by show (0 : Int) < 26; decide), ?_⟩⟩
    have sg : atI letters.cps.toList ((ba + st * (0 + (i : Int))) % 26) = some (sgn ba st i) := by
      unfold sgn
      rw [hin]
      have lt : ((ba + st * (i : Int)) % 26).toNat < 26 := by omega
      have l26 : letters.cps.toList.length = 26 := rfl
      refine at_ofG (j := ((ba + st * (i : Int)) % 26).toNat) (by omega) ?_
      rw [List.getElem?_eq_getElem (by omega)]
      simp [List.getD, lt, l26]
    refine ⟨letters, _, _, rfl, rfl, by decide, sg, ?_⟩
    have c0 := cut_parts z p0 (by omega)
    have lm : ∀ k : Nat, (moreS mo k).length ≤ 1 := fun k => by
      unfold moreS
      split
      · rcases hmo with rfl | rfl | rfl <;> decide
      · decide
    refine ⟨_, rfl, _, rfl, _, rfl, z, rfl, zs, ?_⟩
    have l1 : (cutS z none (some sp) ++ (⟨#[sgn ba st i]⟩ : Str)).length = (cutS z none (some sp)).length + 1 := by rw [Str.length_append]; rfl
    refine ⟨_, rfl, _, _, rfl, rfl, Nat.le_of_lt (small1000 (by show (cutS z none (some sp)).length + 1 ≤ 1000; omega)), ?_⟩
    refine ⟨_, rfl, _, rfl, _, rfl, z, rfl, zs, ?_⟩
    refine ⟨_, _, rfl, rfl, Nat.le_of_lt (small1000 (by rw [l1]; omega)), ?_⟩
    refine ⟨_, rfl, _, rfl, _, _, rfl, rfl, (by show (0 : Int) < 2; decide), rfl, .inr ⟨_, rfl, mo, _, rfl, rfl, ?_, ?_⟩⟩
    · split
      · exact .inr rfl
      · exact .inl rfl
    have em : (if (if decide (V.int ((0 + (i : Int)) % 2) = V.int 1) = true then (1 : Int) else 0) = 1 then mo else Str.empty) = moreS mo i := by
      unfold moreS
      by_cases c : i % 2 = 1
      · rw [if_pos c, if_pos]
        rw [if_pos]
        refine decide_eq_true ?_
        rw [show (0 + (i : Int)) % 2 = 1 by omega]
      · rw [if_neg c, if_neg]
        rw [if_neg]
        · decide
        · refine fun z => c ?_
          have := V.int.inj (of_decide_eq_true z)
          omega
    rw [em]
    have l2 : (cutS z none (some sp) ++ (⟨#[sgn ba st i]⟩ : Str) ++ cutS z (some sp) none).length ≤ 10 := by
      rw [Str.length_append, l1]
      omega
    have lmi := lm i
    refine ⟨_, _, rfl, rfl, Nat.le_of_lt (small1000 (by omega)), ?_⟩
    have e0 : cutS z none (some sp) ++ (⟨#[sgn ba st i]⟩ : Str) ++ cutS z (some sp) none ++ moreS mo i = word0 z sp ba st mo i := rfl
    rw [e0]
    have l0 := word0_len N p0 (by omega) i
    have fin : ∀ (Hn : Hp) (x : Str), Same H' Hn → x = wordF z sp ba st mo i → Kp b H (upd Hn D (.lst (((List.range i).map (wordF z sp ba st mo)).map V.str ++ [.str x]))) ∧ Bg (upd Hn D (.lst (((List.range i).map (wordF z sp ba st mo)).map V.str ++ [.str x]))) b cc ∧
        (upd Hn D (.lst (((List.range i).map (wordF z sp ba st mo)).map V.str ++ [.str x]))) D = some (.lst (((List.range (i + 1)).map (wordF z sp ba st mo)).map V.str)) := fun Hn x sn ex => by
      subst ex
      refine ⟨kp_push (kk.trans (Kp.of sn)) (k0a.free nDb hD2), (Bk.same sn).kp nDb nDc Kp.upd, ?_⟩
      rw [upd_same, List.range_succ, List.map_append, List.map_append]
      rfl
    refine ⟨_, rfl, .inl ⟨rfl, _, SqL.of ek⟩, _, rfl, (by show 4 ≤ sizeLine; decide), fun l5 n5 => ?_⟩
    have s5 := same_upd (o := .lst kept) n5
    refine ⟨l5, kept, rfl, .inl (SqL.of upd_same), rfl, rfl, ?_⟩
    by_cases c : inV (.str (word0 z sp ba st mo i)) kept = true
    · have ew : wordF z sp ba st mo i = word0 z sp ba st mo i ++ ("q" : Str) := if_pos c
      refine ⟨_, rfl, ite_of c ⟨_, rfl, _, _, rfl, rfl, Nat.le_of_lt (small1000 (by show _ + 1 ≤ 1000; omega)), D, _, _, rfl, rfl, s5 _ _ ek, small1000 (by simp; omega), ?_⟩⟩
      obtain ⟨f1, f2, f3⟩ := fin _ _ s5 ew.symm
      exact ⟨_, _, _, rfl, f1, f2, f3⟩
    · have ew : wordF z sp ba st mo i = word0 z sp ba st mo i := if_neg c
      refine ⟨_, rfl, ite_no c ⟨_, rfl, D, _, _, rfl, rfl, s5 _ _ ek, small1000 (by simp; omega), ?_⟩⟩
      obtain ⟨f1, f2, f3⟩ := fin _ _ s5 ew.symm
      exact ⟨_, _, _, rfl, f1, f2, f3⟩
  · rintro σ H' ⟨y3, y9, y10, rfl, kk, Bk, ek⟩
    refine ⟨_, rfl, q H' D _ kk Bk (k0a.free nDb hD2) nDb ek (by simp) ?_ ?_⟩
    · refine List.pairwise_map.mpr ((List.nodup_range (n := nn)).imp_of_mem fun {a b} ha hb ne e => ne (word_inj N (Nat.lt_of_lt_of_le (List.mem_range.mp ha) n20) (Nat.lt_of_lt_of_le (List.mem_range.mp hb) n20) e))
    · intro x hx
      obtain ⟨k, hk, rfl⟩ := List.mem_map.mp hx
      exact word_ok N p0 (by omega) k
end
end My
/-! forms: the terms a law draws -/
namespace My
open PySem PySem.Spec PyProof.Rows L2
def DrawnT (H : Hp) (v : V) (g : WordT × Amt) : Prop := ∃ (T w : Addr) (p q : Int), v = .ref T ∧ H T = some (.tup [.ref w, .int p, .int q]) ∧ H w = some (.tup (g.1.map V.str)) ∧ (∀ x ∈ g.1, nameB x = true) ∧ g.1.length ≤ 2 ∧ 1 ≤ q ∧ q ≤ 5 ∧ p.natAbs ≤ 4 ∧ g.2 = shareF p q
theorem DrawnT.keep {H H' : Hp} {v : V} {g : WordT × Amt} (h : DrawnT H v g) (k : ∀ (a : Addr) (xs : List V), H a = some (.tup xs) → H' a = some (.tup xs)) : DrawnT H' v g := by
  obtain ⟨T, w, p, q, e, h1, h2, r⟩ := h
  exact ⟨T, w, p, q, e, k _ _ h1, k _ _ h2, r⟩
theorem kp_tup {H H' : Hp} {b : Addr} {xs : List V} (k : Kp b H H') (hb : H b = some (.lst xs)) (a : Addr) (ys : List V) (h : H a = some (.tup ys)) : H' a = some (.tup ys) := k _ _ (ne_of h hb (by intro z; cases z)) h
theorem put_tup {H : Hp} {D : Addr} {xs : List V} {o : HO} (e : H D = some (.lst xs)) (a : Addr) (ys : List V) (h : H a = some (.tup ys)) : upd H D o a = some (.tup ys) := by
  rw [upd_ne (ne_of h e (by intro z; cases z))]
  exact h
theorem words_good {ws : WordT} (h : ∀ x ∈ ws, nameB x = true) (l : ws.length ≤ 2) : wordB (.names (ws.map V.str)) = true := by
  show (decide ((ws.map V.str).length ≤ 2) && ((ws.map V.str).map nameV).all id) = true
  rw [decide_eq_true (by rw [List.length_map]; exact l), Bool.true_and, List.map_map, List.all_map, List.all_eq_true]
  exact h
theorem nameB_len {x : Str} (h : nameB x = true) : x.length ≤ 6 := by
  unfold nameB at h
  by_cases c : 1 ≤ x.length ∧ x.length ≤ 6
  · exact c.2
  · rw [if_neg c] at h
    cases h
theorem words_sca {ws : WordT} (h : ∀ x ∈ ws, nameB x = true) : ∀ e ∈ ws.map V.str, Sca e := fun e he => by
  obtain ⟨x, hx, rfl⟩ := List.mem_map.mp he
  have := nameB_len (h x hx)
  show x.length ≤ 1000
  omega
theorem DrawnT.term {H : Hp} {v : V} {g : WordT × Amt} (h : DrawnT H v g) : ∃ d, TermAt H v d ∧ TermOf d g := by
  obtain ⟨T, w, p, q, e, h1, h2, nm, l2, q1, q5, p4, hs⟩ := h
  refine ⟨.tri (.names (g.1.map V.str)) (.int p) (.int q), ⟨T, .ref w, e, h1, ⟨w, rfl, h2, words_sca nm, by rw [List.length_map]; omega⟩, True.intro, True.intro⟩, p, q, rfl, words_good nm l2, q1, by omega, hs⟩
theorem drawn_terms {H : Hp} : ∀ {xs : List V} {gs : Ents}, Paired (DrawnT H) xs gs → ∃ ds, Paired (TermAt H) xs ds ∧ Paired TermOf ds gs
  | _, _, .nil => ⟨[], .nil, .nil⟩
  | _, _, .cons h t => by
    obtain ⟨d, h1, h2⟩ := h.term
    obtain ⟨ds, t1, t2⟩ := drawn_terms t
    exact ⟨d :: ds, .cons h1 t1, .cons h2 t2⟩
theorem pmem_r {α β : Type} {F : α → β → Prop} : ∀ {xs : List α} {ys : List β}, Paired F xs ys → ∀ y ∈ ys, ∃ x ∈ xs, F x y
  | _, _, .nil, y, h => by cases h
  | _, _, .cons r t, y, h => by
    rcases List.mem_cons.mp h with rfl | h
    · exact ⟨_, List.mem_cons_self, r⟩
    · obtain ⟨x, hx, f⟩ := pmem_r t y h
      exact ⟨x, List.mem_cons_of_mem _ hx, f⟩
theorem drawn_mild {H : Hp} {xs : List V} {gs : Ents} (h : Paired (DrawnT H) xs gs) (l : gs.length ≤ 5) : Mild gs := by
  refine ⟨by omega, 5, by decide, by decide, ?_, fun g hg => ?_⟩
  · exact Nat.lt_of_le_of_lt (Nat.pow_le_pow_right (by decide) l) (by decide)
  · obtain ⟨x, _, T, w, p, q, _, _, _, _, _, q1, q5, p4, hs⟩ := pmem_r h g hg
    have h1 := share_q (p := p) q1
    have h2 := share_p (p := p) q1
    rw [hs]
    refine ⟨h1.1, ?_, ?_⟩
    · have := h1.2
      show (shareF p q).2 ≤ ((5 : Nat) : Int)
      omega
    · exact Nat.lt_of_le_of_lt h2 (by omega)
theorem cut_lo {xs : List V} {k : Nat} (h : k ≤ xs.length) : cutV xs none (some (k : Int)) = xs.take k := by
  unfold cutV
  rw [HT.sIx_none, HT.sIx_nat, List.drop_zero, Nat.sub_zero, Nat.min_eq_left h]
theorem cut_hi {xs : List V} {k : Nat} (h : k ≤ xs.length) : cutV xs (some (k : Int)) none = xs.drop k := by
  unfold cutV
  rw [HT.sIx_none, HT.sIx_nat, Nat.min_eq_left h]
  exact List.take_of_length_le (by rw [List.length_drop]; exact Nat.le_refl _)
theorem ptake {α β : Type} {F : α → β → Prop} : ∀ {xs : List α} {ys : List β} (n : Nat), Paired F xs ys → Paired F (xs.take n) (ys.take n)
  | _, _, 0, _ => by
    rw [List.take_zero, List.take_zero]
    exact .nil
  | _, _, n + 1, .nil => by
    rw [List.take_nil, List.take_nil]
    exact .nil
  | _, _, n + 1, .cons h t => by
    rw [List.take_succ_cons, List.take_succ_cons]
    exact .cons h (ptake n t)
theorem pdrop {α β : Type} {F : α → β → Prop} : ∀ {xs : List α} {ys : List β} (n : Nat), Paired F xs ys → Paired F (xs.drop n) (ys.drop n)
  | _, _, 0, h => h
  | _, _, n + 1, .nil => by
    rw [List.drop_nil, List.drop_nil]
    exact .nil
  | _, _, n + 1, .cons h t => by
    rw [List.drop_succ_cons, List.drop_succ_cons]
    exact pdrop n t
/-- a wrong one put in -/
theorem rows_bad {H : Hp} {xs : List V} {gs : Ents} {ds : List TermD} {bad : V} {d : TermD} {sp : Nat} (h : Paired (TermAt H) xs ds) (g : Paired TermOf ds gs) (hb : TermAt H bad d) (nb : termB d = false) (hs : sp ≤ xs.length) :
    ∃ ds', Paired (TermAt H) (xs.take sp ++ [bad] ++ xs.drop sp ++ [.non]) ds' ∧ ds'[sp]? = some d ∧ (∀ j e, j < sp → ds'[j]? = some e → termB e = true) ∧ ds'.length ≤ xs.length + 2 := by
  have l := plen h
  have good : ∀ e ∈ ds, termB e = true := fun e he => by
    obtain ⟨i, hi, rfl⟩ := List.mem_iff_getElem.mp he
    obtain ⟨y, _, hy⟩ := pget2 g (List.getElem?_eq_getElem hi)
    exact hy.good
  refine ⟨ds.take sp ++ [d] ++ ds.drop sp ++ [.other], papp (papp (papp (ptake sp h) (.cons hb .nil)) (pdrop sp h)) (.cons (show TermAt H .non .other from NoTup.non) .nil), ?_, fun j e hj he => ?_, ?_⟩
  · rw [List.append_assoc, List.append_assoc, List.getElem?_append_right (by rw [List.length_take]; omega)]
    rw [List.length_take, Nat.min_eq_left (by omega), Nat.sub_self]
    rfl
  · rw [List.append_assoc, List.append_assoc, List.getElem?_append_left (by rw [List.length_take]; omega)] at he
    exact good e (List.mem_of_mem_take (List.mem_of_getElem? he))
  · simp
    omega
theorem share_big : shareF ((10 : Int) ^ (20 : Int).toNat) ((10 : Int) ^ (25 : Int).toNat) = (1, 100000) := by decide +kernel
theorem get_one (w : WordT) (x : Amt) : getA [(w, x)] w = some x := by
  unfold getA
  simp
theorem mild_big (ws : WordT) : Mild [(ws, (1, 100000))] := by
  refine ⟨by show 1 ≤ 100; decide, 100000, by decide, by decide, by show 100000 ^ 1 < 2 ^ 150; decide, fun g hg => ?_⟩
  rw [List.mem_singleton.mp hg]
  show (1 : Int) ≤ 100000 ∧ (100000 : Int) ≤ ((100000 : Nat) : Int) ∧ (1 : Int).natAbs < 2 ^ 60
  decide
theorem of_big {wa : Str} (h : nameB wa = true) : TermOf (.tri (.names [.str wa]) (.int ((10 : Int) ^ (20 : Int).toNat)) (.int ((10 : Int) ^ (25 : Int).toNat))) ([wa], (1, 100000)) :=
  ⟨_, _, rfl, words_good (ws := [wa]) (fun x hx => by rw [List.mem_singleton.mp hx]; exact h) (by show 1 ≤ 2; decide), by decide, by decide, share_big.symm⟩
/-! ### odd values -/
theorem odd_no {H : Hp} {b : Addr} {v : V} (h : OddV H b v) : nameV v = false := by
  cases h with
  | non => rfl
  | bl x => rfl
  | s0 => decide +kernel
  | s1 => decide +kernel
  | s2 => decide +kernel
  | s3 => decide +kernel
  | s4 => decide +kernel
  | t0 _ _ => rfl
  | t1 _ _ => rfl
  | l0 _ _ => rfl
  | l1 _ _ => rfl
theorem odd_txt {H : Hp} {b : Addr} {v : V} (h : OddV H b v) : ∀ z, v = .str z → z.length ≤ 1000 := by
  cases h with
  | s0 => intro z e; cases e; decide
  | s1 => intro z e; cases e; decide
  | s2 => intro z e; cases e; decide
  | s3 => intro z e; cases e; decide
  | s4 => intro z e; cases e; decide
  | _ => intro z e; cases e
theorem OddV.keep {H H' : Hp} {b : Addr} {v : V} (h : OddV H b v) (k : ∀ a o, H a = some o → (∀ ps, o ≠ .tbl ps) → H' a = some o) : OddV H' b v := by
  cases h with
  | non => exact .non
  | bl x => exact .bl x
  | s0 => exact .s0
  | s1 => exact .s1
  | s2 => exact .s2
  | s3 => exact .s3
  | s4 => exact .s4
  | t0 n e => exact .t0 n (k _ _ e (by intro ps z; cases z))
  | t1 n e => exact .t1 n (k _ _ e (by intro ps z; cases z))
  | l0 n e => exact .l0 n (k _ _ e (by intro ps z; cases z))
  | l1 n e => exact .l1 n (k _ _ e (by intro ps z; cases z))
theorem odd_eqd {H : Hp} {b : Addr} {v : V} (h : OddV H b v) : Eqd H 3 v v := by
  cases h with
  | non => exact Eqd.leaf True.intro
  | bl x => exact Eqd.leaf True.intro
  | s0 => exact Eqd.leaf True.intro
  | s1 => exact Eqd.leaf True.intro
  | s2 => exact Eqd.leaf True.intro
  | s3 => exact Eqd.leaf True.intro
  | s4 => exact Eqd.leaf True.intro
  | t0 _ e => exact Eqd.tup e e (by show 0 ≤ 1000; decide) .nil
  | t1 _ e => exact Eqd.tup e e (by show 1 ≤ 1000; decide) (.cons (Eqd.leaf True.intro) .nil)
  | l0 _ e => exact Eqd.lst e e (by show 0 ≤ 1000; decide) .nil
  | l1 _ e => exact Eqd.lst e e (by show 1 ≤ 1000; decide) (.cons (Eqd.leaf True.intro) .nil)
def ArgV (H : Hp) (v : V) : Prop := (∃ t, Typ H v t) ∧ ∀ z, v = .str z → z.length ≤ 1000
theorem arg_odd {H : Hp} {b : Addr} {v : V} (h : OddV H b v) : ArgV H v := ⟨h.typ.imp fun t e => e.1, odd_txt h⟩
theorem arg_name {H : Hp} {x : Str} (h : nameB x = true) : ArgV H (.str x) := ⟨⟨_, .str _⟩, fun z e => by
  cases e
  have := nameB_len h
  omega⟩
theorem wordS_bad {C CN CD : Addr} {vs : List V} {v : V} {H : Hp} {Q : VK} {E : XK} (l : vs.length ≤ 100) (t : ∀ v ∈ vs, ArgV H v) (hf : (vs.find? fun v => !nameV v) = some v) (h : ∀ H' d, Same H H' → H' d = none → E (.ref CN) (some d) (upd H' d (.xd (errD "given" "InvalidName" v)))) : spWordS C CN CD vs H Q E := by
  refine ⟨l, t, ?_⟩
  rw [hf]
  exact h
theorem wordS_many {C CN CD : Addr} {vs : List V} {H : Hp} {Q : VK} {E : XK} (l : vs.length ≤ 100) (t : ∀ v ∈ vs, ArgV H v) (hf : (vs.find? fun v => !nameV v) = none) (m : ¬ vs.length ≤ 2) (h : ∀ H' d, Same H H' → H' d = none → E (.ref CD) (some d) (upd H' d (.xd (errD "at" "DegreeTooHigh" .non)))) : spWordS C CN CD vs H Q E := by
  refine ⟨l, t, ?_⟩
  rw [hf]
  show if vs.length ≤ 2 then _ else _
  rw [if_neg m]
  exact h
theorem wordS_two {C CN CD : Addr} {x y : Str} {H : Hp} {Q : VK} {E : XK} (hx : nameB x = true) (hy : nameB y = true) (h : ∀ (H' : Hp) (a : Addr), Same H H' → H a = none → FormAt C H' a [([x, y], (1, 1))] → Q (.ref a) H') : spWordS C CN CD [.str x, .str y] H Q E := by
  refine ⟨by show 2 ≤ 100; decide, fun v hv => ?_, ?_⟩
  · simp only [List.mem_cons, List.not_mem_nil, or_false] at hv
    rcases hv with rfl | rfl
    · exact arg_name hx
    · exact arg_name hy
  · have hf : ([V.str x, V.str y].find? fun v => !nameV v) = none := by
      show ([V.str x, V.str y].find? fun v => !nameV v) = none
      simp [nameV, hx, hy]
    rw [hf]
    show if [V.str x, V.str y].length ≤ 2 then _ else _
    rw [if_pos (by show 2 ≤ 2; decide)]
    intro ws H' a e s na hf'
    have : ws = [x, y] := by
      match ws, e with
      | [p, q], e =>
        injection e with e1 e2
        injection e2 with e2 _
        rw [V.str.inj e1, V.str.inj e2]
      | [], e => cases e
      | [_], e => cases e
      | _ :: _ :: _ :: _, e => cases e
    rw [this] at hf'
    exact h H' a s na hf'
end My
/-! the law of k27 -/
namespace My
open PySem PySem.Spec PyProof.Rows L2
def spLaw (K : PySem.W.Frag) (P : Addr) : Sp := fun vs H Q _ => ∃ (a : Addr) (ns : List Int), vs = [.ref a] ∧ SqL K H a (ns.map V.int) ∧ ns.length ≤ 63 ∧ H P = some (.tbl #[]) ∧ ∀ H', Q (.bl true) H'
theorem tabs_kp {H H' : Hp} {b P : Addr} {q : Str} {xs : List V} (h : LamX.TabS H P q) (hb : H b = some (.lst xs)) (k : Kp b H H') : LamX.TabS H' P q := by
  obtain ⟨ps, e, t, a⟩ := h
  refine ⟨ps, k _ _ (ne_of e hb fun z => by cases z) e, t, fun pos cv hc => ?_⟩
  obtain ⟨c, ec, hco⟩ := a pos cv hc
  exact ⟨c, ec, k _ _ (ne_of hco hb fun z => by unfold LamX.CodeO at z; cases z) hco⟩
theorem bg_ext {H H' : Hp} {b c : Addr} (h : Bg H b c) (e : LamX.ExtN H H') : Bg H' b c := by
  obtain ⟨ns, i, r, m, g⟩ := h
  exact ⟨ns, i, r, m, e _ _ g.hb (fun ps z => by cases z), e _ _ g.hc (fun ps z => by cases z), g.len, g.i0, g.r0, g.m0, g.m1⟩
section
variable {P : Program} {w : World} {K : PySem.W.Frag} {mg : Str → Option Value} {base : Heap} {C CT CN CD e0 lnf : Addr} {lnfd : FuncData}
theorem ok_law {f c Pt : Addr} {C1 C2 C3 oc kV doc pm ct : Value} {an od : Option Addr} {osl : Array (Option Value)}
    (lk : K.lookup f = some ⟨oc, od, .func (PySem.W.fnOf "law" "law" (defArgs s_law) (defBody s_law) (defScope s_law) .none kV doc pm an (.ref c) ct), osl⟩) (hcd : PySem.W.codeIn K (.ref c) "law" = true)
    (TB : LamX.TabB base mg c Pt) (hmT : PySem.W.exmAny K (.ref CT) [C1, C2, C3] = some true) (hmN : PySem.W.exmAny K (.ref CN) [C1, C2, C3] = some true) (hmD : PySem.W.exmAny K (.ref CD) [C1, C2, C3] = some true)
    (xfT : XfC K CT) (noCT : PySem.W.findIn K (.ref CT) "code" = some none) (noFT : PySem.W.findIn K (.ref CT) "at" = some none) (xfN : XfC K CN) (noCN : PySem.W.findIn K (.ref CN) "code" = some none) (noFN : PySem.W.findIn K (.ref CN) "given" = some none)
    (xfD : XfC K CD) (noCD : PySem.W.findIn K (.ref CD) "code" = some none) (noFD : PySem.W.findIn K (.ref CD) "at" = some none)
    (B : Blt mg) (R : FCls K C) (gC_Form : mg "Form" = some (.ref C)) (MK_Form : HasCX P w K mg base 5 "Form" C ["self", "terms"] (spInitF K C CT)) (ST_word : HasStX P w K mg base 8 C "word" (spWordS C CN CD)) (M_share_of : HasMR P w K mg base 2 C "share_of" (spShareOf K C)) (M_text : HasM P w K mg base 3 C "text" ["self"] (spTextTwo C))
    (LNS : OwO.Spc K C "__len__" lnf) (LNF : FnOk P w K mg base CX0 1 lnf lnfd ["self"] (spLenF C)) (LNb : Binds K lnfd ["self"] [])
    (G_l_bag : Has P w K mg base 1 "_law_bag" ["_law_script"] (spBag K)) (G_l_draw : Has P w K mg base 1 "_law_draw" ["_law_bag_here", "_law_many"] spDraw) (G_l_pick : Has P w K mg base 2 "_law_pick" ["_law_bag_here", "_law_some"] (spPick K)) (G_l_names : Has P w K mg base 3 "_law_names" ["_law_bag_here", "_law_many"] spNamesN) (G_l_odd : Has P w K mg base 3 "_law_odd" ["_law_bag_here"] spOdd)
    (G_l_same : Has P w K mg base 5 "_law_same" ["_law_found", "_law_due"] (spSame 5)) (G_l_all : ∀ B : Heap, Has P w K mg B 11 "_law_all" ["_law_asks"] (LamL.spAllL P w K mg B 9 [C1, C2, C3])) :
    FnOk P w K mg base CX0 12 f (PySem.W.fnOf "law" "law" (defArgs s_law) (defBody s_law) (defScope s_law) .none kV doc pm an (.ref c) ct) ["_law_script"] (spLaw K Pt) := by
  refine fn_of lk hcd sc_law (fun vs H Q E h => ?_) (fun A outer s H vs Q E hr h => ?_)
  · obtain ⟨a, t, rfl, _⟩ := h
    rfl
  obtain ⟨a, ns, rfl, hS, hl, hP, q⟩ := h
  have cl_ := R.cl
  have hcode : (cxOf CX0 P w K mg base N_law "law" (defScope s_law) f (.ref c) A outer s H E).nox.env.code = .ref c := rfl
  have main : ∃ t, PSs (cxOf CX0 P w K mg base N_law "law" (defScope s_law) f (.ref c) A outer s H E).nox (defBody s_law) t ∧ t { nx := fun _ H' => Q .non H', rt := Q } (L2.start N_law [.ref a]) H := by
    refine ⟨_, (pss_cons (ps_set (i := 1) sc_law.nd rfl (Or.inr rfl) (pe_own G_l_bag (hr.mono (by decide)) (by rfl) (pa_cons (pv 0) pa_nil)))
      (C8.pss_cut (ps_for PassesOwn.never rfl (pi_range1 (by rfl) B.range (pa_cons pe_int pa_nil)) (pg_name (i := 2) sc_law.nd rfl (Or.inl rfl))
        (C8.pss_cut (ps_set (i := 3) sc_law.nd rfl (Or.inr rfl) (pe_own G_l_names (hr.mono (by decide)) (by rfl) (pa_cons (pv 1) (pa_cons pe_int pa_nil))))
      (C8.pss_cut (ps_set (i := 4) sc_law.nd rfl (Or.inr rfl) (pe_lc (own := [("_law_k", 6)]) (g := gName 6) (tt := tYes) (by rfl) sc_law.nd (pi_range1 (by rfl) B.range (pa_cons (pe_own G_l_draw (hr.mono (by decide)) (by rfl) (pa_cons (pv 1) (pa_cons pe_int pa_nil))) pa_nil)) (blkOk_by (own := [("_law_k", 6)]) (N := N_law) (sc := defScope s_law) (by decide +kernel)) (fun _ _ _ _ _ => (pg_name (i := 6) sc_law.nd rfl (Or.inl rfl))) (fun _ _ _ _ _ => pts_nil) (fun _ _ _ _ _ => (pe_tup (pa_cons (pe_callTy (NK.call_tuple_ofK K rfl) (by rfl) B.tuple bb_tuple (pa_cons (pe_lc (own := [("_law_j", 5)]) (g := gName 5) (tt := tYes) (by rfl) sc_law.nd (pi_range1 (by rfl) B.range (pa_cons (pe_own G_l_draw (hr.mono (by decide)) (by rfl) (pa_cons (pv 1) (pa_cons pe_int pa_nil))) pa_nil)) (blkOk_by (own := [("_law_j", 5)]) (N := N_law) (by rfl)) (fun _ _ _ _ _ => (pg_name (i := 5) sc_law.nd rfl (Or.inl rfl))) (fun _ _ _ _ _ => pts_nil) (fun _ _ _ _ _ => (pe_own G_l_pick (hr.mono (by decide)) (by rfl) (pa_cons (pv 1) (pa_cons (pv 3) pa_nil))))) pa_nil)) (pa_cons (pe_op op_sub (pe_own G_l_draw (hr.mono (by decide)) (by rfl) (pa_cons (pv 1) (pa_cons pe_int pa_nil))) pe_int) (pa_cons (pe_op op_add pe_int (pe_own G_l_draw (hr.mono (by decide)) (by rfl) (pa_cons (pv 1) (pa_cons pe_int pa_nil)))) pa_nil)))))))
      (pss_cons (ps_set (i := 7) sc_law.nd rfl (Or.inr rfl) (pe_ix ix_list (pv 3) pe_int (fun _ _ => rfl)))
      (C8.pss_cut (ps_set (i := 8) sc_law.nd rfl (Or.inl rfl) (pe_own G_l_pick (hr.mono (by decide)) (by rfl) (pa_cons (pv 1) (pa_cons (pe_lst (pa_cons pe_non (pa_cons pe_int (pa_cons pe_str (pa_cons (pe_tup pa_nil) (pa_cons (pe_tup (pa_cons (pe_tup (pa_cons (pv 7) pa_nil)) (pa_cons pe_int pa_nil))) (pa_cons (pe_tup (pa_cons (pe_tup (pa_cons (pv 7) pa_nil)) (pa_cons pe_int (pa_cons pe_int pa_nil)))) (pa_cons (pe_tup (pa_cons (pe_tup (pa_cons (pv 7) pa_nil)) (pa_cons pe_int (pa_cons (pe_un un_neg pe_int) pa_nil)))) (pa_cons (pe_tup (pa_cons (pe_tup (pa_cons (pv 7) pa_nil)) (pa_cons pe_bl (pa_cons pe_int pa_nil)))) (pa_cons (pe_tup (pa_cons (pe_tup (pa_cons (pv 7) pa_nil)) (pa_cons pe_int (pa_cons pe_bl pa_nil)))) (pa_cons (pe_tup (pa_cons (pe_tup (pa_cons (pv 7) pa_nil)) (pa_cons pe_int (pa_cons pe_str pa_nil)))) (pa_cons (pe_tup (pa_cons (pe_lst (pa_cons (pv 7) pa_nil)) (pa_cons pe_int (pa_cons pe_int pa_nil)))) (pa_cons (pe_tup (pa_cons (pe_tup (pa_cons (pv 7) (pa_cons (pv 7) (pa_cons (pv 7) pa_nil)))) (pa_cons pe_int (pa_cons pe_int pa_nil)))) (pa_cons (pe_tup (pa_cons (pe_tup (pa_cons pe_str pa_nil)) (pa_cons pe_int (pa_cons pe_int pa_nil)))) (pa_cons (pe_tup (pa_cons (pe_tup (pa_cons pe_str pa_nil)) (pa_cons pe_int (pa_cons pe_int pa_nil)))) (pa_cons (pe_tup (pa_cons (pv 7) (pa_cons pe_int (pa_cons pe_int pa_nil)))) (pa_cons (pe_lst (pa_cons (pe_tup (pa_cons (pv 7) pa_nil)) (pa_cons pe_int (pa_cons pe_int pa_nil)))) (pa_cons (pe_tup (pa_cons (pe_tup (pa_cons (pv 7) pa_nil)) (pa_cons pe_int (pa_cons pe_int (pa_cons pe_int pa_nil))))) (pa_cons (pe_tup (pa_cons (pe_tup (pa_cons (pv 7) (pa_cons pe_non pa_nil))) (pa_cons pe_int (pa_cons pe_int pa_nil)))) pa_nil))))))))))))))))))) pa_nil))))
      (C8.pss_cut (ps_set (i := 9) sc_law.nd rfl (Or.inl rfl) (pe_own G_l_draw (hr.mono (by decide)) (by rfl) (pa_cons (pv 1) (pa_cons (pe_op op_add (pe_callB (NK.call_lenK K rfl) (by rfl) B.len bb_len (pa_cons (pv 4) pa_nil)) pe_int) pa_nil))))
      (C8.pss_cut (ps_set (i := 10) sc_law.nd rfl (Or.inr rfl) (pe_op op_cat (pe_op op_cat (pe_op op_cat (pe_slice sl_list (pv 4) po_none (po_some (pv 9))) (pe_lst (pa_cons (pv 8) pa_nil))) (pe_slice sl_list (pv 4) (po_some (pv 9)) po_none)) (pe_lst (pa_cons pe_non pa_nil))))
      (C8.pss_cut (ps_set (i := 11) sc_law.nd rfl (Or.inl rfl) (LamL.pe_allL G_l_all (hr.mono (by decide)) (fun _ => rfl) (by rfl) (pe_lst (LamL.pal_cons (LamL.pe_mk0 TB hcode List.mem_cons_self (fun p hp _ => by rw [List.mem_singleton.mp hp]) (LamL.lamTxt_at N_law (defScope s_law) (by decide +kernel)) (by rfl))
          (LamL.pal_cons (LamL.pe_mk1 (n := "_law_b") [] TB hcode List.mem_cons_self (fun p hp _ => by rw [List.mem_singleton.mp hp]) (LamL.lamTxt_at N_law (defScope s_law) (by decide +kernel)) rfl rfl pe_int)
          (LamL.pal_cons (LamL.pe_mk1 (n := "_law_c") [] TB hcode List.mem_cons_self (fun p hp _ => by rw [List.mem_singleton.mp hp]) (LamL.lamTxt_at N_law (defScope s_law) (by decide +kernel)) rfl rfl pe_int)
          LamL.pal_nil))))))
      (pss_cons (ps_if (pt_not (pt_val (pe_own G_l_same (hr.mono (by decide)) (by rfl) (pa_cons (pv 11) (pa_cons (pe_lst (pa_cons (pe_tup (pa_cons pe_str (pa_cons (pv 9) pa_nil))) (pa_cons (pe_tup (pa_cons pe_str (pa_cons pe_bl pa_nil))) (pa_cons (pe_tup (pa_cons pe_str (pa_cons (pe_tup (pa_cons pe_int (pa_cons (pe_op op_pow pe_int pe_int) pa_nil))) pa_nil))) pa_nil)))) pa_nil)))))
        (pss_one (ps_ret pe_bl))
        pss_nil)
      (C8.pss_cut (ps_set (i := 12) sc_law.nd rfl (Or.inr rfl) (pe_own G_l_odd (hr.mono (by decide)) (by rfl) (pa_cons (pv 1) pa_nil)))
      (pss_cons (ps_set (i := 13) sc_law.nd rfl (Or.inl rfl) (pe_lst (LamL.pal_cons (LamL.pe_mk1 (n := "_law_d") [] TB hcode List.mem_cons_self (fun p hp _ => by rw [List.mem_singleton.mp hp]) (LamL.lamTxt_at N_law (defScope s_law) (by decide +kernel)) rfl rfl pe_int)
          (LamL.pal_cons (LamL.pe_mk1 (n := "_law_f") [] TB hcode List.mem_cons_self (fun p hp _ => by rw [List.mem_singleton.mp hp]) (LamL.lamTxt_at N_law (defScope s_law) (by decide +kernel)) rfl rfl pe_int)
          (LamL.pal_cons (LamL.pe_mk1 (n := "_law_g") [] TB hcode List.mem_cons_self (fun p hp _ => by rw [List.mem_singleton.mp hp]) (LamL.lamTxt_at N_law (defScope s_law) (by decide +kernel)) rfl rfl pe_int)
          (LamL.pal_cons (LamL.pe_mk1 (n := "_law_h") [] TB hcode List.mem_cons_self (fun p hp _ => by rw [List.mem_singleton.mp hp]) (LamL.lamTxt_at N_law (defScope s_law) (by decide +kernel)) rfl rfl pe_int)
          (LamL.pal_cons (LamL.pe_mk1 (n := "_law_i") [] TB hcode List.mem_cons_self (fun p hp _ => by rw [List.mem_singleton.mp hp]) (LamL.lamTxt_at N_law (defScope s_law) (by decide +kernel)) rfl rfl pe_int)
          LamL.pal_nil)))))))
      (pss_one (ps_if (pt_not (pt_val (pe_own G_l_same (hr.mono (by decide)) (by rfl) (pa_cons (LamL.pe_allL G_l_all (hr.mono (by decide)) (fun _ => rfl) (by rfl) (pv 13)) (pa_cons (pe_lst (pa_cons (pe_tup (pa_cons pe_str (pa_cons (pv 12) pa_nil))) (pa_cons (pe_tup (pa_cons pe_str (pa_cons (pv 12) pa_nil))) (pa_cons (pe_tup (pa_cons pe_str (pa_cons pe_non pa_nil))) (pa_cons (pe_tup (pa_cons pe_str (pa_cons (pv 12) pa_nil))) (pa_cons (pe_tup (pa_cons pe_str (pa_cons (pe_op op_add_str (pe_op op_add_str (pv 7) pe_str) (pv 7)) pa_nil))) pa_nil)))))) pa_nil)))))
        (pss_one (ps_ret pe_bl))
        pss_nil)))))))))))))
      (pss_one (ps_ret pe_bl)))), ?_⟩
    refine ⟨_, rfl, a, ns, rfl, hS, hl, fun b cc H0 s0 nb B0 => ?_⟩
    obtain ⟨lq, hlq⟩ : ∃ lq : Str, lq = (cxOf CX0 P w K mg base N_law "law" (defScope s_law) f (.ref c) A outer s H E).nox.env.qual ++ "<lambda>" := ⟨_, rfl⟩
    have T0 : LamX.TabS H0 Pt lq := (LamX.TabS.nil hP).ext s0
    have keepT : ∀ {H1 H2 : Hp}, Bg H1 b cc → LamX.TabS H1 Pt lq → Kp b H1 H2 → LamX.TabS H2 Pt lq := fun hB hT k => by
      obtain ⟨r, e⟩ := hB.sel
      exact tabs_kp hT e k
    refine ⟨fun _ _ => True, ⟨5, rfl, by decide, by decide, for_range (n := 5) (fun i σ H' => ∃ y2 y3 y4 y7 y8 y9 y10 y11 y12 y13, σ = [some (.ref a), some (.ref b), y2, y3, y4, none, none, y7, y8, y9, y10, y11, y12, y13] ∧ Bg H' b cc ∧ LamX.TabS H' Pt lq)
      ⟨_, _, _, _, _, _, _, _, _, _, rfl, B0, T0⟩ ?_ (fun σ H' _ => True.intro)⟩, fun σ' H' _ => q H'⟩
    rintro i σ H1 hi ⟨y2, y3, y4, y7, y8, y9, y10, y11, y12, y13, rfl, B1, T1⟩
    -- the names
    refine ⟨fun σ' H' => ∃ (N : Addr) (ws : List Str), σ' = [some (.ref a), some (.ref b), some (.int ((0 : Int) + (i : Int))), some (.ref N), y4, none, none, y7, y8, y9, y10, y11, y12, y13] ∧ Bg H' b cc ∧ LamX.TabS H' Pt lq ∧ N ≠ b ∧ H' N = some (.lst (ws.map V.str)) ∧ ws.length = 3 ∧ ∀ x ∈ ws, nameB x = true, ?_, ?_⟩
    · exact ⟨_, rfl, b, cc, 3, rfl, by decide, B1, fun H2 D ws k2 B2 nD neD eD lw nd nm => ⟨D, ws, rfl, B2, keepT B1 T1 k2, neD, eD, lw, nm⟩⟩
    rintro σ H2 ⟨N, ws, rfl, B2, T2, neN, eN, lw, nm⟩
    -- the terms
    refine ⟨fun σ' H' => ∃ (Tl : Addr) (xs : List V) (gs : Ents), σ' = [some (.ref a), some (.ref b), some (.int ((0 : Int) + (i : Int))), some (.ref N), some (.ref Tl), none, none, y7, y8, y9, y10, y11, y12, y13] ∧ Bg H' b cc ∧ LamX.TabS H' Pt lq ∧ H' N = some (.lst (ws.map V.str)) ∧ Tl ≠ b ∧ H' Tl = some (.lst xs) ∧ Paired (DrawnT H') xs gs ∧ gs.length ≤ 5, ?_, ?_⟩
    · refine ⟨_, rfl, b, cc, _, rfl, B2, by decide, by decide, fun n H3 n0 n9 k3 B3 => ⟨n, rfl, by omega, by omega, fun D nD => ?_⟩⟩
      have neD := B3.ne_new nD
      obtain ⟨rb3, hb3⟩ := B3.sel
      refine lc_it walk_range (fun i H' => ∃ (xs : List V) (gs : Ents), gs.length = i ∧ Kp b H3 H' ∧ Bg H' b cc ∧ H' D = some (.lst xs) ∧ Paired (DrawnT H') xs gs) ⟨[], [], rfl, Kp.of (same_upd nD), B3.same (same_upd nD), upd_same, .nil⟩ (fun _ _ _ _ => True.intro) ?_ ?_
      · rintro j v Ha Hb hj ⟨xs, gs, lg, ka, Ba, ea, pa⟩ ⟨rfl, rfl⟩
        refine ⟨rfl, tYes_ok ?_⟩
        have kb := (k3.trans ka)
        refine ⟨_, rfl, b, cc, _, rfl, Ba, by decide, by decide, fun m H4 m0 m9 k4 B4 => ⟨m, rfl, by omega, by omega, fun D2 nD2 => ?_⟩⟩
        have neD2 := B4.ne_new nD2
        have eN4 := k4 _ _ neN (kb _ _ neN eN)
        refine lc_it walk_range (fun i H' => ∃ us : List Str, us.length = i ∧ (∀ x ∈ us, nameB x = true) ∧ Kp b H4 H' ∧ Bg H' b cc ∧ H' D2 = some (.lst (us.map V.str))) ⟨[], rfl, (fun x h => by cases h), Kp.of (same_upd nD2), B4.same (same_upd nD2), upd_same⟩ (fun _ _ _ _ => True.intro) ?_ ?_
        · rintro j2 v Hc Hd hj2 ⟨us, lu, hu, kc, Bc, ec⟩ ⟨rfl, rfl⟩
          refine ⟨rfl, tYes_ok ⟨_, rfl, _, rfl, b, cc, .ref N, rfl, Bc, .inl ⟨N, _, rfl, neN, kc _ _ neN eN4, by rw [List.ne_nil_iff_length_pos, List.length_map]; omega, by rw [List.length_map]; omega, fun v H5 hv k5 B5 => ?_⟩⟩⟩
          obtain ⟨x, hx, rfl⟩ := List.mem_map.mp hv
          have e5 := k5 _ _ neD2 ec
          refine ⟨_, e5, small1000 (by rw [List.length_map]; omega), us ++ [x], by rw [List.length_append, lu]; rfl, fun y hy => ?_, ?_, B5.kp neD2 (B4.ne_new2 nD2) Kp.upd, ?_⟩
          · rcases List.mem_append.mp hy with h | h
            · exact hu y h
            · rw [List.mem_singleton.mp h]
              exact nm x hx
          · exact kp_push (kc.trans k5) nD2
          · rw [upd_same, List.map_append]
            rfl
        rintro H5 ⟨us, lu, hu, k5, B5, e5⟩
        refine ⟨D2, _, rfl, .inl ⟨SqL.of e5, fun wt nwt => ?_⟩⟩
        have uw := same_upd (o := .tup (us.map V.str)) nwt
        have ew : upd H5 wt (.tup (us.map V.str)) wt = some (.tup (us.map V.str)) := upd_same
        have B6 := B5.same uw
        generalize upd H5 wt (.tup (us.map V.str)) = H6 at uw ew B6 ⊢
        refine ⟨_, rfl, b, cc, _, rfl, B6, by decide, by decide, fun pp H7 p0 p9 k7 B7 => ⟨_, _, rfl, rfl, ?_⟩⟩
        refine ⟨_, rfl, b, cc, _, rfl, B7, by decide, by decide, fun qq H8 q0 q9 k8 B8 => ⟨_, _, rfl, rfl, (by show 3 ≤ sizeLine; decide), fun T nT => ?_⟩⟩
        obtain ⟨rb, hb⟩ := Ba.sel
        obtain ⟨rb6, hb6⟩ := B6.sel
        have kb8 : Kp b Hb H8 := k4.trans (k5.trans ((Kp.of uw).trans (k7.trans k8)))
        have uT := same_upd (o := .tup [V.ref wt, V.int (pp - 4), V.int (1 + qq)]) nT
        have eD8 := kb8 _ _ neD ea
        have eD9 := uT _ _ eD8
        refine ⟨_, eD9, small1000 (by have := plen pa; omega), xs ++ [.ref T], gs ++ [(us, shareF (pp - 4) (1 + qq))], by rw [List.length_append, lg]; rfl, ?_, ?_, ?_, ?_⟩
        · exact kp_push ((ka.trans kb8).trans (Kp.of uT)) nD
        · exact (B8.same uT).kp neD (B3.ne_new2 nD) Kp.upd
        · rw [upd_same]
        · refine Paired.snoc (pmono (fun v g h => (h.keep (kp_tup kb8 hb)).keep fun a xs e => put_tup eD9 a xs (uT _ _ e)) pa) ⟨T, wt, pp - 4, 1 + qq, rfl, put_tup eD9 _ _ upd_same, put_tup eD9 _ _ (uT _ _ (kp_tup (k7.trans k8) hb6 _ _ ew)), hu, ?_, by omega, by omega, by omega, rfl⟩
          show us.length ≤ 2
          omega
      · rintro H4 ⟨xs, gs, lg, k4, B4, e4, p4⟩
        have k24 := k3.trans k4
        exact ⟨D, xs, gs, rfl, B4, keepT B2 T2 k24, k24 _ _ neN eN, neD, e4, p4, by omega⟩
    rintro σ H3 ⟨Tl, xs, gs, rfl, B3, T3, eN3, neT, eT, pT, lg⟩
    obtain ⟨wa, wr, rfl⟩ : ∃ wa wr, ws = wa :: wr := by
      cases ws with
      | nil => cases lw
      | cons x r => exact ⟨x, r, rfl⟩
    have nwa := nm wa List.mem_cons_self
    have lwa := nameB_len nwa
    refine ⟨_, rfl, N, _, _, _, rfl, rfl, SqL.of eN3, atI_nat (j := 0) rfl, ?_⟩
    -- the bad term
    refine ⟨fun σ' H' => ∃ bad : V, σ' = [some (.ref a), some (.ref b), some (.int ((0 : Int) + (i : Int))), some (.ref N), some (.ref Tl), none, none, some (.str wa), some bad, y9, y10, y11, y12, y13] ∧ (∀ Hy, Kp b H' Hy → ∃ d, TermAt Hy bad d ∧ termB d = false) ∧ Kp b H3 H' ∧ Bg H' b cc, ?_, ?_⟩
    · obtain ⟨G0, hG0⟩ : ∃ G0, G0 = H3 := ⟨_, rfl⟩
      obtain ⟨rbG, hbG⟩ := B3.sel
      rw [← hG0] at hbG ⊢
      refine ⟨_, rfl, by show 0 ≤ sizeLine; decide, fun x1 n1 => ?_⟩
      have c1 := same_upd (o := .tup []) n1
      have e1 : upd G0 x1 (.tup []) x1 = some (.tup []) := upd_same
      generalize upd G0 x1 (.tup []) = G1 at c1 e1 ⊢
      refine ⟨_, rfl, by show 1 ≤ sizeLine; decide, fun x2 n2 => ?_⟩
      have c2 := same_upd (o := .tup [.str wa]) n2
      have e2 : upd G1 x2 (.tup [.str wa]) x2 = some (.tup [.str wa]) := upd_same
      generalize upd G1 x2 (.tup [.str wa]) = G2 at c2 e2 ⊢
      refine ⟨by show 2 ≤ sizeLine; decide, fun x3 n3 => ?_⟩
      have c3 := same_upd (o := .tup [.ref x2, .int 1]) n3
      have e3 : upd G2 x3 (.tup [.ref x2, .int 1]) x3 = some (.tup [.ref x2, .int 1]) := upd_same
      generalize upd G2 x3 (.tup [.ref x2, .int 1]) = G3 at c3 e3 ⊢
      refine ⟨_, rfl, by show 1 ≤ sizeLine; decide, fun x4 n4 => ?_⟩
      have c4 := same_upd (o := .tup [.str wa]) n4
      have e4 : upd G3 x4 (.tup [.str wa]) x4 = some (.tup [.str wa]) := upd_same
      generalize upd G3 x4 (.tup [.str wa]) = G4 at c4 e4 ⊢
      refine ⟨by show 3 ≤ sizeLine; decide, fun x5 n5 => ?_⟩
      have c5 := same_upd (o := .tup [.ref x4, .int 1, .int 0]) n5
      have e5 : upd G4 x5 (.tup [.ref x4, .int 1, .int 0]) x5 = some (.tup [.ref x4, .int 1, .int 0]) := upd_same
      generalize upd G4 x5 (.tup [.ref x4, .int 1, .int 0]) = G5 at c5 e5 ⊢
      refine ⟨_, rfl, by show 1 ≤ sizeLine; decide, fun x6 n6 => ?_⟩
      have c6 := same_upd (o := .tup [.str wa]) n6
      have e6 : upd G5 x6 (.tup [.str wa]) x6 = some (.tup [.str wa]) := upd_same
      generalize upd G5 x6 (.tup [.str wa]) = G6 at c6 e6 ⊢
      refine ⟨_, rfl, by show 3 ≤ sizeLine; decide, fun x7 n7 => ?_⟩
      have c7 := same_upd (o := .tup [.ref x6, .int 1, .int (-2)]) n7
      have e7 : upd G6 x7 (.tup [.ref x6, .int 1, .int (-2)]) x7 = some (.tup [.ref x6, .int 1, .int (-2)]) := upd_same
      generalize upd G6 x7 (.tup [.ref x6, .int 1, .int (-2)]) = G7 at c7 e7 ⊢
      refine ⟨_, rfl, by show 1 ≤ sizeLine; decide, fun x8 n8 => ?_⟩
      have c8 := same_upd (o := .tup [.str wa]) n8
      have e8 : upd G7 x8 (.tup [.str wa]) x8 = some (.tup [.str wa]) := upd_same
      generalize upd G7 x8 (.tup [.str wa]) = G8 at c8 e8 ⊢
      refine ⟨by show 3 ≤ sizeLine; decide, fun x9 n9 => ?_⟩
      have c9 := same_upd (o := .tup [.ref x8, .bl true, .int 1]) n9
      have e9 : upd G8 x9 (.tup [.ref x8, .bl true, .int 1]) x9 = some (.tup [.ref x8, .bl true, .int 1]) := upd_same
      generalize upd G8 x9 (.tup [.ref x8, .bl true, .int 1]) = G9 at c9 e9 ⊢
      refine ⟨_, rfl, by show 1 ≤ sizeLine; decide, fun x10 n10 => ?_⟩
      have c10 := same_upd (o := .tup [.str wa]) n10
      have e10 : upd G9 x10 (.tup [.str wa]) x10 = some (.tup [.str wa]) := upd_same
      generalize upd G9 x10 (.tup [.str wa]) = G10 at c10 e10 ⊢
      refine ⟨by show 3 ≤ sizeLine; decide, fun x11 n11 => ?_⟩
      have c11 := same_upd (o := .tup [.ref x10, .int 1, .bl true]) n11
      have e11 : upd G10 x11 (.tup [.ref x10, .int 1, .bl true]) x11 = some (.tup [.ref x10, .int 1, .bl true]) := upd_same
      generalize upd G10 x11 (.tup [.ref x10, .int 1, .bl true]) = G11 at c11 e11 ⊢
      refine ⟨_, rfl, by show 1 ≤ sizeLine; decide, fun x12 n12 => ?_⟩
      have c12 := same_upd (o := .tup [.str wa]) n12
      have e12 : upd G11 x12 (.tup [.str wa]) x12 = some (.tup [.str wa]) := upd_same
      generalize upd G11 x12 (.tup [.str wa]) = G12 at c12 e12 ⊢
      refine ⟨by show 3 ≤ sizeLine; decide, fun x13 n13 => ?_⟩
      have c13 := same_upd (o := .tup [.ref x12, .int 1, .str "1"]) n13
      have e13 : upd G12 x13 (.tup [.ref x12, .int 1, .str "1"]) x13 = some (.tup [.ref x12, .int 1, .str "1"]) := upd_same
      generalize upd G12 x13 (.tup [.ref x12, .int 1, .str "1"]) = G13 at c13 e13 ⊢
      refine ⟨_, rfl, by show 1 ≤ sizeLine; decide, fun x14 n14 => ?_⟩
      have c14 := same_upd (o := .lst [.str wa]) n14
      have e14 : upd G13 x14 (.lst [.str wa]) x14 = some (.lst [.str wa]) := upd_same
      generalize upd G13 x14 (.lst [.str wa]) = G14 at c14 e14 ⊢
      refine ⟨by show 3 ≤ sizeLine; decide, fun x15 n15 => ?_⟩
      have c15 := same_upd (o := .tup [.ref x14, .int 1, .int 1]) n15
      have e15 : upd G14 x15 (.tup [.ref x14, .int 1, .int 1]) x15 = some (.tup [.ref x14, .int 1, .int 1]) := upd_same
      generalize upd G14 x15 (.tup [.ref x14, .int 1, .int 1]) = G15 at c15 e15 ⊢
      refine ⟨_, rfl, _, rfl, _, rfl, by show 3 ≤ sizeLine; decide, fun x16 n16 => ?_⟩
      have c16 := same_upd (o := .tup [.str wa, .str wa, .str wa]) n16
      have e16 : upd G15 x16 (.tup [.str wa, .str wa, .str wa]) x16 = some (.tup [.str wa, .str wa, .str wa]) := upd_same
      generalize upd G15 x16 (.tup [.str wa, .str wa, .str wa]) = G16 at c16 e16 ⊢
      refine ⟨by show 3 ≤ sizeLine; decide, fun x17 n17 => ?_⟩
      have c17 := same_upd (o := .tup [.ref x16, .int 1, .int 1]) n17
      have e17 : upd G16 x17 (.tup [.ref x16, .int 1, .int 1]) x17 = some (.tup [.ref x16, .int 1, .int 1]) := upd_same
      generalize upd G16 x17 (.tup [.ref x16, .int 1, .int 1]) = G17 at c17 e17 ⊢
      refine ⟨by show 1 ≤ sizeLine; decide, fun x18 n18 => ?_⟩
      have c18 := same_upd (o := .tup [.str "A"]) n18
      have e18 : upd G17 x18 (.tup [.str "A"]) x18 = some (.tup [.str "A"]) := upd_same
      generalize upd G17 x18 (.tup [.str "A"]) = G18 at c18 e18 ⊢
      refine ⟨by show 3 ≤ sizeLine; decide, fun x19 n19 => ?_⟩
      have c19 := same_upd (o := .tup [.ref x18, .int 1, .int 1]) n19
      have e19 : upd G18 x19 (.tup [.ref x18, .int 1, .int 1]) x19 = some (.tup [.ref x18, .int 1, .int 1]) := upd_same
      generalize upd G18 x19 (.tup [.ref x18, .int 1, .int 1]) = G19 at c19 e19 ⊢
      refine ⟨by show 1 ≤ sizeLine; decide, fun x20 n20 => ?_⟩
      have c20 := same_upd (o := .tup [.str "in"]) n20
      have e20 : upd G19 x20 (.tup [.str "in"]) x20 = some (.tup [.str "in"]) := upd_same
      generalize upd G19 x20 (.tup [.str "in"]) = G20 at c20 e20 ⊢
      refine ⟨by show 3 ≤ sizeLine; decide, fun x21 n21 => ?_⟩
      have c21 := same_upd (o := .tup [.ref x20, .int 1, .int 1]) n21
      have e21 : upd G20 x21 (.tup [.ref x20, .int 1, .int 1]) x21 = some (.tup [.ref x20, .int 1, .int 1]) := upd_same
      generalize upd G20 x21 (.tup [.ref x20, .int 1, .int 1]) = G21 at c21 e21 ⊢
      refine ⟨_, rfl, by show 3 ≤ sizeLine; decide, fun x22 n22 => ?_⟩
      have c22 := same_upd (o := .tup [.str wa, .int 1, .int 1]) n22
      have e22 : upd G21 x22 (.tup [.str wa, .int 1, .int 1]) x22 = some (.tup [.str wa, .int 1, .int 1]) := upd_same
      generalize upd G21 x22 (.tup [.str wa, .int 1, .int 1]) = G22 at c22 e22 ⊢
      refine ⟨_, rfl, by show 1 ≤ sizeLine; decide, fun x23 n23 => ?_⟩
      have c23 := same_upd (o := .tup [.str wa]) n23
      have e23 : upd G22 x23 (.tup [.str wa]) x23 = some (.tup [.str wa]) := upd_same
      generalize upd G22 x23 (.tup [.str wa]) = G23 at c23 e23 ⊢
      refine ⟨by show 3 ≤ sizeLine; decide, fun x24 n24 => ?_⟩
      have c24 := same_upd (o := .lst [.ref x23, .int 1, .int 1]) n24
      have e24 : upd G23 x24 (.lst [.ref x23, .int 1, .int 1]) x24 = some (.lst [.ref x23, .int 1, .int 1]) := upd_same
      generalize upd G23 x24 (.lst [.ref x23, .int 1, .int 1]) = G24 at c24 e24 ⊢
      refine ⟨_, rfl, by show 1 ≤ sizeLine; decide, fun x25 n25 => ?_⟩
      have c25 := same_upd (o := .tup [.str wa]) n25
      have e25 : upd G24 x25 (.tup [.str wa]) x25 = some (.tup [.str wa]) := upd_same
      generalize upd G24 x25 (.tup [.str wa]) = G25 at c25 e25 ⊢
      refine ⟨by show 4 ≤ sizeLine; decide, fun x26 n26 => ?_⟩
      have c26 := same_upd (o := .tup [.ref x25, .int 1, .int 1, .int 1]) n26
      have e26 : upd G25 x26 (.tup [.ref x25, .int 1, .int 1, .int 1]) x26 = some (.tup [.ref x25, .int 1, .int 1, .int 1]) := upd_same
      generalize upd G25 x26 (.tup [.ref x25, .int 1, .int 1, .int 1]) = G26 at c26 e26 ⊢
      refine ⟨_, rfl, by show 2 ≤ sizeLine; decide, fun x27 n27 => ?_⟩
      have c27 := same_upd (o := .tup [.str wa, .non]) n27
      have e27 : upd G26 x27 (.tup [.str wa, .non]) x27 = some (.tup [.str wa, .non]) := upd_same
      generalize upd G26 x27 (.tup [.str wa, .non]) = G27 at c27 e27 ⊢
      refine ⟨by show 3 ≤ sizeLine; decide, fun x28 n28 => ?_⟩
      have c28 := same_upd (o := .tup [.ref x27, .int 1, .int 1]) n28
      have e28 : upd G27 x28 (.tup [.ref x27, .int 1, .int 1]) x28 = some (.tup [.ref x27, .int 1, .int 1]) := upd_same
      generalize upd G27 x28 (.tup [.ref x27, .int 1, .int 1]) = G28 at c28 e28 ⊢
      refine ⟨by show 18 ≤ sizeLine; decide, fun x29 n29 => ?_⟩
      have c29 := same_upd (o := .lst [.non, .int 5, .str "a", .ref x1, .ref x3, .ref x5, .ref x7, .ref x9, .ref x11, .ref x13, .ref x15, .ref x17, .ref x19, .ref x21, .ref x22, .ref x24, .ref x26, .ref x28]) n29
      have e29 : upd G28 x29 (.lst [.non, .int 5, .str "a", .ref x1, .ref x3, .ref x5, .ref x7, .ref x9, .ref x11, .ref x13, .ref x15, .ref x17, .ref x19, .ref x21, .ref x22, .ref x24, .ref x26, .ref x28]) x29 = some (.lst [.non, .int 5, .str "a", .ref x1, .ref x3, .ref x5, .ref x7, .ref x9, .ref x11, .ref x13, .ref x15, .ref x17, .ref x19, .ref x21, .ref x22, .ref x24, .ref x26, .ref x28]) := upd_same
      generalize upd G28 x29 (.lst [.non, .int 5, .str "a", .ref x1, .ref x3, .ref x5, .ref x7, .ref x9, .ref x11, .ref x13, .ref x15, .ref x17, .ref x19, .ref x21, .ref x22, .ref x24, .ref x26, .ref x28]) = G29 at c29 e29 ⊢
      have w0 : Same G0 G0 := Same.refl _
      have w1 := w0.trans c1
      have w2 := w1.trans c2
      have w3 := w2.trans c3
      have w4 := w3.trans c4
      have w5 := w4.trans c5
      have w6 := w5.trans c6
      have w7 := w6.trans c7
      have w8 := w7.trans c8
      have w9 := w8.trans c9
      have w10 := w9.trans c10
      have w11 := w10.trans c11
      have w12 := w11.trans c12
      have w13 := w12.trans c13
      have w14 := w13.trans c14
      have w15 := w14.trans c15
      have w16 := w15.trans c16
      have w17 := w16.trans c17
      have w18 := w17.trans c18
      have w19 := w18.trans c19
      have w20 := w19.trans c20
      have w21 := w20.trans c21
      have w22 := w21.trans c22
      have w23 := w22.trans c23
      have w24 := w23.trans c24
      have w25 := w24.trans c25
      have w26 := w25.trans c26
      have w27 := w26.trans c27
      have w28 := w27.trans c28
      have w29 := w28.trans c29
      refine ⟨b, cc, .ref x29, rfl, (by rw [hG0] at w29; exact B3.same w29), .inl ⟨x29, _, rfl, (ne_of_none (w28 _ _ hbG) n29).symm, e29, by simp, (by show 18 ≤ 1000; decide), fun bad H2 hbd k2 B2 => ?_⟩⟩
      refine ⟨bad, rfl, fun Hy ky => ?_, (Kp.of w29).trans k2, B2⟩
      have k3 := k2.trans ky
      have z29 : Same G29 G29 := Same.refl _
      have z28 := c29.trans z29
      have z27 := c28.trans z28
      have z26 := c27.trans z27
      have z25 := c26.trans z26
      have z24 := c25.trans z25
      have z23 := c24.trans z24
      have z22 := c23.trans z23
      have z21 := c22.trans z22
      have z20 := c21.trans z21
      have z19 := c20.trans z20
      have z18 := c19.trans z19
      have z17 := c18.trans z18
      have z16 := c17.trans z17
      have z15 := c16.trans z16
      have z14 := c15.trans z15
      have z13 := c14.trans z14
      have z12 := c13.trans z13
      have z11 := c12.trans z12
      have z10 := c11.trans z11
      have z9 := c10.trans z10
      have z8 := c9.trans z9
      have z7 := c8.trans z8
      have z6 := c7.trans z7
      have z5 := c6.trans z6
      have z4 := c5.trans z5
      have z3 := c4.trans z4
      have z2 := c3.trans z3
      have z1 := c2.trans z2
      have z0 := c1.trans z1
      have kt : ∀ {x : Addr} {xs : List V}, G29 x = some (.tup xs) → Hy x = some (.tup xs) := fun h => k3 _ _ (ne_of h (w29 _ _ hbG) (by intro q; cases q)) h
      have kl : ∀ {x : Addr} {xs : List V}, b ≠ x → G29 x = some (.lst xs) → Hy x = some (.lst xs) := fun q h => k3 _ _ (fun z => q z.symm) h
      have f1 := kt (z1 _ _ e1)
      have f2 := kt (z2 _ _ e2)
      have f3 := kt (z3 _ _ e3)
      have f4 := kt (z4 _ _ e4)
      have f5 := kt (z5 _ _ e5)
      have f6 := kt (z6 _ _ e6)
      have f7 := kt (z7 _ _ e7)
      have f8 := kt (z8 _ _ e8)
      have f9 := kt (z9 _ _ e9)
      have f10 := kt (z10 _ _ e10)
      have f11 := kt (z11 _ _ e11)
      have f12 := kt (z12 _ _ e12)
      have f13 := kt (z13 _ _ e13)
      have f14 := kl (ne_of_none (w13 _ _ hbG) n14) (z14 _ _ e14)
      have f15 := kt (z15 _ _ e15)
      have f16 := kt (z16 _ _ e16)
      have f17 := kt (z17 _ _ e17)
      have f18 := kt (z18 _ _ e18)
      have f19 := kt (z19 _ _ e19)
      have f20 := kt (z20 _ _ e20)
      have f21 := kt (z21 _ _ e21)
      have f22 := kt (z22 _ _ e22)
      have f23 := kt (z23 _ _ e23)
      have f24 := kl (ne_of_none (w23 _ _ hbG) n24) (z24 _ _ e24)
      have f25 := kt (z25 _ _ e25)
      have f26 := kt (z26 _ _ e26)
      have f27 := kt (z27 _ _ e27)
      have f28 := kt (z28 _ _ e28)
      have sa : Sca (.str wa) := (by omega : wa.length ≤ 1000)
      have one : ∀ {x : Addr}, Hy x = some (.tup [.str wa]) → WordAt Hy (.ref x) (.names [.str wa]) := fun h => ⟨_, rfl, h, fun e he => by rw [List.mem_singleton.mp he]; exact sa, by show 1 ≤ 100; decide⟩
      simp only [List.mem_cons, List.not_mem_nil, or_false] at hbd
      rcases hbd with rfl | rfl | rfl | rfl | rfl | rfl | rfl | rfl | rfl | rfl | rfl | rfl | rfl | rfl | rfl | rfl | rfl | rfl
      · exact ⟨.other, .non, rfl⟩
      · exact ⟨.other, .int _, rfl⟩
      · exact ⟨.other, .str _, rfl⟩
      · exact ⟨.short, ⟨_, _, rfl, f1, by show 0 ≠ 3; decide, by show 0 ≤ 100; decide⟩, rfl⟩
      · exact ⟨.short, ⟨_, _, rfl, f3, by show 2 ≠ 3; decide, by show 2 ≤ 100; decide⟩, rfl⟩
      · exact ⟨.tri (.names [.str wa]) (.int 1) (.int 0), ⟨_, _, rfl, f5, one f4, True.intro, True.intro⟩, Bool.and_false _⟩
      · exact ⟨.tri (.names [.str wa]) (.int 1) (.int (-2)), ⟨_, _, rfl, f7, one f6, True.intro, True.intro⟩, Bool.and_false _⟩
      · exact ⟨.tri (.names [.str wa]) (.bl true) (.int 1), ⟨_, _, rfl, f9, one f8, True.intro, True.intro⟩, Bool.and_false _⟩
      · exact ⟨.tri (.names [.str wa]) (.int 1) (.bl true), ⟨_, _, rfl, f11, one f10, True.intro, True.intro⟩, Bool.and_false _⟩
      · exact ⟨.tri (.names [.str wa]) (.int 1) (.str "1"), ⟨_, _, rfl, f13, one f12, True.intro, (by show Str.length _ ≤ 1000; decide)⟩, Bool.and_false _⟩
      · exact ⟨.tri .other (.int 1) (.int 1), ⟨_, _, rfl, f15, (.lst f14), True.intro, True.intro⟩, rfl⟩
      · exact ⟨.tri (.names [.str wa, .str wa, .str wa]) (.int 1) (.int 1), ⟨_, _, rfl, f17, ⟨_, rfl, f16, fun e he => (by simp only [List.mem_cons, List.not_mem_nil, or_false, or_self] at he; rw [he]; exact sa), by show 3 ≤ 100; decide⟩, True.intro, True.intro⟩, rfl⟩
      · exact ⟨.tri (.names [.str "A"]) (.int 1) (.int 1), ⟨_, _, rfl, f19, ⟨_, rfl, f18, fun e he => (by rw [List.mem_singleton.mp he]; show Str.length _ ≤ 1000; decide), by show 1 ≤ 100; decide⟩, True.intro, True.intro⟩, by decide +kernel⟩
      · exact ⟨.tri (.names [.str "in"]) (.int 1) (.int 1), ⟨_, _, rfl, f21, ⟨_, rfl, f20, fun e he => (by rw [List.mem_singleton.mp he]; show Str.length _ ≤ 1000; decide), by show 1 ≤ 100; decide⟩, True.intro, True.intro⟩, by decide +kernel⟩
      · exact ⟨.tri .other (.int 1) (.int 1), ⟨_, _, rfl, f22, (.str _), True.intro, True.intro⟩, rfl⟩
      · exact ⟨.other, .lst f24, rfl⟩
      · exact ⟨.short, ⟨_, _, rfl, f26, by show 4 ≠ 3; decide, by show 4 ≤ 100; decide⟩, rfl⟩
      · exact ⟨.tri (.names [.str wa, .non]) (.int 1) (.int 1), ⟨_, _, rfl, f28, ⟨_, rfl, f27, fun e he => (by simp only [List.mem_cons, List.not_mem_nil, or_false] at he; rcases he with rfl | rfl; exact sa; exact True.intro), by show 2 ≤ 100; decide⟩, True.intro, True.intro⟩, by show ((true && (nameB wa && (false && true))) && _) = false; simp⟩
    rintro σ H4 ⟨bad, rfl, hbad, k4, B4⟩
    -- the place
    refine ⟨fun σ' H' => ∃ sp : Nat, σ' = [some (.ref a), some (.ref b), some (.int ((0 : Int) + (i : Int))), some (.ref N), some (.ref Tl), none, none, some (.str wa), some bad, some (.int (sp : Int)), y10, y11, y12, y13] ∧ sp ≤ xs.length ∧ Kp b H4 H' ∧ Bg H' b cc, ?_, ?_⟩
    · have lx := plen pT
      have eT4 := k4 _ _ neT eT
      refine ⟨_, rfl, _, rfl, .ref Tl, xs.length, rfl, .inl ⟨_, SqL.of eT4, rfl⟩, _, _, rfl, rfl, b, cc, _, rfl, B4, by omega, by omega, fun sp H5 p0 p9 k5 B5 => ?_⟩
      obtain ⟨sn, rfl⟩ : ∃ sn : Nat, sp = (sn : Int) := ⟨sp.toNat, by omega⟩
      exact ⟨sn, rfl, by omega, k5, B5⟩
    rintro σ H5 ⟨sp, rfl, hsp, k5, B5⟩
    have k35 := k4.trans k5
    have eT5 := k35 _ _ neT eT
    have T5 := keepT B3 T3 k35
    obtain ⟨rb3, hb3⟩ := B3.sel
    have pT5 : Paired (DrawnT H5) xs gs := pmono (fun v g h => h.keep (kp_tup k35 hb3)) pT
    obtain ⟨d0, td0, nd0⟩ := hbad H5 k5
    have lx := plen pT
    -- the rows
    refine ⟨fun σ' H' => ∃ Rl : Addr, σ' = [some (.ref a), some (.ref b), some (.int ((0 : Int) + (i : Int))), some (.ref N), some (.ref Tl), none, none, some (.str wa), some bad, some (.int (sp : Int)), some (.ref Rl), y11, y12, y13] ∧ Same H5 H' ∧ H' Rl = some (.lst (xs.take sp ++ [bad] ++ xs.drop sp ++ [.non])), ?_, ?_⟩
    · refine ⟨_, rfl, _, rfl, sp, rfl, Tl, xs, rfl, SqL.of eT5, fun p1 n1 => ?_⟩
      rw [cut_lo hsp]
      have u1 := same_upd (o := .lst (xs.take sp)) n1
      refine ⟨_, rfl, (by show 1 ≤ sizeLine; decide), fun p2 n2 => ?_⟩
      have u2 := same_upd (o := .lst [bad]) n2
      have lt : (xs.take sp).length ≤ 5 := by rw [List.length_take]; omega
      refine ⟨p1, p2, _, _, rfl, rfl, u2 _ _ upd_same, upd_same, Nat.le_of_lt (small1000 (by show _ + 1 ≤ 1000; omega)), fun p3 n3 => ?_⟩
      have u3 := same_upd (o := .lst (xs.take sp ++ [bad])) n3
      have u03 := u1.trans (u2.trans u3)
      refine ⟨_, rfl, _, rfl, sp, rfl, Tl, xs, rfl, SqL.of (u03 _ _ eT5), fun p4 n4 => ?_⟩
      rw [cut_hi hsp]
      have u4 := same_upd (o := .lst (xs.drop sp)) n4
      have lt2 : (xs.drop sp).length ≤ 5 := by rw [List.length_drop]; omega
      refine ⟨p3, p4, _, _, rfl, rfl, u4 _ _ upd_same, upd_same, Nat.le_of_lt (small1000 (by rw [List.length_append]; show _ + 1 + _ ≤ 1000; omega)), fun p5 n5 => ?_⟩
      have u5 := same_upd (o := .lst (xs.take sp ++ [bad] ++ xs.drop sp)) n5
      refine ⟨(by show 1 ≤ sizeLine; decide), fun p6 n6 => ?_⟩
      have u6 := same_upd (o := .lst [V.non]) n6
      refine ⟨p5, p6, _, _, rfl, rfl, u6 _ _ upd_same, upd_same, Nat.le_of_lt (small1000 (by rw [List.length_append, List.length_append]; show _ + 1 + _ + 1 ≤ 1000; omega)), fun p7 n7 => ?_⟩
      have u7 := same_upd (o := .lst (xs.take sp ++ [bad] ++ xs.drop sp ++ [V.non])) n7
      exact ⟨p7, rfl, u03.trans (u4.trans (u5.trans (u6.trans u7))), upd_same⟩
    rintro σ H6 ⟨Rl, rfl, s6, eR⟩
    have B6 := B5.same s6
    have T6 := T5.ext s6
    -- the first answers
    refine ⟨fun σ' H' => ∃ l a1 a2 a3 t3 : Addr, σ' = [some (.ref a), some (.ref b), some (.int ((0 : Int) + (i : Int))), some (.ref N), some (.ref Tl), none, none, some (.str wa), some bad, some (.int (sp : Int)), some (.ref Rl), some (.ref l), y12, y13] ∧ Bg H' b cc ∧ LamX.TabS H' Pt lq ∧ H' l = some (.lst [.ref a1, .ref a2, .ref a3]) ∧ H' a1 = some (.tup [.str "InvalidTerm", .int (sp : Int)]) ∧ H' a2 = some (.tup [.str "", .bl true]) ∧ H' a3 = some (.tup [.str "", .ref t3]) ∧ H' t3 = some (.tup [.int 1, .int 100000]), ?_, ?_⟩
    · refine ⟨fun p hp => by rw [List.mem_singleton.mp hp, ← hlq]; exact T6, fun fs H7 eN7 T7 L7 => ⟨by rw [List.length_map, L7.len]; show 3 ≤ sizeLine; decide, fun la nla => ?_⟩⟩
      have T7' : LamX.TabS H7 Pt lq := by
        rw [hlq]
        exact T7 _ List.mem_cons_self
      have u7 := same_upd (o := .lst (fs.map V.ref)) nla
      have B7 := bg_ext B6 eN7
      refine ⟨la, fs, _, _, [LamL.RT [.str "InvalidTerm", .int (sp : Int)], LamL.RT [.str "", .bl true], fun v H => ∃ p t, v = .ref p ∧ H p = some (.tup [.str "", .ref t]) ∧ H t = some (.tup [.int 1, .int 100000])], rfl, upd_same, ?_, L7.same u7, (LamL.LamsOk.cons (LamL.lamTxt_at N_law (defScope s_law) (by decide +kernel)) (LamL.bind0 fun _ _ _ _ _ _ => rfl) (fun A outer s H E f c' hr => (pe_mkE MK_Form (takes_of rfl rfl rfl rfl) (hr.mono (by decide)) (by rfl) (pa_cons (pv 10) pa_nil)))
          (LamL.LamsOk.cons (LamL.lamTxt_at N_law (defScope s_law) (by decide +kernel)) (LamL.bind1 fun _ _ _ _ _ _ _ _ => ⟨_, rfl, rfl⟩) (fun A outer s H E f c' hr => (pe_cmpR op_le (pe_callB (OwO.cr_len rfl LNS LNF LNb (hr.mono (by decide))) (by rfl) B.len bb_len (pa_cons (pe_mkE MK_Form (takes_of rfl rfl rfl rfl) (hr.mono (by decide)) (by rfl) (pa_cons (pv 4) pa_nil)) pa_nil)) (pe_callB (NK.call_lenK K rfl) (by rfl) B.len bb_len (pa_cons (pv 4) pa_nil)) (nomark _)))
          (LamL.LamsOk.cons (LamL.lamTxt_at N_law (defScope s_law) (by decide +kernel)) (LamL.bind1 fun _ _ _ _ _ _ _ _ => ⟨_, rfl, rfl⟩) (fun A outer s H E f c' hr => (pe_ownMR cl_ M_share_of (hr.mono (by decide)) (pe_mkE MK_Form (takes_of rfl rfl rfl rfl) (hr.mono (by decide)) (by rfl) (pa_cons (pe_lst (pa_cons (pe_tup (pa_cons (pe_tup (pa_cons (pv 7) pa_nil)) (pa_cons (pe_op op_pow pe_int pe_int) (pa_cons (pe_op op_pow pe_int pe_int) pa_nil)))) pa_nil)) pa_nil)) (pa_cons (pv 7) pa_nil)))
          LamL.LamsOk.nil))), ?_, fun xs' l H8 s8 nl el pr => ?_⟩
      · rw [L7.len]
        show 3 ≤ 100
        decide
      · have up : ∀ {Hb : Hp} {x : Addr} {o : HO}, Same (upd H7 la (.lst (fs.map V.ref))) Hb → H6 x = some o → (∀ ps, o ≠ .tbl ps) → Hb x = some o := fun sb e ne => sb _ _ (u7 _ _ (eN7 _ _ e ne))
        have erT : ∀ {Hb : Hp} {Q : VK} {x : V}, (∀ v H', Same Hb H' → LamL.RT [.str "InvalidTerm", x] v H' → Q v H') → ∀ H' d, Same Hb H' → H' d = none → ErrWish K [C1, C2, C3] Q (.ref CT) (some d) (upd H' d (.xd (errD "at" "InvalidTerm" x))) := fun qk H' d s' nd =>
          ⟨hmT, "InvalidTerm", _, ⟨⟨CT, d, _, "at", rfl, xfT, rfl, upd_same, noCT, rfl, by decide +kernel, noFT, rfl⟩⟩, fun H2 p s2 hp => qk _ _ (s'.trans ((same_upd nd).trans (s2.trans (same_upd hp)))) ⟨p, rfl, upd_same⟩⟩
        have made : ∀ {Hb : Hp} {x dx : Addr}, Hb x = none → Hb dx = none → Same Hb (upd (upd Hb dx (.own x)) x (.ins C dx [])) := fun h1 h2 b o e => by
          rw [upd_ne (ne_of_none e h1), upd_ne (ne_of_none e h2)]
          exact e
        have behind : ∀ {Hb H' : Hp} {x dx : Addr}, Hb x = none → Hb dx = none → Kp x (upd (upd Hb dx (.own x)) x (.ins C dx [])) H' → Same Hb H' := fun h1 h2 kp b o e => kp b o (ne_of_none e h1) (made h1 h2 b o e)
        have drawn : ∀ {Hb : Hp}, Same (upd H7 la (.lst (fs.map V.ref))) Hb → Paired (DrawnT Hb) xs gs := fun sb => pmono (fun v g h => h.keep fun a ys e => up sb (s6 _ _ e) (by intro ps z; cases z)) pT5
        refine ⟨LamL.RT.keeps, fun Hb Q sb qk => ?_, LamL.RT.keeps, fun Hb Q sb qk => ?_, ?_, fun Hb Q sb qk => ?_, True.intro⟩
        · obtain ⟨ds, pd, pg⟩ := drawn_terms (drawn sb)
          obtain ⟨ds', pr, hn, before, ld⟩ := rows_bad pd pg ((((td0.same s6).ext eN7).same u7).same sb) nd0 hsp
          refine ⟨_, rfl, fun x dx h1 h2 h3 => ?_⟩
          have sm := made h1 h2
          exact ⟨x, dx, Rl, rfl, upd_same, .inr (.inl ⟨_, ds', sp, d0, sm _ _ (up sb eR (by intro ps z; cases z)), pmono (fun v d h => h.same sm) pr, by omega, hn, nd0, before, fun H' d s' nd => erT qk H' d (sm.trans s') nd⟩)⟩
        · obtain ⟨ds, pd, pg⟩ := drawn_terms (drawn sb)
          refine ⟨_, rfl, fun x dx h1 h2 h3 => ?_⟩
          have sm := made h1 h2
          have eTb := up sb (s6 _ _ eT5) (by intro ps z; cases z)
          refine ⟨x, dx, Tl, rfl, upd_same, .inl ⟨xs, ds, gs, sm _ _ eTb, pmono (fun v d h => h.same sm) pd, pg, drawn_mild (drawn sb) lg, fun H' kp hf => ⟨rfl, ?_⟩⟩⟩
          have sH := behind h1 h2 kp
          obtain ⟨dx', D, kvs, q1, q2, q3⟩ := id hf
          have gl := gather_len gs
          refine ⟨x, dx', _, rfl, q1, x, gatherF gs, rfl, hf, (gatherF gs).length, rfl, by omega, ?_⟩
          refine ⟨_, rfl, .ref Tl, xs.length, rfl, .inl ⟨_, SqL.of (sH _ _ eTb), rfl⟩, _, _, rfl, rfl, by show 2 ≤ sizeLine; decide, fun p hp => qk _ _ (sH.trans (same_upd hp)) ⟨p, rfl, ?_⟩⟩
          rw [upd_same]
          show some (HO.tup [V.str "", V.bl (decide (((gatherF gs).length : Int) ≤ (xs.length : Int)))]) = _
          rw [decide_eq_true (by omega)]
        · rintro v H1 H2 ⟨p, t, e, h1, h2⟩ s
          exact ⟨p, t, e, s _ _ h1, s _ _ h2⟩
        · refine ⟨_, rfl, by show 1 ≤ sizeLine; decide, fun y1 n1 => ?_⟩
          have v1 := same_upd (o := .tup [V.str wa]) n1
          refine ⟨_, _, rfl, rfl, by first | exact ⟨by decide, by decide⟩ | exact ⟨by decide, by decide, by decide⟩ | exact .inl ⟨by decide, by decide⟩ | exact .inr ⟨by decide, by decide⟩, ?_⟩
          refine ⟨_, _, rfl, rfl, by first | exact ⟨by decide, by decide⟩ | exact ⟨by decide, by decide, by decide⟩ | exact .inl ⟨by decide, by decide⟩ | exact .inr ⟨by decide, by decide⟩, ?_⟩
          refine ⟨by show 3 ≤ sizeLine; decide, fun y2 n2 => ⟨by show 1 ≤ sizeLine; decide, fun y3 n3 => fun x dx h1 h2 h3 => ?_⟩⟩
          have v2 := same_upd (o := .tup [V.ref y1, V.int (10 ^ (20 : Int).toNat), V.int (10 ^ (25 : Int).toNat)]) n2
          have v3 := same_upd (o := .lst [V.ref y2]) n3
          have sm := made h1 h2
          have sw : ∀ e ∈ [V.str wa], Sca e := words_sca (ws := [wa]) fun x hx => by rw [List.mem_singleton.mp hx]; exact nwa
          refine ⟨x, dx, y3, rfl, upd_same, .inl ⟨[.ref y2], [.tri (.names [.str wa]) (.int ((10 : Int) ^ (20 : Int).toNat)) (.int ((10 : Int) ^ (25 : Int).toNat))], [([wa], (1, 100000))], sm _ _ upd_same, .cons ⟨y2, .ref y1, rfl, sm _ _ (v3 _ _ upd_same), ⟨y1, rfl, sm _ _ (v3 _ _ (v2 _ _ upd_same)), sw, by show 1 ≤ 100; decide⟩, True.intro, True.intro⟩ .nil, .cons (of_big nwa) .nil, mild_big [wa], fun H' kp hf => ⟨rfl, ?_⟩⟩⟩
          have sH := behind h1 h2 kp
          rw [gather_one (by decide)] at hf
          obtain ⟨dx', D, kvs, q1, q2, q3⟩ := id hf
          refine ⟨x, dx', _, rfl, q1, rfl, _, rfl, x, _, [wa], rfl, by show 1 ≤ 100; decide, hf, ?_⟩
          rw [get_one]
          exact fun H2 m s2 hm => ⟨by show 2 ≤ sizeLine; decide, fun p hp => qk _ _ (v1.trans (v2.trans (v3.trans (sH.trans (s2.trans (same_upd hp)))))) ⟨p, m, rfl, upd_same, same_upd hp _ _ hm⟩⟩
      · obtain ⟨_, xs1, rfl, ⟨a1, rfl, g1⟩, pr1⟩ := LamL.pcons pr
        obtain ⟨_, xs2, rfl, ⟨a2, rfl, g2⟩, pr2⟩ := LamL.pcons pr1
        obtain ⟨_, xs3, rfl, ⟨a3, t3, rfl, g3, h3⟩, pr3⟩ := LamL.pcons pr2
        obtain rfl := LamL.pnil pr3
        have s78 := u7.trans s8
        exact ⟨l, a1, a2, a3, t3, rfl, B7.same s78, T7'.ext s78, el, g1, g2, g3, h3⟩
    rintro σ H8 ⟨l, a1, a2, a3, t3, rfl, B8, T8, el, g1, g2, g3, h3⟩
    refine ⟨_, rfl, _, rfl, by show 2 ≤ sizeLine; decide, fun q1 n1 => ⟨by show 2 ≤ sizeLine; decide, fun q2 n2 => ?_⟩⟩
    have v1 := same_upd (o := .tup [V.str "InvalidTerm", V.int (sp : Int)]) n1
    have v2 := same_upd (o := .tup [V.str "", V.bl true]) n2
    refine ⟨_, _, rfl, rfl, by first | exact ⟨by decide, by decide⟩ | exact ⟨by decide, by decide, by decide⟩ | exact .inl ⟨by decide, by decide⟩ | exact .inr ⟨by decide, by decide⟩, ?_⟩
    refine ⟨by show 2 ≤ sizeLine; decide, fun q3 n3 => ⟨by show 2 ≤ sizeLine; decide, fun q4 n4 => ⟨by show 3 ≤ sizeLine; decide, fun q5 n5 => ?_⟩⟩⟩
    have v3 := same_upd (o := .tup [V.int 1, V.int (10 ^ (5 : Int).toNat)]) n3
    have v4 := same_upd (o := .tup [V.str "", V.ref q3]) n4
    have v5 := same_upd (o := .lst [V.ref q1, V.ref q2, V.ref q4]) n5
    have x4 := v4.trans v5
    have x3 := v3.trans x4
    have x2 := v2.trans x3
    have x1 := v1.trans x2
    have e5 : V.int (10 ^ (5 : Int).toNat) = V.int 100000 := congrArg V.int (by decide)
    refine ⟨.ref l, .ref q5, rfl, Eqd.lst (x1 _ _ el) upd_same (by show 3 ≤ 1000; decide) ?_, fun H9 s9 => ⟨_, rfl, iteF ?_⟩⟩
    · refine .cons (Eqd.tup (x1 _ _ g1) (x2 _ _ upd_same) (by show 2 ≤ 1000; decide) (.cons (Eqd.leaf True.intro) (.cons (Eqd.leaf True.intro) .nil))) (.cons (Eqd.tup (x1 _ _ g2) (x3 _ _ upd_same) (by show 2 ≤ 1000; decide) (.cons (Eqd.leaf True.intro) (.cons (Eqd.leaf True.intro) .nil))) (.cons (Eqd.tup (x1 _ _ g3) (v5 _ _ upd_same) (by show 2 ≤ 1000; decide) (.cons (Eqd.leaf True.intro) (.cons ?_ .nil))) .nil))
      refine Eqd.tup (x1 _ _ h3) (x4 _ _ upd_same) (by show 2 ≤ 1000; decide) (.cons (Eqd.leaf True.intro) (.cons ?_ .nil))
      show Eqd _ 2 (V.int 100000) (V.int (10 ^ (5 : Int).toNat))
      rw [e5]
      exact Eqd.leaf True.intro
    have s89 := x1.trans s9
    have B9 := B8.same s89
    have T9 := T8.ext s89
    clear x1 x2 x3 x4 v1 v2 v3 v4 v5 s9
    -- the odd value
    refine ⟨fun σ' H' => ∃ od : V, σ' = [some (.ref a), some (.ref b), some (.int ((0 : Int) + (i : Int))), some (.ref N), some (.ref Tl), none, none, some (.str wa), some bad, some (.int (sp : Int)), some (.ref Rl), some (.ref l), some od, y13] ∧ OddV H' b od ∧ Kp b H9 H' ∧ Bg H' b cc, ?_, ?_⟩
    · exact ⟨_, rfl, b, cc, rfl, B9, fun v H' k B o => ⟨v, rfl, o, k, B⟩⟩
    rintro σ H10 ⟨od, rfl, hod, k10, B10⟩
    have T10 := keepT B9 T9 k10
    -- the second answers
    refine ⟨fun p hp => by rw [List.mem_singleton.mp hp, ← hlq]; exact T10, fun fs H11 eN T11 L11 => ⟨by rw [List.length_map, L11.len]; show 5 ≤ sizeLine; decide, fun la nla => ?_⟩⟩
    have T11' : LamX.TabS H11 Pt lq := by
      rw [hlq]
      exact T11 _ List.mem_cons_self
    have u11 := same_upd (o := .lst (fs.map V.ref)) nla
    have B11 := bg_ext B10 eN
    refine ⟨_, rfl, la, fs, _, _, [LamL.RT [.str "InvalidName", od], LamL.RT [.str "InvalidName", od], LamL.RT [.str "DegreeTooHigh", .non], LamL.RT [.str "InvalidName", od], LamL.RT [.str "", .str (wa ++ "*" ++ wa)]], rfl, upd_same, ?_, L11.same u11, (LamL.LamsOk.cons (LamL.lamTxt_at N_law (defScope s_law) (by decide +kernel)) (LamL.bind1 fun _ _ _ _ _ _ _ _ => ⟨_, rfl, rfl⟩) (fun A outer s H E f c' hr => (pe_statX (pe_gref gC_Form (by rfl)) ST_word (takes_of rfl rfl rfl rfl) (hr.mono (by decide)) (pa_cons (pv 7) (pa_cons (pv 12) pa_nil))))
          (LamL.LamsOk.cons (LamL.lamTxt_at N_law (defScope s_law) (by decide +kernel)) (LamL.bind1 fun _ _ _ _ _ _ _ _ => ⟨_, rfl, rfl⟩) (fun A outer s H E f c' hr => (pe_statX (pe_gref gC_Form (by rfl)) ST_word (takes_of rfl rfl rfl rfl) (hr.mono (by decide)) (pa_cons (pv 12) (pa_cons pe_non pa_nil))))
          (LamL.LamsOk.cons (LamL.lamTxt_at N_law (defScope s_law) (by decide +kernel)) (LamL.bind1 fun _ _ _ _ _ _ _ _ => ⟨_, rfl, rfl⟩) (fun A outer s H E f c' hr => (pe_statX (pe_gref gC_Form (by rfl)) ST_word (takes_of rfl rfl rfl rfl) (hr.mono (by decide)) (pa_cons (pv 7) (pa_cons (pv 7) (pa_cons (pv 7) pa_nil)))))
          (LamL.LamsOk.cons (LamL.lamTxt_at N_law (defScope s_law) (by decide +kernel)) (LamL.bind1 fun _ _ _ _ _ _ _ _ => ⟨_, rfl, rfl⟩) (fun A outer s H E f c' hr => (pe_statX (pe_gref gC_Form (by rfl)) ST_word (takes_of rfl rfl rfl rfl) (hr.mono (by decide)) (pa_cons (pv 7) (pa_cons (pv 7) (pa_cons (pv 7) (pa_cons (pv 12) pa_nil))))))
          (LamL.LamsOk.cons (LamL.lamTxt_at N_law (defScope s_law) (by decide +kernel)) (LamL.bind1 fun _ _ _ _ _ _ _ _ => ⟨_, rfl, rfl⟩) (fun A outer s H E f c' hr => (pe_ownM0 cl_ M_text (hr.mono (by decide)) (pe_statX (pe_gref gC_Form (by rfl)) ST_word (takes_of rfl rfl rfl rfl) (hr.mono (by decide)) (pa_cons (pv 7) (pa_cons (pv 7) pa_nil)))))
          LamL.LamsOk.nil))))), ?_, fun xs' m H12 s12 nm' em pr => ?_⟩
    · rw [L11.len]
      show 5 ≤ 100
      decide
    · have oddb : ∀ {Hb : Hp}, Same (upd H11 la (.lst (fs.map V.ref))) Hb → OddV Hb b od := fun sb => hod.keep fun a o e ne => sb _ _ (u11 _ _ (eN _ _ e ne))
      have erN : ∀ {Hb : Hp} {Q : VK} {x : V}, (∀ v H', Same Hb H' → LamL.RT [.str "InvalidName", x] v H' → Q v H') → ∀ H' d, Same Hb H' → H' d = none → ErrWish K [C1, C2, C3] Q (.ref CN) (some d) (upd H' d (.xd (errD "given" "InvalidName" x))) := fun qk H' d s' nd =>
        ⟨hmN, "InvalidName", _, ⟨⟨CN, d, _, "given", rfl, xfN, rfl, upd_same, noCN, rfl, by decide +kernel, noFN, rfl⟩⟩, fun H2 p s2 hp => qk _ _ (s'.trans ((same_upd nd).trans (s2.trans (same_upd hp)))) ⟨p, rfl, upd_same⟩⟩
      have erD : ∀ {Hb : Hp} {Q : VK} {x : V}, (∀ v H', Same Hb H' → LamL.RT [.str "DegreeTooHigh", x] v H' → Q v H') → ∀ H' d, Same Hb H' → H' d = none → ErrWish K [C1, C2, C3] Q (.ref CD) (some d) (upd H' d (.xd (errD "at" "DegreeTooHigh" x))) := fun qk H' d s' nd =>
        ⟨hmD, "DegreeTooHigh", _, ⟨⟨CD, d, _, "at", rfl, xfD, rfl, upd_same, noCD, rfl, by decide +kernel, noFD, rfl⟩⟩, fun H2 p s2 hp => qk _ _ (s'.trans ((same_upd nd).trans (s2.trans (same_upd hp)))) ⟨p, rfl, upd_same⟩⟩
      have no := odd_no hod
      have yes : nameV (.str wa) = true := nwa
      refine ⟨LamL.RT.keeps, fun Hb Q sb qk => ?_, LamL.RT.keeps, fun Hb Q sb qk => ?_, LamL.RT.keeps, fun Hb Q sb qk => ?_, LamL.RT.keeps, fun Hb Q sb qk => ?_, LamL.RT.keeps, fun Hb Q sb qk => ?_, True.intro⟩
      · refine ⟨rfl, _, rfl, _, rfl, ?_⟩
        unfold tNil
        dsimp only
        refine wordS_bad (vs := [V.str wa, od]) (v := od) (by show 2 ≤ 100; decide) (fun v hv => ?_) (by simp [yes, no]) (erN qk)
        simp only [List.mem_cons, List.not_mem_nil, or_false] at hv
        rcases hv with rfl | rfl
        · exact arg_name nwa
        · exact arg_odd (oddb sb)
      · refine ⟨rfl, _, rfl, ?_⟩
        unfold tCons tC tNil
        dsimp only
        refine wordS_bad (vs := [od, V.non]) (v := od) (by show 2 ≤ 100; decide) (fun v hv => ?_) (by simp [no]) (erN qk)
        simp only [List.mem_cons, List.not_mem_nil, or_false] at hv
        rcases hv with rfl | rfl
        · exact arg_odd (oddb sb)
        · exact ⟨⟨_, .non⟩, fun z e => by cases e⟩
      · refine ⟨rfl, _, rfl, _, rfl, _, rfl, ?_⟩
        unfold tNil
        dsimp only
        refine wordS_many (vs := [V.str wa, V.str wa, V.str wa]) (by show 3 ≤ 100; decide) (fun v hv => ?_) (by simp [yes]) (by show ¬ 3 ≤ 2; decide) (erD qk)
        simp only [List.mem_cons, List.not_mem_nil, or_false, or_self] at hv
        rw [hv]
        exact arg_name nwa
      · refine ⟨rfl, _, rfl, _, rfl, _, rfl, _, rfl, ?_⟩
        unfold tNil
        dsimp only
        refine wordS_bad (vs := [V.str wa, V.str wa, V.str wa, od]) (v := od) (by show 4 ≤ 100; decide) (fun v hv => ?_) (by simp [yes, no]) (erN qk)
        simp only [List.mem_cons, List.not_mem_nil, or_false] at hv
        rcases hv with rfl | rfl | rfl | rfl
        · exact arg_name nwa
        · exact arg_name nwa
        · exact arg_name nwa
        · exact arg_odd (oddb sb)
      · refine ⟨rfl, _, rfl, _, rfl, ?_⟩
        unfold tNil
        dsimp only
        refine wordS_two nwa nwa fun H' x sx nx hf => ?_
        obtain ⟨dx', D, kvs, p1, p2, p3⟩ := id hf
        exact ⟨x, dx', _, rfl, p1, rfl, x, wa, wa, rfl, hf, by omega, by omega, fun H2 s2 => ⟨by show 2 ≤ sizeLine; decide, fun p hp => qk _ _ (sx.trans (s2.trans (same_upd hp))) ⟨p, rfl, upd_same⟩⟩⟩
    clear L11 T11
    have s1112 := u11.trans s12
    have B12 := B11.same s1112
    have T12 := T11'.ext s1112
    have hod12 : OddV H12 b od := hod.keep fun a o e ne => s1112 _ _ (eN _ _ e ne)
    obtain ⟨_, ys1, rfl, ⟨b1, rfl, g1'⟩, pr1⟩ := LamL.pcons pr
    obtain ⟨_, ys2, rfl, ⟨b2, rfl, g2'⟩, pr2⟩ := LamL.pcons pr1
    obtain ⟨_, ys3, rfl, ⟨b3, rfl, g3'⟩, pr3⟩ := LamL.pcons pr2
    obtain ⟨_, ys4, rfl, ⟨b4, rfl, g4'⟩, pr4⟩ := LamL.pcons pr3
    obtain ⟨_, ys5, rfl, ⟨b5, rfl, g5'⟩, pr5⟩ := LamL.pcons pr4
    obtain rfl := LamL.pnil pr5
    have es1 : Str.length ("*" : Str) = 1 := rfl
    have szl := sizeLine_eq
    refine ⟨_, rfl, by show 2 ≤ sizeLine; decide, fun q1 n1 => ⟨_, rfl, by show 2 ≤ sizeLine; decide, fun q2 n2 => ⟨by show 2 ≤ sizeLine; decide, fun q3 n3 => ⟨_, rfl, by show 2 ≤ sizeLine; decide, fun q4 n4 => ?_⟩⟩⟩⟩
    refine ⟨_, rfl, _, _, rfl, rfl, by rw [es1]; omega, _, rfl, _, _, rfl, rfl, by rw [Str.length_append, es1]; omega, by show 2 ≤ sizeLine; decide, fun q5 n5 => ⟨by show 5 ≤ sizeLine; decide, fun q6 n6 => ?_⟩⟩
    have v1 := same_upd (o := .tup [V.str "InvalidName", od]) n1
    have v2 := same_upd (o := .tup [V.str "InvalidName", od]) n2
    have v3 := same_upd (o := .tup [V.str "DegreeTooHigh", V.non]) n3
    have v4 := same_upd (o := .tup [V.str "InvalidName", od]) n4
    have v5 := same_upd (o := .tup [V.str "", V.str (wa ++ "*" ++ wa)]) n5
    have v6 := same_upd (o := .lst [V.ref q1, V.ref q2, V.ref q3, V.ref q4, V.ref q5]) n6
    have x5 := v5.trans v6
    have x4 := v4.trans x5
    have x3 := v3.trans x4
    have x2 := v2.trans x3
    have x1 := v1.trans x2
    have oe := odd_eqd (hod12.keep fun a o e _ => x1 _ _ e)
    have ev : ∀ {Hx : Hp} {p q : Addr} {k : Str} {x : V}, Hx p = some (.tup [.str k, x]) → Hx q = some (.tup [.str k, x]) → Eqd Hx 3 x x → Eqd Hx 4 (.ref p) (.ref q) := fun hp hq hx => Eqd.tup hp hq (by show 2 ≤ 1000; decide) (.cons (Eqd.leaf True.intro) (.cons hx .nil))
    refine ⟨.ref m, .ref q6, rfl, Eqd.lst (x1 _ _ em) upd_same (by show 5 ≤ 1000; decide) ?_, fun H13 s13 => ⟨_, rfl, iteF ⟨_, _, _, _, _, _, _, _, _, _, rfl, B12.same (x1.trans s13), T12.ext (x1.trans s13)⟩⟩⟩
    exact .cons (ev (x1 _ _ g1') (x2 _ _ upd_same) oe) (.cons (ev (x1 _ _ g2') (x3 _ _ upd_same) oe) (.cons (ev (x1 _ _ g3') (x4 _ _ upd_same) (Eqd.leaf True.intro)) (.cons (ev (x1 _ _ g4') (x5 _ _ upd_same) oe) (.cons (ev (x1 _ _ g5') (v6 _ _ upd_same) (Eqd.leaf True.intro)) .nil))))
  obtain ⟨t, ht, hq⟩ := main
  exact ⟨t, ht.nox, hq⟩
end
end My
namespace My
open PySem PySem.Spec PyProof.Rows L2
section
variable {P : Program} {w : World} {K : PySem.W.Frag} {mg : Str → Option Value} {base : Heap}
theorem ok_letters (F : Fn K mg "_law_letters" s_l_letters []) : Has P w K mg base 1 "_law_letters" [] (fun vs H Q _ => vs = [] ∧ Q (.str letters) H) := by
  refine F.has sc_l_letters (fun vs H Q E h => ?_) (fun f cdv A outer s H vs Q E hr h => ?_)
  · obtain ⟨rfl, _⟩ := h
    rfl
  obtain ⟨rfl, q⟩ := h
  exact ⟨_, (pss_one (ps_ret pe_str)), q⟩
theorem ok_written (F : Fn K mg "written_share" s_written_share ["p", "q"]) : Has P w K mg base 1 "written_share" ["p", "q"] spNever :=
  F.has sc_written_share (fun vs H Q E h => h.elim) (fun f cdv A outer s H vs Q E hr h => h.elim)
end
theorem all_mk {l : PySem.W.OpenLaw} {w : World} {K : PySem.W.Frag} {h : Heap} {mg : Str → Option Value} {fa : Addr} (X : K.In h) (G : h.Ns mainGlobals mg) (hfa : mg "law" = some (.ref fa))
    {f1 : Addr} {od1 an1 : Option Addr} {sl1 : Array (Option Value)} {oc1 kV1 dc1 pm1 cd1 ct1 : Value} {f2 : Addr} {od2 an2 : Option Addr} {sl2 : Array (Option Value)} {oc2 kV2 dc2 pm2 cd2 ct2 : Value} {f3 : Addr} {od3 an3 : Option Addr} {sl3 : Array (Option Value)} {oc3 kV3 dc3 pm3 cd3 ct3 : Value} {f4 : Addr} {od4 an4 : Option Addr} {sl4 : Array (Option Value)} {oc4 kV4 dc4 pm4 cd4 ct4 : Value} {T4 : Addr} {oT4 : Option Addr} {nT4 : Nat} {sT4 : Array (Option Value)} {ud4_0 : Tok} {f5 : Addr} {od5 an5 : Option Addr} {sl5 : Array (Option Value)} {oc5 kV5 dc5 pm5 cd5 ct5 : Value} {f6 : Addr} {od6 an6 : Option Addr} {sl6 : Array (Option Value)} {oc6 kV6 dc6 pm6 cd6 ct6 : Value} {f7 : Addr} {od7 an7 : Option Addr} {sl7 : Array (Option Value)} {oc7 kV7 dc7 pm7 cd7 ct7 : Value} {f8 : Addr} {od8 an8 : Option Addr} {sl8 : Array (Option Value)} {oc8 kV8 dc8 pm8 cd8 ct8 : Value} {f9 : Addr} {od9 an9 : Option Addr} {sl9 : Array (Option Value)} {oc9 kV9 dc9 pm9 cd9 ct9 : Value} {f10 : Addr} {od10 an10 : Option Addr} {sl10 : Array (Option Value)} {oc10 kV10 dc10 pm10 cd10 ct10 : Value} {f11 : Addr} {od11 an11 : Option Addr} {sl11 : Array (Option Value)} {oc11 kV11 dc11 pm11 cd11 ct11 : Value} {f12 : Addr} {od12 an12 : Option Addr} {sl12 : Array (Option Value)} {oc12 kV12 dc12 pm12 cd12 ct12 : Value} {f13 : Addr} {od13 an13 : Option Addr} {sl13 : Array (Option Value)} {oc13 kV13 dc13 pm13 cd13 ct13 : Value} {f14 : Addr} {od14 an14 : Option Addr} {sl14 : Array (Option Value)} {oc14 kV14 dc14 pm14 cd14 ct14 : Value} {f15 : Addr} {od15 an15 : Option Addr} {sl15 : Array (Option Value)} {oc15 kV15 dc15 pm15 cd15 ct15 : Value} {f16 : Addr} {od16 an16 : Option Addr} {sl16 : Array (Option Value)} {oc16 kV16 dc16 pm16 cd16 ct16 : Value} {f17 : Addr} {od17 an17 : Option Addr} {sl17 : Array (Option Value)} {oc17 kV17 dc17 pm17 cd17 ct17 : Value} {f18 : Addr} {od18 an18 : Option Addr} {sl18 : Array (Option Value)} {oc18 kV18 dc18 pm18 cd18 ct18 : Value} {f19 : Addr} {od19 an19 : Option Addr} {sl19 : Array (Option Value)} {oc19 kV19 dc19 pm19 cd19 ct19 : Value} {f20 : Addr} {od20 an20 : Option Addr} {sl20 : Array (Option Value)} {oc20 kV20 dc20 pm20 cd20 ct20 : Value} {f21 : Addr} {od21 an21 : Option Addr} {sl21 : Array (Option Value)} {oc21 kV21 dc21 pm21 cd21 ct21 : Value} {f22 : Addr} {od22 an22 : Option Addr} {sl22 : Array (Option Value)} {oc22 kV22 dc22 pm22 cd22 ct22 : Value} {f23 : Addr} {od23 an23 : Option Addr} {sl23 : Array (Option Value)} {oc23 kV23 dc23 pm23 cd23 ct23 : Value} {f24 : Addr} {od24 an24 : Option Addr} {sl24 : Array (Option Value)} {oc24 kV24 dc24 pm24 cd24 ct24 : Value} {f25 : Addr} {od25 an25 : Option Addr} {sl25 : Array (Option Value)} {oc25 kV25 dc25 pm25 cd25 ct25 : Value} {f26 : Addr} {od26 an26 : Option Addr} {sl26 : Array (Option Value)} {oc26 kV26 dc26 pm26 cd26 ct26 : Value} {f27 : Addr} {od27 an27 : Option Addr} {sl27 : Array (Option Value)} {oc27 kV27 dc27 pm27 cd27 ct27 : Value} {f28 : Addr} {od28 an28 : Option Addr} {sl28 : Array (Option Value)} {oc28 kV28 dc28 pm28 cd28 ct28 : Value} {f29 : Addr} {od29 an29 : Option Addr} {sl29 : Array (Option Value)} {oc29 kV29 dc29 pm29 cd29 ct29 : Value} {f30 : Addr} {od30 an30 : Option Addr} {sl30 : Array (Option Value)} {oc30 kV30 dc30 pm30 cd30 ct30 : Value} {u_LETTERS : Tok} {u_DIGITS : Tok} {r_KEPT_WORDS : Addr} {od_KEPT_WORDS : Option Addr} {n_KEPT_WORDS : Nat} {sl_KEPT_WORDS : Array (Option Value)} {u0_KEPT_WORDS u1_KEPT_WORDS u2_KEPT_WORDS u3_KEPT_WORDS : Tok} {u_MOST_LETTERS : Tok} {u_MOST_DEGREE : Tok} {u_MOST_DIGITS : Tok} {r_NOTHING : Addr} {od_NOTHING : Option Addr} {n_NOTHING : Nat} {sl_NOTHING : Array (Option Value)} {u0_NOTHING u1_NOTHING : Tok} {C_InvalidNumber f_InvalidNumber x_InvalidNumber d_InvalidNumber N_InvalidNumber : Addr} {nm_InvalidNumber qn_InvalidNumber ql_InvalidNumber ms_InvalidNumber fl_InvalidNumber : Str} {bs_InvalidNumber bm_InvalidNumber sub_InvalidNumber : List Value} {sn_InvalidNumber : List Str} {ab_InvalidNumber : Bool} {col_InvalidNumber : Option Bool} {dd_InvalidNumber od_InvalidNumber an_InvalidNumber cdd_InvalidNumber cld_InvalidNumber : Option Addr} {v0_InvalidNumber v1_InvalidNumber v2_InvalidNumber v3_InvalidNumber v5_InvalidNumber : Option Value} {oc_InvalidNumber dc_InvalidNumber pm_InvalidNumber ct_InvalidNumber ccl_InvalidNumber cl_InvalidNumber : Value} {os_InvalidNumber ccs_InvalidNumber csl_InvalidNumber : Array (Option Value)} {vs_InvalidNumber : Array Value} {tf_InvalidNumber : Tok} {n1_InvalidNumber n2_InvalidNumber : Nat} {p1_InvalidNumber p2_InvalidNumber a1_InvalidNumber a2_InvalidNumber a3_InvalidNumber a4_InvalidNumber a5_InvalidNumber a6_InvalidNumber b1_InvalidNumber b2_InvalidNumber b3_InvalidNumber b4_InvalidNumber c1_InvalidNumber c2_InvalidNumber c3_InvalidNumber c4_InvalidNumber : Pos} {C_InvalidTerm f_InvalidTerm x_InvalidTerm d_InvalidTerm N_InvalidTerm : Addr} {nm_InvalidTerm qn_InvalidTerm ql_InvalidTerm ms_InvalidTerm fl_InvalidTerm : Str} {bs_InvalidTerm bm_InvalidTerm sub_InvalidTerm : List Value} {sn_InvalidTerm : List Str} {ab_InvalidTerm : Bool} {col_InvalidTerm : Option Bool} {dd_InvalidTerm od_InvalidTerm an_InvalidTerm cdd_InvalidTerm cld_InvalidTerm : Option Addr} {v0_InvalidTerm v1_InvalidTerm v2_InvalidTerm v3_InvalidTerm v5_InvalidTerm : Option Value} {oc_InvalidTerm dc_InvalidTerm pm_InvalidTerm ct_InvalidTerm ccl_InvalidTerm cl_InvalidTerm : Value} {os_InvalidTerm ccs_InvalidTerm csl_InvalidTerm : Array (Option Value)} {vs_InvalidTerm : Array Value} {tf_InvalidTerm : Tok} {n1_InvalidTerm n2_InvalidTerm : Nat} {p1_InvalidTerm p2_InvalidTerm a1_InvalidTerm a2_InvalidTerm a3_InvalidTerm a4_InvalidTerm a5_InvalidTerm a6_InvalidTerm b1_InvalidTerm b2_InvalidTerm b3_InvalidTerm b4_InvalidTerm c1_InvalidTerm c2_InvalidTerm c3_InvalidTerm c4_InvalidTerm : Pos} {C_InvalidName f_InvalidName x_InvalidName d_InvalidName N_InvalidName : Addr} {nm_InvalidName qn_InvalidName ql_InvalidName ms_InvalidName fl_InvalidName : Str} {bs_InvalidName bm_InvalidName sub_InvalidName : List Value} {sn_InvalidName : List Str} {ab_InvalidName : Bool} {col_InvalidName : Option Bool} {dd_InvalidName od_InvalidName an_InvalidName cdd_InvalidName cld_InvalidName : Option Addr} {v0_InvalidName v1_InvalidName v2_InvalidName v3_InvalidName v5_InvalidName : Option Value} {oc_InvalidName dc_InvalidName pm_InvalidName ct_InvalidName ccl_InvalidName cl_InvalidName : Value} {os_InvalidName ccs_InvalidName csl_InvalidName : Array (Option Value)} {vs_InvalidName : Array Value} {tf_InvalidName : Tok} {n1_InvalidName n2_InvalidName : Nat} {p1_InvalidName p2_InvalidName a1_InvalidName a2_InvalidName a3_InvalidName a4_InvalidName a5_InvalidName a6_InvalidName b1_InvalidName b2_InvalidName b3_InvalidName b4_InvalidName c1_InvalidName c2_InvalidName c3_InvalidName c4_InvalidName : Pos} {C_DegreeTooHigh f_DegreeTooHigh x_DegreeTooHigh d_DegreeTooHigh N_DegreeTooHigh : Addr} {nm_DegreeTooHigh qn_DegreeTooHigh ql_DegreeTooHigh ms_DegreeTooHigh fl_DegreeTooHigh : Str} {bs_DegreeTooHigh bm_DegreeTooHigh sub_DegreeTooHigh : List Value} {sn_DegreeTooHigh : List Str} {ab_DegreeTooHigh : Bool} {col_DegreeTooHigh : Option Bool} {dd_DegreeTooHigh od_DegreeTooHigh an_DegreeTooHigh cdd_DegreeTooHigh cld_DegreeTooHigh : Option Addr} {v0_DegreeTooHigh v1_DegreeTooHigh v2_DegreeTooHigh v3_DegreeTooHigh v5_DegreeTooHigh : Option Value} {oc_DegreeTooHigh dc_DegreeTooHigh pm_DegreeTooHigh ct_DegreeTooHigh ccl_DegreeTooHigh cl_DegreeTooHigh : Value} {os_DegreeTooHigh ccs_DegreeTooHigh csl_DegreeTooHigh : Array (Option Value)} {vs_DegreeTooHigh : Array Value} {tf_DegreeTooHigh : Tok} {n1_DegreeTooHigh n2_DegreeTooHigh : Nat} {p1_DegreeTooHigh p2_DegreeTooHigh a1_DegreeTooHigh a2_DegreeTooHigh a3_DegreeTooHigh a4_DegreeTooHigh a5_DegreeTooHigh a6_DegreeTooHigh b1_DegreeTooHigh b2_DegreeTooHigh b3_DegreeTooHigh b4_DegreeTooHigh c1_DegreeTooHigh c2_DegreeTooHigh c3_DegreeTooHigh c4_DegreeTooHigh : Pos} {C_Form : Addr} {f_Form_init : Addr} {od_Form_init an_Form_init : Option Addr} {sl_Form_init : Array (Option Value)} {oc_Form_init dc_Form_init pm_Form_init cd_Form_init ct_Form_init : Value} {kV_Form_init : Value} {TForm_init : Addr} {oTForm_init : Option Addr} {nTForm_init : Nat} {sTForm_init : Array (Option Value)} {e0_Form_init : Addr} {oe0_Form_init : Option Addr} {ne0_Form_init : Nat} {se0_Form_init : Array (Option Value)} {f_Form_word : Addr} {od_Form_word an_Form_word : Option Addr} {sl_Form_word : Array (Option Value)} {oc_Form_word dc_Form_word pm_Form_word cd_Form_word ct_Form_word : Value} {kV_Form_word : Value} {p_Form_word : Addr} {rs_Form_word : List Value} {f_Form_len : Addr} {od_Form_len an_Form_len : Option Addr} {sl_Form_len : Array (Option Value)} {oc_Form_len dc_Form_len pm_Form_len cd_Form_len ct_Form_len : Value} {kV_Form_len : Value} {f_Form_share_of : Addr} {od_Form_share_of an_Form_share_of : Option Addr} {sl_Form_share_of : Array (Option Value)} {oc_Form_share_of dc_Form_share_of pm_Form_share_of cd_Form_share_of ct_Form_share_of : Value} {kV_Form_share_of : Value} {f_Form_text : Addr} {od_Form_text an_Form_text : Option Addr} {sl_Form_text : Array (Option Value)} {oc_Form_text dc_Form_text pm_Form_text cd_Form_text ct_Form_text : Value} {kV_Form_text : Value} {g_RingError : Value} {g_Missing : Value} {g_NothingLeft : Value}
    {cL PL : Addr} {eL : Value} {ddL : Option Addr} {vsL : Array Value} {slL : Array (Option Value)}
    (z_super : PySem.W.nsIn K mainGlobals "super" = some none) (opq : PySem.W.nsIn K PySem.cStatics "thirdparty.any" = some none) (topSuper : (l.prog.main.scope.names.lookup ("super" : Str)).isSome = false)
    (a1 : PySem.W.nsIn K mainGlobals "_wall" = some (some (.ref f1))) (l1 : K.lookup f1 = some ⟨oc1, od1, .func (PySem.W.fnOf "_wall" "_wall" (defArgs s__wall) (defBody s__wall) (defScope s__wall) .none kV1 dc1 pm1 an1 cd1 ct1), sl1⟩) (c1 : PySem.W.codeIn K cd1 "_wall" = true) (k1 : PySem.W.keepIn K (.ref f1) = true)
    (a2 : PySem.W.nsIn K mainGlobals "is_int" = some (some (.ref f2))) (l2 : K.lookup f2 = some ⟨oc2, od2, .func (PySem.W.fnOf "is_int" "is_int" (defArgs s_is_int) (defBody s_is_int) (defScope s_is_int) .none kV2 dc2 pm2 an2 cd2 ct2), sl2⟩) (c2 : PySem.W.codeIn K cd2 "is_int" = true) (k2 : PySem.W.keepIn K (.ref f2) = true)
    (a3 : PySem.W.nsIn K mainGlobals "is_name" = some (some (.ref f3))) (l3 : K.lookup f3 = some ⟨oc3, od3, .func (PySem.W.fnOf "is_name" "is_name" (defArgs s_is_name) (defBody s_is_name) (defScope s_is_name) .none kV3 dc3 pm3 an3 cd3 ct3), sl3⟩) (c3 : PySem.W.codeIn K cd3 "is_name" = true) (k3 : PySem.W.keepIn K (.ref f3) = true)
    (a4 : PySem.W.nsIn K mainGlobals "share" = some (some (.ref f4))) (l4 : K.lookup f4 = some ⟨oc4, od4, .func (PySem.W.fnOf "share" "share" (defArgs s_share) (defBody s_share) (defScope s_share) (.ref T4) kV4 dc4 pm4 an4 cd4 ct4), sl4⟩) (c4 : PySem.W.codeIn K cd4 "share" = true) (k4 : PySem.W.keepIn K (.ref f4) = true)
    (t4 : K.lookup T4 = some ⟨.type "tuple", oT4, .seq #[.int 1 ud4_0] nT4, sT4⟩)
    (a5 : PySem.W.nsIn K mainGlobals "sum_of_shares" = some (some (.ref f5))) (l5 : K.lookup f5 = some ⟨oc5, od5, .func (PySem.W.fnOf "sum_of_shares" "sum_of_shares" (defArgs s_sum_of_shares) (defBody s_sum_of_shares) (defScope s_sum_of_shares) .none kV5 dc5 pm5 an5 cd5 ct5), sl5⟩) (c5 : PySem.W.codeIn K cd5 "sum_of_shares" = true) (k5 : PySem.W.keepIn K (.ref f5) = true)
    (a6 : PySem.W.nsIn K mainGlobals "product_of_shares" = some (some (.ref f6))) (l6 : K.lookup f6 = some ⟨oc6, od6, .func (PySem.W.fnOf "product_of_shares" "product_of_shares" (defArgs s_product_of_shares) (defBody s_product_of_shares) (defScope s_product_of_shares) .none kV6 dc6 pm6 an6 cd6 ct6), sl6⟩) (c6 : PySem.W.codeIn K cd6 "product_of_shares" = true) (k6 : PySem.W.keepIn K (.ref f6) = true)
    (a7 : PySem.W.nsIn K mainGlobals "read_digits" = some (some (.ref f7))) (l7 : K.lookup f7 = some ⟨oc7, od7, .func (PySem.W.fnOf "read_digits" "read_digits" (defArgs s_read_digits) (defBody s_read_digits) (defScope s_read_digits) .none kV7 dc7 pm7 an7 cd7 ct7), sl7⟩) (c7 : PySem.W.codeIn K cd7 "read_digits" = true) (k7 : PySem.W.keepIn K (.ref f7) = true)
    (a8 : PySem.W.nsIn K mainGlobals "written" = some (some (.ref f8))) (l8 : K.lookup f8 = some ⟨oc8, od8, .func (PySem.W.fnOf "written" "written" (defArgs s_written) (defBody s_written) (defScope s_written) .none kV8 dc8 pm8 an8 cd8 ct8), sl8⟩) (c8 : PySem.W.codeIn K cd8 "written" = true) (k8 : PySem.W.keepIn K (.ref f8) = true)
    (a9 : PySem.W.nsIn K mainGlobals "written_below" = some (some (.ref f9))) (l9 : K.lookup f9 = some ⟨oc9, od9, .func (PySem.W.fnOf "written_below" "written_below" (defArgs s_written_below) (defBody s_written_below) (defScope s_written_below) .none kV9 dc9 pm9 an9 cd9 ct9), sl9⟩) (c9 : PySem.W.codeIn K cd9 "written_below" = true) (k9 : PySem.W.keepIn K (.ref f9) = true)
    (a10 : PySem.W.nsIn K mainGlobals "written_share" = some (some (.ref f10))) (l10 : K.lookup f10 = some ⟨oc10, od10, .func (PySem.W.fnOf "written_share" "written_share" (defArgs s_written_share) (defBody s_written_share) (defScope s_written_share) .none kV10 dc10 pm10 an10 cd10 ct10), sl10⟩) (c10 : PySem.W.codeIn K cd10 "written_share" = true) (k10 : PySem.W.keepIn K (.ref f10) = true)
    (a11 : PySem.W.nsIn K mainGlobals "is_word" = some (some (.ref f11))) (l11 : K.lookup f11 = some ⟨oc11, od11, .func (PySem.W.fnOf "is_word" "is_word" (defArgs s_is_word) (defBody s_is_word) (defScope s_is_word) .none kV11 dc11 pm11 an11 cd11 ct11), sl11⟩) (c11 : PySem.W.codeIn K cd11 "is_word" = true) (k11 : PySem.W.keepIn K (.ref f11) = true)
    (a12 : PySem.W.nsIn K mainGlobals "is_term" = some (some (.ref f12))) (l12 : K.lookup f12 = some ⟨oc12, od12, .func (PySem.W.fnOf "is_term" "is_term" (defArgs s_is_term) (defBody s_is_term) (defScope s_is_term) .none kV12 dc12 pm12 an12 cd12 ct12), sl12⟩) (c12 : PySem.W.codeIn K cd12 "is_term" = true) (k12 : PySem.W.keepIn K (.ref f12) = true)
    (a13 : PySem.W.nsIn K mainGlobals "gathered" = some (some (.ref f13))) (l13 : K.lookup f13 = some ⟨oc13, od13, .func (PySem.W.fnOf "gathered" "gathered" (defArgs s_gathered) (defBody s_gathered) (defScope s_gathered) .none kV13 dc13 pm13 an13 cd13 ct13), sl13⟩) (c13 : PySem.W.codeIn K cd13 "gathered" = true) (k13 : PySem.W.keepIn K (.ref f13) = true)
    (a14 : PySem.W.nsIn K mainGlobals "form_of" = some (some (.ref f14))) (l14 : K.lookup f14 = some ⟨oc14, od14, .func (PySem.W.fnOf "form_of" "form_of" (defArgs s_form_of) (defBody s_form_of) (defScope s_form_of) .none kV14 dc14 pm14 an14 cd14 ct14), sl14⟩) (c14 : PySem.W.codeIn K cd14 "form_of" = true) (k14 : PySem.W.keepIn K (.ref f14) = true)
    (a15 : PySem.W.nsIn K mainGlobals "thing_of_word" = some (some (.ref f15))) (l15 : K.lookup f15 = some ⟨oc15, od15, .func (PySem.W.fnOf "thing_of_word" "thing_of_word" (defArgs s_thing_of_word) (defBody s_thing_of_word) (defScope s_thing_of_word) .none kV15 dc15 pm15 an15 cd15 ct15), sl15⟩) (c15 : PySem.W.codeIn K cd15 "thing_of_word" = true) (k15 : PySem.W.keepIn K (.ref f15) = true)
    (a16 : PySem.W.nsIn K mainGlobals "term_text" = some (some (.ref f16))) (l16 : K.lookup f16 = some ⟨oc16, od16, .func (PySem.W.fnOf "term_text" "term_text" (defArgs s_term_text) (defBody s_term_text) (defScope s_term_text) .none kV16 dc16 pm16 an16 cd16 ct16), sl16⟩) (c16 : PySem.W.codeIn K cd16 "term_text" = true) (k16 : PySem.W.keepIn K (.ref f16) = true)
    (a17 : PySem.W.nsIn K mainGlobals "read_pairs" = some (some (.ref f17))) (l17 : K.lookup f17 = some ⟨oc17, od17, .func (PySem.W.fnOf "read_pairs" "read_pairs" (defArgs s_read_pairs) (defBody s_read_pairs) (defScope s_read_pairs) .none kV17 dc17 pm17 an17 cd17 ct17), sl17⟩) (c17 : PySem.W.codeIn K cd17 "read_pairs" = true) (k17 : PySem.W.keepIn K (.ref f17) = true)
    (a18 : PySem.W.nsIn K mainGlobals "read_term" = some (some (.ref f18))) (l18 : K.lookup f18 = some ⟨oc18, od18, .func (PySem.W.fnOf "read_term" "read_term" (defArgs s_read_term) (defBody s_read_term) (defScope s_read_term) .none kV18 dc18 pm18 an18 cd18 ct18), sl18⟩) (c18 : PySem.W.codeIn K cd18 "read_term" = true) (k18 : PySem.W.keepIn K (.ref f18) = true)
    (a19 : PySem.W.nsIn K mainGlobals "read_share" = some (some (.ref f19))) (l19 : K.lookup f19 = some ⟨oc19, od19, .func (PySem.W.fnOf "read_share" "read_share" (defArgs s_read_share) (defBody s_read_share) (defScope s_read_share) .none kV19 dc19 pm19 an19 cd19 ct19), sl19⟩) (c19 : PySem.W.codeIn K cd19 "read_share" = true) (k19 : PySem.W.keepIn K (.ref f19) = true)
    (a20 : PySem.W.nsIn K mainGlobals "_law_bag" = some (some (.ref f20))) (l20 : K.lookup f20 = some ⟨oc20, od20, .func (PySem.W.fnOf "_law_bag" "_law_bag" (defArgs s_l_bag) (defBody s_l_bag) (defScope s_l_bag) .none kV20 dc20 pm20 an20 cd20 ct20), sl20⟩) (c20 : PySem.W.codeIn K cd20 "_law_bag" = true) (k20 : PySem.W.keepIn K (.ref f20) = true)
    (a21 : PySem.W.nsIn K mainGlobals "_law_draw" = some (some (.ref f21))) (l21 : K.lookup f21 = some ⟨oc21, od21, .func (PySem.W.fnOf "_law_draw" "_law_draw" (defArgs s_l_draw) (defBody s_l_draw) (defScope s_l_draw) .none kV21 dc21 pm21 an21 cd21 ct21), sl21⟩) (c21 : PySem.W.codeIn K cd21 "_law_draw" = true) (k21 : PySem.W.keepIn K (.ref f21) = true)
    (a22 : PySem.W.nsIn K mainGlobals "_law_pick" = some (some (.ref f22))) (l22 : K.lookup f22 = some ⟨oc22, od22, .func (PySem.W.fnOf "_law_pick" "_law_pick" (defArgs s_l_pick) (defBody s_l_pick) (defScope s_l_pick) .none kV22 dc22 pm22 an22 cd22 ct22), sl22⟩) (c22 : PySem.W.codeIn K cd22 "_law_pick" = true) (k22 : PySem.W.keepIn K (.ref f22) = true)
    (a23 : PySem.W.nsIn K mainGlobals "_law_letters" = some (some (.ref f23))) (l23 : K.lookup f23 = some ⟨oc23, od23, .func (PySem.W.fnOf "_law_letters" "_law_letters" (defArgs s_l_letters) (defBody s_l_letters) (defScope s_l_letters) .none kV23 dc23 pm23 an23 cd23 ct23), sl23⟩) (c23 : PySem.W.codeIn K cd23 "_law_letters" = true) (k23 : PySem.W.keepIn K (.ref f23) = true)
    (a24 : PySem.W.nsIn K mainGlobals "_law_names" = some (some (.ref f24))) (l24 : K.lookup f24 = some ⟨oc24, od24, .func (PySem.W.fnOf "_law_names" "_law_names" (defArgs s_l_names) (defBody s_l_names) (defScope s_l_names) .none kV24 dc24 pm24 an24 cd24 ct24), sl24⟩) (c24 : PySem.W.codeIn K cd24 "_law_names" = true) (k24 : PySem.W.keepIn K (.ref f24) = true)
    (a25 : PySem.W.nsIn K mainGlobals "_law_same" = some (some (.ref f25))) (l25 : K.lookup f25 = some ⟨oc25, od25, .func (PySem.W.fnOf "_law_same" "_law_same" (defArgs s_l_same) (defBody s_l_same) (defScope s_l_same) .none kV25 dc25 pm25 an25 cd25 ct25), sl25⟩) (c25 : PySem.W.codeIn K cd25 "_law_same" = true) (k25 : PySem.W.keepIn K (.ref f25) = true)
    (a26 : PySem.W.nsIn K mainGlobals "_law_field" = some (some (.ref f26))) (l26 : K.lookup f26 = some ⟨oc26, od26, .func (PySem.W.fnOf "_law_field" "_law_field" (defArgs s_l_field) (defBody s_l_field) (defScope s_l_field) .none kV26 dc26 pm26 an26 cd26 ct26), sl26⟩) (c26 : PySem.W.codeIn K cd26 "_law_field" = true) (k26 : PySem.W.keepIn K (.ref f26) = true)
    (a27 : PySem.W.nsIn K mainGlobals "_law_got" = some (some (.ref f27))) (l27 : K.lookup f27 = some ⟨oc27, od27, .func (PySem.W.fnOf "_law_got" "_law_got" (defArgs s_l_got) (defBody s_l_got) (defScope s_l_got) .none kV27 dc27 pm27 an27 cd27 ct27), sl27⟩) (c27 : PySem.W.codeIn K cd27 "_law_got" = true) (k27 : PySem.W.keepIn K (.ref f27) = true)
    (a28 : PySem.W.nsIn K mainGlobals "_law_all" = some (some (.ref f28))) (l28 : K.lookup f28 = some ⟨oc28, od28, .func (PySem.W.fnOf "_law_all" "_law_all" (defArgs s_l_all) (defBody s_l_all) (defScope s_l_all) .none kV28 dc28 pm28 an28 cd28 ct28), sl28⟩) (c28 : PySem.W.codeIn K cd28 "_law_all" = true) (k28 : PySem.W.keepIn K (.ref f28) = true)
    (a29 : PySem.W.nsIn K mainGlobals "_law_odd" = some (some (.ref f29))) (l29 : K.lookup f29 = some ⟨oc29, od29, .func (PySem.W.fnOf "_law_odd" "_law_odd" (defArgs s_l_odd) (defBody s_l_odd) (defScope s_l_odd) .none kV29 dc29 pm29 an29 cd29 ct29), sl29⟩) (c29 : PySem.W.codeIn K cd29 "_law_odd" = true) (k29 : PySem.W.keepIn K (.ref f29) = true)
    (a30 : PySem.W.nsIn K mainGlobals "law" = some (some (.ref f30))) (l30 : K.lookup f30 = some ⟨oc30, od30, .func (PySem.W.fnOf "law" "law" (defArgs s_law) (defBody s_law) (defScope s_law) .none kV30 dc30 pm30 an30 cd30 ct30), sl30⟩) (c30 : PySem.W.codeIn K cd30 "law" = true) (k30 : PySem.W.keepIn K (.ref f30) = true)
    (z_IndexError : PySem.W.nsIn K mainGlobals "IndexError" = some none)
    (z_LookupError : PySem.W.nsIn K mainGlobals "LookupError" = some none)
    (z_ValueError : PySem.W.nsIn K mainGlobals "ValueError" = some none)
    (z_abs : PySem.W.nsIn K mainGlobals "abs" = some none)
    (z_all : PySem.W.nsIn K mainGlobals "all" = some none)
    (z_bool : PySem.W.nsIn K mainGlobals "bool" = some none)
    (z_divmod : PySem.W.nsIn K mainGlobals "divmod" = some none)
    (z_enumerate : PySem.W.nsIn K mainGlobals "enumerate" = some none)
    (z_int : PySem.W.nsIn K mainGlobals "int" = some none)
    (z_isinstance : PySem.W.nsIn K mainGlobals "isinstance" = some none)
    (z_len : PySem.W.nsIn K mainGlobals "len" = some none)
    (z_list : PySem.W.nsIn K mainGlobals "list" = some none)
    (z_max : PySem.W.nsIn K mainGlobals "max" = some none)
    (z_range : PySem.W.nsIn K mainGlobals "range" = some none)
    (z_set : PySem.W.nsIn K mainGlobals "set" = some none)
    (z_sorted : PySem.W.nsIn K mainGlobals "sorted" = some none)
    (z_str : PySem.W.nsIn K mainGlobals "str" = some none)
    (z_tuple : PySem.W.nsIn K mainGlobals "tuple" = some none)
    (z_zip : PySem.W.nsIn K mainGlobals "zip" = some none)
    (m_gcd : PySem.W.nsIn K mainGlobals "gcd" = some (some (.builtin "math.gcd")))
    (m_LETTERS : PySem.W.nsIn K mainGlobals "LETTERS" = some (some (.str "abcdefghijklmnopqrstuvwxyz" u_LETTERS)))
    (m_DIGITS : PySem.W.nsIn K mainGlobals "DIGITS" = some (some (.str "0123456789" u_DIGITS)))
    (m_KEPT_WORDS : PySem.W.nsIn K mainGlobals "KEPT_WORDS" = some (some (.ref r_KEPT_WORDS))) (l_KEPT_WORDS : K.lookup r_KEPT_WORDS = some ⟨.type "tuple", od_KEPT_WORDS, .seq #[.str "in" u0_KEPT_WORDS, .str "out" u1_KEPT_WORDS, .str "proc" u2_KEPT_WORDS, .str "give" u3_KEPT_WORDS] n_KEPT_WORDS, sl_KEPT_WORDS⟩)
    (m_MOST_LETTERS : PySem.W.nsIn K mainGlobals "MOST_LETTERS" = some (some (.int 6 u_MOST_LETTERS)))
    (m_MOST_DEGREE : PySem.W.nsIn K mainGlobals "MOST_DEGREE" = some (some (.int 2 u_MOST_DEGREE)))
    (m_MOST_DIGITS : PySem.W.nsIn K mainGlobals "MOST_DIGITS" = some (some (.int 12 u_MOST_DIGITS)))
    (m_NOTHING : PySem.W.nsIn K mainGlobals "NOTHING" = some (some (.ref r_NOTHING))) (l_NOTHING : K.lookup r_NOTHING = some ⟨.type "tuple", od_NOTHING, .seq #[.int 0 u0_NOTHING, .int 1 u1_NOTHING] n_NOTHING, sl_NOTHING⟩)
    (ea_InvalidNumber : PySem.W.nsIn K mainGlobals "InvalidNumber" = some (some (.ref C_InvalidNumber)))
    (eb_InvalidNumber : K.lookup C_InvalidNumber = some (excClassObj nm_InvalidNumber qn_InvalidNumber C_InvalidNumber N_InvalidNumber bs_InvalidNumber bm_InvalidNumber true sn_InvalidNumber sub_InvalidNumber ab_InvalidNumber col_InvalidNumber dd_InvalidNumber v0_InvalidNumber v1_InvalidNumber v2_InvalidNumber v3_InvalidNumber v5_InvalidNumber "ValueError.__new__"))
    (ec_InvalidNumber : PySem.HandSPX.refsVE bm_InvalidNumber = true)
    (ed_InvalidNumber : PySem.W.alongIn K "__init__" bm_InvalidNumber = some (some (.builtin "ValueError.__init__")))
    (ee_InvalidNumber : PySem.W.findIn K (.ref C_InvalidNumber) "__setattr__" = some (some (.builtin "object.__setattr__")))
    (ef_InvalidNumber : PySem.W.findIn K (.ref C_InvalidNumber) "__getattribute__" = some (some (.builtin "BaseException.__getattribute__")))
    (eg_InvalidNumber : PySem.W.findIn K (.ref C_InvalidNumber) "__getattr__" = some none)
    (eh_InvalidNumber : PySem.W.findIn K (.ref C_InvalidNumber) "given" = some none)
    (ei_InvalidNumber : PySem.W.findIn K (.ref C_InvalidNumber) "code" = some none)
    (ej_InvalidNumber : PySem.W.findIn K (.ref C_InvalidNumber) "__init__" = some (some (.ref f_InvalidNumber)))
    (ek_InvalidNumber : PySem.W.typeIn K (.ref f_InvalidNumber) = some (.type "function"))
    (el_InvalidNumber : PySem.W.keepIn K (.ref C_InvalidNumber) = true)
    (em_InvalidNumber : PySem.W.subIn K (.ref C_InvalidNumber) (.type "BaseException") = some true)
    (en_InvalidNumber : PySem.W.subIn K (.ref C_InvalidNumber) (.type "ValueError") = some true)
    (eo_InvalidNumber : PySem.W.mroIn K C_InvalidNumber (.ref C_InvalidNumber) = some true)
    (ep_InvalidNumber : PySem.W.typeIn K (.ref C_InvalidNumber) = some (.type "type"))
    (eq_InvalidNumber : PySem.W.hasDictIn K C_InvalidNumber = true)
    (er_InvalidNumber : K.lookup f_InvalidNumber = some ⟨oc_InvalidNumber, od_InvalidNumber, .func (PySem.W.ksFn "__init__" ql_InvalidNumber (PySem.ErrX.eArgs "given" p1_InvalidNumber p2_InvalidNumber) (PySem.ErrX.eBody "given" ms_InvalidNumber "InvalidNumber" n1_InvalidNumber n2_InvalidNumber a1_InvalidNumber a2_InvalidNumber a3_InvalidNumber a4_InvalidNumber a5_InvalidNumber a6_InvalidNumber b1_InvalidNumber b2_InvalidNumber b3_InvalidNumber b4_InvalidNumber c1_InvalidNumber c2_InvalidNumber c3_InvalidNumber c4_InvalidNumber) (PySem.ErrX.eScope "given") .none .none dc_InvalidNumber pm_InvalidNumber an_InvalidNumber (.ref d_InvalidNumber) ct_InvalidNumber x_InvalidNumber), os_InvalidNumber⟩)
    (es_InvalidNumber : PySem.W.codeIn K (.ref d_InvalidNumber) ql_InvalidNumber = true)
    (et_InvalidNumber : K.lookup x_InvalidNumber = some ⟨cl_InvalidNumber, cld_InvalidNumber, .cell (some (.ref C_InvalidNumber)), csl_InvalidNumber⟩)
    (eu_InvalidNumber : K.lookup d_InvalidNumber = some ⟨ccl_InvalidNumber, cdd_InvalidNumber, .fields vs_InvalidNumber, ccs_InvalidNumber⟩)
    (ev_InvalidNumber : vs_InvalidNumber[2]? = some (.str fl_InvalidNumber tf_InvalidNumber))
    (ex_InvalidNumber : PySem.ErrX.InitEval ms_InvalidNumber n1_InvalidNumber a1_InvalidNumber a2_InvalidNumber a3_InvalidNumber a4_InvalidNumber a5_InvalidNumber)
    (ew_InvalidNumber : ((l.prog.main.file : Str) == fl_InvalidNumber) = true)
    (ea_InvalidTerm : PySem.W.nsIn K mainGlobals "InvalidTerm" = some (some (.ref C_InvalidTerm)))
    (eb_InvalidTerm : K.lookup C_InvalidTerm = some (excClassObj nm_InvalidTerm qn_InvalidTerm C_InvalidTerm N_InvalidTerm bs_InvalidTerm bm_InvalidTerm true sn_InvalidTerm sub_InvalidTerm ab_InvalidTerm col_InvalidTerm dd_InvalidTerm v0_InvalidTerm v1_InvalidTerm v2_InvalidTerm v3_InvalidTerm v5_InvalidTerm "ValueError.__new__"))
    (ec_InvalidTerm : PySem.HandSPX.refsVE bm_InvalidTerm = true)
    (ed_InvalidTerm : PySem.W.alongIn K "__init__" bm_InvalidTerm = some (some (.builtin "ValueError.__init__")))
    (ee_InvalidTerm : PySem.W.findIn K (.ref C_InvalidTerm) "__setattr__" = some (some (.builtin "object.__setattr__")))
    (ef_InvalidTerm : PySem.W.findIn K (.ref C_InvalidTerm) "__getattribute__" = some (some (.builtin "BaseException.__getattribute__")))
    (eg_InvalidTerm : PySem.W.findIn K (.ref C_InvalidTerm) "__getattr__" = some none)
    (eh_InvalidTerm : PySem.W.findIn K (.ref C_InvalidTerm) "at" = some none)
    (ei_InvalidTerm : PySem.W.findIn K (.ref C_InvalidTerm) "code" = some none)
    (ej_InvalidTerm : PySem.W.findIn K (.ref C_InvalidTerm) "__init__" = some (some (.ref f_InvalidTerm)))
    (ek_InvalidTerm : PySem.W.typeIn K (.ref f_InvalidTerm) = some (.type "function"))
    (el_InvalidTerm : PySem.W.keepIn K (.ref C_InvalidTerm) = true)
    (em_InvalidTerm : PySem.W.subIn K (.ref C_InvalidTerm) (.type "BaseException") = some true)
    (en_InvalidTerm : PySem.W.subIn K (.ref C_InvalidTerm) (.type "ValueError") = some true)
    (eo_InvalidTerm : PySem.W.mroIn K C_InvalidTerm (.ref C_InvalidTerm) = some true)
    (ep_InvalidTerm : PySem.W.typeIn K (.ref C_InvalidTerm) = some (.type "type"))
    (eq_InvalidTerm : PySem.W.hasDictIn K C_InvalidTerm = true)
    (er_InvalidTerm : K.lookup f_InvalidTerm = some ⟨oc_InvalidTerm, od_InvalidTerm, .func (PySem.W.ksFn "__init__" ql_InvalidTerm (PySem.ErrX.eArgs "at" p1_InvalidTerm p2_InvalidTerm) (PySem.ErrX.eBody "at" ms_InvalidTerm "InvalidTerm" n1_InvalidTerm n2_InvalidTerm a1_InvalidTerm a2_InvalidTerm a3_InvalidTerm a4_InvalidTerm a5_InvalidTerm a6_InvalidTerm b1_InvalidTerm b2_InvalidTerm b3_InvalidTerm b4_InvalidTerm c1_InvalidTerm c2_InvalidTerm c3_InvalidTerm c4_InvalidTerm) (PySem.ErrX.eScope "at") .none .none dc_InvalidTerm pm_InvalidTerm an_InvalidTerm (.ref d_InvalidTerm) ct_InvalidTerm x_InvalidTerm), os_InvalidTerm⟩)
    (es_InvalidTerm : PySem.W.codeIn K (.ref d_InvalidTerm) ql_InvalidTerm = true)
    (et_InvalidTerm : K.lookup x_InvalidTerm = some ⟨cl_InvalidTerm, cld_InvalidTerm, .cell (some (.ref C_InvalidTerm)), csl_InvalidTerm⟩)
    (eu_InvalidTerm : K.lookup d_InvalidTerm = some ⟨ccl_InvalidTerm, cdd_InvalidTerm, .fields vs_InvalidTerm, ccs_InvalidTerm⟩)
    (ev_InvalidTerm : vs_InvalidTerm[2]? = some (.str fl_InvalidTerm tf_InvalidTerm))
    (ex_InvalidTerm : PySem.ErrX.InitEval ms_InvalidTerm n1_InvalidTerm a1_InvalidTerm a2_InvalidTerm a3_InvalidTerm a4_InvalidTerm a5_InvalidTerm)
    (ew_InvalidTerm : ((l.prog.main.file : Str) == fl_InvalidTerm) = true)
    (ea_InvalidName : PySem.W.nsIn K mainGlobals "InvalidName" = some (some (.ref C_InvalidName)))
    (eb_InvalidName : K.lookup C_InvalidName = some (excClassObj nm_InvalidName qn_InvalidName C_InvalidName N_InvalidName bs_InvalidName bm_InvalidName true sn_InvalidName sub_InvalidName ab_InvalidName col_InvalidName dd_InvalidName v0_InvalidName v1_InvalidName v2_InvalidName v3_InvalidName v5_InvalidName "ValueError.__new__"))
    (ec_InvalidName : PySem.HandSPX.refsVE bm_InvalidName = true)
    (ed_InvalidName : PySem.W.alongIn K "__init__" bm_InvalidName = some (some (.builtin "ValueError.__init__")))
    (ee_InvalidName : PySem.W.findIn K (.ref C_InvalidName) "__setattr__" = some (some (.builtin "object.__setattr__")))
    (ef_InvalidName : PySem.W.findIn K (.ref C_InvalidName) "__getattribute__" = some (some (.builtin "BaseException.__getattribute__")))
    (eg_InvalidName : PySem.W.findIn K (.ref C_InvalidName) "__getattr__" = some none)
    (eh_InvalidName : PySem.W.findIn K (.ref C_InvalidName) "given" = some none)
    (ei_InvalidName : PySem.W.findIn K (.ref C_InvalidName) "code" = some none)
    (ej_InvalidName : PySem.W.findIn K (.ref C_InvalidName) "__init__" = some (some (.ref f_InvalidName)))
    (ek_InvalidName : PySem.W.typeIn K (.ref f_InvalidName) = some (.type "function"))
    (el_InvalidName : PySem.W.keepIn K (.ref C_InvalidName) = true)
    (em_InvalidName : PySem.W.subIn K (.ref C_InvalidName) (.type "BaseException") = some true)
    (en_InvalidName : PySem.W.subIn K (.ref C_InvalidName) (.type "ValueError") = some true)
    (eo_InvalidName : PySem.W.mroIn K C_InvalidName (.ref C_InvalidName) = some true)
    (ep_InvalidName : PySem.W.typeIn K (.ref C_InvalidName) = some (.type "type"))
    (eq_InvalidName : PySem.W.hasDictIn K C_InvalidName = true)
    (er_InvalidName : K.lookup f_InvalidName = some ⟨oc_InvalidName, od_InvalidName, .func (PySem.W.ksFn "__init__" ql_InvalidName (PySem.ErrX.eArgs "given" p1_InvalidName p2_InvalidName) (PySem.ErrX.eBody "given" ms_InvalidName "InvalidName" n1_InvalidName n2_InvalidName a1_InvalidName a2_InvalidName a3_InvalidName a4_InvalidName a5_InvalidName a6_InvalidName b1_InvalidName b2_InvalidName b3_InvalidName b4_InvalidName c1_InvalidName c2_InvalidName c3_InvalidName c4_InvalidName) (PySem.ErrX.eScope "given") .none .none dc_InvalidName pm_InvalidName an_InvalidName (.ref d_InvalidName) ct_InvalidName x_InvalidName), os_InvalidName⟩)
    (es_InvalidName : PySem.W.codeIn K (.ref d_InvalidName) ql_InvalidName = true)
    (et_InvalidName : K.lookup x_InvalidName = some ⟨cl_InvalidName, cld_InvalidName, .cell (some (.ref C_InvalidName)), csl_InvalidName⟩)
    (eu_InvalidName : K.lookup d_InvalidName = some ⟨ccl_InvalidName, cdd_InvalidName, .fields vs_InvalidName, ccs_InvalidName⟩)
    (ev_InvalidName : vs_InvalidName[2]? = some (.str fl_InvalidName tf_InvalidName))
    (ex_InvalidName : PySem.ErrX.InitEval ms_InvalidName n1_InvalidName a1_InvalidName a2_InvalidName a3_InvalidName a4_InvalidName a5_InvalidName)
    (ew_InvalidName : ((l.prog.main.file : Str) == fl_InvalidName) = true)
    (ea_DegreeTooHigh : PySem.W.nsIn K mainGlobals "DegreeTooHigh" = some (some (.ref C_DegreeTooHigh)))
    (eb_DegreeTooHigh : K.lookup C_DegreeTooHigh = some (excClassObj nm_DegreeTooHigh qn_DegreeTooHigh C_DegreeTooHigh N_DegreeTooHigh bs_DegreeTooHigh bm_DegreeTooHigh true sn_DegreeTooHigh sub_DegreeTooHigh ab_DegreeTooHigh col_DegreeTooHigh dd_DegreeTooHigh v0_DegreeTooHigh v1_DegreeTooHigh v2_DegreeTooHigh v3_DegreeTooHigh v5_DegreeTooHigh "ValueError.__new__"))
    (ec_DegreeTooHigh : PySem.HandSPX.refsVE bm_DegreeTooHigh = true)
    (ed_DegreeTooHigh : PySem.W.alongIn K "__init__" bm_DegreeTooHigh = some (some (.builtin "ValueError.__init__")))
    (ee_DegreeTooHigh : PySem.W.findIn K (.ref C_DegreeTooHigh) "__setattr__" = some (some (.builtin "object.__setattr__")))
    (ef_DegreeTooHigh : PySem.W.findIn K (.ref C_DegreeTooHigh) "__getattribute__" = some (some (.builtin "BaseException.__getattribute__")))
    (eg_DegreeTooHigh : PySem.W.findIn K (.ref C_DegreeTooHigh) "__getattr__" = some none)
    (eh_DegreeTooHigh : PySem.W.findIn K (.ref C_DegreeTooHigh) "at" = some none)
    (ei_DegreeTooHigh : PySem.W.findIn K (.ref C_DegreeTooHigh) "code" = some none)
    (ej_DegreeTooHigh : PySem.W.findIn K (.ref C_DegreeTooHigh) "__init__" = some (some (.ref f_DegreeTooHigh)))
    (ek_DegreeTooHigh : PySem.W.typeIn K (.ref f_DegreeTooHigh) = some (.type "function"))
    (el_DegreeTooHigh : PySem.W.keepIn K (.ref C_DegreeTooHigh) = true)
    (em_DegreeTooHigh : PySem.W.subIn K (.ref C_DegreeTooHigh) (.type "BaseException") = some true)
    (en_DegreeTooHigh : PySem.W.subIn K (.ref C_DegreeTooHigh) (.type "ValueError") = some true)
    (eo_DegreeTooHigh : PySem.W.mroIn K C_DegreeTooHigh (.ref C_DegreeTooHigh) = some true)
    (ep_DegreeTooHigh : PySem.W.typeIn K (.ref C_DegreeTooHigh) = some (.type "type"))
    (eq_DegreeTooHigh : PySem.W.hasDictIn K C_DegreeTooHigh = true)
    (er_DegreeTooHigh : K.lookup f_DegreeTooHigh = some ⟨oc_DegreeTooHigh, od_DegreeTooHigh, .func (PySem.W.ksFn "__init__" ql_DegreeTooHigh (PySem.ErrX.eArgs "at" p1_DegreeTooHigh p2_DegreeTooHigh) (PySem.ErrX.eBody "at" ms_DegreeTooHigh "DegreeTooHigh" n1_DegreeTooHigh n2_DegreeTooHigh a1_DegreeTooHigh a2_DegreeTooHigh a3_DegreeTooHigh a4_DegreeTooHigh a5_DegreeTooHigh a6_DegreeTooHigh b1_DegreeTooHigh b2_DegreeTooHigh b3_DegreeTooHigh b4_DegreeTooHigh c1_DegreeTooHigh c2_DegreeTooHigh c3_DegreeTooHigh c4_DegreeTooHigh) (PySem.ErrX.eScope "at") .none .none dc_DegreeTooHigh pm_DegreeTooHigh an_DegreeTooHigh (.ref d_DegreeTooHigh) ct_DegreeTooHigh x_DegreeTooHigh), os_DegreeTooHigh⟩)
    (es_DegreeTooHigh : PySem.W.codeIn K (.ref d_DegreeTooHigh) ql_DegreeTooHigh = true)
    (et_DegreeTooHigh : K.lookup x_DegreeTooHigh = some ⟨cl_DegreeTooHigh, cld_DegreeTooHigh, .cell (some (.ref C_DegreeTooHigh)), csl_DegreeTooHigh⟩)
    (eu_DegreeTooHigh : K.lookup d_DegreeTooHigh = some ⟨ccl_DegreeTooHigh, cdd_DegreeTooHigh, .fields vs_DegreeTooHigh, ccs_DegreeTooHigh⟩)
    (ev_DegreeTooHigh : vs_DegreeTooHigh[2]? = some (.str fl_DegreeTooHigh tf_DegreeTooHigh))
    (ex_DegreeTooHigh : PySem.ErrX.InitEval ms_DegreeTooHigh n1_DegreeTooHigh a1_DegreeTooHigh a2_DegreeTooHigh a3_DegreeTooHigh a4_DegreeTooHigh a5_DegreeTooHigh)
    (ew_DegreeTooHigh : ((l.prog.main.file : Str) == fl_DegreeTooHigh) = true)
    (cg_Form : PySem.W.nsIn K mainGlobals "Form" = some (some (.ref C_Form)))
    (c1_Form : PySem.W.plainGet K C_Form Str.empty = true)
    (c2_Form : PySem.W.hasDictIn K C_Form = true)
    (c3_Form : PySem.W.plainOver K C_Form = true)
    (c4_Form : PySem.W.findIn K (.ref C_Form) "__setattr__" = some (some (.builtin "object.__setattr__")))
    (c5_Form : PySem.W.readsIn K C_Form (.type "type") = true)
    (c6_Form : PySem.W.specialIn K (.ref C_Form) "__getattribute__" = some (some (.builtin "type.__getattribute__")))
    (ia_Form : PySem.W.findIn K (.ref C_Form) "__class__" = some (some (.builtin "object.__class__")))
    (ib_Form : PySem.W.specialIn K (.builtin "object.__class__") "__get__" = some (some (.builtin "getset_descriptor.__get__")))
    (ic_Form : PySem.W.takesIn K (.builtin "object.__class__") = some true)
    (id_Form : PySem.W.mroIn K C_Form (.type "object") = some true)
    (no_Form__shares : PySem.W.findIn K (.ref C_Form) "_shares" = some none)
    (ma_Form_init : PySem.W.findIn K (.ref C_Form) "__init__" = some (some (.ref f_Form_init)))
    (mb_Form_init : PySem.W.isFn K (.ref f_Form_init) = true)
    (l_Form_init : K.lookup f_Form_init = some ⟨oc_Form_init, od_Form_init, .func (PySem.W.fnOf "__init__" "Form.__init__" (defArgs s_Form_init) (defBody s_Form_init) (defScope s_Form_init) (.ref TForm_init) kV_Form_init dc_Form_init pm_Form_init an_Form_init cd_Form_init ct_Form_init), sl_Form_init⟩)
    (c_Form_init : PySem.W.codeIn K cd_Form_init "Form.__init__" = true)
    (k_Form_init : PySem.W.keepIn K (.ref f_Form_init) = true)
    (t_Form_init : K.lookup TForm_init = some ⟨.type "tuple", oTForm_init, .seq #[.ref e0_Form_init] nTForm_init, sTForm_init⟩)
    (t0_Form_init : K.lookup e0_Form_init = some ⟨.type "tuple", oe0_Form_init, .seq #[] ne0_Form_init, se0_Form_init⟩)
    (mk_Form : PySem.W.makesIn K C_Form = true)
    (kc_Form : PySem.W.keepIn K (.ref C_Form) = true)
    (sa_Form_word : PySem.W.findCls K (.ref C_Form) (.type "type") "word" = some (.get (.builtin "staticmethod.__get__") (.ref p_Form_word) .none (.ref C_Form)))
    (sb_Form_word : PySem.W.recIn K p_Form_word "staticmethod" = some (.ref f_Form_word :: rs_Form_word))
    (l_Form_word : K.lookup f_Form_word = some ⟨oc_Form_word, od_Form_word, .func (PySem.W.fnOf "word" "Form.word" (defArgs s_Form_word) (defBody s_Form_word) (defScope s_Form_word) .none kV_Form_word dc_Form_word pm_Form_word an_Form_word cd_Form_word ct_Form_word), sl_Form_word⟩)
    (c_Form_word : PySem.W.codeIn K cd_Form_word "Form.word" = true)
    (k_Form_word : PySem.W.keepIn K (.ref f_Form_word) = true)
    (ma_Form_len : PySem.W.findIn K (.ref C_Form) "__len__" = some (some (.ref f_Form_len)))
    (mb_Form_len : PySem.W.isFn K (.ref f_Form_len) = true)
    (l_Form_len : K.lookup f_Form_len = some ⟨oc_Form_len, od_Form_len, .func (PySem.W.fnOf "__len__" "Form.__len__" (defArgs s_Form_len) (defBody s_Form_len) (defScope s_Form_len) .none kV_Form_len dc_Form_len pm_Form_len an_Form_len cd_Form_len ct_Form_len), sl_Form_len⟩)
    (c_Form_len : PySem.W.codeIn K cd_Form_len "Form.__len__" = true)
    (k_Form_len : PySem.W.keepIn K (.ref f_Form_len) = true)
    (ma_Form_share_of : PySem.W.findIn K (.ref C_Form) "share_of" = some (some (.ref f_Form_share_of)))
    (mb_Form_share_of : PySem.W.isFn K (.ref f_Form_share_of) = true)
    (l_Form_share_of : K.lookup f_Form_share_of = some ⟨oc_Form_share_of, od_Form_share_of, .func (PySem.W.fnOf "share_of" "Form.share_of" (defArgs s_Form_share_of) (defBody s_Form_share_of) (defScope s_Form_share_of) .none kV_Form_share_of dc_Form_share_of pm_Form_share_of an_Form_share_of cd_Form_share_of ct_Form_share_of), sl_Form_share_of⟩)
    (c_Form_share_of : PySem.W.codeIn K cd_Form_share_of "Form.share_of" = true)
    (k_Form_share_of : PySem.W.keepIn K (.ref f_Form_share_of) = true)
    (ma_Form_text : PySem.W.findIn K (.ref C_Form) "text" = some (some (.ref f_Form_text)))
    (mb_Form_text : PySem.W.isFn K (.ref f_Form_text) = true)
    (l_Form_text : K.lookup f_Form_text = some ⟨oc_Form_text, od_Form_text, .func (PySem.W.fnOf "text" "Form.text" (defArgs s_Form_text) (defBody s_Form_text) (defScope s_Form_text) .none kV_Form_text dc_Form_text pm_Form_text an_Form_text cd_Form_text ct_Form_text), sl_Form_text⟩)
    (c_Form_text : PySem.W.codeIn K cd_Form_text "Form.text" = true)
    (k_Form_text : PySem.W.keepIn K (.ref f_Form_text) = true)
    (m_RingError : PySem.W.nsIn K mainGlobals "RingError" = some (some g_RingError))
    (m_Missing : PySem.W.nsIn K mainGlobals "Missing" = some (some g_Missing))
    (m_NothingLeft : PySem.W.nsIn K mainGlobals "NothingLeft" = some (some g_NothingLeft))
    (lcd : cd30 = .ref cL) (lC : K.lookup cL = some ⟨eL, ddL, .fields vsL, slL⟩) (lT : vsL[11]? = some (.ref PL)) (lP : h.get? PL = some { cls := .none, data := .fields #[] }) (lN : K.lookup PL = none) (lH : PySem.W.codeHdIn K cL PL = true) (hm : PySem.W.exmAny K (.ref C_InvalidTerm) [g_RingError, g_Missing, g_NothingLeft] = some true) (hm2 : PySem.W.exmAny K (.ref C_InvalidName) [g_RingError, g_Missing, g_NothingLeft] = some true) (hm3 : PySem.W.exmAny K (.ref C_DegreeTooHigh) [g_RingError, g_Missing, g_NothingLeft] = some true) :
    LamX.LawAtS l w K CX0 12 63 "_law_script" mg fa h := by
  have F__wall := fun_mk (st := s__wall) l1 c1 k1
  have b__wall := F__wall.binds (ps := ["k"]) fun _ _ _ _ _ _ us hl => match us, hl with | [_], _ => rfl
  have A__wall : Fn K mg "_wall" s__wall ["k"] := ⟨_, _, F__wall, PySem.W.mg_of X G a1, b__wall⟩
  have F_is_int := fun_mk (st := s_is_int) l2 c2 k2
  have b_is_int := F_is_int.binds (ps := ["value"]) fun _ _ _ _ _ _ us hl => match us, hl with | [_], _ => rfl
  have A_is_int : Fn K mg "is_int" s_is_int ["value"] := ⟨_, _, F_is_int, PySem.W.mg_of X G a2, b_is_int⟩
  have F_is_name := fun_mk (st := s_is_name) l3 c3 k3
  have b_is_name := F_is_name.binds (ps := ["value"]) fun _ _ _ _ _ _ us hl => match us, hl with | [_], _ => rfl
  have A_is_name : Fn K mg "is_name" s_is_name ["value"] := ⟨_, _, F_is_name, PySem.W.mg_of X G a3, b_is_name⟩
  have D_share : FunD K "share" "share" (defArgs s_share) (defBody s_share) (defScope s_share) [.int 1] [] f4 _ := ⟨⟨_, _, _, _, _, _, _, _, _, _, rfl, l4, c4, .inr ⟨by simp, T4, _, _, _, rfl, t4, rfl, (.cons ⟨_, rfl⟩ .nil)⟩, .inl rfl⟩, k4⟩
  have F_sum_of_shares := fun_mk (st := s_sum_of_shares) l5 c5 k5
  have b_sum_of_shares := F_sum_of_shares.binds (ps := ["x", "y"]) fun _ _ _ _ _ _ us hl => match us, hl with | [_, _], _ => rfl
  have A_sum_of_shares : Fn K mg "sum_of_shares" s_sum_of_shares ["x", "y"] := ⟨_, _, F_sum_of_shares, PySem.W.mg_of X G a5, b_sum_of_shares⟩
  have F_product_of_shares := fun_mk (st := s_product_of_shares) l6 c6 k6
  have b_product_of_shares := F_product_of_shares.binds (ps := ["x", "y"]) fun _ _ _ _ _ _ us hl => match us, hl with | [_, _], _ => rfl
  have A_product_of_shares : Fn K mg "product_of_shares" s_product_of_shares ["x", "y"] := ⟨_, _, F_product_of_shares, PySem.W.mg_of X G a6, b_product_of_shares⟩
  have F_read_digits := fun_mk (st := s_read_digits) l7 c7 k7
  have b_read_digits := F_read_digits.binds (ps := ["text", "most"]) fun _ _ _ _ _ _ us hl => match us, hl with | [_, _], _ => rfl
  have A_read_digits : Fn K mg "read_digits" s_read_digits ["text", "most"] := ⟨_, _, F_read_digits, PySem.W.mg_of X G a7, b_read_digits⟩
  have F_written := fun_mk (st := s_written) l8 c8 k8
  have b_written := F_written.binds (ps := ["number"]) fun _ _ _ _ _ _ us hl => match us, hl with | [_], _ => rfl
  have A_written : Fn K mg "written" s_written ["number"] := ⟨_, _, F_written, PySem.W.mg_of X G a8, b_written⟩
  have F_written_below := fun_mk (st := s_written_below) l9 c9 k9
  have b_written_below := F_written_below.binds (ps := ["number", "powers"]) fun _ _ _ _ _ _ us hl => match us, hl with | [_, _], _ => rfl
  have A_written_below : Fn K mg "written_below" s_written_below ["number", "powers"] := ⟨_, _, F_written_below, PySem.W.mg_of X G a9, b_written_below⟩
  have F_written_share := fun_mk (st := s_written_share) l10 c10 k10
  have b_written_share := F_written_share.binds (ps := ["p", "q"]) fun _ _ _ _ _ _ us hl => match us, hl with | [_, _], _ => rfl
  have A_written_share : Fn K mg "written_share" s_written_share ["p", "q"] := ⟨_, _, F_written_share, PySem.W.mg_of X G a10, b_written_share⟩
  have F_is_word := fun_mk (st := s_is_word) l11 c11 k11
  have b_is_word := F_is_word.binds (ps := ["value"]) fun _ _ _ _ _ _ us hl => match us, hl with | [_], _ => rfl
  have A_is_word : Fn K mg "is_word" s_is_word ["value"] := ⟨_, _, F_is_word, PySem.W.mg_of X G a11, b_is_word⟩
  have F_is_term := fun_mk (st := s_is_term) l12 c12 k12
  have b_is_term := F_is_term.binds (ps := ["value"]) fun _ _ _ _ _ _ us hl => match us, hl with | [_], _ => rfl
  have A_is_term : Fn K mg "is_term" s_is_term ["value"] := ⟨_, _, F_is_term, PySem.W.mg_of X G a12, b_is_term⟩
  have F_gathered := fun_mk (st := s_gathered) l13 c13 k13
  have b_gathered := F_gathered.binds (ps := ["pairs"]) fun _ _ _ _ _ _ us hl => match us, hl with | [_], _ => rfl
  have A_gathered : Fn K mg "gathered" s_gathered ["pairs"] := ⟨_, _, F_gathered, PySem.W.mg_of X G a13, b_gathered⟩
  have F_form_of := fun_mk (st := s_form_of) l14 c14 k14
  have b_form_of := F_form_of.binds (ps := ["pairs"]) fun _ _ _ _ _ _ us hl => match us, hl with | [_], _ => rfl
  have A_form_of : Fn K mg "form_of" s_form_of ["pairs"] := ⟨_, _, F_form_of, PySem.W.mg_of X G a14, b_form_of⟩
  have F_thing_of_word := fun_mk (st := s_thing_of_word) l15 c15 k15
  have b_thing_of_word := F_thing_of_word.binds (ps := ["word", "ring", "things"]) fun _ _ _ _ _ _ us hl => match us, hl with | [_, _, _], _ => rfl
  have A_thing_of_word : Fn K mg "thing_of_word" s_thing_of_word ["word", "ring", "things"] := ⟨_, _, F_thing_of_word, PySem.W.mg_of X G a15, b_thing_of_word⟩
  have F_term_text := fun_mk (st := s_term_text) l16 c16 k16
  have b_term_text := F_term_text.binds (ps := ["word", "p", "q"]) fun _ _ _ _ _ _ us hl => match us, hl with | [_, _, _], _ => rfl
  have A_term_text : Fn K mg "term_text" s_term_text ["word", "p", "q"] := ⟨_, _, F_term_text, PySem.W.mg_of X G a16, b_term_text⟩
  have F_read_pairs := fun_mk (st := s_read_pairs) l17 c17 k17
  have b_read_pairs := F_read_pairs.binds (ps := ["text"]) fun _ _ _ _ _ _ us hl => match us, hl with | [_], _ => rfl
  have A_read_pairs : Fn K mg "read_pairs" s_read_pairs ["text"] := ⟨_, _, F_read_pairs, PySem.W.mg_of X G a17, b_read_pairs⟩
  have F_read_term := fun_mk (st := s_read_term) l18 c18 k18
  have b_read_term := F_read_term.binds (ps := ["text", "negative"]) fun _ _ _ _ _ _ us hl => match us, hl with | [_, _], _ => rfl
  have A_read_term : Fn K mg "read_term" s_read_term ["text", "negative"] := ⟨_, _, F_read_term, PySem.W.mg_of X G a18, b_read_term⟩
  have F_read_share := fun_mk (st := s_read_share) l19 c19 k19
  have b_read_share := F_read_share.binds (ps := ["text"]) fun _ _ _ _ _ _ us hl => match us, hl with | [_], _ => rfl
  have A_read_share : Fn K mg "read_share" s_read_share ["text"] := ⟨_, _, F_read_share, PySem.W.mg_of X G a19, b_read_share⟩
  have F_l_bag := fun_mk (st := s_l_bag) l20 c20 k20
  have b_l_bag := F_l_bag.binds (ps := ["_law_script"]) fun _ _ _ _ _ _ us hl => match us, hl with | [_], _ => rfl
  have A_l_bag : Fn K mg "_law_bag" s_l_bag ["_law_script"] := ⟨_, _, F_l_bag, PySem.W.mg_of X G a20, b_l_bag⟩
  have F_l_draw := fun_mk (st := s_l_draw) l21 c21 k21
  have b_l_draw := F_l_draw.binds (ps := ["_law_bag_here", "_law_many"]) fun _ _ _ _ _ _ us hl => match us, hl with | [_, _], _ => rfl
  have A_l_draw : Fn K mg "_law_draw" s_l_draw ["_law_bag_here", "_law_many"] := ⟨_, _, F_l_draw, PySem.W.mg_of X G a21, b_l_draw⟩
  have F_l_pick := fun_mk (st := s_l_pick) l22 c22 k22
  have b_l_pick := F_l_pick.binds (ps := ["_law_bag_here", "_law_some"]) fun _ _ _ _ _ _ us hl => match us, hl with | [_, _], _ => rfl
  have A_l_pick : Fn K mg "_law_pick" s_l_pick ["_law_bag_here", "_law_some"] := ⟨_, _, F_l_pick, PySem.W.mg_of X G a22, b_l_pick⟩
  have F_l_letters := fun_mk (st := s_l_letters) l23 c23 k23
  have b_l_letters := F_l_letters.binds (ps := []) fun _ _ _ _ _ _ us hl => match us, hl with | [], _ => rfl
  have A_l_letters : Fn K mg "_law_letters" s_l_letters [] := ⟨_, _, F_l_letters, PySem.W.mg_of X G a23, b_l_letters⟩
  have F_l_names := fun_mk (st := s_l_names) l24 c24 k24
  have b_l_names := F_l_names.binds (ps := ["_law_bag_here", "_law_many"]) fun _ _ _ _ _ _ us hl => match us, hl with | [_, _], _ => rfl
  have A_l_names : Fn K mg "_law_names" s_l_names ["_law_bag_here", "_law_many"] := ⟨_, _, F_l_names, PySem.W.mg_of X G a24, b_l_names⟩
  have F_l_same := fun_mk (st := s_l_same) l25 c25 k25
  have b_l_same := F_l_same.binds (ps := ["_law_found", "_law_due"]) fun _ _ _ _ _ _ us hl => match us, hl with | [_, _], _ => rfl
  have A_l_same : Fn K mg "_law_same" s_l_same ["_law_found", "_law_due"] := ⟨_, _, F_l_same, PySem.W.mg_of X G a25, b_l_same⟩
  have F_l_field := fun_mk (st := s_l_field) l26 c26 k26
  have b_l_field := F_l_field.binds (ps := ["_law_e"]) fun _ _ _ _ _ _ us hl => match us, hl with | [_], _ => rfl
  have A_l_field : Fn K mg "_law_field" s_l_field ["_law_e"] := ⟨_, _, F_l_field, PySem.W.mg_of X G a26, b_l_field⟩
  have F_l_got := fun_mk (st := s_l_got) l27 c27 k27
  have b_l_got := F_l_got.binds (ps := ["_law_ask"]) fun _ _ _ _ _ _ us hl => match us, hl with | [_], _ => rfl
  have A_l_got : Fn K mg "_law_got" s_l_got ["_law_ask"] := ⟨_, _, F_l_got, PySem.W.mg_of X G a27, b_l_got⟩
  have F_l_all := fun_mk (st := s_l_all) l28 c28 k28
  have b_l_all := F_l_all.binds (ps := ["_law_asks"]) fun _ _ _ _ _ _ us hl => match us, hl with | [_], _ => rfl
  have A_l_all : Fn K mg "_law_all" s_l_all ["_law_asks"] := ⟨_, _, F_l_all, PySem.W.mg_of X G a28, b_l_all⟩
  have F_l_odd := fun_mk (st := s_l_odd) l29 c29 k29
  have b_l_odd := F_l_odd.binds (ps := ["_law_bag_here"]) fun _ _ _ _ _ _ us hl => match us, hl with | [_], _ => rfl
  have A_l_odd : Fn K mg "_law_odd" s_l_odd ["_law_bag_here"] := ⟨_, _, F_l_odd, PySem.W.mg_of X G a29, b_l_odd⟩
  have F_law := fun_mk (st := s_law) l30 c30 k30
  have b_law := F_law.binds (ps := ["_law_script"]) fun _ _ _ _ _ _ us hl => match us, hl with | [_], _ => rfl
  have A_law : Fn K mg "law" s_law ["_law_script"] := ⟨_, _, F_law, PySem.W.mg_of X G a30, b_law⟩
  have B : Blt mg := ⟨PySem.W.mg_none_of X G z_IndexError, PySem.W.mg_none_of X G z_LookupError, PySem.W.mg_none_of X G z_ValueError, PySem.W.mg_none_of X G z_abs, PySem.W.mg_none_of X G z_all, PySem.W.mg_none_of X G z_bool, PySem.W.mg_none_of X G z_divmod, PySem.W.mg_none_of X G z_enumerate, PySem.W.mg_none_of X G z_int, PySem.W.mg_none_of X G z_isinstance, PySem.W.mg_none_of X G z_len, PySem.W.mg_none_of X G z_list, PySem.W.mg_none_of X G z_max, PySem.W.mg_none_of X G z_range, PySem.W.mg_none_of X G z_set, PySem.W.mg_none_of X G z_sorted, PySem.W.mg_none_of X G z_str, PySem.W.mg_none_of X G z_tuple, PySem.W.mg_none_of X G z_zip⟩
  have E_InvalidNumber : PySem.ErrX.ErrTxt l.prog K mg "InvalidNumber" "given" "InvalidNumber" C_InvalidNumber f_InvalidNumber x_InvalidNumber d_InvalidNumber := ⟨PySem.W.mg_of X G ea_InvalidNumber, PySem.W.mg_none_of X G z_super, ⟨_, _, _, _, _, _, _, _, _, _, _, _, _, _, _, eb_InvalidNumber, ec_InvalidNumber, ed_InvalidNumber⟩, ee_InvalidNumber, ef_InvalidNumber, eg_InvalidNumber, eh_InvalidNumber, ei_InvalidNumber, ej_InvalidNumber, ek_InvalidNumber, el_InvalidNumber, em_InvalidNumber, en_InvalidNumber, eo_InvalidNumber, ep_InvalidNumber, eq_InvalidNumber, opq, ⟨_, _, _, et_InvalidNumber⟩, ⟨_, _, _, _, _, _, eu_InvalidNumber, ev_InvalidNumber, ew_InvalidNumber⟩, topSuper, ⟨_, _, _, _, _, _, _, _, _, _, _, _, _, _, _, _, _, _, _, _, _, _, _, _, _, _, _, er_InvalidNumber, es_InvalidNumber, fun s a b => .of_eq rfl, ex_InvalidNumber⟩, by decide, by decide, by decide, by decide, by decide⟩
  have xf_InvalidNumber : XfC K C_InvalidNumber := ⟨ef_InvalidNumber, eg_InvalidNumber, em_InvalidNumber, eq_InvalidNumber⟩
  have E_InvalidTerm : PySem.ErrX.ErrTxt l.prog K mg "InvalidTerm" "at" "InvalidTerm" C_InvalidTerm f_InvalidTerm x_InvalidTerm d_InvalidTerm := ⟨PySem.W.mg_of X G ea_InvalidTerm, PySem.W.mg_none_of X G z_super, ⟨_, _, _, _, _, _, _, _, _, _, _, _, _, _, _, eb_InvalidTerm, ec_InvalidTerm, ed_InvalidTerm⟩, ee_InvalidTerm, ef_InvalidTerm, eg_InvalidTerm, eh_InvalidTerm, ei_InvalidTerm, ej_InvalidTerm, ek_InvalidTerm, el_InvalidTerm, em_InvalidTerm, en_InvalidTerm, eo_InvalidTerm, ep_InvalidTerm, eq_InvalidTerm, opq, ⟨_, _, _, et_InvalidTerm⟩, ⟨_, _, _, _, _, _, eu_InvalidTerm, ev_InvalidTerm, ew_InvalidTerm⟩, topSuper, ⟨_, _, _, _, _, _, _, _, _, _, _, _, _, _, _, _, _, _, _, _, _, _, _, _, _, _, _, er_InvalidTerm, es_InvalidTerm, fun s a b => .of_eq rfl, ex_InvalidTerm⟩, by decide, by decide, by decide, by decide, by decide⟩
  have xf_InvalidTerm : XfC K C_InvalidTerm := ⟨ef_InvalidTerm, eg_InvalidTerm, em_InvalidTerm, eq_InvalidTerm⟩
  have E_InvalidName : PySem.ErrX.ErrTxt l.prog K mg "InvalidName" "given" "InvalidName" C_InvalidName f_InvalidName x_InvalidName d_InvalidName := ⟨PySem.W.mg_of X G ea_InvalidName, PySem.W.mg_none_of X G z_super, ⟨_, _, _, _, _, _, _, _, _, _, _, _, _, _, _, eb_InvalidName, ec_InvalidName, ed_InvalidName⟩, ee_InvalidName, ef_InvalidName, eg_InvalidName, eh_InvalidName, ei_InvalidName, ej_InvalidName, ek_InvalidName, el_InvalidName, em_InvalidName, en_InvalidName, eo_InvalidName, ep_InvalidName, eq_InvalidName, opq, ⟨_, _, _, et_InvalidName⟩, ⟨_, _, _, _, _, _, eu_InvalidName, ev_InvalidName, ew_InvalidName⟩, topSuper, ⟨_, _, _, _, _, _, _, _, _, _, _, _, _, _, _, _, _, _, _, _, _, _, _, _, _, _, _, er_InvalidName, es_InvalidName, fun s a b => .of_eq rfl, ex_InvalidName⟩, by decide, by decide, by decide, by decide, by decide⟩
  have xf_InvalidName : XfC K C_InvalidName := ⟨ef_InvalidName, eg_InvalidName, em_InvalidName, eq_InvalidName⟩
  have E_DegreeTooHigh : PySem.ErrX.ErrTxt l.prog K mg "DegreeTooHigh" "at" "DegreeTooHigh" C_DegreeTooHigh f_DegreeTooHigh x_DegreeTooHigh d_DegreeTooHigh := ⟨PySem.W.mg_of X G ea_DegreeTooHigh, PySem.W.mg_none_of X G z_super, ⟨_, _, _, _, _, _, _, _, _, _, _, _, _, _, _, eb_DegreeTooHigh, ec_DegreeTooHigh, ed_DegreeTooHigh⟩, ee_DegreeTooHigh, ef_DegreeTooHigh, eg_DegreeTooHigh, eh_DegreeTooHigh, ei_DegreeTooHigh, ej_DegreeTooHigh, ek_DegreeTooHigh, el_DegreeTooHigh, em_DegreeTooHigh, en_DegreeTooHigh, eo_DegreeTooHigh, ep_DegreeTooHigh, eq_DegreeTooHigh, opq, ⟨_, _, _, et_DegreeTooHigh⟩, ⟨_, _, _, _, _, _, eu_DegreeTooHigh, ev_DegreeTooHigh, ew_DegreeTooHigh⟩, topSuper, ⟨_, _, _, _, _, _, _, _, _, _, _, _, _, _, _, _, _, _, _, _, _, _, _, _, _, _, _, er_DegreeTooHigh, es_DegreeTooHigh, fun s a b => .of_eq rfl, ex_DegreeTooHigh⟩, by decide, by decide, by decide, by decide, by decide⟩
  have xf_DegreeTooHigh : XfC K C_DegreeTooHigh := ⟨ef_DegreeTooHigh, eg_DegreeTooHigh, em_DegreeTooHigh, eq_DegreeTooHigh⟩
  have gC_Form : mg "Form" = some (.ref C_Form) := PySem.W.mg_of X G cg_Form
  have cl_Form : Cls K C_Form := ⟨c1_Form, c2_Form, c3_Form, c4_Form⟩
  have rd_Form : ClX.CRead K C_Form (.type "type") := ⟨c5_Form, c6_Form⟩
  have D_Form_init : FunD K "__init__" "Form.__init__" (defArgs s_Form_init) (defBody s_Form_init) (defScope s_Form_init) [.ref e0_Form_init] [] f_Form_init _ := ⟨⟨_, _, _, _, _, _, _, _, _, _, rfl, l_Form_init, c_Form_init, .inr ⟨by simp, TForm_init, _, _, _, rfl, t_Form_init, rfl, (.cons rfl .nil)⟩, .inl rfl⟩, k_Form_init⟩
  have mk1_Form : Mk K C_Form f_Form_init := ⟨mk_Form, ma_Form_init, mb_Form_init, kc_Form⟩
  have F_Form_word := fun_mk (st := s_Form_word) l_Form_word c_Form_word k_Form_word
  have st_Form_word : OwO.CStat K C_Form (.type "type") "word" p_Form_word f_Form_word := ⟨sa_Form_word, ⟨_, sb_Form_word⟩⟩
  have F_Form_len := fun_mk (st := s_Form_len) l_Form_len c_Form_len k_Form_len
  have b_Form_len := F_Form_len.binds (ps := ["self"]) fun _ _ _ _ _ _ us hl => match us, hl with | [_], _ => rfl
  have sp_Form_len : OwO.Spc K C_Form "__len__" f_Form_len := ⟨ma_Form_len, mb_Form_len⟩
  have F_Form_share_of := fun_mk (st := s_Form_share_of) l_Form_share_of c_Form_share_of k_Form_share_of
  have me_Form_share_of : Meth K C_Form "share_of" f_Form_share_of := ⟨ma_Form_share_of, mb_Form_share_of, k_Form_share_of⟩
  have F_Form_text := fun_mk (st := s_Form_text) l_Form_text c_Form_text k_Form_text
  have b_Form_text := F_Form_text.binds (ps := ["self"]) fun _ _ _ _ _ _ us hl => match us, hl with | [_], _ => rfl
  have me_Form_text : Meth K C_Form "text" f_Form_text := ⟨ma_Form_text, mb_Form_text, k_Form_text⟩
  have T : Txt K mg r_KEPT_WORDS := ⟨⟨_, PySem.W.mg_of X G m_LETTERS⟩, ⟨_, PySem.W.mg_of X G m_MOST_LETTERS⟩, PySem.W.mg_of X G m_KEPT_WORDS, fun H => .inr ⟨_, _, _, l_KEPT_WORDS, rfl, rfl, (by show 4 ≤ sizeLine; decide), .cons ⟨_, rfl⟩ (.cons ⟨_, rfl⟩ (.cons ⟨_, rfl⟩ (.cons ⟨_, rfl⟩ .nil)))⟩⟩
  have TN : TxtN K mg r_NOTHING := ⟨PySem.W.mg_of X G m_NOTHING, fun H => .inr ⟨_, _, _, l_NOTHING, rfl, rfl, (by show 2 ≤ sizeLine; decide), .cons ⟨_, rfl⟩ (.cons ⟨_, rfl⟩ .nil)⟩⟩
  have TD : Deg mg := ⟨⟨_, PySem.W.mg_of X G m_MOST_DEGREE⟩⟩
  have TG : TxtG mg := ⟨PySem.W.mg_of X G m_gcd⟩
  have e := hfa.symm.trans (PySem.W.mg_of X G a30)
  cases e
  have R : FCls K C_Form := ⟨cl_Form, no_Form__shares⟩
  refine ⟨PySem.W.fnOf "law" "law" (defArgs s_law) (defBody s_law) (defScope s_law) .none kV30 dc30 pm30 an30 cd30 ct30, [(cL, PL)], spLaw K PL, fun p hp => ?_, fun p hp => ?_, fun p hp => ?_, fun s v => .of_eq rfl, fun H a ns hl _ hT hS => ⟨a, ns, rfl, hS, hl, hT _ List.mem_cons_self, fun _ => rfl⟩, fun base _ _ hB => ?_⟩
  · rw [List.mem_singleton.mp hp]
    exact lP
  · rw [List.mem_singleton.mp hp]
    exact lN
  · rw [List.mem_singleton.mp hp]
    exact PySem.W.codeHd_of_K X lH
  subst lcd
  have G1 := ok_draw (P := l.prog) (w := w) (base := base) A_l_draw B
  have G2 := ok_pick A_l_pick B G1
  have GI := ok_is_int (P := l.prog) (w := w) (base := base) A_is_int B
  have GN := ok_is_name (P := l.prog) (w := w) (base := base) A_is_name B T
  have GW := ok_is_word A_is_word B TD GN
  have GT := ok_is_term A_is_term B GI GW
  have GS := ok_share D_share (PySem.W.mg_of X G a4) TG E_InvalidNumber GI
  have GA := ok_sum_of_shares A_sum_of_shares B GS
  have GG := ok_gathered A_gathered B TN GA
  have I := ok_initF R B E_InvalidTerm D_Form_init GT GS GG
  have FC : FormC l.prog w K mg base C_Form C_InvalidTerm e0_Form_init := by
    obtain ⟨d2, hd2, b2⟩ := FunD.binds1 D_Form_init (ps := ["self", "terms"]) 2 1 (by simp) rfl (fun _ _ _ _ _ _ _ us its h1 h2 => match us, its, h1, h2 with | [_, _], [_], _, _ => ⟨_, rfl, rfl⟩)
    obtain ⟨d1, hd1, b1⟩ := FunD.binds1 D_Form_init (ps := ["self", "terms"]) 1 0 (by simp) rfl (fun _ _ _ _ _ _ _ us its h1 h2 => match us, its, h1, h2 with | [_], [_], _, _ => ⟨_, rfl, rfl⟩)
    cases hd2
    have e1 : d1 = [.ref e0_Form_init] := by
      cases hd1 with
      | cons r t =>
        cases t
        rw [show _ = Value.ref e0_Form_init from r]
    subst e1
    exact ⟨⟨_, _, mk1_Form, I, gC_Form, b2, b1⟩, fun H => .inr ⟨_, _, _, t0_Form_init, rfl, rfl, (by show 0 ≤ sizeLine; decide), .nil⟩⟩
  have FO := ok_form_of A_form_of R B FC GG
  have WO := ok_word ⟨_, _, _, F_Form_word, rd_Form, st_Form_word⟩ R B TD E_InvalidName E_DegreeTooHigh GN FO
  have SO := ok_share_of (P := l.prog) (w := w) (base := base) ⟨_, _, F_Form_share_of, me_Form_share_of⟩ R B TN
  have TT := ok_term_text (P := l.prog) (w := w) (base := base) A_term_text B (ok_written A_written_share)
  have TX := ok_text ⟨_, _, F_Form_text, me_Form_text, b_Form_text⟩ R B TT
  have LN := ok_lenF (P := l.prog) (w := w) (mg := mg) (base := base) R B F_Form_len
  have GL := ok_letters (P := l.prog) (w := w) (base := base) A_l_letters
  exact ok_law l30 c30 (hB _ List.mem_cons_self) hm hm2 hm3 xf_InvalidTerm ei_InvalidTerm eh_InvalidTerm xf_InvalidName ei_InvalidName eh_InvalidName xf_DegreeTooHigh ei_DegreeTooHigh eh_DegreeTooHigh B R gC_Form FC.mk' WO SO TX
    sp_Form_len LN b_Form_len (ok_bag A_l_bag B) G1 G2 (ok_l_names A_l_names B G1 G2 GL) (ok_odd A_l_odd B G2) (all_same A_l_same B 5)
    (fun B' => LamL.ok_allL A_l_all (LamL.ok_gotL A_l_got (PySem.W.mg_of X G m_RingError) (PySem.W.mg_of X G m_Missing) (PySem.W.mg_of X G m_NothingLeft) (ok_field A_l_field)))
end My
open PySem PySem.W PyProof.Rows
set_option maxRecDepth 100000 in
set_option maxHeartbeats 0 in
theorem PySem.Challenge.cw_numbertypes_k27_terms_and_words_refused_holds : PySem.Challenge.rw_numbertypes_k27_terms_and_words_refused.Holds := by
  w_on; o_law; k_head; (case hw => w_witness2)
  k_fill
  refine LamX.walk_ofTs (l := PySem.Challenge.rw_numbertypes_k27_terms_and_words_refused) (n := 63) (k := 12) (x := "_law_script") (CX := fun _ => L2.CX0) rfl (by decide) rfl ⟨rfl, by decide, by decide⟩ (fun w h Y => PySem.W.km_in_of Y) ?F (fun _ _ _ _ _ h => h)
  case F =>
    intro w mg fa h Y KX G hmg
    refine' My.all_mk KX G hmg ?z_super ?opq ?topSuper ?a1 ?l1 ?c1 ?k1 ?a2 ?l2 ?c2 ?k2 ?a3 ?l3 ?c3 ?k3 ?a4 ?l4 ?c4 ?k4 ?t4 ?a5 ?l5 ?c5 ?k5 ?a6 ?l6 ?c6 ?k6 ?a7 ?l7 ?c7 ?k7 ?a8 ?l8 ?c8 ?k8 ?a9 ?l9 ?c9 ?k9 ?a10 ?l10 ?c10 ?k10 ?a11 ?l11 ?c11 ?k11 ?a12 ?l12 ?c12 ?k12 ?a13 ?l13 ?c13 ?k13 ?a14 ?l14 ?c14 ?k14 ?a15 ?l15 ?c15 ?k15 ?a16 ?l16 ?c16 ?k16 ?a17 ?l17 ?c17 ?k17 ?a18 ?l18 ?c18 ?k18 ?a19 ?l19 ?c19 ?k19 ?a20 ?l20 ?c20 ?k20 ?a21 ?l21 ?c21 ?k21 ?a22 ?l22 ?c22 ?k22 ?a23 ?l23 ?c23 ?k23 ?a24 ?l24 ?c24 ?k24 ?a25 ?l25 ?c25 ?k25 ?a26 ?l26 ?c26 ?k26 ?a27 ?l27 ?c27 ?k27 ?a28 ?l28 ?c28 ?k28 ?a29 ?l29 ?c29 ?k29 ?a30 ?l30 ?c30 ?k30 ?z_IndexError ?z_LookupError ?z_ValueError ?z_abs ?z_all ?z_bool ?z_divmod ?z_enumerate ?z_int ?z_isinstance ?z_len ?z_list ?z_max ?z_range ?z_set ?z_sorted ?z_str ?z_tuple ?z_zip ?m_gcd ?m_LETTERS ?m_DIGITS ?m_KEPT_WORDS ?l_KEPT_WORDS ?m_MOST_LETTERS ?m_MOST_DEGREE ?m_MOST_DIGITS ?m_NOTHING ?l_NOTHING ?ea_InvalidNumber ?eb_InvalidNumber ?ec_InvalidNumber ?ed_InvalidNumber ?ee_InvalidNumber ?ef_InvalidNumber ?eg_InvalidNumber ?eh_InvalidNumber ?ei_InvalidNumber ?ej_InvalidNumber ?ek_InvalidNumber ?el_InvalidNumber ?em_InvalidNumber ?en_InvalidNumber ?eo_InvalidNumber ?ep_InvalidNumber ?eq_InvalidNumber ?er_InvalidNumber ?es_InvalidNumber ?et_InvalidNumber ?eu_InvalidNumber ?ev_InvalidNumber ?ex_InvalidNumber ?ew_InvalidNumber ?ea_InvalidTerm ?eb_InvalidTerm ?ec_InvalidTerm ?ed_InvalidTerm ?ee_InvalidTerm ?ef_InvalidTerm ?eg_InvalidTerm ?eh_InvalidTerm ?ei_InvalidTerm ?ej_InvalidTerm ?ek_InvalidTerm ?el_InvalidTerm ?em_InvalidTerm ?en_InvalidTerm ?eo_InvalidTerm ?ep_InvalidTerm ?eq_InvalidTerm ?er_InvalidTerm ?es_InvalidTerm ?et_InvalidTerm ?eu_InvalidTerm ?ev_InvalidTerm ?ex_InvalidTerm ?ew_InvalidTerm ?ea_InvalidName ?eb_InvalidName ?ec_InvalidName ?ed_InvalidName ?ee_InvalidName ?ef_InvalidName ?eg_InvalidName ?eh_InvalidName ?ei_InvalidName ?ej_InvalidName ?ek_InvalidName ?el_InvalidName ?em_InvalidName ?en_InvalidName ?eo_InvalidName ?ep_InvalidName ?eq_InvalidName ?er_InvalidName ?es_InvalidName ?et_InvalidName ?eu_InvalidName ?ev_InvalidName ?ex_InvalidName ?ew_InvalidName ?ea_DegreeTooHigh ?eb_DegreeTooHigh ?ec_DegreeTooHigh ?ed_DegreeTooHigh ?ee_DegreeTooHigh ?ef_DegreeTooHigh ?eg_DegreeTooHigh ?eh_DegreeTooHigh ?ei_DegreeTooHigh ?ej_DegreeTooHigh ?ek_DegreeTooHigh ?el_DegreeTooHigh ?em_DegreeTooHigh ?en_DegreeTooHigh ?eo_DegreeTooHigh ?ep_DegreeTooHigh ?eq_DegreeTooHigh ?er_DegreeTooHigh ?es_DegreeTooHigh ?et_DegreeTooHigh ?eu_DegreeTooHigh ?ev_DegreeTooHigh ?ex_DegreeTooHigh ?ew_DegreeTooHigh ?cg_Form ?c1_Form ?c2_Form ?c3_Form ?c4_Form ?c5_Form ?c6_Form ?ia_Form ?ib_Form ?ic_Form ?id_Form ?no_Form__shares ?ma_Form_init ?mb_Form_init ?l_Form_init ?c_Form_init ?k_Form_init ?t_Form_init ?t0_Form_init ?mk_Form ?kc_Form ?sa_Form_word ?sb_Form_word ?l_Form_word ?c_Form_word ?k_Form_word ?ma_Form_len ?mb_Form_len ?l_Form_len ?c_Form_len ?k_Form_len ?ma_Form_share_of ?mb_Form_share_of ?l_Form_share_of ?c_Form_share_of ?k_Form_share_of ?ma_Form_text ?mb_Form_text ?l_Form_text ?c_Form_text ?k_Form_text ?m_RingError ?m_Missing ?m_NothingLeft ?lcd ?lC ?lT ?lP ?lN ?lH ?hm ?hm2 ?hm3
    (case z_super => k_is)
    (case opq => k_is)
    (case a1 => k_is)
    (case l1 => k_is)
    (case c1 => k_is)
    (case k1 => k_is)
    (case a2 => k_is)
    (case l2 => k_is)
    (case c2 => k_is)
    (case k2 => k_is)
    (case a3 => k_is)
    (case l3 => k_is)
    (case c3 => k_is)
    (case k3 => k_is)
    (case a4 => k_is)
    (case l4 => k_is)
    (case c4 => k_is)
    (case k4 => k_is)
    (case t4 => k_is)
    (case a5 => k_is)
    (case l5 => k_is)
    (case c5 => k_is)
    (case k5 => k_is)
    (case a6 => k_is)
    (case l6 => k_is)
    (case c6 => k_is)
    (case k6 => k_is)
    (case a7 => k_is)
    (case l7 => k_is)
    (case c7 => k_is)
    (case k7 => k_is)
    (case a8 => k_is)
    (case l8 => k_is)
    (case c8 => k_is)
    (case k8 => k_is)
    (case a9 => k_is)
    (case l9 => k_is)
    (case c9 => k_is)
    (case k9 => k_is)
    (case a10 => k_is)
    (case l10 => k_is)
    (case c10 => k_is)
    (case k10 => k_is)
    (case a11 => k_is)
    (case l11 => k_is)
    (case c11 => k_is)
    (case k11 => k_is)
    (case a12 => k_is)
    (case l12 => k_is)
    (case c12 => k_is)
    (case k12 => k_is)
    (case a13 => k_is)
    (case l13 => k_is)
    (case c13 => k_is)
    (case k13 => k_is)
    (case a14 => k_is)
    (case l14 => k_is)
    (case c14 => k_is)
    (case k14 => k_is)
    (case a15 => k_is)
    (case l15 => k_is)
    (case c15 => k_is)
    (case k15 => k_is)
    (case a16 => k_is)
    (case l16 => k_is)
    (case c16 => k_is)
    (case k16 => k_is)
    (case a17 => k_is)
    (case l17 => k_is)
    (case c17 => k_is)
    (case k17 => k_is)
    (case a18 => k_is)
    (case l18 => k_is)
    (case c18 => k_is)
    (case k18 => k_is)
    (case a19 => k_is)
    (case l19 => k_is)
    (case c19 => k_is)
    (case k19 => k_is)
    (case a20 => k_is)
    (case l20 => k_is)
    (case c20 => k_is)
    (case k20 => k_is)
    (case a21 => k_is)
    (case l21 => k_is)
    (case c21 => k_is)
    (case k21 => k_is)
    (case a22 => k_is)
    (case l22 => k_is)
    (case c22 => k_is)
    (case k22 => k_is)
    (case a23 => k_is)
    (case l23 => k_is)
    (case c23 => k_is)
    (case k23 => k_is)
    (case a24 => k_is)
    (case l24 => k_is)
    (case c24 => k_is)
    (case k24 => k_is)
    (case a25 => k_is)
    (case l25 => k_is)
    (case c25 => k_is)
    (case k25 => k_is)
    (case a26 => k_is)
    (case l26 => k_is)
    (case c26 => k_is)
    (case k26 => k_is)
    (case a27 => k_is)
    (case l27 => k_is)
    (case c27 => k_is)
    (case k27 => k_is)
    (case a28 => k_is)
    (case l28 => k_is)
    (case c28 => k_is)
    (case k28 => k_is)
    (case a29 => k_is)
    (case l29 => k_is)
    (case c29 => k_is)
    (case k29 => k_is)
    (case a30 => k_is)
    (case l30 => k_is)
    (case c30 => k_is)
    (case k30 => k_is)
    (case z_IndexError => k_is)
    (case z_LookupError => k_is)
    (case z_ValueError => k_is)
    (case z_abs => k_is)
    (case z_all => k_is)
    (case z_bool => k_is)
    (case z_divmod => k_is)
    (case z_enumerate => k_is)
    (case z_int => k_is)
    (case z_isinstance => k_is)
    (case z_len => k_is)
    (case z_list => k_is)
    (case z_max => k_is)
    (case z_range => k_is)
    (case z_set => k_is)
    (case z_sorted => k_is)
    (case z_str => k_is)
    (case z_tuple => k_is)
    (case z_zip => k_is)
    (case m_gcd => k_is)
    (case m_LETTERS => k_is)
    (case m_DIGITS => k_is)
    (case m_KEPT_WORDS => k_is)
    (case l_KEPT_WORDS => k_is)
    (case m_MOST_LETTERS => k_is)
    (case m_MOST_DEGREE => k_is)
    (case m_MOST_DIGITS => k_is)
    (case m_NOTHING => k_is)
    (case l_NOTHING => k_is)
    (case m_RingError => k_is)
    (case m_Missing => k_is)
    (case m_NothingLeft => k_is)
    (case topSuper => kernel_rfl)
    (case ea_InvalidNumber => k_is)
    (case eb_InvalidNumber => k_is)
    (case ec_InvalidNumber => first | rfl | kernel_rfl)
    (case ed_InvalidNumber => kernel_rfl)
    (case ee_InvalidNumber => k_is)
    (case ef_InvalidNumber => k_is)
    (case eg_InvalidNumber => k_is)
    (case eh_InvalidNumber => k_is)
    (case ei_InvalidNumber => k_is)
    (case ej_InvalidNumber => k_is)
    (case ek_InvalidNumber => k_is)
    (case el_InvalidNumber => k_is)
    (case em_InvalidNumber => k_is)
    (case en_InvalidNumber => k_is)
    (case eo_InvalidNumber => k_is)
    (case ep_InvalidNumber => k_is)
    (case eq_InvalidNumber => k_is)
    (case er_InvalidNumber => k_is)
    (case es_InvalidNumber => k_is)
    (case et_InvalidNumber => k_is)
    (case eu_InvalidNumber => k_is)
    (case ev_InvalidNumber => rfl)
    (case ex_InvalidNumber => exact ⟨_, fun env => rfl⟩)
    (case ew_InvalidNumber => kernel_rfl)
    (case ea_InvalidTerm => k_is)
    (case eb_InvalidTerm => k_is)
    (case ec_InvalidTerm => first | rfl | kernel_rfl)
    (case ed_InvalidTerm => kernel_rfl)
    (case ee_InvalidTerm => k_is)
    (case ef_InvalidTerm => k_is)
    (case eg_InvalidTerm => k_is)
    (case eh_InvalidTerm => k_is)
    (case ei_InvalidTerm => k_is)
    (case ej_InvalidTerm => k_is)
    (case ek_InvalidTerm => k_is)
    (case el_InvalidTerm => k_is)
    (case em_InvalidTerm => k_is)
    (case en_InvalidTerm => k_is)
    (case eo_InvalidTerm => k_is)
    (case ep_InvalidTerm => k_is)
    (case eq_InvalidTerm => k_is)
    (case er_InvalidTerm => k_is)
    (case es_InvalidTerm => k_is)
    (case et_InvalidTerm => k_is)
    (case eu_InvalidTerm => k_is)
    (case ev_InvalidTerm => rfl)
    (case ex_InvalidTerm => exact ⟨_, fun env => rfl⟩)
    (case ew_InvalidTerm => kernel_rfl)
    (case ea_InvalidName => k_is)
    (case eb_InvalidName => k_is)
    (case ec_InvalidName => first | rfl | kernel_rfl)
    (case ed_InvalidName => kernel_rfl)
    (case ee_InvalidName => k_is)
    (case ef_InvalidName => k_is)
    (case eg_InvalidName => k_is)
    (case eh_InvalidName => k_is)
    (case ei_InvalidName => k_is)
    (case ej_InvalidName => k_is)
    (case ek_InvalidName => k_is)
    (case el_InvalidName => k_is)
    (case em_InvalidName => k_is)
    (case en_InvalidName => k_is)
    (case eo_InvalidName => k_is)
    (case ep_InvalidName => k_is)
    (case eq_InvalidName => k_is)
    (case er_InvalidName => k_is)
    (case es_InvalidName => k_is)
    (case et_InvalidName => k_is)
    (case eu_InvalidName => k_is)
    (case ev_InvalidName => rfl)
    (case ex_InvalidName => exact ⟨_, fun env => rfl⟩)
    (case ew_InvalidName => kernel_rfl)
    (case ea_DegreeTooHigh => k_is)
    (case eb_DegreeTooHigh => k_is)
    (case ec_DegreeTooHigh => first | rfl | kernel_rfl)
    (case ed_DegreeTooHigh => kernel_rfl)
    (case ee_DegreeTooHigh => k_is)
    (case ef_DegreeTooHigh => k_is)
    (case eg_DegreeTooHigh => k_is)
    (case eh_DegreeTooHigh => k_is)
    (case ei_DegreeTooHigh => k_is)
    (case ej_DegreeTooHigh => k_is)
    (case ek_DegreeTooHigh => k_is)
    (case el_DegreeTooHigh => k_is)
    (case em_DegreeTooHigh => k_is)
    (case en_DegreeTooHigh => k_is)
    (case eo_DegreeTooHigh => k_is)
    (case ep_DegreeTooHigh => k_is)
    (case eq_DegreeTooHigh => k_is)
    (case er_DegreeTooHigh => k_is)
    (case es_DegreeTooHigh => k_is)
    (case et_DegreeTooHigh => k_is)
    (case eu_DegreeTooHigh => k_is)
    (case ev_DegreeTooHigh => rfl)
    (case ex_DegreeTooHigh => exact ⟨_, fun env => rfl⟩)
    (case ew_DegreeTooHigh => kernel_rfl)
    (case cg_Form => k_is)
    (case c1_Form => k_is)
    (case c2_Form => k_is)
    (case c3_Form => k_is)
    (case c4_Form => k_is)
    (case c5_Form => k_is)
    (case c6_Form => k_is)
    (case ia_Form => k_is)
    (case ib_Form => k_is)
    (case ic_Form => k_is)
    (case id_Form => k_is)
    (case no_Form__shares => k_is)
    (case ma_Form_init => k_is)
    (case mb_Form_init => k_is)
    (case l_Form_init => k_is)
    (case c_Form_init => k_is)
    (case k_Form_init => k_is)
    (case t_Form_init => k_is)
    (case t0_Form_init => k_is)
    (case mk_Form => k_is)
    (case kc_Form => k_is)
    (case sa_Form_word => k_is)
    (case sb_Form_word => k_is)
    (case l_Form_word => k_is)
    (case c_Form_word => k_is)
    (case k_Form_word => k_is)
    (case ma_Form_len => k_is)
    (case mb_Form_len => k_is)
    (case l_Form_len => k_is)
    (case c_Form_len => k_is)
    (case k_Form_len => k_is)
    (case ma_Form_share_of => k_is)
    (case mb_Form_share_of => k_is)
    (case l_Form_share_of => k_is)
    (case c_Form_share_of => k_is)
    (case k_Form_share_of => k_is)
    (case ma_Form_text => k_is)
    (case mb_Form_text => k_is)
    (case l_Form_text => k_is)
    (case c_Form_text => k_is)
    (case k_Form_text => k_is)
    (case lcd => rfl)
    (case lC => k_is)
    (case lT => rfl)
    (case lP => exact PySem.W.km_tabs_of Y _ List.mem_cons_self)
    (case lN => kernel_rfl)
    (case lH => kernel_rfl)
    (case hm => kernel_rfl)
    (case hm2 => kernel_rfl)
    (case hm3 => kernel_rfl)
