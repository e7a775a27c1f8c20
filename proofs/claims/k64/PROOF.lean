
import PyProof.Rows.All
import Wide.All
import OpenK.AllK
import Wide.FinOn
import HandS.ForMost
import HandS.IsInst
import HandS.Walk
import HandS.Wide
import HandS.Codes
import HandS.Gcd
import HandS.Zip
import KE.OsRunLaw
import HandS.ForExc
import HandS.ExcInit
import HandS.ExcSuper
import HandS.ExcField
import HandS.Lambda
import HandS.HotCalls
import HandS.TryMany
import HandS.EndTab
import HandS.ClsMeth
import HandS.Star
import HandS.Property
import HandS.Defaults
import HandS.MakeKw
import HandS.MakeKwOnly
import HandS.OwnEq
import HandS.FStr
import HandS.Text
import HandS.StrMore
import HandS.EndOwn
import HandS.Deep
import HandS.More
import HandS.Conv
import HandS.Sort
import HandS.SortKw
import KE.KExcSuper
import KE.KSuper
import KE.KTryMore
import KE.DataMinMax
import KE.GoesZip
import KE.GoesEnum
import KE.GoesMore
import HandS.Strs
import HandS.DictComp
import HandS.Dict
import PyProof.StrOps2
import HandS.Style
import PySem.Challenge.RW_numbertypes_k64_whole_benches_turned
set_option Elab.async false
set_option linter.all false
set_option maxRecDepth 100000
set_option maxHeartbeats 4000000
namespace My
open PySem PySem.Spec PyProof.Rows L2
/-! ### the text by places -/
def topS (i : Nat) : Stmt := PySem.Challenge.pw_numbertypes_k64_whole_benches_turned.main.body.getD i (.Pass ⟨0, 0, 0, 0⟩)
abbrev s_is_int : Stmt := topS 14
abbrev N_is_int : List Str := ["value"]
theorem sc_is_int : FnScope N_is_int ["value"] (defScope s_is_int) := ⟨rfl, rfl, rfl, by decide +kernel, rfl, by decide +kernel, by decide +kernel⟩
abbrev s_is_name : Stmt := topS 15
abbrev N_is_name : List Str := ["value", "sign"]
theorem sc_is_name : FnScope N_is_name ["value"] (defScope s_is_name) := ⟨rfl, rfl, rfl, by decide +kernel, rfl, by decide +kernel, by decide +kernel⟩
abbrev s_are_names : Stmt := topS 17
abbrev N_are_names : List Str := ["value", "most", "name"]
theorem sc_are_names : FnScope N_are_names ["value", "most"] (defScope s_are_names) := ⟨rfl, rfl, rfl, by decide +kernel, rfl, by decide +kernel, by decide +kernel⟩
abbrev s_is_known : Stmt := topS 18
abbrev N_is_known : List Str := ["value", "known"]
theorem sc_is_known : FnScope N_is_known ["value", "known"] (defScope s_is_known) := ⟨rfl, rfl, rfl, by decide +kernel, rfl, by decide +kernel, by decide +kernel⟩
abbrev s_are_known : Stmt := topS 19
abbrev N_are_known : List Str := ["value", "known", "most", "name"]
theorem sc_are_known : FnScope N_are_known ["value", "known", "most"] (defScope s_are_known) := ⟨rfl, rfl, rfl, by decide +kernel, rfl, by decide +kernel, by decide +kernel⟩
abbrev s_new_names : Stmt := topS 21
abbrev N_new_names : List Str := ["count", "taken", "options", "one", "other", "name"]
theorem sc_new_names : FnScope N_new_names ["count", "taken"] (defScope s_new_names) := ⟨rfl, rfl, rfl, by decide +kernel, rfl, by decide +kernel, by decide +kernel⟩
abbrev s_is_line : Stmt := topS 27
abbrev N_is_line : List Str := ["value", "known", "name", "parts", "part"]
theorem sc_is_line : FnScope N_is_line ["value", "known"] (defScope s_is_line) := ⟨rfl, rfl, rfl, by decide +kernel, rfl, by decide +kernel, by decide +kernel⟩
abbrev s_is_part : Stmt := topS 28
abbrev N_is_part : List Str := ["value", "known"]
theorem sc_is_part : FnScope N_is_part ["value", "known"] (defScope s_is_part) := ⟨rfl, rfl, rfl, by decide +kernel, rfl, by decide +kernel, by decide +kernel⟩
abbrev s_first_wrong_line : Stmt := topS 29
abbrev N_first_wrong_line : List Str := ["lines", "inputs", "known", "name", "at", "line"]
theorem sc_first_wrong_line : FnScope N_first_wrong_line ["lines", "inputs"] (defScope s_first_wrong_line) := ⟨rfl, rfl, rfl, by decide +kernel, rfl, by decide +kernel, by decide +kernel⟩
abbrev s_l_bag : Stmt := topS 32
abbrev N_l_bag : List Str := ["_law_script", "_law_cells"]
theorem sc_l_bag : FnScope N_l_bag ["_law_script"] (defScope s_l_bag) := ⟨rfl, rfl, rfl, by decide +kernel, rfl, by decide +kernel, by decide +kernel⟩
abbrev s_l_draw : Stmt := topS 33
abbrev N_l_draw : List Str := ["_law_bag_here", "_law_many", "_law_cell", "_law_got_here"]
theorem sc_l_draw : FnScope N_l_draw ["_law_bag_here", "_law_many"] (defScope s_l_draw) := ⟨rfl, rfl, rfl, by decide +kernel, rfl, by decide +kernel, by decide +kernel⟩
abbrev s_l_pick : Stmt := topS 34
abbrev N_l_pick : List Str := ["_law_bag_here", "_law_some"]
theorem sc_l_pick : FnScope N_l_pick ["_law_bag_here", "_law_some"] (defScope s_l_pick) := ⟨rfl, rfl, rfl, by decide +kernel, rfl, by decide +kernel, by decide +kernel⟩
abbrev s_l_mixed : Stmt := topS 35
abbrev N_l_mixed : List Str := ["_law_bag_here", "_law_some", "_law_found", "_law_item"]
theorem sc_l_mixed : FnScope N_l_mixed ["_law_bag_here", "_law_some"] (defScope s_l_mixed) := ⟨rfl, rfl, rfl, by decide +kernel, rfl, by decide +kernel, by decide +kernel⟩
abbrev s_l_letters : Stmt := topS 36
abbrev N_l_letters : List Str := []
theorem sc_l_letters : FnScope N_l_letters [] (defScope s_l_letters) := ⟨rfl, rfl, rfl, by decide +kernel, rfl, by decide +kernel, by decide +kernel⟩
abbrev s_l_names : Stmt := topS 37
abbrev N_l_names : List Str := ["_law_bag_here", "_law_many", "_law_stem", "_law_k", "_law_spot", "_law_base", "_law_step", "_law_more", "_law_found", "_law_sign", "_law_word"]
theorem sc_l_names : FnScope N_l_names ["_law_bag_here", "_law_many"] (defScope s_l_names) := ⟨rfl, rfl, rfl, by decide +kernel, rfl, by decide +kernel, by decide +kernel⟩
abbrev s_l_same : Stmt := topS 38
abbrev N_l_same : List Str := ["_law_found", "_law_due", "_law_a", "_law_b"]
theorem sc_l_same : FnScope N_l_same ["_law_found", "_law_due"] (defScope s_l_same) := ⟨rfl, rfl, rfl, by decide +kernel, rfl, by decide +kernel, by decide +kernel⟩
abbrev s_l_field : Stmt := topS 39
abbrev N_l_field : List Str := ["_law_e"]
theorem sc_l_field : FnScope N_l_field ["_law_e"] (defScope s_l_field) := ⟨rfl, rfl, rfl, by decide +kernel, rfl, by decide +kernel, by decide +kernel⟩
abbrev s_l_got : Stmt := topS 40
abbrev N_l_got : List Str := ["_law_ask", "_law_e"]
theorem sc_l_got : FnScope N_l_got ["_law_ask"] (defScope s_l_got) := ⟨rfl, rfl, rfl, by decide +kernel, rfl, by decide +kernel, by decide +kernel⟩
abbrev s_l_all : Stmt := topS 41
abbrev N_l_all : List Str := ["_law_asks", "_law_ask"]
theorem sc_l_all : FnScope N_l_all ["_law_asks"] (defScope s_l_all) := ⟨rfl, rfl, rfl, by decide +kernel, rfl, by decide +kernel, by decide +kernel⟩
abbrev s_l_bench : Stmt := topS 42
abbrev N_l_bench : List Str := ["_law_bag_here", "_law_names_here", "_law_starts", "_law_lines", "_law_known", "_law_name", "_law_some", "_law_part", "_law_used", "_law_line", "_law_factor", "_law_lost"]
theorem sc_l_bench : FnScope N_l_bench ["_law_bag_here"] (defScope s_l_bench) := ⟨rfl, rfl, rfl, by decide +kernel, rfl, by decide +kernel, by decide +kernel⟩
abbrev s_l_bench_table : Stmt := topS 43
abbrev N_l_bench_table : List Str := ["_law_bench_here", "_law_starts", "_law_lines", "_law_outs", "_law_rows", "_law_other", "_law_name", "_law_parts", "_law_row", "_law_factor", "_law_part", "_law_a", "_law_b"]
theorem sc_l_bench_table : FnScope N_l_bench_table ["_law_bench_here"] (defScope s_l_bench_table) := ⟨rfl, rfl, rfl, by decide +kernel, rfl, by decide +kernel, by decide +kernel⟩
abbrev s_law : Stmt := topS 44
abbrev N_law : List Str := ["_law_script", "_law_bag_here", "_law_turn", "_law_starts", "_law_lines", "_law_outs", "_law_bench_here", "_law_late", "_law_table", "_law_due", "_law_row", "_law_k", "_law_name", "_law_parts", "_law_got_here", "_law_again", "_law_rows", "_law_asks"]
theorem sc_law : FnScope N_law ["_law_script"] (defScope s_law) := ⟨rfl, rfl, rfl, by decide +kernel, rfl, by decide +kernel, by decide +kernel⟩
abbrev s_InvalidThing_init : Stmt := inClass (topS 3) 0
abbrev s_InvalidHead_init : Stmt := inClass (topS 4) 0
abbrev s_InvalidLine_init : Stmt := inClass (topS 5) 0
abbrev s_Unused_init : Stmt := inClass (topS 6) 0
abbrev s_WrongCount_init : Stmt := inClass (topS 7) 0
abbrev s_TooMany_init : Stmt := inClass (topS 8) 0
abbrev s_NothingLeft_init : Stmt := inClass (topS 9) 0
abbrev s_Sums_init : Stmt := inClass (topS 30) 0
abbrev s_Sums_inputs : Stmt := inClass (topS 30) 1
abbrev s_Sums_lines : Stmt := inClass (topS 30) 2
abbrev s_Sums_outputs : Stmt := inClass (topS 30) 3
abbrev s_Sums_adds : Stmt := inClass (topS 30) 4
abbrev s_Sums_table : Stmt := inClass (topS 30) 5
abbrev s_Sums_values : Stmt := inClass (topS 30) 6
abbrev s_Sums_turned : Stmt := inClass (topS 30) 7
abbrev s_Sums_eq : Stmt := inClass (topS 30) 8
abbrev s_Sums_repr : Stmt := inClass (topS 30) 9
abbrev N_Sums_init : List Str := ["self", "inputs", "lines", "outputs", "wrong", "names", "line", "used", "part", "name", "parts"]
theorem sc_Sums_init : FnScope N_Sums_init ["self", "inputs", "lines", "outputs"] (defScope s_Sums_init) := ⟨rfl, rfl, rfl, by decide +kernel, rfl, by decide +kernel, by decide +kernel⟩
abbrev N_Sums_inputs : List Str := ["self"]
theorem sc_Sums_inputs : FnScope N_Sums_inputs ["self"] (defScope s_Sums_inputs) := ⟨rfl, rfl, rfl, by decide +kernel, rfl, by decide +kernel, by decide +kernel⟩
abbrev N_Sums_lines : List Str := ["self"]
theorem sc_Sums_lines : FnScope N_Sums_lines ["self"] (defScope s_Sums_lines) := ⟨rfl, rfl, rfl, by decide +kernel, rfl, by decide +kernel, by decide +kernel⟩
abbrev N_Sums_outputs : List Str := ["self"]
theorem sc_Sums_outputs : FnScope N_Sums_outputs ["self"] (defScope s_Sums_outputs) := ⟨rfl, rfl, rfl, by decide +kernel, rfl, by decide +kernel, by decide +kernel⟩
abbrev N_Sums_adds : List Str := ["self", "_", "parts"]
theorem sc_Sums_adds : FnScope N_Sums_adds ["self"] (defScope s_Sums_adds) := ⟨rfl, rfl, rfl, by decide +kernel, rfl, by decide +kernel, by decide +kernel⟩
abbrev N_Sums_table : List Str := ["self", "places", "rows", "at", "place", "name", "parts", "factor", "other"]
theorem sc_Sums_table : FnScope N_Sums_table ["self"] (defScope s_Sums_table) := ⟨rfl, rfl, rfl, by decide +kernel, rfl, by decide +kernel, by decide +kernel⟩
abbrev N_Sums_values : List Str := ["self", "ring", "things", "thing", "found", "name", "parts", "total", "factor", "other"]
theorem sc_Sums_values : FnScope N_Sums_values ["self", "ring", "things"] (defScope s_Sums_values) := ⟨rfl, rfl, rfl, by decide +kernel, rfl, by decide +kernel, by decide +kernel⟩
abbrev N_Sums_turned : List Str := ["self", "names", "name", "_", "inputs", "users", "output", "parts", "factor", "other"]
theorem sc_Sums_turned : FnScope N_Sums_turned ["self"] (defScope s_Sums_turned) := ⟨rfl, rfl, rfl, by decide +kernel, rfl, by decide +kernel, by decide +kernel⟩
abbrev N_Sums_eq : List Str := ["self", "other"]
theorem sc_Sums_eq : FnScope N_Sums_eq ["self", "other"] (defScope s_Sums_eq) := ⟨rfl, rfl, rfl, by decide +kernel, rfl, by decide +kernel, by decide +kernel⟩
abbrev N_Sums_repr : List Str := ["self"]
theorem sc_Sums_repr : FnScope N_Sums_repr ["self"] (defScope s_Sums_repr) := ⟨rfl, rfl, rfl, by decide +kernel, rfl, by decide +kernel, by decide +kernel⟩
structure Blt (mg : Str → Option Value) : Prop where
  IndexError : mg "IndexError" = none
  LookupError : mg "LookupError" = none
  ValueError : mg "ValueError" = none
  abs : mg "abs" = none
  all : mg "all" = none
  bool : mg "bool" = none
  dict : mg "dict" = none
  enumerate : mg "enumerate" = none
  int : mg "int" = none
  isinstance : mg "isinstance" = none
  len : mg "len" = none
  list : mg "list" = none
  min : mg "min" = none
  range : mg "range" = none
  reversed : mg "reversed" = none
  set : mg "set" = none
  str : mg "str" = none
  sum : mg "sum" = none
  tuple : mg "tuple" = none
  zip : mg "zip" = none
theorem bb_IndexError : bootBuiltins "IndexError" = some (.type "IndexError") := by decide +kernel
theorem bb_LookupError : bootBuiltins "LookupError" = some (.type "LookupError") := by decide +kernel
theorem bb_ValueError : bootBuiltins "ValueError" = some (.type "ValueError") := by decide +kernel
theorem bb_abs : bootBuiltins "abs" = some (.builtin "abs") := by decide +kernel
theorem bb_all : bootBuiltins "all" = some (.builtin "all") := by decide +kernel
theorem bb_bool : bootBuiltins "bool" = some (.type "bool") := by decide +kernel
theorem bb_dict : bootBuiltins "dict" = some (.type "dict") := by decide +kernel
theorem bb_enumerate : bootBuiltins "enumerate" = some (.type "enumerate") := by decide +kernel
theorem bb_int : bootBuiltins "int" = some (.type "int") := by decide +kernel
theorem bb_isinstance : bootBuiltins "isinstance" = some (.builtin "isinstance") := by decide +kernel
theorem bb_len : bootBuiltins "len" = some (.builtin "len") := by decide +kernel
theorem bb_list : bootBuiltins "list" = some (.type "list") := by decide +kernel
theorem bb_min : bootBuiltins "min" = some (.builtin "min") := by decide +kernel
theorem bb_range : bootBuiltins "range" = some (.type "range") := by decide +kernel
theorem bb_reversed : bootBuiltins "reversed" = some (.type "reversed") := by decide +kernel
theorem bb_set : bootBuiltins "set" = some (.type "set") := by decide +kernel
theorem bb_str : bootBuiltins "str" = some (.type "str") := by decide +kernel
theorem bb_sum : bootBuiltins "sum" = some (.builtin "sum") := by decide +kernel
theorem bb_tuple : bootBuiltins "tuple" = some (.type "tuple") := by decide +kernel
theorem bb_zip : bootBuiltins "zip" = some (.type "zip") := by decide +kernel
/-! ### an own def by its name -/
structure Has (P : Program) (w : World) (K : PySem.W.Frag) (mg : Str → Option Value) (base : Heap) (k : Nat) (x : Str) (ps : List Str) (sp : Sp) : Prop where
  ex : ∃ (f : Addr) (fd : FuncData), FnOk P w K mg base CX0 k f fd ps sp ∧ mg x = some (.ref f) ∧ PySem.W.keepIn K (.ref f) = true ∧ Binds K fd ps []
structure Fn (K : PySem.W.Frag) (mg : Str → Option Value) (x : Str) (st : Stmt) (ps : List Str) : Prop where
  ex : ∃ (f : Addr) (fd : FuncData), Fun K x x st f fd ∧ mg x = some (.ref f) ∧ Binds K fd ps []
section
variable {X : Cx} {k : Nat} {x : Str} {ps : List Str} {sp : Sp} {p pos : Pos} {e : Expr} {es : List Expr} {t : TA}
theorem pe_own (h : Has X.prog X.w X.K X.mg X.base k x ps sp) (hr : Room k X.A) (hg : Gl X x) (ha : PA X (e :: es) t) (hdb : (x == ("__debug__" : Str)) = false := by decide)
    (he : starEach (e :: es) X.env = (false, eval e X.env) :: starEach es X.env := by rfl) (hpl : (backTo pos (starEach es X.env)).any (·.1) = false := by rfl) : PE X (.Call (.Name x p) (e :: es) [] pos) (tCall sp [] E0 t) := by
  obtain ⟨f, fd, F, m, kp, b⟩ := h.ex
  exact pe_call F hr hg m kp b .nil pass0 ha hdb he hpl
theorem pe_own0 (h : Has X.prog X.w X.K X.mg X.base k x ps sp) (hr : Room k X.A) (hg : Gl X x) (hdb : (x == ("__debug__" : Str)) = false := by decide) : PE X (.Call (.Name x p) [] [] pos) (tCall sp [] E0 tNil) := by
  obtain ⟨f, fd, F, m, kp, b⟩ := h.ex
  exact pe_call0 F hr hg m kp b .nil pass0 hdb
theorem pe_gstr {z : Str} (h : ∃ u, X.mg x = some (.str z u)) (hg : Gl X x) (hdb : (x == ("__debug__" : Str)) = false := by decide) : PE X (.Name x pos) (tC (.str z)) := by
  obtain ⟨u, h⟩ := h
  exact pe_glob hg h ⟨_, rfl⟩ hdb
theorem pe_gint {z : Int} (h : ∃ u, X.mg x = some (.int z u)) (hg : Gl X x) (hdb : (x == ("__debug__" : Str)) = false := by decide) : PE X (.Name x pos) (tC (.int z)) := by
  obtain ⟨u, h⟩ := h
  exact pe_glob hg h ⟨_, rfl⟩ hdb
theorem pe_gref {a : Addr} (h : X.mg x = some (.ref a)) (hg : Gl X x) (hdb : (x == ("__debug__" : Str)) = false := by decide) : PE X (.Name x pos) (tC (.ref a)) := pe_glob hg h rfl hdb
end
section
variable {P : Program} {w : World} {K : PySem.W.Frag} {mg : Str → Option Value} {base : Heap}
theorem Fn.has {x : Str} {st : Stmt} {N ps : List Str} {k : Nat} {sp : Sp} (F : Fn K mg x st ps) (S : FnScope N ps (defScope st)) (len : ∀ vs H Q E, sp vs H Q E → vs.length = ps.length)
    (hbody : ∀ (f : Addr) (cdv : Value) (A : Around) (outer : List Env) (s : Shared) (H : Hp) (vs : List V) (Q : VK) (E : XK), Room k (A.deeper (envOfC x (defScope st) s.heap.objs.size f cdv)) → sp vs H Q E →
      ∃ t, PSs (cxOf CX0 P w K mg base N x (defScope st) f cdv A outer s H E).nox (defBody st) t ∧ t { nx := fun _ H' => Q .non H', rt := Q } (start N vs) H) : Has P w K mg base (k + 1) x ps sp := by
  obtain ⟨f, fd, F, m, b⟩ := F.ex
  exact ⟨f, fd, F.ok S len (hbody f), m, F.kp, b⟩
end
/-! ### heaps -/
theorem same_upd {H : Hp} {p : Addr} {o : HO} (h : H p = none) : Same H (upd H p o) := fun b x e => by
  rw [upd_ne (ne_of_none e h)]
  exact e
/-- all that was tracked is as it was, but for b -/
def Kp (b : Addr) (H H' : Hp) : Prop := ∀ a o, a ≠ b → H a = some o → H' a = some o
theorem Kp.refl (b : Addr) (H : Hp) : Kp b H H := fun _ _ _ h => h
theorem Kp.trans {b : Addr} {H H1 H2 : Hp} (x : Kp b H H1) (y : Kp b H1 H2) : Kp b H H2 := fun a o n h => y a o n (x a o n h)
theorem Kp.of {b : Addr} {H H' : Hp} (s : Same H H') : Kp b H H' := fun a o _ h => s a o h
theorem Kp.upd {b : Addr} {H : Hp} {o : HO} : Kp b H (upd H b o) := fun a u n h => by rw [upd_ne n]; exact h
/-! ### the bag -/
structure BgAt (H : Hp) (b c : Addr) (ns : List Int) (i r m : Int) : Prop where
  hb : H b = some (.lst [.ref c, .int i, .int r, .int m])
  hc : H c = some (.lst (ns.map V.int))
  len : ns.length ≤ 63
  i0 : 0 ≤ i
  r0 : 0 ≤ r
  m0 : 0 ≤ m
  m1 : m < 2147483648
def Bg (H : Hp) (b c : Addr) : Prop := ∃ ns i r m, BgAt H b c ns i r m
theorem bg_ne {H : Hp} {b c : Addr} {x : V} {r : List V} {ns : List Int} {a : Addr} (hb : H b = some (.lst (.ref a :: r))) (hc : H c = some (.lst (ns.map V.int))) : c ≠ b := by
  refine ne_of hc hb fun e => ?_
  cases ns with
  | nil => cases e
  | cons n t => cases e
theorem BgAt.ne {H : Hp} {b c : Addr} {ns : List Int} {i r m : Int} (h : BgAt H b c ns i r m) : c ≠ b := bg_ne (x := .non) h.hb h.hc
theorem BgAt.put {H : Hp} {b c : Addr} {ns : List Int} {i r m i' r' m' : Int} (h : BgAt H b c ns i r m) (i0 : 0 ≤ i') (r0 : 0 ≤ r') (m0 : 0 ≤ m') (m1 : m' < 2147483648) :
    BgAt (upd H b (.lst [.ref c, .int i', .int r', .int m'])) b c ns i' r' m' := ⟨upd_same, by rw [upd_ne h.ne]; exact h.hc, h.len, i0, r0, m0, m1⟩
theorem Bg.same {H H' : Hp} {b c : Addr} (h : Bg H b c) (s : Same H H') : Bg H' b c := by
  obtain ⟨ns, i, r, m, h⟩ := h
  exact ⟨ns, i, r, m, s _ _ h.hb, s _ _ h.hc, h.len, h.i0, h.r0, h.m0, h.m1⟩
theorem Bg.kp {H H' : Hp} {b c d : Addr} (h : Bg H b c) (hd : d ≠ b) (hc : d ≠ c) (s : Kp d H H') : Bg H' b c := by
  obtain ⟨ns, i, r, m, h⟩ := h
  exact ⟨ns, i, r, m, s _ _ hd.symm h.hb, s _ _ hc.symm h.hc, h.len, h.i0, h.r0, h.m0, h.m1⟩
theorem cut63 {xs : List V} (h : xs.length ≤ 63) : cutV xs none (some 63) = xs := by
  unfold cutV
  rw [HT.sIx_none, show HT.sIx xs.length xs.length (some 63) = min 63 xs.length from HT.sIx_nat xs.length xs.length 63, List.drop_zero, Nat.sub_zero]
  exact List.take_of_length_le (by omega)
theorem at_ofG {α : Type} {xs : List α} {z : Int} {j : Nat} {v : α} (e : z = (j : Int)) (h : xs[j]? = some v) : atI xs z = some v := by
  rw [e]
  exact atI_nat h
def spBag (K : PySem.W.Frag) : Sp := fun vs H Q _ => ∃ (a : Addr) (ns : List Int), vs = [.ref a] ∧ SqL K H a (ns.map V.int) ∧ ns.length ≤ 63 ∧ ∀ (b c : Addr) (H' : Hp), Same H H' → H b = none → Bg H' b c → Q (.ref b) H'
def spDraw : Sp := fun vs H Q _ => ∃ (b c : Addr) (many : Int), vs = [.ref b, .int many] ∧ Bg H b c ∧ 1 ≤ many ∧ many < 2 ^ 200 ∧ ∀ (v : Int) (H' : Hp), 0 ≤ v → v < many → Kp b H H' → Bg H' b c → Q (.int v) H'
section
variable {P : Program} {w : World} {K : PySem.W.Frag} {mg : Str → Option Value} {base : Heap}
theorem ok_bag (F : Fn K mg "_law_bag" s_l_bag ["_law_script"]) (B : Blt mg) : Has P w K mg base 1 "_law_bag" ["_law_script"] (spBag K) := by
  refine F.has sc_l_bag (fun vs H Q E h => ?_) (fun f cdv A outer s H vs Q E hr h => ?_)
  · obtain ⟨a, ns, rfl, _⟩ := h
    rfl
  obtain ⟨a, ns, rfl, hS, hl, q⟩ := h
  refine ⟨_, (pss_cons (ps_set (i := 1) sc_l_bag.nd rfl (Or.inl rfl) (pe_callTy call_list_of (by rfl) B.list bb_list (pa_cons (pe_slice sl_list (pv 0) po_none (po_some pe_int)) pa_nil)))
      (pss_one (ps_ret (pe_lst (pa_cons (pv 1) (pa_cons pe_int (pa_cons pe_int (pa_cons (pe_op op_add pe_int (pe_op op_mul pe_int (pe_callB call_len (by rfl) B.len bb_len (pa_cons (pv 1) pa_nil)))) pa_nil)))))))), ?_⟩
  have hl' : (ns.map V.int).length ≤ 63 := by rw [List.length_map]; exact hl
  refine ⟨_, rfl, 63, rfl, a, _, rfl, hS, fun p hp => ?_⟩
  rw [cut63 hl']
  refine ⟨p, _, rfl, .inl (SqL.of upd_same), fun c hc => ?_⟩
  have sm : Same H (upd (upd H p (.lst (ns.map V.int))) c (.lst (ns.map V.int))) := (same_upd hp).trans (same_upd hc)
  refine ⟨_, rfl, _, rfl, .ref c, _, rfl, .inl ⟨_, SqL.of upd_same, rfl⟩, _, _, rfl, rfl, .inl ⟨by decide, by decide⟩, _, _, rfl, rfl, (by show 4 ≤ sizeLine; decide), fun b hb => ?_⟩
  refine q b c _ (sm.trans (same_upd hb)) (sm.free hb) ⟨ns, 0, 0, _, upd_same, ?_, hl, Int.le_refl _, Int.le_refl _, ?_, ?_⟩
  · rw [upd_ne (ne_of_none upd_same hb)]
    exact upd_same
  · omega
  · rw [List.length_map]
    omega
theorem div200 {y z : Int} (h : 1 ≤ z) (h2 : z < 2 ^ 200) : CDivW y z := by
  refine wide_div (b := 200) (by omega) ?_ (by decide) (by decide)
  omega
theorem ok_draw (F : Fn K mg "_law_draw" s_l_draw ["_law_bag_here", "_law_many"]) (B : Blt mg) : Has P w K mg base 1 "_law_draw" ["_law_bag_here", "_law_many"] spDraw := by
  refine F.has sc_l_draw (fun vs H Q E h => ?_) (fun f cdv A outer s H vs Q E hr h => ?_)
  · obtain ⟨a, c, ns, rfl, _⟩ := h
    rfl
  obtain ⟨b, c, many, rfl, hB, h1, h2, q⟩ := h
  refine ⟨_, (C8.pss_cut (ps_if (PW.pt (pw_and (pt_cmpR op_eq (pe_ix ix_list (pv 0) pe_int (fun _ _ => rfl)) pe_int (nomark _)) (pw_and1 (pt_cmpR op_lt (pe_ix ix_list (pv 0) pe_int (fun _ _ => rfl)) (pe_callB call_len (by rfl) B.len bb_len (pa_cons (pe_ix ix_list (pv 0) pe_int (fun _ _ => rfl)) pa_nil)) (nomark _)))))
        (pss_cons (ps_set (i := 2) sc_l_draw.nd rfl (Or.inl rfl) (pe_ix ix_list (pe_ix ix_list (pv 0) pe_int (fun _ _ => rfl)) (pe_ix ix_list (pv 0) pe_int (fun _ _ => rfl)) (fun _ _ => rfl)))
      (pss_cons (ps_asg (pe_op op_add (pe_ix ix_list (pv 0) pe_int (fun _ _ => rfl)) pe_int) (pg_sub (pv 0) pe_int set_list))
      (pss_one (ps_if (pt_cmpR op_ge (pe_callB call_abs (by rfl) B.abs bb_abs (pa_cons (pv 2) pa_nil)) (pe_op op_pow pe_int pe_int) (nomark _))
        (pss_one (ps_asg (pe_callB call_abs (by rfl) B.abs bb_abs (pa_cons (pv 2) pa_nil)) (pg_sub (pv 0) pe_int set_list)))
        (pss_one (ps_asg (pe_op op_mod (pe_callTy call_int1 (by rfl) B.int bb_int (pa_cons (pe_op op_add (pe_op op_add (pe_op op_mul (pe_ix ix_list (pv 0) pe_int (fun _ _ => rfl)) pe_int) (pe_op op_mul (pe_op op_mod (pe_callTy call_int1 (by rfl) B.int bb_int (pa_cons (pv 2) pa_nil)) pe_int) pe_int)) pe_int) pa_nil)) pe_int) (pg_sub (pv 0) pe_int set_list)))))))
        pss_nil)
      (pss_cons (ps_if (pt_cmpR op_gt (pe_ix ix_list (pv 0) pe_int (fun _ _ => rfl)) pe_int (nomark _))
        (pss_cons (ps_set (i := 3) sc_l_draw.nd rfl (Or.inl rfl) (pe_op op_mod (pe_callTy call_int1 (by rfl) B.int bb_int (pa_cons (pe_ix ix_list (pv 0) pe_int (fun _ _ => rfl)) pa_nil)) (pv 1)))
      (pss_cons (ps_asg (pe_op op_fdivW (pe_ix ix_list (pv 0) pe_int (fun _ _ => rfl)) (pv 1)) (pg_sub (pv 0) pe_int set_list))
      (pss_one (ps_ret (pv 3)))))
        pss_nil)
      (pss_cons (ps_asg (pe_op op_mod (pe_callTy call_int1 (by rfl) B.int bb_int (pa_cons (pe_op op_add (pe_op op_add (pe_op op_mul (pe_op op_mul (pe_ix ix_list (pv 0) pe_int (fun _ _ => rfl)) (pe_ix ix_list (pv 0) pe_int (fun _ _ => rfl))) pe_int) (pe_op op_mul (pe_ix ix_list (pv 0) pe_int (fun _ _ => rfl)) pe_int)) pe_int) pa_nil)) pe_int) (pg_sub (pv 0) pe_int set_list))
      (pss_one (ps_ret (pe_op op_mod (pe_callTy call_int1 (by rfl) B.int bb_int (pa_cons (pe_op op_fdiv (pe_ix ix_list (pv 0) pe_int (fun _ _ => rfl)) pe_int) pa_nil)) (pv 1))))))), ?_⟩
  refine ⟨fun σ' H' => ∃ y, σ' = [some (.ref b), some (.int many), y, none] ∧ Kp b H H' ∧ Bg H' b c, ?_, ?_⟩
  · obtain ⟨ns, i, r, m, g⟩ := hB
    refine ⟨_, rfl, b, _, 2, _, rfl, rfl, SqL.of g.hb, atI_nat (j := 2) rfl, rfl, _, rfl, ite2 (fun e => ?_) (fun e => ?_)⟩
    · refine ⟨_, rfl, b, _, 1, _, rfl, rfl, SqL.of g.hb, atI_nat (j := 1) rfl, _, rfl, b, _, 0, _, rfl, rfl, SqL.of g.hb, atI_nat (j := 0) rfl, .ref c, _, rfl, .inl ⟨_, SqL.of g.hc, rfl⟩, _, _, rfl, rfl, _, rfl, ite2 (fun e2 => ?_) (fun e2 => ?_)⟩
      · have hi : i < ((ns.map V.int).length : Int) := of_decide_eq_true e2
        rw [List.length_map] at hi
        have i0 := g.i0
        obtain ⟨x, hx⟩ : ∃ x : Int, atI (ns.map V.int) i = some (.int x) := by
          have hk : i.toNat < ns.length := by omega
          have ek : i = ((i.toNat : Nat) : Int) := by omega
          exact ⟨ns[i.toNat], at_of ek (by rw [List.getElem?_map]; simp [hk])⟩
        refine ⟨_, rfl, b, _, 0, _, rfl, rfl, SqL.of g.hb, atI_nat (j := 0) rfl, _, rfl, b, _, 1, _, rfl, rfl, SqL.of g.hb, atI_nat (j := 1) rfl, c, _, i, .int x, rfl, rfl, SqL.of g.hc, hx, ?_⟩
        refine ⟨_, rfl, b, _, 1, _, rfl, rfl, SqL.of g.hb, atI_nat (j := 1) rfl, _, _, rfl, rfl, _, rfl, b, _, 1, 1, rfl, rfl, g.hb, rfl, ?_⟩
        have g1 := g.put (i' := i + 1) (r' := r) (m' := m) (by omega) g.r0 g.m0 g.m1
        refine ⟨_, rfl, x, rfl, _, _, rfl, rfl, ⟨by decide, by decide, by decide⟩, _, _, rfl, rfl, _, rfl, ite2 (fun e3 => ?_) (fun e3 => ?_)⟩
        · refine ⟨_, rfl, x, rfl, _, rfl, b, _, 2, 2, rfl, rfl, g1.hb, rfl, ?_⟩
          refine ⟨_, rfl, Kp.upd.trans Kp.upd, ns, i + 1, _, m, g1.put g1.i0 ?_ g1.m0 g1.m1⟩
          split <;> omega
        · refine ⟨_, rfl, b, _, 3, _, rfl, rfl, SqL.of g1.hb, atI_nat (j := 3) rfl, _, _, rfl, rfl, .inr ⟨by decide, by decide⟩, _, rfl, .inl ⟨_, rfl, _, _, rfl, rfl, (show (0 : Int) < 1000171 by decide), _, _, rfl, rfl, .inr ⟨by decide, by decide⟩, _, _, rfl, rfl, _, _, rfl, rfl, .inl ⟨_, rfl, _, _, rfl, rfl, (show (0 : Int) < 2147483563 by decide), _, rfl, b, _, 3, 3, rfl, rfl, g1.hb, rfl, ?_⟩⟩⟩
          refine ⟨_, rfl, Kp.upd.trans Kp.upd, ns, i + 1, r, _, g1.put g1.i0 g1.r0 (Int.emod_nonneg _ (by decide)) ?_⟩
          have z := Int.emod_lt_of_pos (m * 41177 + x % 1000171 * 907 + 59) (show (0 : Int) < 2147483563 by decide)
          omega
      · exact ⟨_, rfl, Kp.refl _ _, ns, i, r, m, g⟩
    · exact ⟨_, rfl, Kp.refl _ _, ns, i, r, m, g⟩
  · rintro σ' H' ⟨y, rfl, kp, ns, i, r, m, g⟩
    refine ⟨_, rfl, b, _, 2, _, rfl, rfl, SqL.of g.hb, atI_nat (j := 2) rfl, _, _, rfl, rfl, _, rfl, ite2 (fun e => ?_) (fun e => ?_)⟩
    · have hm : 0 < many := by omega
      refine ⟨_, rfl, b, _, 2, _, rfl, rfl, SqL.of g.hb, atI_nat (j := 2) rfl, .inl ⟨_, rfl, _, rfl, _, _, rfl, rfl, hm, ?_⟩⟩
      refine ⟨_, rfl, b, _, 2, _, rfl, rfl, SqL.of g.hb, atI_nat (j := 2) rfl, _, rfl, _, _, rfl, rfl, div200 h1 h2, _, rfl, b, _, 2, 2, rfl, rfl, g.hb, rfl, ?_⟩
      have g1 := g.put (i' := i) (r' := r / many) (m' := m) g.i0 (Int.ediv_nonneg g.r0 (by omega)) g.m0 g.m1
      refine ⟨_, rfl, q _ _ (Int.emod_nonneg _ (by omega)) (Int.emod_lt_of_pos _ hm) (kp.trans Kp.upd) ⟨ns, i, _, m, g1⟩⟩
    · refine ⟨_, rfl, b, _, 3, _, rfl, rfl, SqL.of g.hb, atI_nat (j := 3) rfl, _, rfl, b, _, 3, _, rfl, rfl, SqL.of g.hb, atI_nat (j := 3) rfl, _, _, rfl, rfl, ?_, ?_⟩
      · have h3 := g.m0
        have h4 := g.m1
        exact .inl ⟨by omega, by omega⟩
      · refine ⟨_, _, rfl, rfl, .inr ⟨by decide, by decide⟩, _, rfl, b, _, 3, _, rfl, rfl, SqL.of g.hb, atI_nat (j := 3) rfl, _, _, rfl, rfl, .inr ⟨by decide, by decide⟩, _, _, rfl, rfl, _, _, rfl, rfl, .inl ⟨_, rfl, _, _, rfl, rfl, (show (0 : Int) < 2147483579 by decide), _, rfl, b, _, 3, 3, rfl, rfl, g.hb, rfl, ?_⟩⟩
        have z := Int.emod_lt_of_pos (m * m * 3 + m * 30089 + 1700047) (show (0 : Int) < 2147483579 by decide)
        have g1 := g.put (i' := i) (r' := r) (m' := (m * m * 3 + m * 30089 + 1700047) % 2147483579) g.i0 g.r0 (Int.emod_nonneg _ (by decide)) (by omega)
        have hm : 0 < many := by omega
        refine ⟨_, rfl, b, _, 3, _, rfl, rfl, SqL.of g1.hb, atI_nat (j := 3) rfl, _, _, rfl, rfl, ⟨by decide, by decide⟩, .inl ⟨_, rfl, _, rfl, _, _, rfl, rfl, hm, ?_⟩⟩
        exact q _ _ (Int.emod_nonneg _ (by omega)) (Int.emod_lt_of_pos _ hm) (kp.trans Kp.upd) ⟨ns, i, r, _, g1⟩
/-- an item of some list or sign of some text, by a draw -/
def spPick (K : PySem.W.Frag) : Sp := fun vs H Q _ => ∃ (b c : Addr) (x : V), vs = [.ref b, x] ∧ Bg H b c ∧
  ((∃ (a : Addr) (xs : List V), x = .ref a ∧ a ≠ b ∧ H a = some (.lst xs) ∧ xs ≠ [] ∧ xs.length ≤ 1000 ∧ ∀ (v : V) (H' : Hp), v ∈ xs → Kp b H H' → Bg H' b c → Q v H') ∨
   (∃ z : Str, x = .str z ∧ 0 < z.cps.size ∧ z.cps.size ≤ 1000 ∧ ∀ (d : Nat) (H' : Hp), d ∈ z.cps.toList → Kp b H H' → Bg H' b c → Q (.str ⟨#[d]⟩) H'))
theorem ok_pick (F : Fn K mg "_law_pick" s_l_pick ["_law_bag_here", "_law_some"]) (B : Blt mg) (G_l_draw : Has P w K mg base 1 "_law_draw" ["_law_bag_here", "_law_many"] spDraw) : Has P w K mg base 2 "_law_pick" ["_law_bag_here", "_law_some"] (spPick K) := by
  refine F.has sc_l_pick (fun vs H Q E h => ?_) (fun f cdv A outer s H vs Q E hr h => ?_)
  · obtain ⟨a, c, ns, rfl, _⟩ := h
    rfl
  obtain ⟨b, c, x, rfl, hB, h⟩ := h
  refine ⟨_, (pss_one (ps_ret (pe_ix ix_seq (pv 1) (pe_own G_l_draw (hr.mono (by decide)) (by rfl) (pa_cons (pv 0) (pa_cons (pe_callB call_len (by rfl) B.len bb_len (pa_cons (pv 1) pa_nil)) pa_nil))) (fun _ _ => rfl)))), ?_⟩
  rcases h with ⟨a, xs, rfl, hab, ha, hne, hlen, q⟩ | ⟨z, rfl, h0, hlen, q⟩
  · have hpos : 0 < xs.length := List.length_pos_iff.mpr hne
    refine ⟨_, rfl, _, rfl, _, rfl, .ref a, xs.length, rfl, .inl ⟨xs, SqL.of ha, rfl⟩, b, c, _, rfl, hB, by omega, by omega, fun v H' v0 v1 kp hB' => ?_⟩
    have hk : v.toNat < xs.length := by omega
    refine .inl ⟨a, xs, v, xs[v.toNat], rfl, rfl, SqL.of (kp _ _ hab ha), at_of (show v = ((v.toNat : Nat) : Int) by omega) (List.getElem?_eq_getElem hk), ?_⟩
    exact q _ _ (List.getElem_mem hk) kp hB'
  · refine ⟨_, rfl, _, rfl, _, rfl, .str z, z.length, rfl, ⟨by show z.cps.size ≤ sizeLine; exact Nat.le_of_lt (small1000 hlen), rfl⟩, b, c, _, rfl, hB, by show (1 : Int) ≤ (z.cps.size : Int); omega, by show (z.cps.size : Int) < 2 ^ 200; omega, fun v H' v0 v1 kp hB' => ?_⟩
    have hk : v.toNat < z.cps.toList.length := by
      have v1' : v < (z.cps.size : Int) := v1
      rw [Array.length_toList]
      omega
    refine .inr (.inr ⟨z, v, z.cps.toList[v.toNat], rfl, rfl, by show z.cps.size ≤ sizeLine; exact Nat.le_of_lt (small1000 hlen), at_ofG (show v = ((v.toNat : Nat) : Int) by omega) (List.getElem?_eq_getElem hk), ?_⟩)
    exact q _ _ (List.getElem_mem hk) kp hB'
end
/-! ### the same data -/
def leafV : V → Prop
  | .non => True
  | .bl _ => True
  | .int _ => True
  | .str _ => True
  | _ => False
/-- two values that stand for the same data, so deep at most -/
def Eqd (H : Hp) : Nat → V → V → Prop
  | 0 => fun _ _ => False
  | n + 1 => fun x y => (x = y ∧ leafV x) ∨
    (∃ (a b : Addr) (xs ys : List V), x = .ref a ∧ y = .ref b ∧ H a = some (.lst xs) ∧ H b = some (.lst ys) ∧ xs.length ≤ 1000 ∧ Paired (Eqd H n) xs ys) ∨
    (∃ (a b : Addr) (xs ys : List V), x = .ref a ∧ y = .ref b ∧ H a = some (.tup xs) ∧ H b = some (.tup ys) ∧ xs.length ≤ 1000 ∧ Paired (Eqd H n) xs ys)
theorem Eqd.leaf {H : Hp} {n : Nat} {x : V} (h : leafV x) : Eqd H (n + 1) x x := .inl ⟨rfl, h⟩
theorem Eqd.lst {H : Hp} {n : Nat} {a b : Addr} {xs ys : List V} (ha : H a = some (.lst xs)) (hb : H b = some (.lst ys)) (hl : xs.length ≤ 1000) (h : Paired (Eqd H n) xs ys) : Eqd H (n + 1) (.ref a) (.ref b) := .inr (.inl ⟨a, b, xs, ys, rfl, rfl, ha, hb, hl, h⟩)
theorem Eqd.tup {H : Hp} {n : Nat} {a b : Addr} {xs ys : List V} (ha : H a = some (.tup xs)) (hb : H b = some (.tup ys)) (hl : xs.length ≤ 1000) (h : Paired (Eqd H n) xs ys) : Eqd H (n + 1) (.ref a) (.ref b) := .inr (.inr ⟨a, b, xs, ys, rfl, rfl, ha, hb, hl, h⟩)
theorem Eqd.mono {H H' : Hp} (s : Same H H') : ∀ {n : Nat} {x y : V}, Eqd H n x y → Eqd H' n x y
  | 0, _, _, h => h
  | n + 1, x, y, h => by
    rcases h with h | ⟨a, b, xs, ys, h1, h2, h3, h4, h5, h6⟩ | ⟨a, b, xs, ys, h1, h2, h3, h4, h5, h6⟩
    · exact .inl h
    · exact .inr (.inl ⟨a, b, xs, ys, h1, h2, s _ _ h3, s _ _ h4, h5, Paired.mapP h6 fun _ _ z => Eqd.mono s z⟩)
    · exact .inr (.inr ⟨a, b, xs, ys, h1, h2, s _ _ h3, s _ _ h4, h5, Paired.mapP h6 fun _ _ z => Eqd.mono s z⟩)
theorem Eqd.up {H : Hp} : ∀ {n : Nat} {x y : V}, Eqd H n x y → Eqd H (n + 1) x y
  | 0, _, _, h => h.elim
  | n + 1, x, y, h => by
    rcases h with h | ⟨a, b, xs, ys, h1, h2, h3, h4, h5, h6⟩ | ⟨a, b, xs, ys, h1, h2, h3, h4, h5, h6⟩
    · exact .inl h
    · exact .inr (.inl ⟨a, b, xs, ys, h1, h2, h3, h4, h5, Paired.mapP h6 fun _ _ z => Eqd.up z⟩)
    · exact .inr (.inr ⟨a, b, xs, ys, h1, h2, h3, h4, h5, Paired.mapP h6 fun _ _ z => Eqd.up z⟩)
theorem paired_get {F : V → V → Prop} : ∀ {xs ys : List V} {i : Nat} {x y : V}, Paired F xs ys → xs[i]? = some x → ys[i]? = some y → F x y
  | _, _, i, x, y, .nil, hx, _ => by simp at hx
  | _, _, 0, x, y, .cons r _, hx, hy => by
    cases hx
    cases hy
    exact r
  | _, _, i + 1, x, y, .cons _ t, hx, hy => paired_get t (i := i) (by simpa using hx) (by simpa using hy)
theorem paired_len {F : V → V → Prop} : ∀ {xs ys : List V}, Paired F xs ys → xs.length = ys.length
  | _, _, .nil => rfl
  | _, _, .cons _ t => congrArg (· + 1) (paired_len t)
theorem paired_refl {F : V → V → Prop} : ∀ {xs : List V}, (∀ x ∈ xs, F x x) → Paired F xs xs
  | [], _ => .nil
  | x :: r, h => .cons (h x List.mem_cons_self) (paired_refl fun y hy => h y (List.mem_cons_of_mem _ hy))
/-- isinstance(x, T), T a built-in class -/
theorem is_b {K : PySem.W.Frag} {H : Hp} {x : V} {t T : String} {b : Bool} {Q : VK} (ty : TyX K H x (.type t)) (k : kitB t T = some b) (h : Q (.bl b) H) : rIsi K [x, .ty T] H Q :=
  ⟨x, .ty T, .type t, .type T, b, rfl, .ty _, ty, kit_ty k, h⟩
theorem ite_of {c : Prop} [Decidable c] {A B : Prop} (hc : c) (h : A) : if c then A else B := by
  rw [if_pos hc]
  exact h
theorem ite_no {c : Prop} [Decidable c] {A B : Prop} (hc : ¬ c) (h : B) : if c then A else B := by
  rw [if_neg hc]
  exact h
theorem tYes_ok {σ : L2.St} {H : Hp} {A B : Hp → Prop} (h : A H) : tYes σ H (fun b H3 => if b = true then A H3 else B H3) := by
  show (if true = true then A H else B H)
  rw [if_pos rfl]
  exact h
theorem walk_zipT {K : PySem.W.Frag} {a b : Addr} {xs ys : List V} {n : Nat} (hn : n = min xs.length ys.length) : Walk (RZ.ItzT K a b) n (fun H => SqT K H a xs ∧ SqT K H b ys) (YPair (fun i => xs[i]?) (fun i => ys[i]?)) := by
  subst hn
  refine ⟨fun i _ hi q => ?_, fun _ q => ⟨xs, ys, q.1, q.2, by omega⟩, fun i H v H' _ q y => ?_⟩
  · have h1 : i < xs.length := by omega
    have h2 : i < ys.length := by omega
    exact ⟨xs, ys, xs[i], ys[i], q.1, q.2, by simp [h1], by simp [h2]⟩
  · obtain ⟨T, x, z, h1, h2, h3, h4, h5⟩ := y
    exact ⟨T, x, z, h1, h2, h3, h4 xs q.1, h5 ys q.2⟩
def spSame (n : Nat) : Sp := fun vs H Q _ => ∃ x y : V, vs = [x, y] ∧ Eqd H n x y ∧ ∀ H', Same H H' → Q (.bl true) H'
section
variable {P : Program} {w : World} {K : PySem.W.Frag} {mg : Str → Option Value} {base : Heap}
theorem ok_same {n : Nat} (F : Fn K mg "_law_same" s_l_same ["_law_found", "_law_due"]) (B : Blt mg) (G_l_same : Has P w K mg base n "_law_same" ["_law_found", "_law_due"] (spSame n)) :
    Has P w K mg base (n + 1) "_law_same" ["_law_found", "_law_due"] (spSame (n + 1)) := by
  refine F.has sc_l_same (fun vs H Q E h => ?_) (fun f cdv A outer s H vs Q E hr h => ?_)
  · obtain ⟨a, ns, rfl, _⟩ := h
    rfl
  obtain ⟨x, y, rfl, h, q⟩ := h
  refine ⟨_, (pss_cons (ps_if (pt_val (pe_callB call_isi (by rfl) B.isinstance bb_isinstance (pa_cons (pv 1) (pa_cons (pe_bltn (v := .ty "list") (by rfl) B.list bb_list rfl) pa_nil))))
        (pss_one (ps_ret (pe_and (pe_callB call_isi (by rfl) B.isinstance bb_isinstance (pa_cons (pv 0) (pa_cons (pe_bltn (v := .ty "list") (by rfl) B.list bb_list rfl) pa_nil))) (pe_and (pe_cmpR op_eq (pe_callB call_len (by rfl) B.len bb_len (pa_cons (pv 0) pa_nil)) (pe_callB call_len (by rfl) B.len bb_len (pa_cons (pv 1) pa_nil)) (nomark _)) (pe_one (pe_callB (cr_all rfl) (by rfl) B.all bb_all (pa_cons (pe_lc (own := [("_law_a", 2), ("_law_b", 3)]) (g := gTup K 2 (gCons (gName 2) (gCons (gName 3) gNil))) (tt := tYes) (by rfl) sc_l_same.nd (RZ.pi_zipA (by rfl) B.zip (pa_cons (pv 0) (pa_cons (pv 1) pa_nil))) (blkOk_by (own := [("_law_a", 2), ("_law_b", 3)]) (N := N_l_same) (sc := defScope s_l_same) (by decide +kernel)) (fun _ _ _ _ _ => (pg_tup rfl (pgs_cons (pg_name (i := 2) sc_l_same.nd rfl (Or.inl rfl)) (pgs_cons (pg_name (i := 3) sc_l_same.nd rfl (Or.inl rfl)) pgs_nil)))) (fun _ _ _ _ _ => pts_nil) (fun _ _ _ _ _ => (pe_own G_l_same hr (by rfl) (pa_cons (pv 2) (pa_cons (pv 3) pa_nil))))) pa_nil)))))))
        pss_nil)
      (pss_cons (ps_if (pt_val (pe_callB call_isi (by rfl) B.isinstance bb_isinstance (pa_cons (pv 1) (pa_cons (pe_bltn (v := .ty "tuple") (by rfl) B.tuple bb_tuple rfl) pa_nil))))
        (pss_one (ps_ret (pe_and (pe_callB call_isi (by rfl) B.isinstance bb_isinstance (pa_cons (pv 0) (pa_cons (pe_bltn (v := .ty "tuple") (by rfl) B.tuple bb_tuple rfl) pa_nil))) (pe_and (pe_cmpR op_eq (pe_callB call_len (by rfl) B.len bb_len (pa_cons (pv 0) pa_nil)) (pe_callB call_len (by rfl) B.len bb_len (pa_cons (pv 1) pa_nil)) (nomark _)) (pe_one (pe_callB (cr_all rfl) (by rfl) B.all bb_all (pa_cons (pe_lc (own := [("_law_a", 2), ("_law_b", 3)]) (g := gTup K 2 (gCons (gName 2) (gCons (gName 3) gNil))) (tt := tYes) (by rfl) sc_l_same.nd (RZ.pi_zipA (by rfl) B.zip (pa_cons (pv 0) (pa_cons (pv 1) pa_nil))) (blkOk_by (own := [("_law_a", 2), ("_law_b", 3)]) (N := N_l_same) (sc := defScope s_l_same) (by decide +kernel)) (fun _ _ _ _ _ => (pg_tup rfl (pgs_cons (pg_name (i := 2) sc_l_same.nd rfl (Or.inl rfl)) (pgs_cons (pg_name (i := 3) sc_l_same.nd rfl (Or.inl rfl)) pgs_nil)))) (fun _ _ _ _ _ => pts_nil) (fun _ _ _ _ _ => (pe_own G_l_same hr (by rfl) (pa_cons (pv 2) (pa_cons (pv 3) pa_nil))))) pa_nil)))))))
        pss_nil)
      (pss_cons (ps_if (PW.pt (pw_or (pt_cmp (pc_isN (pv 1))) (pw_or1 (pt_cmp (pc_isN (pv 0))))))
        (pss_one (ps_ret (pe_and (pe_cmp (pc_isN (pv 1))) (pe_one (pe_cmp (pc_isN (pv 0)))))))
        pss_nil)
      (pss_cons (ps_if (PW.pt (pw_or (pt_val (pe_callB call_isi (by rfl) B.isinstance bb_isinstance (pa_cons (pv 1) (pa_cons (pe_bltn (v := .ty "bool") (by rfl) B.bool bb_bool rfl) pa_nil)))) (pw_or1 (pt_val (pe_callB call_isi (by rfl) B.isinstance bb_isinstance (pa_cons (pv 0) (pa_cons (pe_bltn (v := .ty "bool") (by rfl) B.bool bb_bool rfl) pa_nil)))))))
        (pss_one (ps_ret (pe_and (pe_callB call_isi (by rfl) B.isinstance bb_isinstance (pa_cons (pv 1) (pa_cons (pe_bltn (v := .ty "bool") (by rfl) B.bool bb_bool rfl) pa_nil))) (pe_and (pe_callB call_isi (by rfl) B.isinstance bb_isinstance (pa_cons (pv 0) (pa_cons (pe_bltn (v := .ty "bool") (by rfl) B.bool bb_bool rfl) pa_nil))) (pe_one (pe_cmpR op_eq (pv 0) (pv 1) (nomark _)))))))
        pss_nil)
      (pss_cons (ps_if (pt_val (pe_callB call_isi (by rfl) B.isinstance bb_isinstance (pa_cons (pv 1) (pa_cons (pe_bltn (v := .ty "int") (by rfl) B.int bb_int rfl) pa_nil))))
        (pss_one (ps_ret (pe_and (pe_callB call_isi (by rfl) B.isinstance bb_isinstance (pa_cons (pv 0) (pa_cons (pe_bltn (v := .ty "int") (by rfl) B.int bb_int rfl) pa_nil))) (pe_one (pe_cmpR op_eq (pv 0) (pv 1) (nomark _))))))
        pss_nil)
      (pss_one (ps_ret (pe_and (pe_callB call_isi (by rfl) B.isinstance bb_isinstance (pa_cons (pv 0) (pa_cons (pe_bltn (v := .ty "str") (by rfl) B.str bb_str rfl) pa_nil))) (pe_and (pe_callB call_isi (by rfl) B.isinstance bb_isinstance (pa_cons (pv 1) (pa_cons (pe_bltn (v := .ty "str") (by rfl) B.str bb_str rfl) pa_nil))) (pe_one (pe_cmpR op_eq (pv 0) (pv 1) (nomark _)))))))))))), ?_⟩
  rcases h with ⟨rfl, hx⟩ | ⟨a, b, xs, ys, rfl, rfl, ha, hb, hl, hp⟩ | ⟨a, b, xs, ys, rfl, rfl, ha, hb, hl, hp⟩
  · cases x with
    | non =>
      refine ⟨_, rfl, _, .ty "list", .type "NoneType", .type "list", false, rfl, .ty _, .base .non, kit_ty (by decide +kernel), _, rfl, iteF ?_⟩
      refine ⟨_, rfl, _, .ty "tuple", .type "NoneType", .type "tuple", false, rfl, .ty _, .base .non, kit_ty (by decide +kernel), _, rfl, iteF ?_⟩
      refine ⟨_, rfl, _, rfl, ite_of (decide_eq_true rfl) ?_⟩
      refine ⟨_, rfl, _, rfl, ite_of (decide_eq_true rfl) ⟨_, rfl, ?_⟩⟩
      exact q _ (Same.refl _)
    | bl x =>
      refine ⟨_, rfl, _, .ty "list", .type "bool", .type "list", false, rfl, .ty _, .base (.bl _), kit_ty (by decide +kernel), _, rfl, iteF ?_⟩
      refine ⟨_, rfl, _, .ty "tuple", .type "bool", .type "tuple", false, rfl, .ty _, .base (.bl _), kit_ty (by decide +kernel), _, rfl, iteF ?_⟩
      refine ⟨_, rfl, _, rfl, ite_no (by simp) ⟨_, rfl, _, rfl, ite_no (by simp) ?_⟩⟩
      refine ⟨_, rfl, _, .ty "bool", .type "bool", .type "bool", true, rfl, .ty _, .base (.bl _), kit_ty (by decide +kernel), _, rfl, iteT ?_⟩
      refine ⟨_, rfl, _, .ty "bool", .type "bool", .type "bool", true, rfl, .ty _, .base (.bl _), kit_ty (by decide +kernel), _, rfl, iteT ⟨_, rfl, _, .ty "bool", .type "bool", .type "bool", true, rfl, .ty _, .base (.bl _), kit_ty (by decide +kernel), _, rfl, iteT ⟨_, rfl, _, rfl, rfl, ?_⟩⟩⟩
      rw [decide_eq_true rfl]
      exact q _ (Same.refl _)
    | int x =>
      refine ⟨_, rfl, _, .ty "list", .type "int", .type "list", false, rfl, .ty _, .base (.int _), kit_ty (by decide +kernel), _, rfl, iteF ?_⟩
      refine ⟨_, rfl, _, .ty "tuple", .type "int", .type "tuple", false, rfl, .ty _, .base (.int _), kit_ty (by decide +kernel), _, rfl, iteF ?_⟩
      refine ⟨_, rfl, _, rfl, ite_no (by simp) ⟨_, rfl, _, rfl, ite_no (by simp) ?_⟩⟩
      refine ⟨_, rfl, _, .ty "bool", .type "int", .type "bool", false, rfl, .ty _, .base (.int _), kit_ty (by decide +kernel), _, rfl, iteF ⟨_, rfl, _, .ty "bool", .type "int", .type "bool", false, rfl, .ty _, .base (.int _), kit_ty (by decide +kernel), _, rfl, iteF ?_⟩⟩
      refine ⟨_, rfl, _, .ty "int", .type "int", .type "int", true, rfl, .ty _, .base (.int _), kit_ty (by decide +kernel), _, rfl, iteT ?_⟩
      refine ⟨_, rfl, _, .ty "int", .type "int", .type "int", true, rfl, .ty _, .base (.int _), kit_ty (by decide +kernel), _, rfl, iteT ⟨_, rfl, _, rfl, rfl, ?_⟩⟩
      rw [decide_eq_true rfl]
      exact q _ (Same.refl _)
    | str x =>
      refine ⟨_, rfl, _, .ty "list", .type "str", .type "list", false, rfl, .ty _, .base (.str _), kit_ty (by decide +kernel), _, rfl, iteF ?_⟩
      refine ⟨_, rfl, _, .ty "tuple", .type "str", .type "tuple", false, rfl, .ty _, .base (.str _), kit_ty (by decide +kernel), _, rfl, iteF ?_⟩
      refine ⟨_, rfl, _, rfl, ite_no (by simp) ⟨_, rfl, _, rfl, ite_no (by simp) ?_⟩⟩
      refine ⟨_, rfl, _, .ty "bool", .type "str", .type "bool", false, rfl, .ty _, .base (.str _), kit_ty (by decide +kernel), _, rfl, iteF ⟨_, rfl, _, .ty "bool", .type "str", .type "bool", false, rfl, .ty _, .base (.str _), kit_ty (by decide +kernel), _, rfl, iteF ?_⟩⟩
      refine ⟨_, rfl, _, .ty "int", .type "str", .type "int", false, rfl, .ty _, .base (.str _), kit_ty (by decide +kernel), _, rfl, iteF ?_⟩
      refine ⟨_, rfl, _, .ty "str", .type "str", .type "str", true, rfl, .ty _, .base (.str _), kit_ty (by decide +kernel), _, rfl, iteT ⟨_, rfl, _, .ty "str", .type "str", .type "str", true, rfl, .ty _, .base (.str _), kit_ty (by decide +kernel), _, rfl, iteT ⟨_, rfl, _, rfl, rfl, ?_⟩⟩⟩
      rw [decide_eq_true rfl]
      exact q _ (Same.refl _)
    | byt x => exact hx.elim
    | flt x => exact hx.elim
    | ref x => exact hx.elim
    | ty x => exact hx.elim
  · have hlen := paired_len hp
    refine ⟨_, rfl, _, .ty "list", .type "list", .type "list", true, rfl, .ty _, .base (.lst hb), kit_ty (by decide +kernel), _, rfl, iteT ?_⟩
    refine ⟨_, rfl, _, .ty "list", .type "list", .type "list", true, rfl, .ty _, .base (.lst ha), kit_ty (by decide +kernel), _, rfl, iteT ?_⟩
    refine ⟨_, rfl, .ref a, _, rfl, .inl ⟨xs, SqL.of ha, rfl⟩, _, rfl, .ref b, _, rfl, .inl ⟨ys, SqL.of hb, rfl⟩, rfl, _, rfl, ite_of (decide_eq_true (by rw [hlen])) ?_⟩
    refine ⟨_, rfl, _, rfl, a, b, xs, ys, rfl, .inl ⟨SqL.of ha, SqL.of hb, fun D hD => lc_it (walk_zip (K := K) (n := xs.length) (by omega)) (fun i H' => Same H H' ∧ H' D = some (.lst (List.replicate i (.bl true))))
      ⟨same_upd hD, upd_same⟩ (fun i H1 hi p => ⟨SqL.of (p.1 _ _ ha), SqL.of (p.1 _ _ hb)⟩) ?_ ?_⟩⟩
    · rintro i v H1 H2 hi ⟨s1, e1⟩ ⟨T, u, z, rfl, hT, rfl, hu, hz⟩
      refine ⟨T, [u, z], rfl, SqT.of upd_same, rfl, u, [z], rfl, z, [], rfl, rfl, rfl, tYes_ok ?_⟩
      refine ⟨_, rfl, _, rfl, u, z, rfl, (paired_get hp hu hz).mono (s1.trans (same_upd hT)), fun H3 s3 => ?_⟩
      refine ⟨_, s3 _ _ ((same_upd hT) _ _ e1), by rw [List.length_replicate]; exact small1000 (by omega), fun c o hc => ?_, ?_⟩
      · rw [upd_ne (ne_of_none hc hD)]
        exact s3 _ _ (same_upd hT _ _ (s1 _ _ hc))
      · rw [upd_same, List.replicate_succ']
    · rintro H1 ⟨s1, e1⟩
      refine ⟨D, List.replicate xs.length true, rfl, SqL.of (by rw [e1, List.map_replicate]), ?_⟩
      rw [show (List.replicate xs.length true).all id = true by simp]
      exact q _ s1
  · have hlen := paired_len hp
    refine ⟨_, rfl, _, .ty "list", .type "tuple", .type "list", false, rfl, .ty _, .base (.tup hb), kit_ty (by decide +kernel), _, rfl, iteF ?_⟩
    refine ⟨_, rfl, _, .ty "tuple", .type "tuple", .type "tuple", true, rfl, .ty _, .base (.tup hb), kit_ty (by decide +kernel), _, rfl, iteT ?_⟩
    refine ⟨_, rfl, _, .ty "tuple", .type "tuple", .type "tuple", true, rfl, .ty _, .base (.tup ha), kit_ty (by decide +kernel), _, rfl, iteT ?_⟩
    refine ⟨_, rfl, .ref a, _, rfl, .inr ⟨xs, SqT.of ha, rfl⟩, _, rfl, .ref b, _, rfl, .inr ⟨ys, SqT.of hb, rfl⟩, rfl, _, rfl, ite_of (decide_eq_true (by rw [hlen])) ?_⟩
    refine ⟨_, rfl, _, rfl, a, b, xs, ys, rfl, .inr ⟨SqT.of ha, SqT.of hb, fun D hD => lc_it (walk_zipT (K := K) (n := xs.length) (by omega)) (fun i H' => Same H H' ∧ H' D = some (.lst (List.replicate i (.bl true))))
      ⟨same_upd hD, upd_same⟩ (fun i H1 hi p => ⟨SqT.of (p.1 _ _ ha), SqT.of (p.1 _ _ hb)⟩) ?_ ?_⟩⟩
    · rintro i v H1 H2 hi ⟨s1, e1⟩ ⟨T, u, z, rfl, hT, rfl, hu, hz⟩
      refine ⟨T, [u, z], rfl, SqT.of upd_same, rfl, u, [z], rfl, z, [], rfl, rfl, rfl, tYes_ok ?_⟩
      refine ⟨_, rfl, _, rfl, u, z, rfl, (paired_get hp hu hz).mono (s1.trans (same_upd hT)), fun H3 s3 => ?_⟩
      refine ⟨_, s3 _ _ ((same_upd hT) _ _ e1), by rw [List.length_replicate]; exact small1000 (by omega), fun c o hc => ?_, ?_⟩
      · rw [upd_ne (ne_of_none hc hD)]
        exact s3 _ _ (same_upd hT _ _ (s1 _ _ hc))
      · rw [upd_same, List.replicate_succ']
    · rintro H1 ⟨s1, e1⟩
      refine ⟨D, List.replicate xs.length true, rfl, SqL.of (by rw [e1, List.map_replicate]), ?_⟩
      rw [show (List.replicate xs.length true).all id = true by simp]
      exact q _ s1
end
theorem no_same {P : Program} {w : World} {K : PySem.W.Frag} {mg : Str → Option Value} {base : Heap} {f : Addr} {fd : FuncData} {ps : List Str} {sp : Sp} (no : ∀ vs H Q E, ¬ sp vs H Q E) : FnOk P w K mg base CX0 0 f fd ps sp :=
  ⟨fun vs H Q E h => absurd h (no vs H Q E), fun A outer s H args us vs Q E _ _ _ _ h => absurd h (no vs H Q E)⟩
section
variable {P : Program} {w : World} {K : PySem.W.Frag} {mg : Str → Option Value} {base : Heap}
theorem all_same (F : Fn K mg "_law_same" s_l_same ["_law_found", "_law_due"]) (B : Blt mg) : ∀ n : Nat, Has P w K mg base n "_law_same" ["_law_found", "_law_due"] (spSame n)
  | 0 => by
    obtain ⟨f, fd, F, m, b⟩ := F.ex
    exact ⟨f, fd, no_same fun vs H Q E h => by obtain ⟨x, y, _, h, _⟩ := h; exact h, m, F.kp, b⟩
  | n + 1 => ok_same F B (all_same F B n)
end
/-! ### odd values -/
inductive OddV (H : Hp) (b : Addr) : V → Prop
  | non : OddV H b .non
  | bl (x : Bool) : OddV H b (.bl x)
  | s0 : OddV H b (.str "")
  | s1 : OddV H b (.str "A")
  | s2 : OddV H b (.str "in")
  | s3 : OddV H b (.str "a b")
  | s4 : OddV H b (.str "7")
  | t0 {p : Addr} : p ≠ b → H p = some (.tup []) → OddV H b (.ref p)
  | t1 {p : Addr} : p ≠ b → H p = some (.tup [.int 1]) → OddV H b (.ref p)
  | l0 {p : Addr} : p ≠ b → H p = some (.lst []) → OddV H b (.ref p)
  | l1 {p : Addr} : p ≠ b → H p = some (.lst [.str "a"]) → OddV H b (.ref p)
theorem OddV.kp {H H' : Hp} {b : Addr} {v : V} (h : OddV H b v) (k : Kp b H H') : OddV H' b v := by
  cases h with
  | non => exact .non
  | bl x => exact .bl x
  | s0 => exact .s0
  | s1 => exact .s1
  | s2 => exact .s2
  | s3 => exact .s3
  | s4 => exact .s4
  | t0 n h => exact .t0 n (k _ _ n h)
  | t1 n h => exact .t1 n (k _ _ n h)
  | l0 n h => exact .l0 n (k _ _ n h)
  | l1 n h => exact .l1 n (k _ _ n h)
def spOdd : Sp := fun vs H Q _ => ∃ b c : Addr, vs = [.ref b] ∧ Bg H b c ∧ ∀ (v : V) (H' : Hp), Kp b H H' → Bg H' b c → OddV H' b v → Q v H'
def spGcd : Sp := fun vs H Q _ => ∃ a b : Int, vs = [.int a, .int b] ∧ Q (.int ((Nat.gcd a.natAbs b.natAbs : Nat) : Int)) H
theorem abs_cast (i : Int) : (if i < 0 then -i else i) = ((i.natAbs : Nat) : Int) := by split <;> omega
theorem Bg.sel {H : Hp} {b c : Addr} (h : Bg H b c) : ∃ r : List V, H b = some (.lst (.ref c :: r)) := by
  obtain ⟨ns, i, r, m, g⟩ := h
  exact ⟨_, g.hb⟩
theorem Bg.ne_new {H : Hp} {b c p : Addr} (h : Bg H b c) (hp : H p = none) : p ≠ b := by
  obtain ⟨_, e⟩ := h.sel
  exact (ne_of_none e hp).symm
theorem Bg.ne_new2 {H : Hp} {b c p : Addr} (h : Bg H b c) (hp : H p = none) : p ≠ c := by
  obtain ⟨ns, i, r, m, g⟩ := h
  exact (ne_of_none g.hc hp).symm
section
variable {P : Program} {w : World} {K : PySem.W.Frag} {mg : Str → Option Value} {base : Heap}
end
/-! ### kinds of values -/
inductive Typ (H : Hp) : V → String → Prop
  | non : Typ H .non "NoneType"
  | bl (x : Bool) : Typ H (.bl x) "bool"
  | int (i : Int) : Typ H (.int i) "int"
  | str (z : Str) : Typ H (.str z) "str"
  | lst {a : Addr} {xs : List V} : H a = some (.lst xs) → Typ H (.ref a) "list"
  | tup {a : Addr} {xs : List V} : H a = some (.tup xs) → Typ H (.ref a) "tuple"
theorem Typ.tyx {K : PySem.W.Frag} {H : Hp} {x : V} {t : String} (h : Typ H x t) : TyX K H x (.type t) := by
  cases h with
  | non => exact .base .non
  | bl x => exact .base (.bl x)
  | int i => exact .base (.int i)
  | str z => exact .base (.str z)
  | lst h => exact .base (.lst h)
  | tup h => exact .base (.tup h)
theorem Typ.same {H H' : Hp} {x : V} {t : String} (h : Typ H x t) (s : Same H H') : Typ H' x t := by
  cases h with
  | non => exact .non
  | bl x => exact .bl x
  | int i => exact .int i
  | str z => exact .str z
  | lst h => exact .lst (s _ _ h)
  | tup h => exact .tup (s _ _ h)
theorem OddV.typ {H : Hp} {b : Addr} {v : V} (h : OddV H b v) : ∃ t, Typ H v t ∧ t ≠ "int" := by
  cases h with
  | non => exact ⟨_, .non, by decide⟩
  | bl x => exact ⟨_, .bl x, by decide⟩
  | s0 => exact ⟨_, .str _, by decide⟩
  | s1 => exact ⟨_, .str _, by decide⟩
  | s2 => exact ⟨_, .str _, by decide⟩
  | s3 => exact ⟨_, .str _, by decide⟩
  | s4 => exact ⟨_, .str _, by decide⟩
  | t0 n h => exact ⟨_, .tup h, by decide⟩
  | t1 n h => exact ⟨_, .tup h, by decide⟩
  | l0 n h => exact ⟨_, .lst h, by decide⟩
  | l1 n h => exact ⟨_, .lst h, by decide⟩
def isIntV : V → Bool
  | .int _ => true
  | _ => false
end My
/-! rules within a comprehension: the written part given from outside -/
namespace NK
open PySem PySem.Spec PyProof.Rows L2
section
variable {X : Cx} {tg : Expr}
theorem pi_listK (K : PySem.W.Frag) (hK : X.K = K) {l : Expr} {tl : TE} (hl : PE X l tl) : PI X tg l (iList K tl) := by
  subst hK
  exact pi_list hl
theorem pi_tupK (K : PySem.W.Frag) (hK : X.K = K) {l : Expr} {tl : TE} (hl : PE X l tl) : PI X tg l (iTup K tl) := by
  subst hK
  exact pi_tup hl
theorem pe_joinK (K : PySem.W.Frag) (hK : X.K = K) {o e : Expr} {to te : TE} {apos pos : Pos} (ho : PE X o to) (he : PE X e te) (hs : starEach [e] X.env = [(false, eval e X.env)] := by rfl) (hbase : attributeBase o "join" X.env (eval o X.env) = eval o X.env := by rfl) (hline : (apos.endLine == pos.line) = true := by rfl) :
    PE X (.Call (.Attribute o "join" apos) [e] [] pos) (tM1 (fun x xs H Q => ∃ a p, ∃ ys : List Str, x = .str a ∧ xs = [.ref p] ∧ (SqL K H p (ys.map V.str) ∨ SqT K H p (ys.map V.str)) ∧
      (ys.map (·.length)).sum + ys.length * a.length ≤ 16777216 ∧ Q (.str (Txt.join a ys)) H) to te) := by
  subst hK
  exact pe_join ho he hs hbase hline
theorem call_lenK (K : PySem.W.Frag) (hK : X.K = K) : CallR X (.builtin "len") (fun xs H Q => ∃ x n, xs = [x] ∧ LenV K x H n ∧ Q (.int n) H) := by
  subst hK
  exact call_len
theorem cr_sumK (K : PySem.W.Frag) (hK : X.K = K) (hc : X.calm = true) : CallR X (.builtin "sum") (rSum K) := by
  subst hK
  exact cr_sum hc
theorem cr_allK (K : PySem.W.Frag) (hK : X.K = K) (hc : X.calm = true) : CallR X (.builtin "all") (rAll K) := by
  subst hK
  exact cr_all hc
theorem cr_anyK (K : PySem.W.Frag) (hK : X.K = K) (hc : X.calm = true) : CallR X (.builtin "any") (rAny K) := by
  subst hK
  exact cr_any hc
theorem call_tuple_ofK (K : PySem.W.Frag) (hK : X.K = K) : CallR X (.type "tuple") (fun xs H Q => ∃ p ys, xs = [.ref p] ∧ ((SqL K H p ys ∧ ∀ l, H l = none → Q (.ref l) (upd H l (.tup ys))) ∨ (SqT K H p ys ∧ Q (.ref p) H))) := by
  subst hK
  exact call_tuple_of
theorem call_list_ofK (K : PySem.W.Frag) (hK : X.K = K) : CallR X (.type "list") (fun xs H Q => ∃ p ys, xs = [.ref p] ∧ (SqL K H p ys ∨ SqT K H p ys) ∧ ∀ l, H l = none → Q (.ref l) (upd H l (.lst ys))) := by
  subst hK
  exact call_list_of
theorem pi_zipAK (K : PySem.W.Frag) (hK : X.K = K) {e e2 : Expr} {ta : TA} {p pos tpos : Pos} {elts : List Expr} {kk : Nat} (hg : Gl X "zip") (hm : X.mg "zip" = none) (ha : PA X [e, e2] ta)
    (hs : starEach [e, e2] X.env = (false, eval e X.env) :: starEach [e2] X.env := by rfl) (hpl : (backTo pos (starEach [e2] X.env)).any (·.1) = false := by rfl) :
    PI X (.Tuple elts kk tpos) (.Call (.Name "zip" p) [e, e2] [] pos) (RZ.iZipA K ta) := by
  subst hK
  exact RZ.pi_zipA hg hm ha hs hpl
theorem pi_enumK (K : PySem.W.Frag) (hK : X.K = K) {e : Expr} {ta : TA} {p pos tpos : Pos} {elts : List Expr} {kk : Nat} (hg : Gl X "enumerate") (hm : X.mg "enumerate" = none) (ha : PA X [e] ta) (hs : starEach [e] X.env = (false, eval e X.env) :: starEach [] X.env := by rfl) :
    PI X (.Tuple elts kk tpos) (.Call (.Name "enumerate" p) [e] [] pos) (iEnum K ta) := by
  subst hK
  exact pi_enum hg hm ha hs
end
end NK
/-! zip of a list and a tuple -/
namespace ZM
open PySem PySem.Spec PyProof.Rows L2
/-- the list at a and the tuple at b as they stand at each turn, the items in new pairs -/
def ItzM (K : PySem.W.Frag) (a b : Addr) : It where
  go := fun i H => ∃ (xs ys : List V), SqL K H a xs ∧ SqT K H b ys ∧ i < min xs.length ys.length
  yld := fun i H v H' => ∃ T x y, v = .ref T ∧ H T = none ∧ H' = upd H T (.tup [x, y]) ∧ (∀ xs, SqL K H a xs → xs[i]? = some x) ∧ ∀ ys, SqT K H b ys → ys[i]? = some y
  stop := fun i H => ∃ xs ys : List V, SqL K H a xs ∧ SqT K H b ys ∧ i = min xs.length ys.length
theorem four_five {c z TI TO i1 i2 : Addr} (m : c ∈ [z, TO, i1, i2]) : c ∈ [z, TI, TO, i1, i2] := by
  simp only [List.mem_cons, List.not_mem_nil, or_false] at m ⊢
  rcases m with h | h | h | h
  · exact .inl h
  · exact .inr (.inr (.inl h))
  · exact .inr (.inr (.inr (.inl h)))
  · exact .inr (.inr (.inr (.inr h)))
/-- how the iterator stands after i turns -/
def TnM (z TI TO i1 i2 a b : Addr) (i : Nat) (h : Heap) : Prop :=
  IsZip h z TI TO .none ∧ IsTupOf2 h TI (.ref i1) (.ref i2) ∧ (∃ a1 a2, IsTupOf2 h TO a1 a2) ∧ h.IsListIter i1 a i ∧ h.IsTupleIter i2 b i
theorem turn_zipM {P : Program} {w : World} {K : PySem.W.Frag} {elts : List Expr} {kk : Nat} {tpos : Pos} {a b z TI TO i1 i2 : Addr} (S : ZipSep2 z TI TO i1 i2 [i1, a] [i2, b]) :
    Turn P w K (.Tuple elts kk tpos) (ItzM K a b) [z, TI, TO, i1, i2] z (TnM z TI TO i1 i2 a b) := by
  have n1 : a ≠ i1 → True := fun _ => trivial
  refine ⟨by simp, fun i h st c hc => ?_, fun i h h' st k => ?_, ?_, ?_, fun A i s Q E st q => wpAny_pyIter_zip st.1 q⟩
  · obtain ⟨hz, hTI, ⟨x, y, hTO⟩, ⟨o1, e1, _, d1⟩, ⟨o2, e2, _, d2⟩⟩ := st
    simp only [List.mem_cons, List.not_mem_nil, or_false] at hc
    rcases hc with rfl | rfl | rfl | rfl | rfl
    · exact ⟨_, hz, fun v q => by cases q⟩
    · exact ⟨_, hTI, fun v q => by cases q⟩
    · exact ⟨_, hTO, fun v q => by cases q⟩
    · exact ⟨o1, e1, fun v q => by rw [d1] at q; cases q⟩
    · exact ⟨o2, e2, fun v q => by rw [d2] at q; cases q⟩
  · obtain ⟨hz, hTI, ⟨x, y, hTO⟩, h1, h2⟩ := st
    exact ⟨k z (by simp) _ hz, k TI (by simp) _ hTI, ⟨x, y, k TO (by simp) _ hTO⟩, h1.at (fun o q => k i1 (by simp) o q), h2.at (fun o q => k i2 (by simp) o q)⟩
  · intro X hP hw hK hc i pins s σ H E I hf st hg
    subst hP hw hK
    obtain ⟨hz, hTI, hTO, h1, h2⟩ := st
    obtain ⟨xs, ys, qx, qy, hi⟩ := hg
    obtain ⟨its, rv, p, _⟩ := I.list qx
    obtain ⟨its2, rv2, p2, _⟩ := I.tuple qy
    have l1 := rv.length
    have l2 := rv2.length
    have na : a ≠ i1 := fun e => by
      obtain ⟨o1, e1, c1, d1⟩ := h1
      obtain ⟨o2, e2, c2, _⟩ := p.isList
      rw [e, e1] at e2
      cases e2
      rw [c1] at c2
      injection c2 with c2
      exact absurd c2 (by decide)
    have nb : b ≠ i2 := fun e => by
      obtain ⟨o1, e1, c1, d1⟩ := h2
      obtain ⟨o2, e2, c2, _⟩ := p2
      rw [e, e1] at e2
      cases e2
      rw [c1] at c2
      injection c2 with c2
      exact absurd c2 (by decide)
    have W := WalksT.zipD2 S (Draws.list (prog := X.prog) (w := X.w) (A := X.A.in1) (I.ok.hd hc) i1 a na its.toArray) (Draws.tuple (prog := X.prog) (w := X.w) (A := X.A.in1) (I.ok.hd hc) i2 b nb its2.toArray)
    refine W.item i s _ _ (by simp only [List.size_toArray]; omega) ⟨hz, hTI, hTO, ⟨h1, p.isList⟩, ⟨h2, p2⟩⟩ fun T vals h' tk hv hT hTt mid hk => ?_
    obtain ⟨u, u2, hu, hu2, rfl⟩ := hv
    have hi1 : i < xs.length := by omega
    have hi2 : i < ys.length := by omega
    obtain ⟨v1, hv1, ru⟩ := rv.get (List.getElem?_eq_getElem hi1)
    obtain ⟨v2, hv2, ru2⟩ := rv2.get (List.getElem?_eq_getElem hi2)
    have ev1 : v1 = u := by
      have : its[i]? = some u := by simpa using hu
      rw [hv1] at this
      exact Option.some.inj this
    have ev2 : v2 = u2 := by
      have : its2[i]? = some u2 := by simpa using hu2
      rw [hv2] at this
      exact Option.some.inj this
    subst ev1 ev2
    refine ⟨_, rfl, W.go elts kk tpos i T { s with heap := h', toks := tk } _ _ mid fun h'' st'' hk2 => ?_⟩
    have hap := W.apart i T h' mid
    have hT2 : h''.IsTuple T #[v1, v2] := hTt.at fun o q => hk2 T o hap q
    have new : ObjOk X.prog X.w (upd H T (.tup [xs[i], ys[i]])) h'' T (.tup [xs[i], ys[i]]) := by
      obtain ⟨o, ho, hcl, n, hd⟩ := hT2
      exact ⟨by show 2 ≤ sizeLine; decide, [v1, v2], .cons ru (.cons ru2 .nil), ⟨o, ho, hcl, n, hd⟩⟩
    have I1 : Inv X pins σ (upd H T (.tup [xs[i], ys[i]])) { s with heap := h'', toks := tk } :=
      I.turnedNew (t' := tk) (ch := [z, TI, TO, i1, i2]) (fun c o hb q => hk2 c o (fun m => hb (four_five m)) (hk c o (fun m => hb (four_five m)) q)) hf hT new
    obtain ⟨m1, m2, m3, ⟨m4, _⟩, ⟨m5, _⟩⟩ := st''
    refine ⟨.ref T, _, I1, rfl, ⟨T, xs[i], ys[i], rfl, I.hok.fresh hT, rfl, fun l hl => ?_, fun l hl => ?_⟩, ⟨m1, m2, m3, m4, m5⟩, fun c hcm => ?_⟩
    · rw [I.list_inj hl qx]
      exact List.getElem?_eq_getElem hi1
    · rw [I.tuple_inj hl qy]
      exact List.getElem?_eq_getElem hi2
    · have hlt : c < s.heap.objs.size := by
        simp only [List.mem_cons, List.not_mem_nil, or_false] at hcm
        rcases hcm with rfl | rfl | rfl | rfl | rfl
        · exact Heap.lt_size hz
        · exact Heap.lt_size hTI
        · obtain ⟨_, _, hTO⟩ := hTO
          exact Heap.lt_size hTO
        · obtain ⟨_, e1, _⟩ := h1; exact Heap.lt_size e1
        · obtain ⟨_, e2, _⟩ := h2; exact Heap.lt_size e2
      rw [upd_ne (Nat.ne_of_lt (Nat.lt_of_lt_of_le hlt hT))]
      exact (hf c hcm).1
  · intro X hP hw hK hc i pins s σ H E I hf st hg
    subst hP hw hK
    obtain ⟨hz, hTI, hTO, h1, h2⟩ := st
    obtain ⟨xs, ys, qx, qy, hi⟩ := hg
    obtain ⟨its, rv, p, _⟩ := I.list qx
    obtain ⟨its2, rv2, p2, _⟩ := I.tuple qy
    have l1 := rv.length
    have l2 := rv2.length
    have na : a ≠ i1 := fun e => by
      obtain ⟨o1, e1, c1, d1⟩ := h1
      obtain ⟨o2, e2, c2, _⟩ := p.isList
      rw [e, e1] at e2
      cases e2
      rw [c1] at c2
      injection c2 with c2
      exact absurd c2 (by decide)
    have nb : b ≠ i2 := fun e => by
      obtain ⟨o1, e1, c1, d1⟩ := h2
      obtain ⟨o2, e2, c2, _⟩ := p2
      rw [e, e1] at e2
      cases e2
      rw [c1] at c2
      injection c2 with c2
      exact absurd c2 (by decide)
    have W := WalksT.zipD2 S (Draws.list (prog := X.prog) (w := X.w) (A := X.A.in1) (I.ok.hd hc) i1 a na its.toArray) (Draws.tuple (prog := X.prog) (w := X.w) (A := X.A.in1) (I.ok.hd hc) i2 b nb its2.toArray)
    have ei : i = min its.toArray.size its2.toArray.size := by simp only [List.size_toArray]; omega
    subst ei
    refine W.done s _ _ ⟨hz, hTI, hTO, ⟨h1, p.isList⟩, ⟨h2, p2⟩⟩ fun h' tk hk => ⟨rfl, ?_⟩
    exact I.turnedL (t' := tk) (ch := [z, TI, TO, i1, i2]) (fun c o hb q => hk c o (fun m => hb (four_five m)) q) hf
def iZipM (K : PySem.W.Frag) (ta : TA) : TI := fun σ H R => ta σ H fun vs H1 => ∃ a b xs ys, vs = [.ref a, .ref b] ∧ SqL K H1 a xs ∧ SqT K H1 b ys ∧ R (ItzM K a b) H1
theorem pi_zipM {X : Cx} (K : PySem.W.Frag) (hK : X.K = K) {e e2 : Expr} {ta : TA} {p pos tpos : Pos} {elts : List Expr} {kk : Nat} (hg : Gl X "zip") (hm : X.mg "zip" = none) (ha : PA X [e, e2] ta)
    (hs : starEach [e, e2] X.env = (false, eval e X.env) :: starEach [e2] X.env := by rfl) (hpl : (backTo pos (starEach [e2] X.env)).any (·.1) = false := by rfl) :
    PI X (.Tuple elts kk tpos) (.Call (.Name "zip" p) [e, e2] [] pos) (iZipM K ta) := by
  subst hK
  constructor
  intro pins s σ H R I h
  refine Call_ (ld_blt I hg hm PyProof.Rows.boot_zip (PyProof.Rows.callWith_type1 (thn (ha.run pos pins s σ H _ I h) fun us s1 ⟨vs, H1, I1, r1, q1⟩ => ?_) hs hpl))
  obtain ⟨a, b, xs, ys, ex, qx, qy, q⟩ := q1
  subst ex
  cases r1 with
  | cons r rr =>
    cases rr with
    | cons r' rr =>
      cases rr
      cases r
      cases r'
      obtain ⟨its, rv, p1, _⟩ := I1.list qx
      obtain ⟨its2, rv2, p2, _⟩ := I1.tuple qy
      obtain ⟨o2, ho2, _⟩ := id p2
      have la : a < s1.heap.objs.size := p1.lt
      have lb : b < s1.heap.objs.size := Heap.lt_size ho2
      refine zip_begins2 (begins_list a its.toArray) (begins_tuple b its2.toArray) p1.isList p2 fun h' hz hTI hTO h1 h2 hsz hk => wpAny_pyIter_zip hz ?_
      have I2 : Inv X pins σ H1 { s1 with heap := h' } := I1.kept (t' := s1.toks) hk
      refine ⟨s1.heap.objs.size + 4, [s1.heap.objs.size + 4, s1.heap.objs.size + 2, s1.heap.objs.size + 3, s1.heap.objs.size, s1.heap.objs.size + 1], _, _, H1, rfl, I2,
        turn_zipM (zip_sep2 (N := s1.heap.objs.size) (fp1 := [a]) (fp2 := [b]) (fun c hc => by rw [List.mem_singleton.mp hc]; exact la) (fun c hc => by rw [List.mem_singleton.mp hc]; exact lb)), ⟨hz, hTI, ⟨_, _, hTO⟩, ⟨_, h1, rfl, rfl⟩, ⟨_, h2, rfl, rfl⟩⟩, fun c hcm => ?_, q⟩
      have hle : s1.heap.objs.size ≤ c := by
        have e' : c = s1.heap.objs.size + 4 ∨ c = s1.heap.objs.size + 2 ∨ c = s1.heap.objs.size + 3 ∨ c = s1.heap.objs.size ∨ c = s1.heap.objs.size + 1 := by simpa using hcm
        rcases e' with z | z | z | z | z
        · rw [z]; exact Nat.le_add_right _ _
        · rw [z]; exact Nat.le_add_right _ _
        · rw [z]; exact Nat.le_add_right _ _
        · rw [z]; exact Nat.le_refl _
        · rw [z]; exact Nat.le_add_right _ _
      exact I1.fpOk hle (I1.hok.fresh hle)
theorem walk_zipM {K : PySem.W.Frag} {a b : Addr} {xs ys : List V} {n : Nat} (hn : n = min xs.length ys.length) : Walk (ItzM K a b) n (fun H => SqL K H a xs ∧ SqT K H b ys) (YPair (fun i => xs[i]?) (fun i => ys[i]?)) := by
  subst hn
  refine ⟨fun i _ hi q => ⟨xs, ys, q.1, q.2, hi⟩, fun _ q => ⟨xs, ys, q.1, q.2, rfl⟩, fun i H v H' _ q y => ?_⟩
  obtain ⟨T, x, z, h1, h2, h3, h4, h5⟩ := y
  exact ⟨T, x, z, h1, h2, h3, h4 xs q.1, h5 ys q.2⟩
end ZM
/-! own classes: static methods, properties, ==, repr, bool -/
namespace OwO
open PySem PySem.Spec PyProof.Rows L2
/-- C.m is a static method: its record at p, its def at g -/
structure CStat (K : PySem.W.Frag) (C : Addr) (mc : Value) (m : Str) (p g : Addr) : Prop where
  at_ : PySem.W.findCls K (.ref C) mc m = some (.get (.builtin "staticmethod.__get__") (.ref p) .none (.ref C))
  rc : ∃ rest, PySem.W.recIn K p "staticmethod" = some (.ref g :: rest)
/-- a special method of the class at C: a def of it -/
structure Spc (K : PySem.W.Frag) (C : Addr) (m : Str) (f : Addr) : Prop where
  at_ : PySem.W.findIn K (.ref C) m = some (some (.ref f))
  fn : PySem.W.isFn K (.ref f) = true
def tStat (C : Addr) (sp : Sp) (dvs : List V) (E : XK) (ta : TE) (t : TA) : TE := fun σ H Q => ta σ H fun x H1 => x = .ref C ∧ t σ H1 fun vs H2 => sp (vs ++ dvs) H2 Q E
section
variable {X : Cx} {pins : List (Addr × Obj)} {σ : L2.St} {H : Hp} {s : Shared}
theorem getmethst_ok {C p g : Addr} {mc : Value} {m : Str} {pl : Sem Bool} {A : Around} {E : Value → Shared → Prop} {Q : Value × List Value → Shared → Prop} (I : Inv X pins σ H s) (r : ClX.CRead X.K C mc) (k : CStat X.K C mc m p g)
    (h : ∀ s', Inv X pins σ H s' → Q (.ref g, []) s') : wpAny (model X.prog X.w) A (getMethod (.ref C) m pl) Q E s := by
  obtain ⟨rest, hp⟩ := k.rc
  refine PySem.W.method_cls I.kIn r.ga (PySem.W.cls_bind I.kIn r.rd k.at_ ?_)
  exact wpAny_call (PySem.W.sm_get (s := { s with toks := s.toks + 1 }) I.kIn hp (PySem.W.handed_on rfl (h _ (I.tok _))))
end
section
variable {X : Cx} {CX : CXT} {k : Nat} {C p g : Addr} {mc : Value} {fd : FuncData} {ps : List Str} {ds : List Value} {dvs : List V} {sp : Sp} {E : XK} {o e : Expr} {es : List Expr} {m : Str} {pos apos : Pos} {ta : TE} {t : TA} {pl : Sem Bool}
/-- C.m() -/
theorem pe_stat0 (he : PE X o ta) (r : ClX.CRead X.K C mc) (c : CStat X.K C mc m p g) (F : FnOk X.prog X.w X.K X.mg X.base CX k g fd ps sp) (hr : Room k X.A) (hk : PySem.W.keepIn X.K (.ref g) = true) (hb : Binds X.K fd ps ds) (hd : Vals dvs ds) (hx : Passes CX X E)
    (ht : eval (.Call (.Attribute o m apos) [] [] pos) X.env = (do
      let ov ← eval o X.env
      standAt apos.atName
      let (f, first) ← holding [ov] (getMethod ov m pl)
      callWith pos f first (backTo pos (starEach [] X.env)) (backToKw pos (keywordEach [] X.env))) := by rfl) :
    PE X (.Call (.Attribute o m apos) [] [] pos) (tStat C sp dvs E ta tNil) := by
  refine ⟨fun pins s σ H Q I h => ?_⟩
  refine PySem.W.methodCall_KW (pl := pl) (thn (he.run pins s σ H _ I h) fun u s1 ⟨x, H1, I1, rx, ex, q⟩ => ?_) ht
  subst ex
  obtain rfl : u = Value.ref C := rx
  refine getmethst_ok I1 r c fun s2 I2 => ?_
  exact PySem.W.callWith_K0 I2.kIn hk (run_fn F hr hb hd hx I2 .nil q)
/-- C.m(e, ..) -/
theorem pe_stat (he : PE X o ta) (r : ClX.CRead X.K C mc) (c : CStat X.K C mc m p g) (F : FnOk X.prog X.w X.K X.mg X.base CX k g fd ps sp) (hr : Room k X.A) (hk : PySem.W.keepIn X.K (.ref g) = true) (hb : Binds X.K fd ps ds) (hd : Vals dvs ds) (hx : Passes CX X E) (ha : PA X (e :: es) t)
    (hst : starEach (e :: es) X.env = (false, eval e X.env) :: starEach es X.env := by rfl) (hpl : (backTo pos (starEach es X.env)).any (·.1) = false := by rfl)
    (ht : eval (.Call (.Attribute o m apos) (e :: es) [] pos) X.env = (do
      let ov ← eval o X.env
      standAt apos.atName
      let (f, first) ← holding [ov] (getMethod ov m pl)
      callWith pos f first (backTo pos (starEach (e :: es) X.env)) (backToKw pos (keywordEach [] X.env))) := by rfl) :
    PE X (.Call (.Attribute o m apos) (e :: es) [] pos) (tStat C sp dvs E ta t) := by
  refine ⟨fun pins s σ H Q I h => ?_⟩
  refine PySem.W.methodCall_KW (pl := pl) (thn (he.run pins s σ H _ I h) fun u s1 ⟨x, H1, I1, rx, ex, q⟩ => ?_) ht
  subst ex
  obtain rfl : u = Value.ref C := rx
  refine getmethst_ok I1 r c fun s2 I2 => ?_
  refine PySem.W.callWith_K (h₀ := X.base) I2.ok.mod.kin hk (thn (ha.run pos pins s2 σ H1 _ I2 q) fun us s3 ⟨vs, H2, I3, rv, q2⟩ => ⟨I3.kIn, ?_⟩) hst hpl
  exact run_fn F hr hb hd hx I3 rv q2
end
/-! ### what an own special method answers -/
section
variable {X : Cx} {K0 : PySem.W.Frag} {k : Nat} {C f : Addr} {fd : FuncData} {ps : List Str} {sp : Sp}
/-- repr(o) -/
theorem cr_repr {m : Str} (hm : m = "__repr__") (S : Spc X.K C m f) (F : FnOk X.prog X.w X.K X.mg X.base CX0 k f fd ps sp) (hb : Binds X.K fd ps []) (hr : Room (k + 1) X.A) :
    CallR X (.builtin "repr") (fun xs H Q => ∃ a dx fs, xs = [.ref a] ∧ H a = some (.ins C dx fs) ∧ sp [.ref a] H (fun v H' => ∃ z : Str, v = .str z ∧ Q (.str z) H') E0) := by
  subst hm
  intro pins s σ H xs us Q I r h
  obtain ⟨a, dx, fs, rfl, ha, hsp⟩ := h
  obtain rfl := Vals.ref1 r
  obtain ⟨mA, J, _⟩ := ins_get I.hok ha
  obtain ⟨od, J, _⟩ := J.look
  obtain ⟨m, hF⟩ := I.fr
  have hl := F.len _ _ _ _ hsp
  refine PySem.W.repr_K hr.in1.units0 hF I.ok.mod.kin J S.at_ S.fn ?_
  refine wpAny_call (codeAny_mono (F.run X.A.in1 X.stack s H ⟨[.ref a], []⟩ [.ref a] [.ref a] _ E0 hr.in1 I.env0.in1 (hb s [.ref a] I.kIn (by simpa using hl)) (.cons rfl .nil) hsp) fun r s' hq => ?_)
  cases r with
  | error e => exact (show False from hq).elim
  | ok fl =>
    cases fl with
    | ret w =>
      obtain ⟨v, H', I', rv, z, rfl, q⟩ := I.after hq
      obtain ⟨t, rfl⟩ := rv
      exact ⟨.str z, H', I', ⟨t, rfl⟩, q⟩
    | next => exact False.elim hq
    | brk => exact False.elim hq
    | cont => exact False.elim hq
/-- bool(o), by an own __bool__ -/
theorem call_boolK {prog : Program} {w : World} {A : Around} {E : Value → Shared → Prop} {s : Shared} {K : PySem.W.Frag} {L x C f : Addr} {h₀ : Heap} {mm : Str → Option Value} {ox : Obj} {od : Option Obj} {Q : Value → Shared → Prop} (F : Fr h₀ L s.heap mm) (X₀ : K.In h₀) (I : PySem.W.InstAt s.heap x ox C od)
    (hs : PySem.W.findIn K (.ref C) "__bool__" = some (some (.ref f))) (hf : PySem.W.isFn K (.ref f) = true) (h : wpAny (model prog w) A.in1.in1 (call (.ref f) [.ref x]) (PySem.W.BoolBack fun b => Q (.bool b)) E s) : wpAny (model prog w) A (call (.type "bool") [.ref x]) Q E s := by
  refine callType_codes (T := "bool") (Bi := Builtin.«object.__init__») (Q₁ := fun r s₁ => ∃ b, r = .bool b ∧ Q r s₁) PySem.F.called_bool (PySem.F.typeCall_bool_1 _) PySem.F.entry_object_init ?_ ?_
  · refine codeAny_of_tree ?_
    show wpAny _ A.in1.in1 (do checkBuiltinCall "bool.__new__" ⟨[.type "bool", .ref x], []⟩; again (.builtin "bool.__new__" ⟨[.type "bool", .ref x], []⟩)) _ _ s
    refine wpAny_bind (wpAny_of_eq (PySem.F.newCall_bool_1 _) (wpAny_pure ⟨plainId_quiet (by decide +kernel) _, codeAny_builtin PySem.F.entry_bool_new ?_⟩))
    rw [Around.under_plainId (by decide +kernel) _]
    unfold Builtin.«bool.__new__»
    have f1 := PySem.F.conv_sub_bool
    have key : wpAny (model prog w) A.in1.in1 (truthy (.ref x)) (fun b s₁ => Q (.bool b) s₁) E s := PySem.W.truthy_K F X₀ I hs hf h
    obtain ⟨hp, g, d, tk, os⟩ := s
    repeat (any_goals (first | assumption | (with_reducible refine wpAny_bind (wpAny_mono key (fun b s₁ hq => ?_) fun _ _ y => y)) | wp_step))
    all_goals first | exact ⟨_, rfl, _, rfl, hq⟩ | exact ⟨_, rfl, hq⟩ | exact hq | skip
  · rintro obj s₁ ⟨b, rfl, hq⟩
    exact ⟨rfl, PySem.F.args_object_init_2 _ _, object_init_meets PySem.F.called_bool.init.lookup PySem.F.called_bool.made (by decide) prog w A.in1 _ s₁ ⟨rfl, rfl, hq⟩⟩
theorem ct_bool {m : Str} (hm : m = "__bool__") (S : Spc X.K C m f) (F : FnOk X.prog X.w X.K X.mg X.base CX0 k f fd ps sp) (hb : Binds X.K fd ps []) (hr : Room (k + 2) X.A) :
    CallR X (.type "bool") (fun xs H Q => ∃ a dx fs, xs = [.ref a] ∧ H a = some (.ins C dx fs) ∧ sp [.ref a] H (fun v H' => ∃ b : Bool, v = .bl b ∧ Q (.bl b) H') E0) := by
  subst hm
  intro pins s σ H xs us Q I r h
  obtain ⟨a, dx, fs, rfl, ha, hsp⟩ := h
  obtain rfl := Vals.ref1 r
  obtain ⟨mA, J, _⟩ := ins_get I.hok ha
  obtain ⟨od, J, _⟩ := J.look
  obtain ⟨m, hF⟩ := I.fr
  have hl := F.len _ _ _ _ hsp
  refine call_boolK hF I.ok.mod.kin J S.at_ S.fn ?_
  refine wpAny_call (codeAny_mono (F.run X.A.in1.in1 X.stack s H ⟨[.ref a], []⟩ [.ref a] [.ref a] _ E0 hr.in1.in1 I.env0.in1.in1 (hb s [.ref a] I.kIn (by simpa using hl)) (.cons rfl .nil) hsp) fun r s' hq => ?_)
  cases r with
  | error e => exact (show False from hq).elim
  | ok fl =>
    cases fl with
    | ret w =>
      obtain ⟨v, H', I', rv, z, rfl, q⟩ := I.after hq
      cases rv
      exact ⟨.bl z, H', I', rfl, q⟩
    | next => exact False.elim hq
    | brk => exact False.elim hq
    | cont => exact False.elim hq
/-- o == y, by an own __eq__ (y no instance of a class below o's) -/
def rEqO (K : PySem.W.Frag) (C : Addr) (sp : Sp) : R2 := fun x y H Q => ∃ a dx fs t, x = .ref a ∧ H a = some (.ins C dx fs) ∧ TyX K H y t ∧ PySem.W.notFirst K C t = true ∧ sp [.ref a, y] H (fun v H' => ∃ b : Bool, v = .bl b ∧ Q (.bl b) H') E0
theorem op_eqO {m : Str} (hm : m = "__eq__") (S : Spc X.K C m f) (F : FnOk X.prog X.w X.K X.mg X.base CX0 k f fd ps sp) (hb : Binds X.K fd ps []) (hr : Room k X.A) (hK : X.K = K0) : OpR X (compareOp .Eq) (rEqO K0 C sp) := by
  subst hm hK
  intro pins s σ H x y u v Q I rx ry h
  obtain ⟨a, dx, fs, t, rfl, ha, ty, hn, hsp⟩ := h
  obtain rfl : u = Value.ref a := rx
  obtain ⟨mA, J, _⟩ := ins_get I.hok ha
  obtain ⟨od, J, _⟩ := J.look
  obtain ⟨m, hF⟩ := I.fr
  obtain ⟨P, kx, hP, _⟩ := kit_of I ry ty
  have hl := F.len _ _ _ _ hsp
  show wpAny _ _ (richCompare .Eq (.ref a) v) _ _ _
  refine PySem.W.cmp_K (op := .Eq) hr.units0 hF I.ok.mod.kin J (kx.ty _ _ I.kIn hP) hn S.at_ S.fn ?_
  refine wpAny_call (codeAny_mono (F.run X.A X.stack s H ⟨[.ref a, v], []⟩ [.ref a, v] [.ref a, y] _ E0 hr I.env0 (by
    have z := hb s [.ref a, v] I.kIn (by simpa using hl)
    simpa using z) (.cons rfl (.cons ry .nil)) hsp) fun r s' hq => ?_)
  cases r with
  | error e => exact (show False from hq).elim
  | ok fl =>
    cases fl with
    | ret w =>
      obtain ⟨z, H', I', rv, b, rfl, q⟩ := I.after hq
      cases rv
      exact ⟨.bl b, H', I', rfl, q⟩
    | next => exact False.elim hq
    | brk => exact False.elim hq
    | cont => exact False.elim hq
end
end OwO
/-! a list comprehension of any number of clauses -/
namespace LcN
open PySem PySem.Spec PyProof.Rows L2
theorem turn_more {elt tg it tg1 it1 : Expr} {ifs ifs1 : List Expr} {gens : List Comprehension} {scope : Scope} {pos : Pos} {d : Nat} {itv acc : Value} {env : Env} (h : gens[d]? = some ⟨tg, it, ifs, 0⟩) (h1 : gens[d + 1]? = some ⟨tg1, it1, ifs1, 0⟩) :
    compTurn (.ListComp elt gens scope pos) d itv acc env = (do
      standAt it.pos
      match ← pyNext itv with
      | none => pure (.done .next)
      | some v =>
        letOwnedTupleGo tg itv v
        assign tg env v
        let mut ok := true
        for c in ifs do
          if ok then ok ← isTrue c env (eval c env)
        if ok then
          let x ← eval it1 env
          standAt it1.pos
          let x ← foldedSetIterable it1 env x
          let _ ← runOwn (.compStart (.ListComp elt gens scope pos) (d + 1) (← holding [x] (pyIter x)) acc env) env
        again (.compLoop (.ListComp elt gens scope pos) d itv acc env)) := by
  unfold compTurn
  simp only [h, h1]
  rfl
theorem turn_last {elt tg it : Expr} {ifs : List Expr} {gens : List Comprehension} {scope : Scope} {pos : Pos} {d : Nat} {itv acc : Value} {env : Env} (h : gens[d]? = some ⟨tg, it, ifs, 0⟩) (h1 : gens[d + 1]? = none) :
    compTurn (.ListComp elt gens scope pos) d itv acc env = (do
      standAt it.pos
      match ← pyNext itv with
      | none => pure (.done .next)
      | some v =>
        letOwnedTupleGo tg itv v
        assign tg env v
        let mut ok := true
        for c in ifs do
          if ok then ok ← isTrue c env (eval c env)
        if ok then
          (do let _ ← call (.builtin "list.append") [acc, ← eval elt env])
        again (.compLoop (.ListComp elt gens scope pos) d itv acc env)) := by
  unfold compTurn
  simp only [h, h1]
  rfl

section
variable {prog : Program} {w : World} {A : Around} {R : Result → Shared → Prop} {s : Shared} {elt tg it tg1 it1 : Expr} {ifs ifs1 : List Expr} {gens : List Comprehension} {scope : Scope} {pos : Pos} {d : Nat} {itv acc : Value} {env : Env}
/-- what is done behind the tests of clause d -/
abbrev innerP (elt : Expr) (gens : List Comprehension) (scope : Scope) (pos : Pos) (d : Nat) (acc : Value) (env : Env) : Sem Unit := match gens[d + 1]? with
        | some g' => do
          let x ← eval g'.iter env
          standAt g'.iter.pos
          let x ← if g'.is_async != 0 then foldedIterable g'.iter x else foldedSetIterable g'.iter env x
          let _ ← runOwn (.compStart (.ListComp elt gens scope pos) (d + 1) (← holding [x] (if g'.is_async != 0 then asyncIter x else pyIter x)) acc env) env
        | none => do let _ ← call (.builtin "list.append") [acc, ← eval elt env]
abbrev testsOf (ifs : List Expr) (env : Env) : Sem Bool := forIn ifs true fun c r => if r = true then do let ok ← isTrue c env (eval c env); pure (ForInStep.yield ok) else pure (ForInStep.yield r)
/-- one clause's loop: what is done behind its tests is told by In -/
theorem loop_by (In : (Shared → Prop) → Shared → Prop) (hIn : ∀ (Q : Shared → Prop) (s : Shared) (E : Value → Shared → Prop), In Q s → wpAny (model prog w) A (match gens[d + 1]? with
        | some g' => do
          let x ← eval g'.iter env
          standAt g'.iter.pos
          let x ← if g'.is_async != 0 then foldedIterable g'.iter x else foldedSetIterable g'.iter env x
          let _ ← runOwn (.compStart (.ListComp elt gens scope pos) (d + 1) (← holding [x] (if g'.is_async != 0 then asyncIter x else pyIter x)) acc env) env
        | none => do let _ ← call (.builtin "list.append") [acc, ← eval elt env]) (fun _ s' => Q s') E s)
    (hd : gens[d]? = some ⟨tg, it, ifs, 0⟩) (hg : gens[d + 1]? = none ∨ ∃ tg1 it1 ifs1, gens[d + 1]? = some ⟨tg1, it1, ifs1, 0⟩) (Iv : Nat → Shared → Prop)
    (turn : ∀ n s, Iv n s → wpAny (model prog w) A (pyNext itv) (fun r s₁ => match r with
      | none => R (.ok .next) s₁
      | some v => wpAny (model prog w) A (letOwnedTupleGo tg itv v) (fun _ s₂ => wpAny (model prog w) A (assign tg env v) (fun _ s₃ => wpAny (model prog w) A (testsOf ifs env) (fun ok s₄ =>
          if ok = true then In (fun s₅ => ∃ m, m < n ∧ Iv m s₅) s₄ else ∃ m, m < n ∧ Iv m s₄) (fun _ _ => False) s₃) (fun _ _ => False) s₂) (fun _ _ => False) s₁) (fun _ _ => False) s)
    (n : Nat) (h : Iv n s) : codeAny (model prog w) A (.compLoop (.ListComp elt gens scope pos) d itv acc env) R s := by
  refine codeAny_loop rfl Iv (fun n s hI => ?_) n h
  show wpAny _ A ((compTurn (.ListComp elt gens scope pos) d itv acc env).onRaise (fun x => do noteFrame x env; theTreesLotGoes x)) _ _ s
  refine wpAny_noted ?_
  unfold compTurn
  simp only [hd]
  have no : ∀ {α : Type} {t : Sem α} {Q Q' : α → Shared → Prop} {E : Value → Shared → Prop} {s : Shared}, wpAny (model prog w) A t Q (fun _ _ => False) s → (∀ a s, Q a s → Q' a s) → wpAny (model prog w) A t Q' E s := fun h hq => wpAny_mono h hq fun _ _ z => z.elim
  refine wpAny_bind (wpAny_standAt (wpAny_bind (no (turn n s hI) fun r s₁ h₁ => ?_)))
  cases r with
  | none => exact wpAny_pure h₁
  | some v =>
    refine wpAny_bind (no h₁ fun _ s₂ h₂ => wpAny_bind (no h₂ fun _ s₃ h₃ => wpAny_bind (no h₃ fun ok s₄ h₄ => ?_)))
    cases ok with
    | false => exact wpAny_pure ⟨rfl, h₄⟩
    | true =>
      have z := hIn _ s₄ (notedBy (model prog w) A env fun x s' => R (.error x) s') h₄
      rcases hg with hg | ⟨tg1, it1, ifs1, hg⟩
      · rw [hg] at z ⊢
        exact wpAny_bind (wpAny_mono z (fun _ s' h' => wpAny_pure ⟨rfl, h'⟩) fun _ _ h' => h')
      · rw [hg] at z ⊢
        have z2 := wpAny_bind (f := fun _ => (again (.compLoop (.ListComp elt gens scope pos) d itv acc env) : Sem PySem.Fin)) (wpAny_mono z (fun _ s' h' => wpAny_pure (Q := fun (fin : PySem.Fin) s' => match fin with | .done f => R (.ok f) s' | .again c' => c' = Code.compLoop (.ListComp elt gens scope pos) d itv acc env ∧ ∃ m, m < n ∧ Iv m s') ⟨rfl, h'⟩) fun _ _ h' => h')
        simp only [bind_assoc, pure_bind, if_true, bne_self_eq_false, Bool.false_eq_true, if_false] at z2 ⊢
        exact z2
end
/-- a clause's inner part, at its slots and heap: the list at D, what is to be reached -/
abbrev TC := L2.St → Hp → Addr → (Hp → Prop) → Prop
structure Inner (Y : Cx) (elt : Expr) (gens : List Comprehension) (scope : Scope) (pos : Pos) (d : Nat) (tC : TC) (ws : List Nat) : Prop where
  run : ∀ (pins : List (Addr × Obj)) (s : Shared) (σ : L2.St) (H : Hp) (D : Addr) (Nx : Hp → Prop) (E : Value → Shared → Prop), Inv Y pins σ H s → tC σ H D Nx →
    wpAny (model Y.prog Y.w) Y.A (innerP elt gens scope pos d (.ref D) Y.env) (fun _ s' => ∃ H', Inv Y pins (wipe σ ws) H' s' ∧ Nx H') E s
def tEmit (te : TE) : TC := fun σ H D Nx => te σ H fun y H4 => ∃ acc, H4 D = some (.lst acc) ∧ acc.length < sizeLine ∧ Nx (upd H4 D (.lst (acc ++ [y])))
def tClause (wi : TI) (g : TG) (tt : TT) (tC : TC) (vs : List Nat) : TC := fun σ H D Nx => wi σ H fun J H1 => ∃ W : Nat → Nat → Hp → Prop, (∃ m, W 0 m H1) ∧ ∀ j k H, W j k H →
  (J.stop j H ∧ Nx H) ∨ (J.go j H ∧ ∃ Nx1 : Hp → Prop, (∀ H', Nx1 H' → ∃ k', k' < k ∧ W (j + 1) k' H') ∧ ∀ x H', J.yld j H x H' → g x (wipe σ vs) H' fun σ3 H5 => wipe σ3 vs = wipe σ vs ∧ tt σ3 H5 fun b H6 => if b = true then tC σ3 H6 D Nx1 else Nx1 H6)
section
variable {Y : Cx} {elt tg it tg1 it1 : Expr} {ifs ifs1 : List Expr} {gens : List Comprehension} {scope : Scope} {pos : Pos} {d : Nat} {te : TE} {tC : TC} {ws vs : List Nat} {wi : TI} {g : TG} {tt : TT}
theorem out_of {α : Type} {M : Model} {A : Around} {t : Sem α} {Q : α → Shared → Prop} {E E' : Value → Shared → Prop} {s : Shared} (hE : E = fun _ _ => False) (h : wpAny M A t Q E s) : wpAny M A t Q E' s := by
  subst hE
  exact wpAny_mono h (fun _ _ q => q) fun _ _ z => z.elim
theorem inner_last (hxe : Y.xe = fun _ _ => False) (hg : gens[d + 1]? = none) (he : PE Y elt te) : Inner Y elt gens scope pos d (tEmit te) [] := by
  constructor
  intro pins s σ H D Nx E I h
  unfold innerP
  rw [hg]
  refine wpAny_bind (out_of hxe (thn (he.run pins s σ H _ I h) fun z s1 hz => ?_))
  obtain ⟨y, H4, I4, r, acc, hD, hl, nx⟩ := hz
  exact wpAny_bind (app_ok I4 hD hl r fun s2 I5 => wpAny_pure ⟨_, I5, nx⟩)
theorem clause_loop (hxe : Y.xe = fun _ _ => False) (hc : Y.calm = true) (hd : gens[d]? = some ⟨tg, it, ifs, 0⟩) (hg : gens[d + 1]? = none ∨ ∃ tg1 it1 ifs1, gens[d + 1]? = some ⟨tg1, it1, ifs1, 0⟩) (pg : PG Y tg g) (pt : PTs Y ifs tt) (In : Inner Y elt gens scope pos d tC ws)
    (hws : ∀ j ∈ ws, j ∈ vs) {itv D : Addr} {fp : List Addr} {tn : Nat → Heap → Prop} {J : It} (T : Turn Y.prog Y.w Y.K tg J fp itv tn) {pins : List (Addr × Obj)} {s : Shared} {σ : L2.St} {H : Hp} {Nx : Hp → Prop} {W : Nat → Nat → Hp → Prop} {m : Nat} (I : Inv Y pins σ H s) (st : tn 0 s.heap) (f : ∀ b ∈ fp, FpOk Y pins H b)
    (w0 : W 0 m H) (turn : ∀ j k H, W j k H → (J.stop j H ∧ Nx H) ∨ (J.go j H ∧ ∃ Nx1 : Hp → Prop, (∀ H', Nx1 H' → ∃ k', k' < k ∧ W (j + 1) k' H') ∧ ∀ x H', J.yld j H x H' → g x (wipe σ vs) H' fun σ3 H5 => wipe σ3 vs = wipe σ vs ∧ tt σ3 H5 fun b H6 => if b = true then tC σ3 H6 D Nx1 else Nx1 H6)) :
    codeAny (model Y.prog Y.w) Y.A (.compLoop (.ListComp elt gens scope pos) d (.ref itv) (.ref D) Y.env) (fun r s' => match r with | .ok f => f = .next ∧ ∃ H', Inv Y pins (wipe σ vs) H' s' ∧ Nx H' | .error _ => False) s := by
  have stat : ∀ {H' : Hp}, (∀ b ∈ fp, H' b = none) → ∀ b ∈ fp, FpOk Y pins H' b := fun hn b hb => ⟨hn b hb, (f b hb).2⟩
  refine loop_by (fun Q s => ∃ (pins : List (Addr × Obj)) (σ3 : L2.St) (H6 : Hp) (Nx1 : Hp → Prop), Inv Y pins σ3 H6 s ∧ tC σ3 H6 D Nx1 ∧ ∀ s' H', Inv Y pins (wipe σ3 ws) H' s' → Nx1 H' → Q s')
    (fun Q s E ⟨pn, σ3, H6, Nx1, I6, h6, k⟩ => wpAny_mono (In.run pn s σ3 H6 D Nx1 E I6 h6) (fun _ s' ⟨H', I', n'⟩ => k s' H' I' n') fun _ _ z => z) hd hg
    (fun n s' => ∃ j H', Inv Y pins (wipe σ vs) H' s' ∧ tn j s'.heap ∧ (∀ b ∈ fp, H' b = none) ∧ W j n H') ?_ m ⟨0, H, I.weak (wipe_length _ _) (fun j v e => (wipe_some e).1), st, fun b hb => (f b hb).1, w0⟩
  rintro n s1 ⟨j, H1, I1, st1, n1, w1⟩
  rcases turn j n H1 w1 with ⟨stop, nx⟩ | ⟨go, Nx1, hN, step⟩
  · refine thnF (T.done Y rfl rfl rfl hc j pins s1 _ H1 (fun _ _ => False) I1 (stat n1) st1 stop) fun r s2 ⟨hr, I2⟩ => ?_
    subst hr
    exact ⟨rfl, H1, I2, nx⟩
  · refine thnF (T.item Y rfl rfl rfl hc j pins s1 _ H1 (fun _ _ => False) I1 (stat n1) st1 go) fun r s2 ⟨u, hr, h2⟩ => ?_
    subst hr
    refine thnF h2 fun _ s3 ⟨x, H3, I3, r3, y3, st3, n3⟩ => ?_
    have I3' := I3.pinned (stat n3) (T.obj _ _ st3)
    refine out_of hxe (thn (pg.run _ s3 _ H3 x u _ I3' r3 (step x H3 y3)) fun _ s4 h4 => ?_)
    obtain ⟨σ4, H4, I4, hw4, q4⟩ := h4
    refine out_of hxe (thn (pt.run _ s4 σ4 H4 _ I4 q4) fun b s5 h5 => ?_)
    obtain ⟨H5, I5, q5⟩ := h5
    have back : ∀ {σ5 : L2.St} {s' : Shared} {H' : Hp}, Inv Y (pins ++ pinsAt fp s3.heap) σ5 H' s' → (wipe σ vs).length = σ5.length → (∀ (i : Nat) v, (wipe σ vs)[i]? = some (some v) → σ5[i]? = some (some v)) → Nx1 H' →
        ∃ k, k < n ∧ ∃ j H', Inv Y pins (wipe σ vs) H' s' ∧ tn j s'.heap ∧ (∀ b ∈ fp, H' b = none) ∧ W j k H' := fun {σ5 s' H'} I' hl hk nx => by
      obtain ⟨k, hkn, w'⟩ := hN H' nx
      have pin' : ∀ b ∈ fp, ∀ o, s3.heap.get? b = some o → s'.heap.get? b = some o ∧ H' b = none := fun b hb o e =>
        let z := I'.pin (b, o) (List.mem_append_right _ (List.mem_append_right _ (mem_pinsAt hb e)))
        ⟨z.1, z.2.1⟩
      refine ⟨k, hkn, j + 1, H', I'.unpinned.weak hl hk, T.keep _ _ _ st3 fun b hb o e => (pin' b hb o e).1, fun b hb => ?_, w'⟩
      obtain ⟨o, e, _⟩ := T.obj _ _ st3 b hb
      exact (pin' b hb o e).2
    have l4 : (wipe σ vs).length = σ4.length := by rw [← hw4, wipe_length]
    have k4 : ∀ (i : Nat) v, (wipe σ vs)[i]? = some (some v) → σ4[i]? = some (some v) := fun i v e => by
      rw [← hw4] at e
      exact (wipe_some e).1
    cases b with
    | false => exact back I5 l4 k4 q5
    | true =>
      refine ⟨_, σ4, H5, Nx1, I5, q5, fun s' H' I' nx => back I' (l4.trans (wipe_length σ4 ws).symm) (fun i v e => ?_) nx⟩
      rw [← hw4] at e
      obtain ⟨e1, e2⟩ := wipe_some e
      rw [wipe_out fun z => e2 (hws i z)]
      exact e1
end
end LcN
/-! a clause within a clause, and the whole comprehension -/
namespace LcN
open PySem PySem.Spec PyProof.Rows L2
theorem wipe_in {σ : L2.St} {i : Nat} (hi : i < σ.length) : ∀ {vs : List Nat}, i ∈ vs → (wipe σ vs)[i]? = some none
  | [], h => by cases h
  | v :: vs, h => by
    unfold wipe
    by_cases e : v = i
    · subst e
      rw [List.getElem?_set_self (by rw [wipe_length]; exact hi)]
    · rw [List.getElem?_set_ne e]
      exact wipe_in hi ((List.mem_cons.1 h).resolve_left fun z => e z.symm)
theorem wipe_twice (σ : L2.St) (vs : List Nat) : wipe (wipe σ vs) vs = wipe σ vs := by
  refine List.ext_getElem? fun i => ?_
  by_cases h : i ∈ vs
  · by_cases hl : i < σ.length
    · rw [wipe_in hl h, wipe_in (by rw [wipe_length]; exact hl) h]
    · rw [List.getElem?_eq_none (by rw [wipe_length, wipe_length]; omega), List.getElem?_eq_none (by rw [wipe_length]; omega)]
  · rw [wipe_out h]
section
variable {prog : Program} {w : World} {A : Around} {R : Result → Shared → Prop} {s : Shared} {elt tg iter : Expr} {ifs : List Expr} {gens : List Comprehension} {scope : Scope} {pos : Pos} {d : Nat} {it acc : Value} {env : Env}
theorem startN_ok (hd : gens[d]? = some ⟨tg, iter, ifs, 0⟩) (h0 : codeAny (model prog w) A (.compLoop (.ListComp elt gens scope pos) d it acc env) R s)
    (h : wpAny (model prog w) A (pyIter it) (fun it' s' => codeAny (model prog w) A (.compLoop (.ListComp elt gens scope pos) d it' acc env) R s')
      (notedBy (model prog w) A env fun x s' => R (.error x) s') s) :
    codeAny (model prog w) A (.compStart (.ListComp elt gens scope pos) d it acc env) R s := by
  refine codeAny_of_tree ?_
  show wpAny _ _ ((compStart (.ListComp elt gens scope pos) d it acc env).onRaise (fun x => do noteFrame x env; standAt theWindowsPlace)) _ _ s
  refine wpAny_notedAt ?_
  have e : (clausesOf (.ListComp elt gens scope pos))[d]? = some ⟨tg, iter, ifs, 0⟩ := hd
  unfold compStart
  rw [e]
  show wpAny _ _ (ask >>= _) _ _ s
  refine wpAny_bind (wpAny_askSetting (wpAny_ite ?_))
  split
  · first
      | exact wpAny_bind (wpAny_pure (wpAny_pure (And.intro rfl h0)))
      | exact wpAny_pure (And.intro rfl h0)
  · first
      | exact wpAny_bind (wpAny_rule (wpAny_bind (wpAny_standAt (wpAny_bind (wpAny_mono h (fun it' s' h' => wpAny_pure (And.intro rfl h')) fun _ _ x => x)))))
      | (refine wpAny_bind (wpAny_rule ?_); show wpAny _ _ (standAt iter.pos >>= _) _ _ s; exact wpAny_bind (wpAny_standAt (wpAny_bind (wpAny_mono h (fun it' s' h' => wpAny_pure (And.intro rfl h')) fun _ _ x => x))))
end
section
variable {Y : Cx} {elt tg it : Expr} {ifs : List Expr} {gens : List Comprehension} {scope : Scope} {pos : Pos} {d : Nat} {te : TE} {tC : TC} {ws vs : List Nat} {wi : TI} {g : TG} {tt : TT}
theorem inner_more (hxe : Y.xe = fun _ _ => False) (hc : Y.calm = true) (hd : gens[d + 1]? = some ⟨tg, it, ifs, 0⟩) (hg : gens[d + 1 + 1]? = none ∨ ∃ tg1 it1 ifs1, gens[d + 1 + 1]? = some ⟨tg1, it1, ifs1, 0⟩) (pi : PI Y tg it wi) (pg : PG Y tg g) (pt : PTs Y ifs tt) (In : Inner Y elt gens scope pos (d + 1) tC ws)
    (hws : ∀ j ∈ ws, j ∈ vs) (hs : ∀ x, foldedSetIterable it Y.env x = pure x) : Inner Y elt gens scope pos d (tClause wi g tt tC vs) vs := by
  constructor
  intro pins s σ H D Nx E I h
  unfold innerP
  rw [hd]
  simp only [bne_self_eq_false, Bool.false_eq_true, if_false]
  refine wpAny_bind (out_of hxe (thn (pi.run pins s σ H _ I h) fun xv s1 hx => ?_))
  refine wpAny_bind (wpAny_standAt (wpAny_bind (wpAny_of_eq (hs xv) (wpAny_bind (wpAny_holding (out_of hxe (thn hx fun itv s2 h2 => ?_)))))))
  obtain ⟨it1, fp, tn, J, H2, e, I2, T, st2, f2, W, ⟨m, w0⟩, turn⟩ := h2
  subst e
  refine wpAny_bind (wpAny_runOwn ?_)
  rw [Around.mark_none]
  have loop := clause_loop (Nx := Nx) (D := D) hxe hc hd hg pg pt In hws T I2 st2 f2 w0 turn
  refine codeAny_mono (startN_ok hd loop (T.self Y.A 0 _ _ _ st2 loop)) fun r s' hr => ?_
  cases r with
  | ok f => exact wpAny_pure hr.2
  | error e => exact hr.elim
end
section
variable {X : Cx}
/-- a comprehension of any number of clauses: the first one's source, the new list, then what its turns owe -/
def tLcN (wi : TI) (g : TG) (tt : TT) (tC : TC) (vs : List Nat) : TE := fun σ H Q => wi σ H fun J H1 => ∀ D, H1 D = none → ∃ W : Nat → Nat → Hp → Prop, (∃ m, W 0 m (upd H1 D (.lst []))) ∧ ∀ i m H, W i m H →
  (J.stop i H ∧ Q (.ref D) H) ∨ (J.go i H ∧ ∃ Nx : Hp → Prop, (∀ H', Nx H' → ∃ m', m' < m ∧ W (i + 1) m' H') ∧ ∀ x H', J.yld i H x H' → g x (wipe σ vs) H' fun σ2 H2 => wipe σ2 vs = wipe σ vs ∧ tt σ2 H2 fun b H3 => if b = true then tC σ2 H3 D Nx else Nx H3)
theorem lcN_core {pins : List (Addr × Obj)} {s : Shared} {σ : L2.St} {H : Hp} {Q : VK} {elt tg iter : Expr} {ifs : List Expr} {rest : List Comprehension} {scope : Scope} {own : List (Str × Nat)} {ws : List Nat} {pos pos' : Pos} {wi : TI} {g : TG} {tt : TT} {tC : TC} {use : Option (Value → Sem Unit)} {Qf : Value → Shared → Prop}
    (hc : X.calm = true) (hN : X.N.Nodup) (I : Inv X pins σ H s) (hi : PI X tg iter wi) (ok : BlkOk X.N X.env.scope scope own) (hv : ∀ i ∈ ws, i ∈ own.map (·.2))
    (hr : (⟨tg, iter, ifs, 0⟩ :: rest : List Comprehension)[0 + 1]? = none ∨ ∃ tg1 it1 ifs1, (⟨tg, iter, ifs, 0⟩ :: rest : List Comprehension)[0 + 1]? = some ⟨tg1, it1, ifs1, 0⟩)
    (hg : ∀ (s : Shared) (H : Hp) (C : Addr) (cl : List (Str × Addr)) (fp : List Addr), PG (X.blk s H scope (compEnvC scope cl C X.env) fp) tg g) (ht : ∀ (s : Shared) (H : Hp) (C : Addr) (cl : List (Str × Addr)) (fp : List Addr), PTs (X.blk s H scope (compEnvC scope cl C X.env) fp) ifs tt)
    (hC : ∀ (s : Shared) (H : Hp) (C : Addr) (cl : List (Str × Addr)) (fp : List Addr), Inner (X.blk s H scope (compEnvC scope cl C X.env) fp) elt (⟨tg, iter, ifs, 0⟩ :: rest) scope pos 0 tC ws) (hs : ∀ x, foldedSetIterable iter X.env x = pure x)
    (h : tLcN wi g tt tC (own.map (·.2)) σ H Q)
    (hRR : ∀ D C s' m H', Inv X pins σ H' s' → Q (.ref D) H' → s'.heap.Ns C m → FpOk X pins H' C → compPost (model X.prog X.w) X.A X.xe use Qf (.ref D) C (.ok .next) s') :
    wpAny (model X.prog X.w) X.A (comprehension (.ListComp elt (⟨tg, iter, ifs, 0⟩ :: rest) scope pos) scope X.env pos' (newList []) false (eval iter X.env) use) Qf X.xe s := by
  have hfree : ∀ y ∈ scope.names, y.2 = .free → ∃ c, X.env.cells.lookup y.1 = some c := fun y hy e => by
    rcases ok.free y hy e with k | k
    · exact I.ok.has _ (.inl k)
    · exact I.ok.has _ (.inr k)
  refine wpAny_comprehension_free (use := use) rfl hs (closure_ok hfree) ok.kind (fun y hy e => by rw [ok.uniq y hy, e])
    (thn (hi.run pins s σ H _ I h) fun xv s1 hx => thn hx fun itv s2 h2 => ?_)
  obtain ⟨it, fp, tn, J, H2, e, I2, T, st2, f2, q⟩ := h2
  subst e
  refine wpAny_newObj_type (newEnv_comp ?_) (by show 0 ≤ sizeLine; decide)
  generalize hD : s2.heap.objs.size = D
  have hDn : H2 D = none := I2.hok.fresh (Nat.le_of_eq hD)
  obtain ⟨W, ⟨m0, w0⟩, turn⟩ := q D hDn
  generalize hs3 : ({ s2 with heap := s2.heap.push { cls := .type "list", data := .seq ([] : List Value).toArray } } : Shared) = s3
  have I3 : Inv X pins σ (upd H2 D (.lst [])) s3 := by
    rw [← hs3]
    refine I2.laid (t' := s2.toks) (fun b o e => Heap.get?_push_of_some _ e) (Nat.le_of_eq hD) ⟨Nat.zero_le _, [], 0, .nil, ?_⟩
    rw [← hD]
    exact Heap.get?_push_size _ rfl
  have h3 : s3.heap = s2.heap.push { cls := .type "list", data := .seq ([] : List Value).toArray } := by rw [← hs3]
  have sz : ∀ b ∈ fp, b < s2.heap.objs.size := fun b hb => by
    obtain ⟨o, e, _⟩ := T.obj _ _ st2 b hb
    exact Heap.lt_size e
  have f3 : ∀ b ∈ fp, FpOk X pins (upd H2 D (.lst [])) b ∧ b < s3.heap.objs.size := fun b hb => by
    have hlt := sz b hb
    refine ⟨⟨?_, (f2 b hb).2⟩, by rw [h3, Heap.size_push]; exact Nat.lt_succ_of_lt hlt⟩
    rw [upd_ne (by rw [← hD]; exact Nat.ne_of_lt hlt)]
    exact (f2 b hb).1
  have st3 : tn 0 s3.heap := T.keep _ _ _ st2 fun b _ o e => by rw [h3]; exact Heap.get?_push_of_some _ e
  have I4 := block_start I3 ok hN f3
  have pg := hg s3 (upd H2 D (.lst [])) s3.heap.objs.size (cellsFrom (s3.heap.objs.size + 1) scope.names (cloFrom X.env.cells scope.names [])) fp
  have pt := ht s3 (upd H2 D (.lst [])) s3.heap.objs.size (cellsFrom (s3.heap.objs.size + 1) scope.names (cloFrom X.env.cells scope.names [])) fp
  have pc := hC s3 (upd H2 D (.lst [])) s3.heap.objs.size (cellsFrom (s3.heap.objs.size + 1) scope.names (cloFrom X.env.cells scope.names [])) fp
  show codeAny _ _ (.compStart (.ListComp elt (⟨tg, iter, ifs, 0⟩ :: rest) scope pos) 0 (.ref it) (.ref D) (compEnvC scope (cellsFrom (s3.heap.objs.size + 1) scope.names (cloFrom X.env.cells scope.names [])) s3.heap.objs.size X.env)) (compPost (model X.prog X.w) X.A X.xe use Qf (.ref D) s3.heap.objs.size) { s3 with heap := pushCells (s3.heap.push { cls := .type "dict", data := .dict #[] }) scope.names }
  have nfp : ∀ b ∈ fp, (upd H2 D (.lst [])) b = none := fun b hb => (f3 b hb).1.1
  generalize hce : compEnvC scope (cellsFrom (s3.heap.objs.size + 1) scope.names (cloFrom X.env.cells scope.names [])) s3.heap.objs.size X.env = ce at I4 pg pt pc ⊢
  have cL : ce.locals = s3.heap.objs.size := by subst hce; rfl
  generalize hH3 : upd H2 D (.lst []) = H3 at I3 I4 pg pt pc w0 nfp f3
  generalize hs4 : ({ s3 with heap := pushCells (s3.heap.push { cls := .type "dict", data := .dict #[] }) scope.names } : Shared) = s4 at I4 ⊢
  have st4 : tn 0 s4.heap := T.keep _ _ _ st3 fun b _ o e => by rw [← hs4]; exact pushCells_keeps _ _ _ _ (Heap.get?_push_of_some _ e)
  have stat : ∀ {σ' : L2.St} {H' : Hp} {s' : Shared}, Inv (X.blk s3 H3 scope ce fp) [] σ' H' s' → (∀ b ∈ fp, H' b = none) → ∀ b ∈ fp, FpOk (X.blk s3 H3 scope ce fp) [] H' b := fun {σ' H' s'} I' hn b hb =>
    ⟨hn b hb, (I'.ok.exf b hb).1, I'.ok.exfs b hb, .inl hb, fun x c e => (I'.ok.exf b hb).2 x c e, fun p hp => absurd (show p ∈ ([] : List (Addr × Obj)) ++ [] from hp) (by simp)⟩
  have loop0 := clause_loop (Y := X.blk s3 H3 scope ce fp) (itv := it) (D := D) (vs := own.map (·.2)) (Nx := fun H' => Q (.ref D) H') rfl hc (gens := ⟨tg, iter, ifs, 0⟩ :: rest) (d := 0) rfl hr pg pt pc hv T I4 st4 (stat I4 nfp) w0
    (by rw [wipe_twice]; exact turn)
  have loop : codeAny (model X.prog X.w) X.A (.compLoop (.ListComp elt (⟨tg, iter, ifs, 0⟩ :: rest) scope pos) 0 (.ref it) (.ref D) ce) (compPost (model X.prog X.w) X.A X.xe use Qf (.ref D) s3.heap.objs.size) s4 := by
    refine codeAny_mono loop0 fun r s6 hr => ?_
    cases r with
    | error e => exact hr.elim
    | ok f =>
      obtain ⟨hf, H5, I6, qq⟩ := hr
      subst hf
      have I7 : Inv X pins σ H5 s6 := I3.call' (ch := fp) I6.os I6.base I6.hok I6.bare fun b hb => ⟨(f3 b hb).1.2.2.2.1, (f3 b hb).1.2.1, (f3 b hb).1.2.2.2.2.1, (f3 b hb).1.2.2.2.2.2⟩
      have nC : H5 s3.heap.objs.size = none := by
        have z : H5 ce.locals = none := I6.free
        rw [cL] at z
        exact z
      obtain ⟨m, hn, _⟩ := I6.loc
      have hn : s6.heap.Ns ce.locals m := hn
      rw [cL] at hn
      exact hRR D s3.heap.objs.size s6 m H5 I7 qq hn (I3.fpOk (Nat.le_refl _) nC)
  exact codeAny_compStart_list loop (T.self X.A 0 _ _ _ st4 loop)
/-- as a value -/
theorem pe_lcN {elt tg iter : Expr} {ifs : List Expr} {rest : List Comprehension} {scope : Scope} {own : List (Str × Nat)} {ws : List Nat} {pos : Pos} {wi : TI} {g : TG} {tt : TT} {tC : TC} (hc : X.calm = true) (hN : X.N.Nodup) (hi : PI X tg iter wi) (ok : BlkOk X.N X.env.scope scope own) (hv : ∀ i ∈ ws, i ∈ own.map (·.2))
    (hr : (⟨tg, iter, ifs, 0⟩ :: rest : List Comprehension)[0 + 1]? = none ∨ ∃ tg1 it1 ifs1, (⟨tg, iter, ifs, 0⟩ :: rest : List Comprehension)[0 + 1]? = some ⟨tg1, it1, ifs1, 0⟩)
    (hg : ∀ (s : Shared) (H : Hp) (C : Addr) (cl : List (Str × Addr)) (fp : List Addr), PG (X.blk s H scope (compEnvC scope cl C X.env) fp) tg g) (ht : ∀ (s : Shared) (H : Hp) (C : Addr) (cl : List (Str × Addr)) (fp : List Addr), PTs (X.blk s H scope (compEnvC scope cl C X.env) fp) ifs tt)
    (hC : ∀ (s : Shared) (H : Hp) (C : Addr) (cl : List (Str × Addr)) (fp : List Addr), Inner (X.blk s H scope (compEnvC scope cl C X.env) fp) elt (⟨tg, iter, ifs, 0⟩ :: rest) scope pos 0 tC ws) (hs : ∀ x, foldedSetIterable iter X.env x = pure x := by intro _; rfl) :
    PE X (.ListComp elt (⟨tg, iter, ifs, 0⟩ :: rest) scope pos) (tLcN wi g tt tC (own.map (·.2))) := by
  refine ⟨fun pins s σ H Q I h => ?_⟩
  rw [eval_ListComp]
  refine lcN_core hc hN I hi ok hv hr hg ht hC hs h fun D C s' m H' I' q hn f => ⟨m, hn, fun h'' sb => ?_⟩
  obtain ⟨f0, f1, f2, f3, f4, f5⟩ := f
  exact ⟨.ref D, H', I'.turned (t' := s'.toks) (fun b o hb e => (sb.2 b hb).trans e) f0 f1 f3 f4 f5, rfl, q⟩
/-- given to a name -/
theorem ps_setLcN {i : Nat} {y : Str} {py : Pos} {elt tg iter : Expr} {ifs : List Expr} {rest : List Comprehension} {scope : Scope} {own : List (Str × Nat)} {ws : List Nat} {pos spos : Pos} {wi : TI} {g : TG} {tt : TT} {tC : TC} (hc : X.calm = true) (hN : X.N.Nodup) (hy : X.N[i]? = some y) (hyl : X.env.scope.names.lookup y = some .local)
    (hsw : swapsWith (.ListComp elt (⟨tg, iter, ifs, 0⟩ :: rest) scope pos) (some (.Name y py)) spos.line X.env = pure true) (hi : PI X tg iter wi) (ok : BlkOk X.N X.env.scope scope own) (hv : ∀ i ∈ ws, i ∈ own.map (·.2))
    (hr : (⟨tg, iter, ifs, 0⟩ :: rest : List Comprehension)[0 + 1]? = none ∨ ∃ tg1 it1 ifs1, (⟨tg, iter, ifs, 0⟩ :: rest : List Comprehension)[0 + 1]? = some ⟨tg1, it1, ifs1, 0⟩)
    (hg : ∀ (s : Shared) (H : Hp) (C : Addr) (cl : List (Str × Addr)) (fp : List Addr), PG (X.blk s H scope (compEnvC scope cl C X.env) fp) tg g) (ht : ∀ (s : Shared) (H : Hp) (C : Addr) (cl : List (Str × Addr)) (fp : List Addr), PTs (X.blk s H scope (compEnvC scope cl C X.env) fp) ifs tt)
    (hC : ∀ (s : Shared) (H : Hp) (C : Addr) (cl : List (Str × Addr)) (fp : List Addr), Inner (X.blk s H scope (compEnvC scope cl C X.env) fp) elt (⟨tg, iter, ifs, 0⟩ :: rest) scope pos 0 tC ws) (hs : ∀ x, foldedSetIterable iter X.env x = pure x := by intro _; rfl) :
    PS X (.Assign [.Name y py] (.ListComp elt (⟨tg, iter, ifs, 0⟩ :: rest) scope pos) spos) (tAsg (tLcN wi g tt tC (own.map (·.2))) (gName i)) := by
  refine ⟨fun pins s σ H D I h => ?_⟩
  rw [exec_Assign_Name_used _ _ _ _ hsw]
  refine wpAny_bind (wpAny_standAt (wpAny_bind ?_))
  show wpAny _ X.A (do let _ ← comprehension (.ListComp elt (⟨tg, iter, ifs, 0⟩ :: rest) scope pos) scope X.env (firstIterPos (⟨tg, iter, ifs, 0⟩ :: rest) pos) (newList []) false (eval iter X.env) (some (assign (.Name y py) X.env))) _ _ s
  have h : tLcN wi g tt tC (own.map (·.2)) σ H (fun x H1 => gName i x σ H1 D.nx) := h
  refine wpAny_bind (thn (lcN_core (Qf := fun _ s' => SP X pins D .next s') hc hN I hi ok hv hr hg ht hC hs h fun L C s' m H' I' q hn f => ?_) fun _ s' hq => wpAny_pure (wpAny_pure hq))
  show wpAny _ _ (assign (.Name y py) X.env (.ref L)) _ _ _
  refine wpAny_assign_Name (store_ok2 (v := V.ref L) I' hN hy (.inl hyl) rfl (fun s2 I2 ⟨a, sb, ha⟩ => ?_) (.inr hyl))
  obtain ⟨f0, f1, f2, f3, f4, f5⟩ := f
  have haC : C ≠ a := by
    rcases ha with z | z
    · rw [z]; exact f1
    · exact fun e => f4 y a z e.symm
  refine ⟨m, hn.sameBut sb haC, fun h3 sb3 => ?_⟩
  exact ⟨_, H', I2.turned (t' := s2.toks) (fun b o hb e => (sb3.2 b hb).trans e) f0 f1 f3 f4 f5, q⟩
end
end LcN
/-! a range that a name holds; max(.., default=0) -/
namespace LcN
open PySem PySem.Spec PyProof.Rows L2 PySem.W
section
variable {X : Cx} {tg : Expr}
def iRngV (tl : TE) : TI := fun σ H R => tl σ H fun v H1 => ∃ (a : Addr) (j : Int), v = .ref a ∧ H1 a = some (.rng 0 j) ∧ -(2 ^ 62) ≤ j ∧ j < 2 ^ 62 ∧ R (Itr 0 j.toNat) H1
/-- a walk over a range object that stands in the heap -/
theorem pi_rng {l : Expr} {tl : TE} (hl : PE X l tl) : PI X tg l (iRngV tl) := by
  refine ⟨fun pins s σ H R I h => ?_⟩
  refine thn (hl.run pins s σ H _ I h) fun v s1 ⟨x, H1, I1, r1, q1⟩ => ?_
  obtain ⟨a, j, e, ha, h1, h2, q⟩ := q1
  subst e
  cases r1
  obtain ⟨t, u, v, ho⟩ := I1.hok _ _ ha
  refine wpAny_pyIter_range (a := 0) (b := j) (c := 1) (show IsRange s1.heap a 0 j 1 t u v from ho) (small_one (by omega) (by omega) h1 h2) ?_
  refine ⟨s1.heap.objs.size, [s1.heap.objs.size], _, _, H1, rfl,
    I1.kept (t' := s1.toks) fun b o e => Heap.get?_push_of_some _ e, turn_range _ 0 j.toNat, ?_, fun b hb => ?_, q⟩
  · have e1 : (0 : Int) + ((0 : Nat) : Int) * 1 = 0 := by simp
    have e2 : ((j.toNat : Nat) : Int) - ((0 : Nat) : Int) = Builtin.Range.rangeSize 0 j 1 := by rw [rangeSize_one]; split <;> omega
    show IsRangeIter _ _ ((0 : Int) + ((0 : Nat) : Int) * 1) (((j.toNat : Nat) : Int) - ((0 : Nat) : Int)) 1
    rw [e1, e2]
    exact Heap.get?_push_size _ rfl
  · have e : b = s1.heap.objs.size := by simpa using hb
    subst e
    exact I1.fpOk (Nat.le_refl _) (I1.hok.fresh (Nat.le_refl _))
/-- range(n) as a value -/
theorem cr_range1 : CallR X (.type "range") (fun vs H Q => ∃ j, vs = [V.int j] ∧ ∀ p, H p = none → Q (.ref p) (upd H p (.rng 0 j))) := by
  intro pins s σ H vs us Q I r h
  obtain ⟨j, rfl, q⟩ := h
  cases r with
  | cons r rr =>
    cases rr
    obtain ⟨t, rfl⟩ := r
    refine call_range_1 ⟨.ref s.heap.objs.size, upd H s.heap.objs.size (.rng 0 j), I.laid (t' := s.toks + 2) (fun b o e => Heap.get?_push_of_some _ e) (Nat.le_refl _) ?_, rfl, q _ (I.hok.fresh (Nat.le_refl _))⟩
    exact ⟨_, t, _, Heap.get?_push_size _ rfl⟩
/-- what max(ns, default=d) gives -/
def maxDef (d : Int) : List Int → Int
  | [] => d
  | n :: r => r.foldl max n
def rMaxDef (K : PySem.W.Frag) : List V → List V → Hp → VK → Prop := fun vs zs H Q => ∃ (a : Addr) (ns : List Int) (d : Int), vs = [V.ref a] ∧ zs = [V.int d] ∧ SqL K H a (ns.map V.int) ∧ Q (.int (maxDef d ns)) H
theorem depth_ints : ∀ ns : List Int, PyData.depthAll (ns.map PyData.int) ≤ 1
  | [] => Nat.zero_le _
  | n :: r => by
    have e := depth_ints r
    show max (PyData.depth (.int n)) (PyData.depthAll (r.map PyData.int)) ≤ 1
    have e1 : PyData.depth (.int n) ≤ 1 := by first | exact Nat.le_refl _ | exact Nat.zero_le _ | (unfold PyData.depth; omega)
    omega
theorem alike_ints (ns : List Int) : AlikeAll (ns.map PyData.int) := by
  constructor
  · intro x hx y hy
    obtain ⟨i, _, rfl⟩ := List.mem_map.1 hx
    obtain ⟨j, _, rfl⟩ := List.mem_map.1 hy
    unfold alike
    rfl
  · intro x hx
    obtain ⟨i, _, rfl⟩ := List.mem_map.1 hx
    exact fun z => by cases z
theorem cr_maxDef (hc : X.calm = true) (hu : X.A.units + 65 < cLine) : CallRK X (.builtin "max") [Str.ofString "default"] (rMaxDef X.K) := by
  intro pins s σ H vs zs us ws Q I r rz h
  obtain ⟨a, ns, d, rfl, rfl, hs, q⟩ := h
  obtain rfl := Vals.ref1 r
  obtain ⟨w1, rfl, e1⟩ := vals1 rz
  obtain ⟨t1, rfl⟩ := e1
  obtain ⟨its, rv, hl, hz⟩ := I.list hs
  have hi := rv.ints
  have hd := depth_ints ns
  refine max_list_default (I.ok.hd hc) hl.isList (hi.reads _) (alike_ints ns) (by omega) (fun e h' tk k => ?_) (fun y ys i v h' tk bs e hv hr k => ?_)
  · cases ns with
    | nil => exact ⟨.int d, H, I.kept k, ⟨_, rfl⟩, q⟩
    | cons n r => cases e
  · cases ns with
    | nil => cases e
    | cons n r =>
      injection e with e1 e2
      subst e1
      subst e2
      rw [maxD_ints] at hr
      cases hr
      exact ⟨.int _, H, I.kept k, ⟨_, rfl⟩, q⟩
end
end LcN
/-! a field as a target; a clause over a range that a name holds, read -/
namespace LcN
open PySem PySem.Spec PyProof.Rows L2 PySem.W
section
variable {X : Cx} {o : Expr} {ta : TE} {f : Str} {pos : Pos}
def gFld (K : PySem.W.Frag) (ta : TE) (f : Str) : TG := fun y σ H Q => ta σ H fun x H2 => ∃ a C dx fs, x = .ref a ∧ H2 a = some (.ins C dx fs) ∧ Cls K C ∧ NoAttr K C f ∧ fs.length < 1000 ∧ Q σ (upd H2 a (.ins C dx (putF f y fs)))
theorem pg_fld (ha : PE X o ta) : PG X (.Attribute o f pos) (gFld X.K ta f) := by
  refine ⟨fun pins s σ H v u Q I r h => ?_⟩
  rw [assign_Attribute]
  refine wpAny_bind (wpAny_holding (thn (ha.run pins s σ H _ I h) fun ov s1 ⟨x, H1, I1, r1, a, C, dx, fs, ex, ea, c, n, l, q⟩ => ?_))
  subst ex
  obtain rfl : ov = Value.ref a := r1
  refine wpAny_bind (wpAny_standAt (wpAny_bind (wpAny_holding (setattr_ok I1 ea c n l r fun s2 I2 => ?_))))
  exact wpAny_release ⟨σ, _, I2, q⟩
end
theorem wipe_set {σ : L2.St} {k : Nat} {x : Option V} {vs : List Nat} (h : k ∈ vs) : wipe (σ.set k x) vs = wipe σ vs := by
  refine List.ext_getElem? fun i => ?_
  by_cases hi : i ∈ vs
  · by_cases hl : i < σ.length
    · rw [wipe_in (by rw [List.length_set]; exact hl) hi, wipe_in hl hi]
    · rw [List.getElem?_eq_none (by rw [wipe_length, List.length_set]; omega), List.getElem?_eq_none (by rw [wipe_length]; omega)]
  · rw [wipe_out hi, wipe_out hi, List.getElem?_set_ne fun z => hi (by rw [← z]; exact h)]
/-- what a clause's turns over 0, .., n - 1 ask -/
theorem walk_rng {n k : Nat} {vs : List Nat} {σ : L2.St} {H : Hp} {Nx : Hp → Prop} {B : L2.St → Hp → (Hp → Prop) → Prop} (hk : k ∈ vs) (P : Nat → Hp → Prop) (h0 : P 0 H) (hn : ∀ H', P n H' → Nx H')
    (hs : ∀ j H', j < n → P j H' → B ((wipe σ vs).set k (some (.int j))) H' (P (j + 1))) :
    ∃ W : Nat → Nat → Hp → Prop, (∃ m, W 0 m H) ∧ ∀ j m H, W j m H →
      ((Itr 0 n).stop j H ∧ Nx H) ∨ ((Itr 0 n).go j H ∧ ∃ Nx1 : Hp → Prop, (∀ H', Nx1 H' → ∃ m', m' < m ∧ W (j + 1) m' H') ∧ ∀ x H', (Itr 0 n).yld j H x H' → gName k x (wipe σ vs) H' fun σ3 H5 => wipe σ3 vs = wipe σ vs ∧ tYes σ3 H5 fun b H6 => if b = true then B σ3 H6 Nx1 else Nx1 H6) := by
  refine ⟨fun i m H => m = n - i ∧ i ≤ n ∧ P i H, ⟨n, by simp, Nat.zero_le _, h0⟩, ?_⟩
  rintro i m H ⟨rfl, hi, p⟩
  by_cases hlt : i < n
  · refine .inr ⟨hlt, P (i + 1), fun H' p' => ⟨n - (i + 1), by omega, rfl, hlt, p'⟩, fun x H' y => ?_⟩
    obtain ⟨e, y⟩ := y
    subst e y
    refine ⟨by rw [wipe_set hk, wipe_twice], ?_⟩
    have z := hs i H' hlt p
    show (if true = true then B ((wipe σ vs).set k (some (.int ((0 : Int) + (i : Int))))) H' (P (i + 1)) else P (i + 1) H')
    rw [if_pos rfl, show (0 : Int) + (i : Int) = (i : Int) from Int.zero_add _]
    exact z
  · have e : i = n := by omega
    subst e
    exact .inl ⟨Nat.le_refl _, hn H p⟩
/-- a comprehension over such a range: what it asks -/
theorem lcN_rng {n k : Nat} {vs : List Nat} {σ : L2.St} {H : Hp} {Q : VK} {tl : TE} {tC : TC} (hk : k ∈ vs)
    (h : tl σ H fun v H1 => ∃ a : Addr, v = .ref a ∧ H1 a = some (.rng 0 n) ∧ n < 1000000 ∧ ∀ D, H1 D = none → ∃ P : Nat → Hp → Prop, P 0 (upd H1 D (.lst [])) ∧ (∀ H', P n H' → Q (.ref D) H') ∧
      ∀ j H', j < n → P j H' → tC ((wipe σ vs).set k (some (.int j))) H' D (P (j + 1)))
    (mono : ∀ (σ : L2.St) (H : Hp) (Q Q' : VK), (∀ v H, Q v H → Q' v H) → tl σ H Q → tl σ H Q') : tLcN (iRngV tl) (gName k) tYes tC vs σ H Q := by
  refine mono _ _ _ _ (fun v H1 ⟨a, e, ha, hn, q⟩ => ⟨a, n, e, ha, by omega, by omega, ?_⟩) h
  intro D hD
  obtain ⟨P, h0, hn', hs⟩ := q D hD
  exact walk_rng (B := fun σ3 H6 N => tC σ3 H6 D N) hk P h0 hn' hs
theorem clause_rng {n k : Nat} {vs : List Nat} {σ : L2.St} {H : Hp} {D : Addr} {Nx : Hp → Prop} {tl : TE} {tC : TC} (hk : k ∈ vs)
    (h : tl σ H fun v H1 => ∃ a : Addr, v = .ref a ∧ H1 a = some (.rng 0 n) ∧ n < 1000000 ∧ ∃ P : Nat → Hp → Prop, P 0 H1 ∧ (∀ H', P n H' → Nx H') ∧
      ∀ j H', j < n → P j H' → tC ((wipe σ vs).set k (some (.int j))) H' D (P (j + 1)))
    (mono : ∀ (σ : L2.St) (H : Hp) (Q Q' : VK), (∀ v H, Q v H → Q' v H) → tl σ H Q → tl σ H Q') : tClause (iRngV tl) (gName k) tYes tC vs σ H D Nx := by
  refine mono _ _ _ _ (fun v H1 ⟨a, e, ha, hn, q⟩ => ⟨a, n, e, ha, by omega, by omega, ?_⟩) h
  obtain ⟨P, h0, hn', hs⟩ := q
  exact walk_rng (B := fun σ3 H6 N => tC σ3 H6 D N) hk P h0 hn' hs
end LcN
/-! comprehensions of two and three clauses over one range, whose element leaves the objects as they are -/
namespace LcN
open PySem PySem.Spec PyProof.Rows L2 PySem.W
abbrev flat2 {α : Type} (n : Nat) (b : Nat → Nat → α) : List α := (List.range n).flatMap fun x => (List.range n).map (b x)
abbrev flat3 {α : Type} (n : Nat) (b : Nat → Nat → Nat → α) : List α := (List.range n).flatMap fun x => flat2 n (b x)
theorem flatMap_succ {α : Type} (j : Nat) (f : Nat → List α) : (List.range (j + 1)).flatMap f = (List.range j).flatMap f ++ f j := by
  rw [List.range_succ, List.flatMap_append]
  simp
theorem map_succ {α : Type} (j : Nat) (f : Nat → α) : (List.range (j + 1)).map f = (List.range j).map f ++ [f j] := by
  rw [List.range_succ, List.map_append]
  rfl
theorem len_flatMap {α : Type} {m : Nat} (f : Nat → List α) (h : ∀ x, (f x).length = m) : ∀ j : Nat, ((List.range j).flatMap f).length = j * m
  | 0 => by simp
  | j + 1 => by rw [flatMap_succ, List.length_append, len_flatMap f h j, h, Nat.succ_mul]
theorem len_flat2 {α : Type} {n : Nat} (b : Nat → Nat → α) (j : Nat) : ((List.range j).flatMap fun x => (List.range n).map (b x)).length = j * n := len_flatMap _ (fun x => by simp) j
theorem len_flat3 {α : Type} {n : Nat} (b : Nat → Nat → Nat → α) (j : Nat) : ((List.range j).flatMap fun x => flat2 n (b x)).length = j * (n * n) := len_flatMap _ (fun x => len_flat2 (b x) n) j
theorem tVar_mono {i : Nat} : ∀ (σ : L2.St) (H : Hp) (Q Q' : VK), (∀ v H, Q v H → Q' v H) → tVar i σ H Q → tVar i σ H Q' := fun σ H Q Q' k ⟨v, e, q⟩ => ⟨v, e, k _ _ q⟩
theorem small100 {a : Nat} (h : a ≤ 2000000) : a < sizeLine := by rw [sizeLine_eq]; omega
section
variable {n i k1 k2 k3 : Nat} {vs ws us : List Nat} {σ : L2.St} {H : Hp} {Q : VK} {te : TE} {p : Addr}
/-- the innermost clause: it adds to what the list holds -/
theorem emit_rng {D : Addr} {pre : List V} {Nx : Hp → Prop} (v : Nat → V) (hk : k1 ∈ vs) (hi : σ[i]? = some (some (.ref p))) (hp : H p = some (.rng 0 n)) (hn : n ≤ 100) (hD : H D = none) (hl : pre.length ≤ 1100000)
    (he : ∀ x, x < n → ∀ (acc : List V) (Q' : VK), Q' (v x) (upd H D (.lst acc)) → te ((wipe σ vs).set k1 (some (.int x))) (upd H D (.lst acc)) Q')
    (hN : Nx (upd H D (.lst (pre ++ (List.range n).map v)))) : tClause (iRngV (tVar i)) (gName k1) tYes (tEmit te) vs σ (upd H D (.lst pre)) D Nx := by
  have hpD : p ≠ D := fun e => by
    rw [e, hD] at hp
    cases hp
  refine clause_rng (n := n) hk ⟨_, hi, p, rfl, by rw [upd_ne hpD]; exact hp, by omega, fun j H' => H' = upd H D (.lst (pre ++ (List.range j).map v)), by simp, fun H' e => e ▸ hN, fun j H' hj e => ?_⟩ tVar_mono
  subst e
  refine he j hj _ _ ⟨_, upd_same, ?_, ?_⟩
  · refine small100 ?_
    rw [List.length_append, List.length_map, List.length_range]
    omega
  · show upd (upd H D _) D _ = upd H D (.lst (pre ++ (List.range (j + 1)).map v))
    rw [upd_upd, map_succ, List.append_assoc]
theorem rd2 (v : Nat → Nat → V) (hk1 : k1 ∈ vs) (hk2 : k2 ∈ ws) (hi : σ[i]? = some (some (.ref p))) (hi2 : ∀ x, ((wipe σ vs).set k1 (some x))[i]? = some (some (.ref p))) (hp : H p = some (.rng 0 n)) (hn : n ≤ 100)
    (he : ∀ D, H D = none → ∀ x y, x < n → y < n → ∀ (acc : List V) (Q' : VK), Q' (v x y) (upd H D (.lst acc)) → te ((wipe ((wipe σ vs).set k1 (some (.int x))) ws).set k2 (some (.int y))) (upd H D (.lst acc)) Q')
    (hQ : ∀ D, H D = none → Q (.ref D) (upd H D (.lst (flat2 n v)))) :
    tLcN (iRngV (tVar i)) (gName k1) tYes (tClause (iRngV (tVar i)) (gName k2) tYes (tEmit te) ws) vs σ H Q := by
  refine lcN_rng (n := n) hk1 ⟨_, hi, p, rfl, hp, by omega, fun D hD => ⟨fun j H' => H' = upd H D (.lst ((List.range j).flatMap fun x => (List.range n).map (v x))), rfl, fun H' e => e ▸ hQ D hD, fun j H' hj e => ?_⟩⟩ tVar_mono
  subst e
  refine emit_rng (n := n) (p := p) (v j) hk2 (hi2 _) hp hn hD ?_ (fun x hx acc Q' q => he D hD j x hj hx acc Q' q) ?_
  · rw [len_flat2]
    have : j * n ≤ 100 * 100 := Nat.mul_le_mul (by omega) hn
    omega
  · show upd H D _ = upd H D (.lst ((List.range (j + 1)).flatMap fun x => (List.range n).map (v x)))
    rw [flatMap_succ]
theorem rd3 (v : Nat → Nat → Nat → V) (hk1 : k1 ∈ vs) (hk2 : k2 ∈ ws) (hk3 : k3 ∈ us) (hi : σ[i]? = some (some (.ref p))) (hi2 : ∀ x, ((wipe σ vs).set k1 (some x))[i]? = some (some (.ref p)))
    (hi3 : ∀ x y, ((wipe ((wipe σ vs).set k1 (some x)) ws).set k2 (some y))[i]? = some (some (.ref p))) (hp : H p = some (.rng 0 n)) (hn : n ≤ 100)
    (he : ∀ D, H D = none → ∀ x y z, x < n → y < n → z < n → ∀ (acc : List V) (Q' : VK), Q' (v x y z) (upd H D (.lst acc)) →
      te ((wipe ((wipe ((wipe σ vs).set k1 (some (.int x))) ws).set k2 (some (.int y))) us).set k3 (some (.int z))) (upd H D (.lst acc)) Q')
    (hQ : ∀ D, H D = none → Q (.ref D) (upd H D (.lst (flat3 n v)))) :
    tLcN (iRngV (tVar i)) (gName k1) tYes (tClause (iRngV (tVar i)) (gName k2) tYes (tClause (iRngV (tVar i)) (gName k3) tYes (tEmit te) us) ws) vs σ H Q := by
  refine lcN_rng (n := n) hk1 ⟨_, hi, p, rfl, hp, by omega, fun D hD => ⟨fun j H' => H' = upd H D (.lst ((List.range j).flatMap fun x => flat2 n (v x))), rfl, fun H' e => e ▸ hQ D hD, fun j H' hj e => ?_⟩⟩ tVar_mono
  subst e
  have hpD : p ≠ D := fun e => by
    rw [e, hD] at hp
    cases hp
  have hl : ((List.range j).flatMap fun x => flat2 n (v x)).length ≤ 100 * (100 * 100) := by
    rw [len_flat3]
    exact Nat.mul_le_mul (by omega) (Nat.mul_le_mul hn hn)
  refine clause_rng (n := n) hk2 ⟨_, hi2 _, p, rfl, by rw [upd_ne hpD]; exact hp, by omega, fun l H' => H' = upd H D (.lst (((List.range j).flatMap fun x => flat2 n (v x)) ++ (List.range l).flatMap fun x => (List.range n).map (v j x))), by simp, fun H' e => ?_, fun l H' hl2 e => ?_⟩ tVar_mono
  · show H' = upd H D (.lst ((List.range (j + 1)).flatMap fun x => flat2 n (v x)))
    rw [e, flatMap_succ]
  · subst e
    refine emit_rng (n := n) (p := p) (v j l) hk3 (hi3 _ _) hp hn hD ?_ (fun x hx acc Q' q => he D hD j l x hj hl2 hx acc Q' q) ?_
    · have h2 : l * n ≤ 100 * 100 := Nat.mul_le_mul (by omega) hn
      have h3 := len_flat2 (n := n) (v j) l
      rw [List.length_append, h3]
      omega
    · show upd H D _ = upd H D (.lst (((List.range j).flatMap fun x => flat2 n (v x)) ++ (List.range (l + 1)).flatMap fun x => (List.range n).map (v j x)))
      rw [flatMap_succ, List.append_assoc]
end
theorem ix_listK {X : Cx} (K : PySem.W.Frag) (e : X.K = K) : IxR X (rIxL K) := by
  subst e
  exact ix_list
theorem ix_tupK {X : Cx} (K : PySem.W.Frag) (e : X.K = K) : IxR X (rIxT K) := by
  subst e
  exact ix_tup
theorem in_seqK {X : Cx} (K : PySem.W.Frag) (e : X.K = K) : OpR X (compareOp .In) (rIn K false) := by
  subst e
  exact op_in_seq
end LcN
/-! clauses of a comprehension over any walk -/
namespace LcN
open PySem PySem.Spec PyProof.Rows L2
section
variable {J : It} {n : Nat} {G : Hp → Prop} {Y : Nat → Hp → V → Hp → Prop} {g : TG} {tt : TT} {tC : TC} {vs : List Nat} {σ : L2.St} {H1 : Hp} {D : Addr} {Qd : Hp → Prop}
theorem clause_it (w : Walk J n G Y) (Pv : Nat → Hp → Prop) (h0 : Pv 0 H1) (hG : ∀ i H, i ≤ n → Pv i H → G H)
    (hs : ∀ i x H H', i < n → Pv i H → Y i H x H' → g x (wipe σ vs) H' fun σ2 H2 => wipe σ2 vs = wipe σ vs ∧ tt σ2 H2 fun b H3 => if b = true then tC σ2 H3 D (Pv (i + 1)) else Pv (i + 1) H3) (hd : ∀ H, Pv n H → Qd H) :
    ∃ W : Nat → Nat → Hp → Prop, (∃ m, W 0 m H1) ∧ ∀ i m H, W i m H →
      (J.stop i H ∧ Qd H) ∨ (J.go i H ∧ ∃ Nx : Hp → Prop, (∀ H', Nx H' → ∃ m', m' < m ∧ W (i + 1) m' H') ∧ ∀ x H', J.yld i H x H' → g x (wipe σ vs) H' fun σ2 H2 => wipe σ2 vs = wipe σ vs ∧ tt σ2 H2 fun b H3 => if b = true then tC σ2 H3 D Nx else Nx H3) := by
  refine ⟨fun i m H => m = n - i ∧ i ≤ n ∧ Pv i H, ⟨n, by simp, Nat.zero_le _, h0⟩, ?_⟩
  rintro i m H ⟨rfl, hi, p⟩
  by_cases lt : i < n
  · exact .inr ⟨w.goes i H lt (hG i H hi p), Pv (i + 1), fun H' p' => ⟨n - (i + 1), by omega, rfl, lt, p'⟩, fun x H' y => hs i x H H' lt p (w.yields i H x H' lt (hG i H hi p) y)⟩
  · have e : i = n := by omega
    subst e
    exact .inl ⟨w.stops H (hG i H hi p), hd H p⟩
end
end LcN
/-! enumerate of a tuple -/
namespace EM
open PySem PySem.Spec PyProof.Rows L2
/-- the enumerate object at e, made over the iterator o -/
abbrev enumO (it : Addr) : Obj := { cls := .type "enumerate", data := .fields #[.none, .bool false, .ref it, rawInt 0, .none, .none] }
theorem meets_enum1 {v : Value} {o : Obj} {Hs : Heap → Prop} (B : Begins v o Hs) :
    Meets (Builtin.«enumerate.__new__» ⟨[.type "enumerate", v], []⟩) (fun _ R s => Hs s.heap ∧ R (.ok (.ret (.ref (s.heap.push o).objs.size))) { s with heap := (s.heap.push o).push (enumO s.heap.objs.size) }) := by
  refine Meets.of_wp fun prog w A R s hh => ?_
  obtain ⟨hp, ge, dr, tk, os⟩ := s
  obtain ⟨h1, hh⟩ := hh
  have hsub := sub_enumerate
  have go : ∀ {A' : Around} {E' : Value → Shared → Prop} {Q' : Value → Shared → Prop}, Q' (.ref hp.objs.size) ⟨hp.push o, ge, dr, tk, os⟩ → wpAny (model prog w) A' (pyIter v) Q' E' ⟨hp, ge, dr, tk, os⟩ :=
    fun q => B.iter prog w _ _ ⟨hp, ge, dr, tk, os⟩ _ h1 q
  wp_walk using go
  refine wpAny_stack_any (fun st0 => wpAny_pure ?_)
  split
  · rename_i c _ _ _ _ _
    cases (c == Value.type "enumerate")
    · wp_walk using go
      exact ⟨_, rfl, hh⟩
    · wp_walk using go
      exact ⟨_, rfl, hh⟩
  · wp_walk using go
    exact ⟨_, rfl, hh⟩
theorem call_enumT {prog : Program} {w : World} {A : Around} {E : Value → Shared → Prop} {s : Shared} {v : Value} {o : Obj} {Hs : Heap → Prop} {Q : Value → Shared → Prop} (B : Begins v o Hs) (h1 : Hs s.heap)
    (h : ∀ h', IsEnum h' (s.heap.objs.size + 1) s.heap.objs.size 0 .none → h'.get? s.heap.objs.size = some o → (∀ b ob, s.heap.get? b = some ob → h'.get? b = some ob) → Q (.ref (s.heap.objs.size + 1)) { s with heap := h' }) :
    wpAny (model prog w) A (call (.type "enumerate") [v]) Q E s := by
  have hz : (s.heap.push o).objs.size = s.heap.objs.size + 1 := Heap.size_push ..
  have he : IsEnum ((s.heap.push o).push (enumO s.heap.objs.size)) (s.heap.objs.size + 1) s.heap.objs.size 0 .none := by
    have e := Heap.get?_push_size (s.heap.push o) (o := enumO s.heap.objs.size) rfl
    rw [hz] at e
    exact e
  refine callType_new F.called_enumerate (by decide) (F.typeCall_enumerate_1 _) (F.newCall_enumerate_1 _) (fun ob => F.args_object_init_2 ob _) F.entry_enumerate_new (meets_enum1 B) ⟨h1, ?_⟩
  show _ ∧ _
  rw [hz]
  exact ⟨⟨_, he, rfl⟩, h _ he (Heap.get?_push_of_some _ (Heap.get?_push_size _ B.free)) (fun b ob x => Heap.get?_push_of_some _ (Heap.get?_push_of_some _ x))⟩
/-- the tuple at a as it stands at each turn, its items with their places -/
def IteT (K : PySem.W.Frag) (a : Addr) : It where
  go := fun i H => ∃ xs : List V, SqT K H a xs ∧ i < xs.length
  yld := fun i H v H' => ∃ T x, v = .ref T ∧ H T = none ∧ H' = upd H T (.tup [.int (i : Nat), x]) ∧ ∀ xs, SqT K H a xs → xs[i]? = some x
  stop := fun i H => ∃ xs : List V, SqT K H a xs ∧ i = xs.length
def TnE (e it a : Addr) (i : Nat) (h : Heap) : Prop := (∃ old, IsEnum h e it ((0 : Int) + (i : Int)) old) ∧ h.IsTupleIter it a i ∧ e ≠ it ∧ a ≠ e
theorem three {c e it : Addr} (m : c ∈ [e, it]) : c = e ∨ c = it := by simpa using m
theorem turn_enumT {P : Program} {w : World} {K : PySem.W.Frag} {elts : List Expr} {kk : Nat} {tpos : Pos} (e it a : Addr) : Turn P w K (.Tuple elts kk tpos) (IteT K a) [e, it] e (TnE e it a) := by
  refine ⟨by simp, fun i h st c hc => ?_, fun i h h' st k => ?_, ?_, ?_, fun A i s Q E st q => ?_⟩
  · obtain ⟨⟨old, he⟩, ⟨o, e1, _, d1⟩, _⟩ := st
    rcases three hc with rfl | rfl
    · exact ⟨_, he, fun v q => by cases q⟩
    · exact ⟨o, e1, fun v q => by rw [d1] at q; cases q⟩
  · obtain ⟨⟨old, he⟩, h1, n1, n2⟩ := st
    exact ⟨⟨old, k e (by simp) _ he⟩, h1.at (fun o q => k it (by simp) o q), n1, n2⟩
  · intro X hP hw hK hc i pins s σ H E I hf st hg
    subst hP hw hK
    obtain ⟨⟨old, he⟩, h1, n1, n2⟩ := st
    obtain ⟨xs, qx, hi⟩ := hg
    obtain ⟨its, rv, p, _⟩ := I.tuple qx
    have l1 := rv.length
    have na : a ≠ it := fun q => by
      obtain ⟨o1, e1, c1, d1⟩ := h1
      obtain ⟨o2, e2, c2, _⟩ := p
      rw [q, e1] at e2
      cases e2
      rw [c1] at c2
      injection c2 with c2
      exact absurd c2 (by decide)
    have W := WalksT.enumFrom 0 (Draws.tuple (prog := X.prog) (w := X.w) (A := X.A.in1) (I.ok.hd hc) it a na its.toArray) e n1 (by
      intro m
      rcases List.mem_cons.mp m with m | m
      · exact n1 m
      · exact n2 (List.mem_singleton.mp m).symm) (by simp)
    refine W.item i s _ _ (by simp only [List.size_toArray]; omega) ⟨⟨old, he⟩, h1, p⟩ fun T vals h' tk hv hT hTt mid hk => ?_
    obtain ⟨t, u, hu, rfl⟩ := hv
    obtain ⟨v1, hv1, ru⟩ := rv.get (List.getElem?_eq_getElem hi)
    have ev1 : v1 = u := by
      have : its[i]? = some u := by simpa using hu
      rw [hv1] at this
      exact Option.some.inj this
    subst ev1
    refine ⟨_, rfl, W.go elts kk tpos i T { s with heap := h', toks := tk } _ _ mid fun h'' st'' hk2 => ?_⟩
    have hap := W.apart i T h' mid
    have hT2 : h''.IsTuple T #[.int ((0 : Int) + (i : Int)) t, v1] := hTt.at fun o q => hk2 T o hap q
    have new : ObjOk X.prog X.w (upd H T (.tup [.int (i : Nat), xs[i]])) h'' T (.tup [.int (i : Nat), xs[i]]) := by
      obtain ⟨o, ho, hcl, n, hd⟩ := hT2
      exact ⟨by show 2 ≤ sizeLine; decide, [.int ((0 : Int) + (i : Int)) t, v1], .cons ⟨t, by rw [Int.zero_add]⟩ (.cons ru .nil), ⟨o, ho, hcl, n, hd⟩⟩
    have I1 : Inv X pins σ (upd H T (.tup [.int (i : Nat), xs[i]])) { s with heap := h'', toks := tk } :=
      I.turnedNew (t' := tk) (ch := [e, it]) (fun c o hb q => hk2 c o hb (hk c o hb q)) hf hT new
    obtain ⟨⟨old2, m1⟩, m2, _⟩ := st''
    refine ⟨.ref T, _, I1, rfl, ⟨T, xs[i], rfl, I.hok.fresh hT, rfl, fun l hl => ?_⟩, ⟨⟨old2, m1⟩, m2, n1, n2⟩, fun c hcm => ?_⟩
    · rw [I.tuple_inj hl qx]
      exact List.getElem?_eq_getElem hi
    · have hlt : c < s.heap.objs.size := by
        rcases three hcm with rfl | rfl
        · exact Heap.lt_size he
        · obtain ⟨_, e1, _⟩ := h1; exact Heap.lt_size e1
      rw [upd_ne (Nat.ne_of_lt (Nat.lt_of_lt_of_le hlt hT))]
      exact (hf c hcm).1
  · intro X hP hw hK hc i pins s σ H E I hf st hg
    subst hP hw hK
    obtain ⟨⟨old, he⟩, h1, n1, n2⟩ := st
    obtain ⟨xs, qx, hi⟩ := hg
    obtain ⟨its, rv, p, _⟩ := I.tuple qx
    have l1 := rv.length
    have na : a ≠ it := fun q => by
      obtain ⟨o1, e1, c1, d1⟩ := h1
      obtain ⟨o2, e2, c2, _⟩ := p
      rw [q, e1] at e2
      cases e2
      rw [c1] at c2
      injection c2 with c2
      exact absurd c2 (by decide)
    have W := WalksT.enumFrom 0 (Draws.tuple (prog := X.prog) (w := X.w) (A := X.A.in1) (I.ok.hd hc) it a na its.toArray) e n1 (by
      intro m
      rcases List.mem_cons.mp m with m | m
      · exact n1 m
      · exact n2 (List.mem_singleton.mp m).symm) (by simp)
    have ei : i = its.toArray.size := by simp only [List.size_toArray]; omega
    subst ei
    refine W.done s _ _ ⟨⟨old, he⟩, h1, p⟩ fun h' tk hk => ⟨rfl, ?_⟩
    exact I.turnedL (t' := tk) (ch := [e, it]) (fun c o hb q => hk c o hb q) hf
  · obtain ⟨⟨old, he⟩, _⟩ := st
    exact wpAny_pyIter_enum he q
def iEnumT (K : PySem.W.Frag) (ta : TA) : TI := fun σ H R => ta σ H fun vs H1 => ∃ a xs, vs = [.ref a] ∧ SqT K H1 a xs ∧ R (IteT K a) H1
theorem pi_enumT {X : Cx} (K : PySem.W.Frag) (hK : X.K = K) {e : Expr} {ta : TA} {p pos tpos : Pos} {elts : List Expr} {kk : Nat} (hg : Gl X "enumerate") (hm : X.mg "enumerate" = none) (ha : PA X [e] ta) (hs : starEach [e] X.env = [(false, eval e X.env)] := by rfl) :
    PI X (.Tuple elts kk tpos) (.Call (.Name "enumerate" p) [e] [] pos) (iEnumT K ta) := by
  subst hK
  constructor
  intro pins s σ H R I h
  refine Call_ (ld_blt I hg hm boot_enumerate (PyProof.Rows.callWith_type1 (thn (ha.run pos pins s σ H _ I h) fun us s1 ⟨vs, H1, I1, r1, q1⟩ => ?_) hs rfl))
  obtain ⟨a, xs, ex, qx, q⟩ := q1
  subst ex
  cases r1 with
  | cons r rr =>
    cases rr
    cases r
    obtain ⟨its, rv, p1, _⟩ := I1.tuple qx
    obtain ⟨o1, ho1, _⟩ := id p1
    have la : a < s1.heap.objs.size := Heap.lt_size ho1
    refine call_enumT (begins_tuple a its.toArray) p1 fun h' he hit hk => wpAny_pyIter_enum he ?_
    have I2 : Inv X pins σ H1 { s1 with heap := h' } := I1.kept (t' := s1.toks) hk
    refine ⟨s1.heap.objs.size + 1, [s1.heap.objs.size + 1, s1.heap.objs.size], _, _, H1, rfl, I2, turn_enumT (s1.heap.objs.size + 1) s1.heap.objs.size a, ⟨⟨.none, he⟩, ⟨_, hit, rfl, rfl⟩, Nat.succ_ne_self _, Nat.ne_of_lt (Nat.lt_succ_of_lt la)⟩, fun b hb => ?_, q⟩
    have hle : s1.heap.objs.size ≤ b := by
      rcases three hb with z | z
      · rw [z]; exact Nat.le_add_right _ _
      · rw [z]; exact Nat.le_refl _
    exact I1.fpOk hle (I1.hok.fresh hle)
theorem walk_enumT {K : PySem.W.Frag} {a : Addr} {xs : List V} : Walk (IteT K a) xs.length (fun H => SqT K H a xs) (YPair (fun i => some (.int (i : Nat))) (fun i => xs[i]?)) := by
  refine ⟨fun i _ hi q => ⟨xs, q, hi⟩, fun _ q => ⟨xs, q, rfl⟩, fun i H v H' _ q y => ?_⟩
  obtain ⟨T, x, h1, h2, h3, h4⟩ := y
  exact ⟨T, .int (i : Nat), x, h1, h2, h3, rfl, h4 xs q⟩
end EM
/-! own defs with *args, properties, methods, makers by position, len -/
namespace OwO
open PySem PySem.Spec PyProof.Rows L2
section
variable {X : Cx} {k : Nat} {C f : Addr} {fd : FuncData} {ps : List Str} {sp : Sp}
/-- len(o), by an own __len__ -/
theorem cr_len {m : Str} (hm : m = "__len__") (S : Spc X.K C m f) (F : FnOk X.prog X.w X.K X.mg X.base CX0 k f fd ps sp) (hb : Binds X.K fd ps []) (hr : Room (k + 1) X.A) :
    CallR X (.builtin "len") (fun xs H Q => ∃ a dx fs, xs = [.ref a] ∧ H a = some (.ins C dx fs) ∧ sp [.ref a] H (fun v H' => ∃ n : Nat, v = .int n ∧ n < 1000000 ∧ Q (.int n) H') E0) := by
  subst hm
  intro pins s σ H xs us Q I r h
  obtain ⟨a, dx, fs, rfl, ha, hsp⟩ := h
  obtain rfl := Vals.ref1 r
  obtain ⟨mA, J, _⟩ := ins_get I.hok ha
  obtain ⟨od, J, _⟩ := J.look
  obtain ⟨m, hF⟩ := I.fr
  have hl := F.len _ _ _ _ hsp
  refine PySem.W.len_K hF I.ok.mod.kin J S.at_ S.fn ?_
  refine wpAny_call (codeAny_mono (F.run X.A.in1 X.stack s H ⟨[.ref a], []⟩ [.ref a] [.ref a] _ E0 hr.in1 I.env0.in1 (hb s [.ref a] I.kIn (by simpa using hl)) (.cons rfl .nil) hsp) fun r s' hq => ?_)
  cases r with
  | error e => exact (show False from hq).elim
  | ok fl =>
    cases fl with
    | ret w =>
      obtain ⟨v, H', I', rv, n, rfl, hn, q⟩ := I.after hq
      obtain ⟨t, rfl⟩ := rv
      refine ⟨⟨by omega, by omega⟩, .int n, H', I'.tok _, ⟨_, rfl⟩, q⟩
    | next => exact False.elim hq
    | brk => exact False.elim hq
    | cont => exact False.elim hq
end
end OwO
namespace My
open PySem PySem.Spec PyProof.Rows L2
/-! ### a def by its positional values -/
structure HasR (P : Program) (w : World) (K : PySem.W.Frag) (mg : Str → Option Value) (base : Heap) (k : Nat) (x : Str) (sp : Sp) : Prop where
  ex : ∃ f : Addr, FnR P w K mg base CX0 k f sp ∧ mg x = some (.ref f) ∧ PySem.W.keepIn K (.ref f) = true
section
variable {X : Cx} {k : Nat} {x : Str} {sp : Sp} {p pos : Pos} {e : Expr} {es : List Expr} {t : TA} {te : TE}
theorem pe_ownR (h : HasR X.prog X.w X.K X.mg X.base k x sp) (hr : Room k X.A) (hg : Gl X x) (ha : PA X (e :: es) t) (hdb : (x == ("__debug__" : Str)) = false := by decide)
    (he : starEach (e :: es) X.env = (false, eval e X.env) :: starEach es X.env := by rfl) (hpl : (backTo pos (starEach es X.env)).any (·.1) = false := by rfl) : PE X (.Call (.Name x p) (e :: es) [] pos) (fun σ H Q => t σ H fun vs H1 => sp vs H1 Q E0) := by
  obtain ⟨f, F, m, kp⟩ := h.ex
  constructor
  intro pins s σ H Q I h
  apply wpAny_Call_Name_kw (ld_glob I hg m ?_ hdb)
  apply PySem.W.callWith_K (h₀ := X.base) I.ok.mod.kin kp _ he hpl
  apply thn (ha.run pos pins s σ H _ I h)
  rintro us s1 ⟨vs, H1, I1, r, q⟩
  exact ⟨I1.kIn, wpAny_call (run_fnR F hr pass0 I1 r q)⟩
def tOwnS (K : PySem.W.Frag) (sp : Sp) (te : TE) : TE := fun σ H Q => te σ H fun y H1 => ∃ a xs, y = V.ref a ∧ (SqT K H1 a xs ∨ SqL K H1 a xs) ∧ sp xs H1 Q E0
/-- x(*e) -/
theorem pe_ownS {q : Pos} (K : PySem.W.Frag) (hK : X.K = K) (h : HasR X.prog X.w X.K X.mg X.base k x sp) (hr : Room k X.A) (hg : Gl X x) (he : PE X e te) (hdb : (x == ("__debug__" : Str)) = false := by decide) :
    PE X (.Call (.Name x p) [.Starred e q] [] pos) (tOwnS K sp te) := by
  subst hK
  obtain ⟨f, F, m, kp⟩ := h.ex
  exact StX.pe_callS1 F hr kp hg m pass0 he (hd := hdb)
end
/-! ### properties, methods -/
structure HasPr (P : Program) (w : World) (K : PySem.W.Frag) (mg : Str → Option Value) (base : Heap) (k : Nat) (C : Addr) (n : Str) (sp : Sp) : Prop where
  ex : ∃ (p g : Addr) (fd : FuncData), PropOf K C n p g ∧ FnOk P w K mg base CX0 k g fd ["self"] sp ∧ Binds K fd ["self"] []
theorem pe_pr {X : Cx} {k : Nat} {C : Addr} {n : Str} {sp : Sp} {e : Expr} {ta : TE} {pos : Pos} (c : Cls X.K C) (h : HasPr X.prog X.w X.K X.mg X.base k C n sp) (hr : Room (k + 1) X.A) (he : PE X e ta) (hab : attributeBase e n X.env (eval e X.env) = eval e X.env) :
    PE X (.Attribute e n pos) (tProp C sp [] E0 ta) := by
  obtain ⟨p, g, fd, hp, F, b⟩ := h.ex
  exact pe_prop he c hp F hr b .nil pass0 hab
structure HasM (P : Program) (w : World) (K : PySem.W.Frag) (mg : Str → Option Value) (base : Heap) (k : Nat) (C : Addr) (m : Str) (ps : List Str) (sp : Sp) : Prop where
  ex : ∃ (f : Addr) (fd : FuncData), FnOk P w K mg base CX0 k f fd ps sp ∧ Meth K C m f ∧ Binds K fd ps []
section
variable {X : Cx} {k : Nat} {m : Str} {ps : List Str} {sp : Sp} {pos apos : Pos} {o e : Expr} {es : List Expr} {ta : TE} {t : TA} {C : Addr}
theorem pe_ownM {pl : Sem Bool} (c : Cls X.K C) (h : HasM X.prog X.w X.K X.mg X.base k C m ps sp) (hr : Room k X.A) (he : PE X o ta) (ha : PA X (e :: es) t)
    (hst : starEach (e :: es) X.env = (false, eval e X.env) :: starEach es X.env := by rfl) (hpl : (backTo pos (starEach es X.env)).any (·.1) = false := by rfl)
    (ht : eval (.Call (.Attribute o m apos) (e :: es) [] pos) X.env = (do
      let ov ← eval o X.env
      standAt apos.atName
      let (f, first) ← holding [ov] (getMethod ov m pl)
      callWith pos f first (backTo pos (starEach (e :: es) X.env)) (backToKw pos (keywordEach [] X.env))) := by rfl) :
    PE X (.Call (.Attribute o m apos) (e :: es) [] pos) (tMeth C m sp [] E0 ta t) := by
  obtain ⟨f, fd, F, M, b⟩ := h.ex
  exact pe_meth he c M F hr b .nil pass0 ha hst hpl ht
theorem pe_ownM0 {pl : Sem Bool} (c : Cls X.K C) (h : HasM X.prog X.w X.K X.mg X.base k C m ps sp) (hr : Room k X.A) (he : PE X o ta)
    (ht : eval (.Call (.Attribute o m apos) [] [] pos) X.env = (do
      let ov ← eval o X.env
      standAt apos.atName
      let (f, first) ← holding [ov] (getMethod ov m pl)
      callWith pos f first (backTo pos (starEach [] X.env)) (backToKw pos (keywordEach [] X.env))) := by rfl) :
    PE X (.Call (.Attribute o m apos) [] [] pos) (tMeth C m sp [] E0 ta tNil) := by
  obtain ⟨f, fd, F, M, b⟩ := h.ex
  exact pe_meth0 he c M F hr b .nil pass0 ht
end
/-! ### a maker by position -/
structure HasC (P : Program) (w : World) (K : PySem.W.Frag) (mg : Str → Option Value) (base : Heap) (k : Nat) (x : Str) (C : Addr) (ps : List Str) (sp : Sp) : Prop where
  ex : ∃ (f : Addr) (fd : FuncData), Mk K C f ∧ FnOk P w K mg base CX0 k f fd ps sp ∧ mg x = some (.ref C) ∧ Binds K fd ps []
theorem pe_mkC {X : Cx} {k : Nat} {x : Str} {C : Addr} {ps : List Str} {sp : Sp} {p pos : Pos} {e : Expr} {es : List Expr} {t : TA} (h : HasC X.prog X.w X.K X.mg X.base k x C ps sp) (hx : Passes CX0 X E0) (hr : Room (k + 1) X.A) (hg : Gl X x) (ha : PA X (e :: es) t)
    (hdb : (x == ("__debug__" : Str)) = false := by decide) (he : starEach (e :: es) X.env = (false, eval e X.env) :: starEach es X.env := by rfl) (hpl : (backTo pos (starEach es X.env)).any (·.1) = false := by rfl) : PE X (.Call (.Name x p) (e :: es) [] pos) (tMake C sp [] E0 t) := by
  obtain ⟨f, fd, M, F, m, b⟩ := h.ex
  exact pe_make M F hr hg m b .nil hx ha hdb he hpl
/-! ### pairs of lists -/
theorem pget {α β : Type} {F : α → β → Prop} : ∀ {xs : List α} {ys : List β} {i : Nat} {x : α} {y : β}, Paired F xs ys → xs[i]? = some x → ys[i]? = some y → F x y
  | _, _, i, x, y, .nil, hx, _ => by simp at hx
  | _, _, 0, x, y, .cons r _, hx, hy => by
    cases hx
    cases hy
    exact r
  | _, _, i + 1, x, y, .cons _ t, hx, hy => pget t (i := i) (by simpa using hx) (by simpa using hy)
theorem plen {α β : Type} {F : α → β → Prop} : ∀ {xs : List α} {ys : List β}, Paired F xs ys → xs.length = ys.length
  | _, _, .nil => rfl
  | _, _, .cons _ t => congrArg (· + 1) (plen t)
theorem pmono {α β : Type} {F G : α → β → Prop} (h : ∀ a b, F a b → G a b) : ∀ {xs : List α} {ys : List β}, Paired F xs ys → Paired G xs ys
  | _, _, .nil => .nil
  | _, _, .cons r t => .cons (h _ _ r) (pmono h t)
theorem papp {α β : Type} {F : α → β → Prop} : ∀ {xs : List α} {ys : List β} {us : List α} {vs : List β}, Paired F xs ys → Paired F us vs → Paired F (xs ++ us) (ys ++ vs)
  | _, _, _, _, .nil, h => h
  | _, _, _, _, .cons r t, h => .cons r (papp t h)
/-- the i-th pair, by the place on the left -/
theorem pat {α β : Type} {F : α → β → Prop} {xs : List α} {ys : List β} {i : Nat} (h : Paired F xs ys) (hi : i < ys.length) : ∃ x y, xs[i]? = some x ∧ ys[i]? = some y ∧ F x y := by
  have e := plen h
  have hx : xs[i]? = some (xs[i]'(by omega)) := List.getElem?_eq_getElem (by omega)
  have hy : ys[i]? = some ys[i] := List.getElem?_eq_getElem hi
  exact ⟨_, _, hx, hy, pget h hx hy⟩
theorem pmem {α β : Type} {F G : α → β → Prop} : ∀ {xs : List α} {ys : List β}, Paired F xs ys → (∀ a b, b ∈ ys → F a b → G a b) → Paired G xs ys
  | _, _, .nil, _ => .nil
  | _, _, .cons r t, h => .cons (h _ _ List.mem_cons_self r) (pmem t fun a b m z => h a b (List.mem_cons_of_mem _ m) z)
theorem decI (a b : Int) : decide (V.int a = V.int b) = decide (a = b) := by
  by_cases z : a = b
  · subst z
    rw [decide_eq_true rfl, decide_eq_true rfl]
  · rw [decide_eq_false z, decide_eq_false]
    intro y
    injection y with y
    exact z y
/-- the i-th of a mapped list -/
theorem at_map {α : Type} {f : α → V} {xs : List α} {i : Nat} {v : V} (h : (xs.map f)[i]? = some v) : ∃ x, xs[i]? = some x ∧ v = f x := by
  rw [List.getElem?_map] at h
  cases hi : xs[i]? with
  | none => rw [hi] at h; cases h
  | some x =>
    rw [hi] at h
    exact ⟨x, rfl, (Option.some.inj h).symm⟩
theorem at_some {α : Type} {f : α → V} {xs : List α} {i : Nat} {x : α} (h : xs[i]? = some x) : (xs.map f)[i]? = some (f x) := by
  rw [List.getElem?_map, h]
  rfl
theorem take_snoc {α : Type} {xs : List α} {i : Nat} {x : α} (h : xs[i]? = some x) : xs.take (i + 1) = xs.take i ++ [x] := by
  rw [List.take_add_one, h]
  rfl
end My
/-! an own error whose __init__ says super().__init__(a text) and stores what it got and its code -/
namespace PySem
namespace ErrX
open PySem.W PySem.Calls PyProof.Rows PySem.HandSPX
/-- the statements of such an __init__: the field is called f, the code is q -/
def eArgs (f : Str) (p1 p2 : Pos) : Arguments := { posonlyargs := [], args := [{ arg := "self", annotation := none, pos := p1 }, { arg := f, annotation := none, pos := p2 }], vararg := none, kwonlyargs := [], kw_defaults := [], kwarg := none, defaults := [] }
def eBody (f msg q : Str) (k1 k2 : Nat) (a1 a2 a3 a4 a5 a6 b1 b2 b3 b4 c1 c2 c3 c4 : Pos) : List Stmt :=
  [.Expr (.Call (.Attribute (.Call (.Name "super" a1) [] [] a2) "__init__" a3) [.Constant (.str msg) k1 a4] [] a5) a6,
   .Assign [.Attribute (.Name "self" b1) f b2] (.Name f b3) b4,
   .Assign [.Attribute (.Name "self" c1) "code" c2] (.Constant (.str q) k2 c3) c4]
def eScope (f : Str) : Scope := { kind := .function, names := [(PySem.Str.ofString "self", .local), (f, .local), (PySem.Str.ofString "__class__", .free), (PySem.Str.ofString "super", .globalImplicit)], isGenerator := false, isCoroutine := false, more := [] }
/-- how the first statement's call is evaluated -/
def InitEval (msg : Str) (k1 : Nat) (a1 a2 a3 a4 a5 : Pos) : Prop := ∃ pl : Sem Bool, ∀ env : Env,
  eval (.Call (.Attribute (.Call (.Name "super" a1) [] [] a2) "__init__" a3) [.Constant (.str msg) k1 a4] [] a5) env = (do
    let ov ← attributeBase (.Call (.Name "super" a1) [] [] a2) "__init__" env (eval (.Call (.Name "super" a1) [] [] a2) env)
    standAt a3.atName
    let (g, first) ← holding [ov] (getMethod ov "__init__" pl)
    callWith a5 g first (backTo a5 (starEach [.Constant (.str msg) k1 a4] env)) [])
/-- what the written part says of the class at C, of its __init__ at fI, of the cell cc that holds the class, of the code object cd -/
structure ErrTxt (prog : Program) (K : Frag) (mg : Str → Option Value) (nm f q : Str) (C fI cc cd : Addr) : Prop where
  gC : mg nm = some (.ref C)
  gS : mg "super" = none
  cls : ∃ nm' q' N bs bm sn sub ab col dd k0 k1 k2 k3 k5, K.lookup C = some (excClassObj nm' q' C N bs bm true sn sub ab col dd k0 k1 k2 k3 k5 "ValueError.__new__") ∧ refsVE bm = true ∧ alongIn K "__init__" bm = some (some (.builtin "ValueError.__init__"))
  sa : findIn K (.ref C) "__setattr__" = some (some (.builtin "object.__setattr__"))
  ga : findIn K (.ref C) "__getattribute__" = some (some (.builtin "BaseException.__getattribute__"))
  gg : findIn K (.ref C) "__getattr__" = some none
  noF : findIn K (.ref C) f = some none
  noC : findIn K (.ref C) "code" = some none
  iC : findIn K (.ref C) "__init__" = some (some (.ref fI))
  tC : typeIn K (.ref fI) = some (.type "function")
  kC : keepIn K (.ref C) = true
  exC : subIn K (.ref C) (.type "BaseException") = some true
  veC : subIn K (.ref C) (.type "ValueError") = some true
  slf : mroIn K C (.ref C) = some true
  tyC : typeIn K (.ref C) = some (.type "type")
  hdC : hasDictIn K C = true
  opq : nsIn K cStatics "thirdparty.any" = some none
  cell : ∃ cl cld csl, K.lookup cc = some ⟨cl, cld, .cell (some (.ref C)), csl⟩
  code : ∃ ccl cdd vs ccs file tf, K.lookup cd = some ⟨ccl, cdd, .fields vs, ccs⟩ ∧ vs[2]? = some (.str file tf) ∧ ((prog.main.file : Str) == file) = true
  top : (prog.main.scope.names.lookup ("super" : Str)).isSome = false
  fn : ∃ (oc : Value) (od : Option Addr) (doc pm : Value) (an : Option Addr) (ct : Value) (osl : Array (Option Value)) (qual msg : Str) (k1 k2 : Nat) (p1 p2 a1 a2 a3 a4 a5 a6 b1 b2 b3 b4 c1 c2 c3 c4 : Pos),
    K.lookup fI = some ⟨oc, od, .func (ksFn "__init__" qual (eArgs f p1 p2) (eBody f msg q k1 k2 a1 a2 a3 a4 a5 a6 b1 b2 b3 b4 c1 c2 c3 c4) (eScope f) .none .none doc pm an (.ref cd) ct cc), osl⟩ ∧ codeIn K (.ref cd) qual = true ∧
    (∀ (s : Shared) (a b : Value), BindsTo s (ksFn "__init__" qual (eArgs f p1 p2) (eBody f msg q k1 k2 a1 a2 a3 a4 a5 a6 b1 b2 b3 b4 c1 c2 c3 c4) (eScope f) .none .none doc pm an (.ref cd) ct cc) ⟨[a, b], []⟩ [("self", a), (f, b)]) ∧ InitEval msg k1 a1 a2 a3 a4 a5
  nf : f ≠ "self" ∧ f ≠ "code" ∧ f ≠ "super" ∧ f ≠ "__class__" ∧ f ≠ "__debug__"
theorem kept_x {K : Frag} {h h' : Heap} {x : Addr} (X : K.In h) (hx : K.lookup x = none) (k : ∀ b o, b ≠ x → h.get? b = some o → h'.get? b = some o) : K.In h' := fun a o e =>
  k a o (fun z => by rw [z, hx] at e; cases e) (X a o e)
/-- what it leaves of a fresh exception at x -/
structure Made (h h' : Heap) (x C dx t1 : Addr) (f q : Str) (v : Value) : Prop where
  keep : ∀ b o, b ≠ x → h.get? b = some o → h'.get? b = some o
  obj : h'.get? x = some { cls := .ref C, dict := some dx, data := .fields #[.ref t1, .none, .none, .none, .bool false, .none] }
  dbig : h.objs.size ≤ dx
  dne : dx ≠ x
  ns : ∃ tk, h'.Ns1 dx (fun y => if y = "code" then some (.str q tk) else if y = f then some v else none)
section
variable {prog : Program} {w : World} {M : Model} {A : Around} {E : Value → Shared → Prop} {R : Result → Shared → Prop} {s : Shared} {K : Frag} {mg : Str → Option Value} {nm f q : Str} {C fI cc cd : Addr}
/-- the bound built-in __init__, called with one value -/
theorem mw_call {hp : Heap} {g : Array GenState} {d : Drawn} {t : Nat} {os : OsState} {u e t0 : Addr} {rest : List Value} {Q : Value → Shared → Prop} {nm' q' : Str} {N : Addr} {bs bm : List Value} {hdct : Bool} {sn : List Str} {sub : List Value} {ab : Bool} {col : Option Bool} {dd : Option Addr} {k0 k1 k2 k3 k5 : Option Value}
    (hC : hp.get? C = some (excClassObj nm' q' C N bs bm hdct sn sub ab col dd k0 k1 k2 k3 k5 "ValueError.__new__")) (he : hp.get? e = some (excO C t0)) (hu : hp.get? u = some (kxs_mw "ValueError.__init__" e)) (hrest : rest.length ≤ sizeLine)
    (hq : ∀ h' t1, (∀ b o, b ≠ e → hp.get? b = some o → h'.get? b = some o) → h'.get? e = some (excO C t1) → Q .none ⟨h', g, d, t, os⟩) :
    wpAny (model prog w) A (call (.ref u) rest) Q E ⟨hp, g, d, t, os⟩ := by
  refine wpAny_call (codeAny_of_tree ?_)
  show wpAny _ A.in1 (callAny (.ref u) ⟨rest, []⟩) _ _ _
  unfold callAny
  refine wpAny_bind (wpAny_load hu ?_)
  refine KFB.if_so rfl ?_
  refine wpAny_bind (ESX.check_bound F.excBase_ValueError hC he rfl ?_)
  refine wpAny_bind (wpAny_pure (wpAny_pure ⟨Code.quiet_builtin _ (by decide +kernel), codeAny_builtin F.excBase_ValueError.initEntry ?_⟩))
  rw [Around.under_plainId F.excBase_ValueError.init.plain _]
  wp_walk
  refine hq _ hp.objs.size (fun b o hb ho => ?_) ?_
  · rw [Heap.get?_update_other _ _ (Ne.symm hb)]
    exact Heap.get?_push_of_some _ ho
  · rw [Heap.get?_update_self _ (Heap.get?_push_of_some _ he) rfl]
    rfl
theorem err_init (T : ErrTxt prog K mg nm f q C fI cc cd) {x t0 : Addr} {v : Value} (X : K.In s.heap) (hG : s.heap.Ns mainGlobals mg) (hB : ∃ mb, s.heap.Ns builtinsNs mb ∧ mb "super" = some (.type "super")) (hlim : s.heap.NoLimit) (hx : s.heap.get? x = some (excO C t0)) (hnx : K.lookup x = none) (hroom : A.depth < recursionLimit)
    (hq : ∀ h' tk dx t1, Made s.heap h' x C dx t1 f q v → R (.ok (.ret .none)) { s with heap := h', toks := tk }) :
    codeAny (model prog w) A (.call (.ref fI) ⟨[.ref x, v], []⟩) R s := by
  obtain ⟨oc, od, doc, pm, an, ct, osl, qual, msg, k1, k2, p1, p2, a1, a2, a3, a4, a5, a6, b1, b2, b3, b4, c1, c2, c3, c4, ho, hcd, hbind, pl, hev⟩ := T.fn
  obtain ⟨nm', q', N, bs, bm, sn, sub, ab, col, dd, k0, k1', k2', k3, k5, hC, hbm, hal⟩ := T.cls
  obtain ⟨cl, cld, csl, hcell⟩ := T.cell
  obtain ⟨ccl, cdd, vs, ccs, file, tf, hcode, hvs, hfile⟩ := T.code
  obtain ⟨n1, n2, n3, n4, n5⟩ := T.nf
  have lk : (eScope f).names.lookup f = some .local := by
    show List.lookup f [(PySem.Str.ofString "self", NameKind.local), (f, .local), (PySem.Str.ofString "__class__", .free), (PySem.Str.ofString "super", .globalImplicit)] = some .local
    have e : (f == PySem.Str.ofString "self") = false := by simpa using n1
    simp only [List.lookup, e, beq_self_eq_true]
  refine ks_codeAny_call_defAt (binds := [("self", .ref x), (f, v)]) hroom (X _ _ ho) rfl hlim (codeRec_of X hcd) rfl (hbind _ _ _) ?_ ?_ (fun h₁ hns hk => ?_) rfl rfl rfl
  · intro y hy
    simp only [eScope, List.mem_cons, List.not_mem_nil, or_false] at hy
    rcases hy with rfl | rfl | rfl | rfl <;> (intro z; cases z)
  · intro y hy
    simp only [List.mem_cons, List.not_mem_nil, or_false] at hy
    rcases hy with rfl | rfl
    · rfl
    · exact lk
  have z1 : (PySem.Str.ofString "super" == f) = false := by simpa using n3.symm
  have z2 : (PySem.Str.ofString "__class__" == f) = false := by simpa using n4.symm
  have z3 : (PySem.Str.ofString "self" == f) = false := by simpa using n1.symm
  have z4 : (f == PySem.Str.ofString "self") = false := by simpa using n1
  have lkS : (eScope f).names.lookup ("super" : Str) = some .globalImplicit := by
    simp only [eScope, List.lookup, z1, show (PySem.Str.ofString "super" == PySem.Str.ofString "self") = false by decide +kernel, show (PySem.Str.ofString "super" == PySem.Str.ofString "__class__") = false by decide +kernel, beq_self_eq_true]
  have lkC : (eScope f).names.lookup ("__class__" : Str) = some .free := by
    simp only [eScope, List.lookup, z2, show (PySem.Str.ofString "__class__" == PySem.Str.ofString "self") = false by decide +kernel, beq_self_eq_true]
  have lkX : (eScope f).names.lookup ("self" : Str) = some .local := by
    simp only [eScope, List.lookup, beq_self_eq_true]
  have mS : List.lookup (PySem.Str.ofString "self") ([(PySem.Str.ofString "self", Value.ref x), (f, v)] : List (Str × Value)).reverse = some (.ref x) := by
    show List.lookup (PySem.Str.ofString "self") [(f, v), (PySem.Str.ofString "self", Value.ref x)] = _
    simp only [List.lookup, z3, beq_self_eq_true]
  have mF : List.lookup f ([(PySem.Str.ofString "self", Value.ref x), (f, v)] : List (Str × Value)).reverse = some v := by
    show List.lookup f [(f, v), (PySem.Str.ofString "self", Value.ref x)] = _
    simp only [List.lookup, beq_self_eq_true]
  refine ks_wpAt_execs_cons (ks_wpAt_Expr_any (ks_wpAt_MethodCall (pl := pl) ?_ (hev _)))
  have X₁ : K.In h₁ := X.keeps hk
  have hx₁ := hk _ _ hx
  refine ks_wpAt_super_base (of := ⟨oc, od, _, osl⟩) (oc := ⟨ccl, cdd, .fields vs, ccs⟩) lkS lkC rfl rfl (X₁ _ _ ho) rfl rfl rfl (X₁ _ _ hcode) rfl hvs hfile T.top ?_
  obtain ⟨mb, hmb, hsb⟩ := hB
  refine ks_loadName_global rfl lkS (loadGlobal_builtin (hG.keeps hk) T.gS (hmb.keeps hk) hsb ⟨rfl, ?_⟩)
  refine wpAny_loadName_free rfl lkC rfl ⟨_, X₁ _ _ hcell, rfl⟩ ?_
  refine wpAny_loadName_local rfl lkX hns mS ?_
  refine ks_wpAny_isType_cls (X₁ _ _ hC) rfl ⟨rfl, ?_⟩
  refine ks_wpAny_call_super (X₁ _ _ hC) rfl hx₁ rfl (fun c e => by cases e) (looks_mroIn X₁ T.slf) (fun h₂ hso k₂ => ?_)
  have X₂ : K.In h₂ := X₁.keeps k₂
  have hx₂ := k₂ _ _ hx₁
  have I₂ : InstAt h₂ x (excO C t0) C none := ⟨hx₂, rfl, rfl, trivial⟩
  have nxC : x ≠ C := fun z => by rw [z, hC] at hnx; cases hnx
  have hcl : clsIn K C = some { name := nm', bases := bs, mro := .ref C :: bm, ns := N, qualname := q', hasDict := true, slotNames := sn, subclasses := sub, abstract := ab, collection := col, hasDel := false } := by unfold clsIn; rw [hC] <;> rfl
  refine kxs_getMethod kxs_ValueError hso (looks_opaque X₂ T.opq) ((looks_clsIn X₂ hcl).andThen .now) (ESX.drop_own C bm) X₂ hal (I₂.type.andThen (looks_subIn X₂ T.veC)) nxC rfl ?_
  have hu : (h₂.push (kxs_mw "ValueError.__init__" x)).get? h₂.objs.size = some (kxs_mw "ValueError.__init__" x) := Heap.get?_push_at rfl rfl
  have k₃ : ∀ b o, h₂.get? b = some o → (h₂.push (kxs_mw "ValueError.__init__" x)).get? b = some o := fun b o e => Heap.get?_push_of_some _ e
  refine kxs_callWith (i := "ValueError.__init__") (x := x) rfl (evalArgs_plain ?_)
  refine Calls.spliced_cons (Calls.Constant_str (k := k1) (pos := a4) (Calls.spliced_nil ⟨hu, ?_⟩))
  have X₃ : K.In (h₂.push (kxs_mw "ValueError.__init__" x)) := X₂.keeps k₃
  refine mw_call (X₃ _ _ hC) (k₃ _ _ hx₂) hu (by show 1 ≤ sizeLine; decide) (fun h₄ t1 k₄ hx₄ => ?_)
  have keep₄ : ∀ b o, b ≠ x → s.heap.get? b = some o → h₄.get? b = some o := fun b o nb e => k₄ b o nb (k₃ b o (k₂ b o (hk b o e)))
  have X₄ : K.In h₄ := kept_x X hnx keep₄
  have hxL : s.heap.objs.size ≠ x := Nat.ne_of_gt (Heap.lt_size hx)
  obtain ⟨oL, es, ep, hL, rL⟩ := id hns
  have hns₄ : h₄.Ns s.heap.objs.size fun y => List.lookup y ([(PySem.Str.ofString "self", Value.ref x), (f, v)] : List (Str × Value)).reverse := ⟨oL, es, ep, k₄ _ _ hxL (k₃ _ _ (k₂ _ _ hL)), rL⟩
  have hLt : s.heap.objs.size < h₄.objs.size := Heap.lt_size (k₄ _ _ hxL (k₃ _ _ (k₂ _ _ hL)))
  -- self.f = f
  refine wpAt_of_wpAny (wpAny_execs_cons (plainObj_wpAny_Assign_Attribute ?_))
  refine ESX.ldL hns₄ mF (ESX.ldL hns₄ mS ?_ rfl lkX (by decide +kernel)) rfl lk (by simpa using n5)
  refine set_plain X₄ (ox := excO C t1) (od := none) ⟨hx₄, rfl, rfl, trivial⟩ T.sa ?_
  refine exc_osa X₄ hx₄ hcl (show refsVE (.ref C :: bm) = true from hbm) rfl T.noF (fun h₅ tk₅ dx k₅ dn dne hx₅ hn₅ => ?_)
  have keep₅ : ∀ b o, b ≠ x → s.heap.get? b = some o → h₅.get? b = some o := fun b o nb e => k₅ b o nb (keep₄ b o nb e)
  have X₅ : K.In h₅ := kept_x X hnx keep₅
  have hns₅ : h₅.Ns s.heap.objs.size fun y => List.lookup y ([(PySem.Str.ofString "self", Value.ref x), (f, v)] : List (Str × Value)).reverse := ⟨oL, es, ep, k₅ _ _ hxL (k₄ _ _ hxL (k₃ _ _ (k₂ _ _ hL))), rL⟩
  -- self.code = q
  refine wpAny_execs_cons (plainObj_wpAny_Assign_Attribute ?_)
  refine Calls.Constant_str (k := k2) (pos := c3) (ESX.ldL hns₅ mS ?_ rfl lkX (by decide +kernel))
  obtain ⟨oD, eD, pD, hD, rD⟩ := id hn₅
  refine set_plain X₅ (ox := { cls := .ref C, dict := some dx, data := .fields #[.ref t1, .none, .none, .none, .bool false, .none] }) (od := some oD) ⟨hx₅, rfl, rfl, hD⟩ T.sa ?_
  have hw : Within (fun y => if y = f then some v else none) [f] := fun y hy => by
    by_cases e : y = f
    · rw [e]
      exact List.mem_singleton.mpr rfl
    · exact absurd (show (if y = f then some v else none) = none from if_neg e) hy
  refine OEX.osa_old X₅ hx₅ hn₅ hw (by show 1 ≤ 1000; decide) hcl (show refsVE (.ref C :: bm) = true from hbm) rfl T.noC (fun h₆ tk₆ k₆ hn₆ => ?_)
  refine wpAny_execs_nil (hq h₆ tk₆ dx t1 ⟨fun b o nb e => ?_, k₆ _ _ dne.symm hx₅, Nat.le_trans (Nat.le_of_lt hLt) dn, dne, _, hn₆⟩)
  have nbd : b ≠ dx := Nat.ne_of_lt (Nat.lt_of_lt_of_le (Heap.lt_size e) (Nat.le_trans (Nat.le_of_lt hLt) dn))
  exact k₆ b o nbd (keep₅ b o nb e)
/-- a made error -/
structure Own (h h' : Heap) (e C d : Addr) (f q : Str) (v : Value) : Prop where
  keep : ∀ b o, h.get? b = some o → h'.get? b = some o
  new : h.objs.size ≤ e
  obj : ∃ oe vs, h'.get? e = some oe ∧ oe.cls = .ref C ∧ oe.dict = some d ∧ oe.data = .fields vs ∧ vs[1]? = some .none
  dbig : h.objs.size ≤ d
  dne : d ≠ e
  ns : ∃ tk, h'.Ns1 d (fun y => if y = "code" then some (.str q tk) else if y = f then some v else none)
theorem err_made (T : ErrTxt prog K mg nm f q C fI cc cd) {v : Value} (X : K.In s.heap) (hG : s.heap.Ns mainGlobals mg) (hB : ∃ mb, s.heap.Ns builtinsNs mb ∧ mb "super" = some (.type "super")) (hlim : s.heap.NoLimit) (hroom : A.depth + 1 < recursionLimit)
    (hq : ∀ h' tk e d, Own s.heap h' e C d f q v → R (.ok (.ret (.ref e))) { s with heap := h', toks := tk }) :
    codeAny (model prog w) A (.call (.ref C) ⟨[v], []⟩) R s := by
  obtain ⟨nm', q', N, bs, bm, sn, sub, ab, col, dd, k0, k1', k2', k3, k5, hC, hbm, hal⟩ := T.cls
  obtain ⟨hp, g, dr, tk, os⟩ := s
  have k : ∀ b o, hp.get? b = some o → ((hp.push (kdv_tup [v])).push (excO C hp.objs.size)).get? b = some o := fun b o e => Heap.get?_push_of_some _ (Heap.get?_push_of_some _ e)
  have hget : ((hp.push (kdv_tup [v])).push (excO C hp.objs.size)).get? (hp.objs.size + 1) = some (excO C hp.objs.size) := by heap_get
  have hnx : K.lookup (hp.objs.size + 1) = none := by
    cases e : K.lookup (hp.objs.size + 1) with
    | none => rfl
    | some o =>
      have z : hp.get? (hp.objs.size + 1) = some o := X _ _ e
      exact absurd (Nat.lt_of_succ_lt (Heap.lt_size z)) (Nat.lt_irrefl _)
  obtain ⟨mb, hmb, hsb⟩ := hB
  refine call_own F.excBase_ValueError (fun X => refsVE_contains X bm hbm) (X _ _ hC) (looks_findIn X T.iC) (fun self => bind_fn X self T.tC) (by show 1 ≤ sizeLine; decide) ?_
  refine err_init (s := ⟨(hp.push (kdv_tup [v])).push (excO C hp.objs.size), g, dr, tk, os⟩) T (X.keeps k) (hG.keeps k) ⟨mb, hmb.keeps k, hsb⟩ (hlim.keeps k) hget hnx (show A.depth + 1 < recursionLimit from hroom) fun h' tk' dx t1 M => ?_
  have old : ∀ b o, hp.get? b = some o → h'.get? b = some o := fun b o e => M.keep b o (Nat.ne_of_lt (Nat.lt_succ_of_lt (Heap.lt_size e))) (k b o e)
  have z : hp.objs.size + 1 + 1 ≤ dx := by
    have dn := M.dbig
    rw [Heap.size_push, Heap.size_push] at dn
    exact dn
  exact ⟨rfl, hq h' tk' (hp.objs.size + 1) dx ⟨old, Nat.le_succ _, ⟨_, _, M.obj, rfl, rfl, rfl, rfl⟩, Nat.le_trans (Nat.le_trans (Nat.le_succ _) (Nat.le_succ _)) z, M.dne, M.ns⟩⟩
end
end ErrX
end PySem
namespace My
open PySem PySem.Spec PyProof.Rows L2
abbrev errD (f q : Str) (v : V) : List (Str × V) := [("code", .str q), (f, v)]
theorem relO_err {v : V} {v' : Value} {f q : Str} {tk : Tok} (r : RelV v v') (g : Str) : RelO (List.lookup g (errD f q v)) (if g = "code" then some (.str q tk) else if g = f then some v' else none) := by
  by_cases hc : g = "code"
  · rw [if_pos hc]
    have e : List.lookup g (errD f q v) = some (.str q) := by
      subst hc
      simp [errD, List.lookup]
    rw [e]
    exact ⟨_, rfl⟩
  · rw [if_neg hc]
    have e1 : (g == ("code" : Str)) = false := by simpa using hc
    by_cases hf : g = f
    · rw [if_pos hf]
      have e : List.lookup g (errD f q v) = some v := by
        subst hf
        simp [errD, List.lookup, e1]
      rw [e]
      exact r
    · rw [if_neg hf]
      have e2 : (g == f) = false := by simpa using hf
      have e : List.lookup g (errD f q v) = none := by simp [errD, List.lookup, e1, e2]
      rw [e]
      trivial
section
variable {X : Cx} {C fI cc cd : Addr} {nm f q : Str}
/-- X(e), the error made -/
def tMkErr (C : Addr) (f q : Str) (ta : TA) : L2.St → Hp → XK → Prop := fun σ H Q => ta σ H fun vs H1 => ∃ v, vs = [v] ∧ ∀ d, H1 d = none → Q (.ref C) (some d) (upd H1 d (.xd (errD f q v)))
theorem pmk_err {a : Expr} {ta : TA} {p pos : Pos} {k : Nat} (T : ErrX.ErrTxt X.prog X.K X.mg nm f q C fI cc cd) (hr : Room k X.A) (ha : PA X [a] ta) (hg : Gl X nm) (hd : (nm == ("__debug__" : Str)) = false := by decide)
    (he : starEach (a :: []) X.env = (false, eval a X.env) :: starEach [] X.env := by rfl) (hpl : (backTo pos (starEach [] X.env)).any (·.1) = false := by rfl) :
    PMk X (.Call (.Name nm p) [a] [] pos) (tMkErr C f q ta) := by
  intro pins s σ H Q I h
  refine wpAny_Call_Name_kw (ld_glob I hg T.gC ?_ hd)
  refine PySem.W.callWith_K (h₀ := X.base) I.ok.mod.kin T.kC (thn (ha.run pos pins s σ H _ I h) fun us s1 hh => ?_) he hpl
  obtain ⟨vs, H1, I1, r1, v, ev, q1⟩ := hh
  subst ev
  refine ⟨I1.kIn, ?_⟩
  cases r1 with
  | cons rv rn =>
    rename_i v' us'
    cases rn
    have hlim := I1.nolimit
    obtain ⟨mb, hb1, hb2⟩ := I1.mod.blt
    have hB : ∃ mb, s1.heap.Ns builtinsNs mb ∧ mb "super" = some (.type "super") := ⟨mb, hb1.keeps I1.bk, (hb2 _ (by decide +kernel)).trans (by decide +kernel)⟩
    refine wpAny_call (ErrX.err_made T I1.kIn (I1.mod.glob.keeps I1.bk) hB hlim (by have := hr.dp; omega) fun h' tk' e d M => ?_)
    obtain ⟨hp, g, dr, tok, os⟩ := s1
    obtain ⟨oe, fv, hoe, hc, hdct, hdat, h1⟩ := M.obj
    obtain ⟨tk0, hns⟩ := M.ns
    obtain ⟨G', g1, g2⟩ := restrict h' fun b => decide (b ≠ e)
    have gk : ∀ b, b ≠ e → G'.get? b = h'.get? b := fun b hb => g1 b (decide_eq_true hb)
    have ge : G'.get? e = none := g2 e (by simp)
    have old : ∀ b o, hp.get? b = some o → G'.get? b = some o := fun b o z => (gk b (Nat.ne_of_lt (Nat.lt_of_lt_of_le (Heap.lt_size z) M.new))).trans (M.keep b o z)
    have ob : ObjOk X.prog X.w (upd H1 d (.xd (errD f q v))) G' d (.xd (errD f q v)) := ⟨_, hns.at (fun o z => (gk d M.dne).trans z), fun y => relO_err rv y⟩
    have J : Inv X pins σ (upd H1 d (.xd (errD f q v))) ⟨G', g, dr, tk', os⟩ := I1.laid (t' := tk') old M.dbig ob
    refine ⟨e, oe, fv, ⟨G', g, dr, tk', os⟩, _, .ref C, some d, rfl, J, fun b o z => ?_, ge, hoe, ⟨hc, hdct⟩, hdat, h1, ?_, rfl, I1.bare, raises_own T.exC T.tyC, q1 d (I1.hok.fresh M.dbig)⟩
    · by_cases hb : b = e
      · have z' : G'.get? b = some o := z
        rw [hb, ge] at z'
        cases z'
      · exact (gk b hb).symm.trans z
    · rw [upd_ne (Ne.symm M.dne)]
      exact I1.hok.fresh M.new
end
end My
namespace My
open PySem PySem.Spec PyProof.Rows L2
/-! ### a field of a caught exception, wherever it is pinned -/
def tXg (K : PySem.W.Frag) (a : Addr) (cls : Value) (d : Option Addr) (n : Str) (te : TE) : TE := fun σ H Q => te σ H fun x H1 => x = .ref a ∧
  ∃ (C dd : Addr) (fs : List (Str × V)) (v : V), cls = .ref C ∧ XfC K C ∧ PySem.W.findIn K (.ref C) n = some none ∧ d = some dd ∧ H1 dd = some (.xd fs) ∧ fs.lookup n = some v ∧ Q v H1
section
variable {X : Cx} {a : Addr} {oe : Obj} {cls : Value} {d : Option Addr} {e : Expr} {te : TE} {pos : Pos} {n : Str}
theorem pe_xg {K : PySem.W.Frag} (hp : (a, oe) ∈ X.pn) (hz : Zc cls d oe) (hf : ∃ vs, oe.data = .fields vs) (he : PE X e te) (hK : X.K = K := by rfl) (hb : attributeBase e n X.env (eval e X.env) = eval e X.env := by rfl) : PE X (.Attribute e n pos) (tXg K a cls d n te) := by
  subst hK
  constructor
  intro pins s σ H Q I h
  apply attr_of hb
  apply thn (he.run pins s σ H _ I h)
  rintro u s1 ⟨x, H1, I1, rx, rfl, C, dd, fs, v, rfl, T, hno, rfl, ea, l, q⟩
  obtain rfl : u = Value.ref a := rx
  have pn := (I1.pin (a, oe) (List.mem_append_left _ hp)).1
  obtain ⟨vs, hd⟩ := hf
  obtain ⟨mA, hns, hr⟩ : ObjOk X.prog X.w H1 s1.heap dd (.xd fs) := I1.hok dd _ ea
  obtain ⟨od, ho, hl⟩ := lookIn_ns hns
  have rn := hr n
  rw [l] at rn
  obtain ⟨u, hu, ru⟩ := RelO.some_of (v := v) (o := mA n) rn
  have at_ : PySem.W.InstAt s1.heap a oe C (some od) := ⟨pn, hz.1, by unfold PySem.W.notCls; rw [hd] <;> rfl, by rw [hz.2]; exact ho⟩
  exact HandSPX.exc_get I1.kIn at_ T.ga T.gg T.exC (PySem.W.findObj_own T.hdC hno rfl (by rw [hl, hu])) (handed_of ru) ⟨v, H1, I1.tok _, ru, q⟩
end
/-! ### an own def, called where an exception is pinned -/
structure FnP (P : Program) (w : World) (K : PySem.W.Frag) (mg : Str → Option Value) (base : Heap) (k : Nat) (f : Addr) (fd : FuncData) (ps : List Str) (sp : Addr × Obj → Sp) : Prop where
  len : ∀ p vs H Q E, sp p vs H Q E → vs.length = ps.length
  run : ∀ (A : Around) (outer : List Env) (s : Shared) (H : Hp) (args : Args) (us : List Value) (vs : List V) (Q : VK) (p : Addr × Obj), L2H.RoomH k A → L2H.PinOk outer H s p → Env0 P w K mg base A outer s H → BindsTo s fd args (ps.zip us) → Vals vs us → sp p vs H Q E0 →
    codeAny (model P w) A (.call (.ref f) args) (CR CX0 outer P w H s Q E0) s
section
variable {P : Program} {w : World} {K : PySem.W.Frag} {mg : Str → Option Value} {base : Heap}
theorem Fun.pinned {x qual : Str} {st : Stmt} {f : Addr} {fd : FuncData} {N ps : List Str} {k : Nat} {sp : Addr × Obj → Sp} (F : Fun K x qual st f fd) (S : FnScope N ps (defScope st)) (len : ∀ p vs H Q E, sp p vs H Q E → vs.length = ps.length)
    (hbody : ∀ (cdv : Value) (A : Around) (outer : List Env) (s : Shared) (H : Hp) (vs : List V) (Q : VK) (p : Addr × Obj), L2H.RoomH k (A.deeper (envOfC qual (defScope st) s.heap.objs.size f cdv)) → sp p vs H Q E0 →
      ∃ t, PSs (L2H.cxH CX0 P w K mg base N qual (defScope st) f cdv A outer s H E0 p) (defBody st) t ∧ t { nx := fun _ H' => Q .non H', rt := Q } (L2.start N vs) H) : FnP P w K mg base (k + 1) f fd ps sp := by
  obtain ⟨oc, od, kV, doc, pm, an, cdv, ct, osl, rfl, lk, hcd⟩ := F.ex
  constructor
  · exact len
  intro A outer s H args us vs Q p hr hpin e0 hb r hsp
  have hl := len _ _ _ _ _ hsp
  have KX : K.In s.heap := e0.mod.kin.keeps fun b o e => (e0.bs b o e).1
  have lim : s.heap.NoLimit := e0.mod.nolimit.keeps fun b o e => (e0.bs b o e).1
  have kinds : ∀ y ∈ ps.zip us, (defScope st).names.lookup y.1 = some .local ∨ ((defScope st).names.lookup y.1 = some .cell ∧ ((cellsFrom (s.heap.objs.size + 1) (defScope st).names []).lookup y.1).isSome = true) := by
    rintro ⟨n, v⟩ hy
    cases S.par n (List.of_mem_zip hy).1 with
    | inl q => exact .inl q
    | inr q => exact .inr ⟨q, PySem.W.cellsFrom_some _ _ _ (.inl q)⟩
  apply codeAny_call_function hr.depth (KX _ _ lk) rfl S.co S.gen rfl (PySem.W.codeRec_of KX hcd)
  apply hb
  apply wpAny_newFunctionEnv_cells S.kind kinds
  rintro env rfl s1 x
  refine ⟨lim.keeps x.toInCall.keep, codeAny_func ?_⟩
  obtain ⟨t, ht, hq⟩ := hbody cdv A outer s H vs Q p (hr.deeper _) hsp
  have I := L2H.inv_startH (CX := CX0) (E := E0) (f := f) (cd := cdv) S hpin e0 hl r x
  apply wpAny_mono (ht.run [] s1 (L2.start N vs) H _ I hq)
  · intro fl s' hs
    cases fl with
    | ret u =>
      obtain ⟨v, σ', H', J, rv, q⟩ := hs
      exact ⟨v, H', J.os, J.bare, J.base, J.hok, rv, q⟩
    | next =>
      obtain ⟨σ', H', J, q⟩ := hs
      exact ⟨V.non, H', J.os, J.bare, J.base, J.hok, rfl, q⟩
    | brk =>
      obtain ⟨_, _, _, q⟩ := hs
      exact q.elim
    | cont =>
      obtain ⟨_, _, _, q⟩ := hs
      exact q.elim
  · exact fun e s' hs => hs
end
structure HasP (P : Program) (w : World) (K : PySem.W.Frag) (mg : Str → Option Value) (base : Heap) (k : Nat) (x : Str) (ps : List Str) (sp : Addr × Obj → Sp) : Prop where
  ex : ∃ (f : Addr) (fd : FuncData), FnP P w K mg base k f fd ps sp ∧ mg x = some (.ref f) ∧ PySem.W.keepIn K (.ref f) = true ∧ Binds K fd ps []
section
variable {X : Cx} {k : Nat} {x : Str} {ps : List Str} {sp : Addr × Obj → Sp} {p : Addr × Obj} {ps1 pos : Pos} {e : Expr} {es : List Expr} {t : TA}
theorem pe_ownP (h : HasP X.prog X.w X.K X.mg X.base k x ps sp) (hr : L2H.RoomH k X.A) (hp : p ∈ X.pn) {sp1 : Sp} (hs : ∀ vs H Q, sp1 vs H Q E0 → sp p vs H Q E0) (hg : Gl X x) (ha : PA X (e :: es) t) (hdb : (x == ("__debug__" : Str)) = false := by decide)
    (he : starEach (e :: es) X.env = (false, eval e X.env) :: starEach es X.env := by rfl) (hpl : (backTo pos (starEach es X.env)).any (·.1) = false := by rfl) : PE X (.Call (.Name x ps1) (e :: es) [] pos) (tCall sp1 [] E0 t) := by
  obtain ⟨f, fd, F, m, kp, hb⟩ := h.ex
  constructor
  intro pins s σ H Q I h
  apply wpAny_Call_Name_kw (ld_glob I hg m ?_ hdb)
  apply PySem.W.callWith_K (h₀ := X.base) I.ok.mod.kin kp _ he hpl
  apply thn (ha.run pos pins s σ H _ I h)
  rintro us s1 ⟨vs, H1, I1, r, q⟩
  rw [List.append_nil] at q
  replace q := hs _ _ _ q
  refine ⟨I1.kIn, ?_⟩
  have b := hb s1 us I1.kIn (by rw [List.append_nil, ← r.length]; exact F.len _ _ _ _ _ q)
  rw [List.append_nil] at b
  have P1 := I1.pin p (List.mem_append_left _ hp)
  have pok : L2H.PinOk X.stack H1 s1 p := ⟨P1.1, P1.2.1, fun hm => (List.mem_cons.mp (I1.stkSub p.1 hm)).elim P1.2.2.1 P1.2.2.2.1, P1.2.2.2.2⟩
  apply wpAny_call
  apply codeAny_mono (F.run X.A X.stack s1 H1 ⟨us, []⟩ us vs Q p hr pok I1.env0 b r q)
  intro r s' hq
  cases r with
  | error e => exact (show False from hq).elim
  | ok fl =>
    cases fl with
    | ret u => exact I1.after hq
    | next => exact False.elim hq
    | brk => exact False.elim hq
    | cont => exact False.elim hq
end
/-! ### except (x1, x2, x3) as n, one of which always fits -/
theorem fly_push {B h : Heap} {l : List Env} {e : Addr} {Z : Obj → Prop} (x : HandSPX.FlyingZ B l e Z h) (o : Obj) : HandSPX.FlyingZ B l e Z (h.push o) := by
  have k : ∀ b u, h.get? b = some u → (h.push o).get? b = some u := fun b u z => Heap.get?_push_of_some _ z
  obtain ⟨x1, x2, x3, oe, vs, T, oT, ts, y1, y2, y3, y4, y5, y6, y7, y8, y9⟩ := x
  exact ⟨fun b u z => k b u (x1 b u z), x2, Heap.FunFrames.of_keeps (fun b u z _ => ⟨u, k b u z, rfl⟩) x3, oe, vs, T, oT, ts, k _ _ y1, y2, y3, y4, y5, y6, k _ _ y7, y8, y9⟩
def endsOff (i : Nat) (D : Ends) : Ends := { nx := fun σ' H' => D.nx (σ'.set i none) H', rt := D.rt, bk := fun σ' H' => D.bk (σ'.set i none) H', ct := fun σ' H' => D.ct (σ'.set i none) H' }
/-- the wish for an exception that some of the classes cs takes -/
def wTup (K : PySem.W.Frag) (cs : List Value) (len i : Nat) (ts : Addr → Value → Option Addr → TS) (D : Ends) : WX := fun cls d σ H => PySem.W.exmAny K cls cs = some true ∧ ∀ a, H a = none → σ.length = len → ts a cls d (endsOff i D) (σ.set i (some (.ref a))) H
section
variable {X : Cx} {x1 x2 x3 n : Str} {c1 c2 c3 : Value} {i j : Nat} {body suite : List Stmt} {b₀ : Stmt} {p1 p2 p3 p4 pos pos' : Pos} {tb : WX → TS} {ts : Addr → Value → Option Addr → TS}
theorem ps_try_tup3 (hs : X.stack = X.env :: X.outer) (hf : X.env.frame = some X.env.locals) (hN : X.N.Nodup) (hi : X.N[i]? = some n) (hln : X.env.kindOf n = some .local) (n1 : Names X x1 c1) (n2 : Names X x2 c2) (n3 : Names X x3 c3)
    (hb : ∀ (W : WX) (pn : List (Addr × Obj)) (xe : Value → Shared → Prop), Takes (X.tr pn xe) W → PassesOwn (model X.prog X.w) X.A X.env xe → PSs (X.tr pn xe) body (tb W))
    (hsu : ∀ (a : Addr) (oe : Obj) (cls : Value) (d : Option Addr) (pn : List (Addr × Obj)), Zc cls d oe → (∃ vs, oe.data = .fields vs) → PSs (X.suite a ((a, oe) :: pn)) (b₀ :: suite) (ts a cls d)) :
    PS X (.Try body [.ExceptHandler (some (.Tuple [.Name x1 p1, .Name x2 p2, .Name x3 p3] j p4)) (some n) (b₀ :: suite) pos'] [] [] pos) (fun D σ H => tb (wTup X.K [c1, c2, c3] X.N.length i ts D) D σ H) := by
  constructor
  intro pins s σ H D I h
  have ok := I.ok
  have hfr : X.A.frames = some (X.env :: X.outer) := by rw [ok.frames, hs]
  apply wpAny_Try_except
  generalize hh : ExceptHandler.ExceptHandler (some (Expr.Tuple [.Name x1 p1, .Name x2 p2, .Name x3 p3] j p4)) (some n) (b₀ :: suite) pos' = hd
  have run := (hb (wTup X.K [c1, c2, c3] X.N.length i ts D) (X.pn ++ pins) (fun e s₁ => wpAny (model X.prog X.w) X.A (noteFrame e X.env) (fun _ s₂ => wpAny (model X.prog X.w) X.A (setFlight e none) (fun _ s₃ =>
    wpAny (model X.prog X.w) X.A (handleBy e X.env [hd]) (SP X pins D) X.xe s₃) X.xe s₂) X.xe s₁) ?tk PassesOwn.looking).run [] s σ H D (I.toTry _) h
  case tk =>
    rintro u s' ⟨a, B, sI, pins', σ', H', cls, d, rfl, J', nb, up, sky, na, os, ag, hm, hyes⟩
    have J : Inv X pins σ' H' sI := J'.ofTry ok
    have sky' : Sky B (X.env :: X.outer) a (Zc cls d) X.env.locals s'.heap := by rw [← hs]; exact sky
    show wpAny (model X.prog X.w) X.A (noteFrame (.ref a) X.env) _ _ _
    apply Sky.land Zc.steady hfr hf sky'
    intro h3 fl3 up3
    obtain ⟨oe3, vs3, he3, hz3, hd3⟩ := fl3.there
    have out : a ∉ frs (X.env :: X.outer) := fun hm => by
      obtain ⟨_, o', e', hnf⟩ := fl3.2.2.1.mem hm
      rw [he3] at e'
      cases e'
      exact hnf _ hd3
    have nL : a ≠ X.env.locals := fun z => out (List.mem_filterMap.mpr ⟨X.env, List.mem_cons_self, by rw [hf, z]⟩)
    have nF : a ∉ X.fs := fun hm => by
      obtain ⟨e, he, q⟩ := List.mem_filterMap.mp hm
      exact out (List.mem_filterMap.mpr ⟨e, List.mem_cons_of_mem _ he, q⟩)
    have J3 : Inv X pins σ' H' { s' with heap := h3 } := J.landed nb fl3.1 (up.trans up3) os ag
    have S3 := J3.suite he3 hd3 na nL nF
    subst hh
    refine wpAny_handleBy_cons (codeAny_handlers_test ?_) (by intro q; cases q)
    have nm : ∀ {x : Str} {c : Value} {p : Pos} {Q : Value → Shared → Prop} {E : Value → Shared → Prop}, Names X x c → Q c { s' with heap := h3 } → wpAny (model X.prog X.w) (X.A.mark (some (.ref a))) (eval (.Name x p) X.env) Q E { s' with heap := h3 } := by
      rintro x c p Q E ⟨hg, hdbg, hm | ⟨hm, hv, hnn⟩⟩ q
      · exact ld_glob (X := X.suite a ((a, oe3) :: (X.pn ++ pins))) S3 hg hm q hdbg
      · exact ld_blt (X := X.suite a ((a, oe3) :: (X.pn ++ pins))) S3 hg hm hv q hnn hdbg
    apply wpAny_Tuple
    refine wpAny_items_cons (nm n1 (wpAny_items_cons (nm n2 (wpAny_items_cons (nm n3 (wpAny_items_nil ⟨by show 3 ≤ sizeLine; decide, ?_⟩))))))
    have fl5 := fly_push fl3 { cls := .type "tuple", data := .seq [c1, c2, c3].toArray }
    have up5 : s'.heap.UpToSlots (h3.push { cls := .type "tuple", data := .seq [c1, c2, c3].toArray }) := up3.trans (Heap.UpToSlots.of_keeps fun b o e => Heap.get?_push_of_some _ e)
    have J5 : Inv X pins σ' H' { s' with heap := h3.push { cls := .type "tuple", data := .seq [c1, c2, c3].toArray } } := J.landed nb fl5.1 (up.trans up5) os ag
    have LT : PySem.W.Looks (model X.prog X.w) (h3.push { cls := .type "tuple", data := .seq [c1, c2, c3].toArray }) (typeOf (.ref a)) cls := fun A Q E s k q => wpAny_typeOf_ref (k _ _ (Heap.get?_push_of_some _ he3)) (by rw [hz3.1]; exact q)
    have LM := PySem.W.exm_tup3 (M := model X.prog X.w) (J5.kIn) LT (Heap.get?_push_size _ rfl) hm
    apply LM.here
    apply codeAny_handlers_suite_as
    apply HandSPX.lands_againZ fl5
    intro h4 fl4 up4
    have J4 : Inv X pins σ' H' { s' with heap := h4 } := J.landed nb fl4.1 ((up.trans up5).trans up4) os ag
    obtain ⟨oe4, vs4, he4, hz4, hd4⟩ := fl4.there
    have S4 := J4.suite he4 hd4 na nL nF
    refine store_ok (X := X.suite a ((a, oe4) :: (X.pn ++ pins))) (v := .ref a) S4 hN hi (.inl hln) rfl (fun s5 S5 => ?_) (.inr hln)
    apply wpAny_mono ((hsu a oe4 cls d (X.pn ++ pins) hz4 ⟨_, hd4⟩).run [] s5 _ H' _ S5 (hyes a na J.len))
    · have off : ∀ {σ6 : L2.St} {H6 : Hp} {s6 : Shared} {Q : Shared → Prop}, Inv (X.suite a ((a, oe4) :: (X.pn ++ pins))) [] σ6 H6 s6 → (∀ s7, Inv X pins (σ6.set i none) H6 s7 → Q s7) →
          wpAny (model X.prog X.w) X.A (do bindName X.env n .none; unbindBehindTheSuite X.env n pos') (fun _ s7 => Q s7) X.xe s6 := fun S6 hq => gone_ok (S6.unsuite ok) hN hi hln hq
      intro f s6 hsp
      cases f with
      | ret u =>
        obtain ⟨v6, σ6, H6, S6, r6, q6⟩ := hsp
        exact off S6 fun s7 J7 => ⟨_, _, _, J7, r6, q6⟩
      | next =>
        obtain ⟨σ6, H6, S6, q6⟩ := hsp
        exact off S6 fun s7 J7 => ⟨_, _, J7, q6⟩
      | brk =>
        obtain ⟨σ6, H6, S6, q6⟩ := hsp
        exact off S6 fun s7 J7 => ⟨_, _, J7, q6⟩
      | cont =>
        obtain ⟨σ6, H6, S6, q6⟩ := hsp
        exact off S6 fun s7 J7 => ⟨_, _, J7, q6⟩
    · exact fun _ _ z => z.elim
  refine wpAny_mono run (fun f s1 hsp => ?_) (fun e s1 he => he)
  cases f with
  | next =>
    obtain ⟨σ', H', J', q⟩ := hsp
    exact wpAny_execs_nil ⟨σ', H', J'.ofTry ok, q⟩
  | ret u =>
    obtain ⟨v, σ', H', J', r, q⟩ := hsp
    exact ⟨v, σ', H', J'.ofTry ok, r, q⟩
  | brk =>
    obtain ⟨σ', H', J', q⟩ := hsp
    exact ⟨σ', H', J'.ofTry ok, q⟩
  | cont =>
    obtain ⟨σ', H', J', q⟩ := hsp
    exact ⟨σ', H', J'.ofTry ok, q⟩
end
end My
namespace My
open PySem PySem.Spec PyProof.Rows L2
/-! ### which field an error's code tells -/
abbrev cGiven : List V := [.str "InvalidNumber", .str "InvalidThing", .str "InvalidRing", .str "InvalidName", .str "InvalidOrder", .str "WrongCount"]
abbrev cAt : List V := [.str "InvalidTerm", .str "InvalidLine", .str "InvalidProduct", .str "InvalidCommand", .str "DegreeTooHigh", .str "NotWhole", .str "NotStraight", .str "NoUnit"]
abbrev cNumber : List V := [.str "NoInverse", .str "Unsound", .str "InUse", .str "Broken", .str "UnknownNumber"]
abbrev cName : List V := [.str "Unused", .str "DuplicateName", .str "UnknownName"]
abbrev cMost : List V := [.str "TooMany", .str "TooGreat", .str "Full"]
def fieldName (q : Str) : Option Str :=
  if inV (.str q) cGiven then some "given" else if inV (.str q) cAt then some "at" else if inV (.str q) cNumber then some "number" else if inV (.str q) cName then some "name" else if inV (.str q) cMost then some "most" else if q = "InvalidHead" then some "part" else if q = "InvalidTable" then some "rule" else if q = "InvalidText" then some "line" else none
/-- an error of an own class at C, its dict fs: its code, the field that the code tells -/
structure ErrAt (K : PySem.W.Frag) (cls : Value) (d : Option Addr) (H : Hp) (q : Str) (v : V) : Prop where
  ex : ∃ (C dd : Addr) (fs : List (Str × V)) (f : Str), cls = .ref C ∧ XfC K C ∧ d = some dd ∧ H dd = some (.xd fs) ∧ PySem.W.findIn K (.ref C) "code" = some none ∧ fs.lookup ("code" : Str) = some (V.str q) ∧
    fieldName q = some f ∧ PySem.W.findIn K (.ref C) f = some none ∧ fs.lookup f = some v
theorem ErrAt.same {K : PySem.W.Frag} {cls : Value} {d : Option Addr} {H H' : Hp} {q : Str} {v : V} (h : ErrAt K cls d H q v) (s : Same H H') : ErrAt K cls d H' q v := by
  obtain ⟨C, dd, fs, f, a, b, c, e, r⟩ := h.ex
  exact ⟨C, dd, fs, f, a, b, c, s _ _ e, r⟩
def spField (K : PySem.W.Frag) (p : Addr × Obj) : Sp := fun vs H Q _ => ∃ (cls : Value) (d : Option Addr) (q : Str) (v : V), vs = [.ref p.1] ∧ Zc cls d p.2 ∧ (∃ ws, p.2.data = .fields ws) ∧ ErrAt K cls d H q v ∧ ∀ H', Same H H' → Q v H'
section
variable {P : Program} {w : World} {K : PySem.W.Frag} {mg : Str → Option Value} {base : Heap}
theorem ok_field (F : Fn K mg "_law_field" s_l_field ["_law_e"]) : HasP P w K mg base 1 "_law_field" ["_law_e"] (spField K) := by
  obtain ⟨f, fd, F, m, b⟩ := F.ex
  refine ⟨f, fd, Fun.pinned F sc_l_field (fun p vs H Q E h => ?_) (fun cdv A outer s H vs Q p hr h => ?_), m, F.kp, b⟩
  · obtain ⟨cls, d, q, v, rfl, _⟩ := h
    rfl
  obtain ⟨cls, d, q, v, rfl, hz, hf, er, hq⟩ := h
  refine ⟨_, (pss_cons (ps_if (pt_cmpR op_in_seq (pe_xg (K := K) (List.mem_cons_self) hz hf (pv 0)) (pe_lst (pa_cons pe_str (pa_cons pe_str (pa_cons pe_str (pa_cons pe_str (pa_cons pe_str (pa_cons pe_str pa_nil))))))) rfl)
        (pss_one (ps_ret (pe_xg (K := K) (List.mem_cons_self) hz hf (pv 0))))
        pss_nil)
      (pss_cons (ps_if (pt_cmpR op_in_seq (pe_xg (K := K) (List.mem_cons_self) hz hf (pv 0)) (pe_lst (pa_cons pe_str (pa_cons pe_str (pa_cons pe_str (pa_cons pe_str (pa_cons pe_str (pa_cons pe_str (pa_cons pe_str (pa_cons pe_str pa_nil))))))))) rfl)
        (pss_one (ps_ret (pe_xg (K := K) (List.mem_cons_self) hz hf (pv 0))))
        pss_nil)
      (pss_cons (ps_if (pt_cmpR op_in_seq (pe_xg (K := K) (List.mem_cons_self) hz hf (pv 0)) (pe_lst (pa_cons pe_str (pa_cons pe_str (pa_cons pe_str (pa_cons pe_str (pa_cons pe_str pa_nil)))))) rfl)
        (pss_one (ps_ret (pe_xg (K := K) (List.mem_cons_self) hz hf (pv 0))))
        pss_nil)
      (pss_cons (ps_if (pt_cmpR op_in_seq (pe_xg (K := K) (List.mem_cons_self) hz hf (pv 0)) (pe_lst (pa_cons pe_str (pa_cons pe_str (pa_cons pe_str pa_nil)))) rfl)
        (pss_one (ps_ret (pe_xg (K := K) (List.mem_cons_self) hz hf (pv 0))))
        pss_nil)
      (pss_cons (ps_if (pt_cmpR op_in_seq (pe_xg (K := K) (List.mem_cons_self) hz hf (pv 0)) (pe_lst (pa_cons pe_str (pa_cons pe_str (pa_cons pe_str pa_nil)))) rfl)
        (pss_one (ps_ret (pe_xg (K := K) (List.mem_cons_self) hz hf (pv 0))))
        pss_nil)
      (pss_cons (ps_if (pt_cmpR op_eq (pe_xg (K := K) (List.mem_cons_self) hz hf (pv 0)) pe_str (nomark _))
        (pss_one (ps_ret (pe_tup (pa_cons (pe_xg (K := K) (List.mem_cons_self) hz hf (pv 0)) (pa_cons (pe_xg (K := K) (List.mem_cons_self) hz hf (pv 0)) pa_nil)))))
        pss_nil)
      (pss_cons (ps_if (pt_cmpR op_eq (pe_xg (K := K) (List.mem_cons_self) hz hf (pv 0)) pe_str (nomark _))
        (pss_one (ps_ret (pe_xg (K := K) (List.mem_cons_self) hz hf (pv 0))))
        pss_nil)
      (pss_cons (ps_if (pt_cmpR op_eq (pe_xg (K := K) (List.mem_cons_self) hz hf (pv 0)) pe_str (nomark _))
        (pss_one (ps_ret (pe_xg (K := K) (List.mem_cons_self) hz hf (pv 0))))
        pss_nil)
      (pss_one (ps_ret (pe_ifExp (pt_cmpR op_eq (pe_xg (K := K) (List.mem_cons_self) hz hf (pv 0)) pe_str (nomark _)) (pe_xg (K := K) (List.mem_cons_self) hz hf (pv 0)) pe_non))))))))))), ?_⟩
  obtain ⟨C, dd, fs, fn, rfl, T, rfl, hd, noC, lC, hfn, noF, lF⟩ := er.ex
  have step : ∀ {H' : Hp} {l : Addr} {o : HO}, H' dd = some (.xd fs) → H' l = none → upd H' l o dd = some (.xd fs) := fun e n => by rw [upd_ne (ne_of_none e n)]; exact e
  unfold fieldName at hfn
  refine ⟨_, rfl, rfl, C, dd, fs, _, rfl, T, noC, rfl, hd, lC, (by show 6 ≤ sizeLine; decide), fun l1 h1 => ⟨l1, cGiven, rfl, .inl (SqL.of upd_same), rfl, rfl, ?_⟩⟩
  have d1 := step (o := .lst cGiven) hd h1
  have m1 : Same H (upd H l1 (.lst cGiven)) := same_upd h1
  cases i1 : inV (.str q) cGiven with
  | true =>
    rw [i1] at hfn
    cases hfn
    exact ⟨_, rfl, iteT ⟨_, rfl, rfl, C, dd, fs, _, rfl, T, noF, rfl, d1, lF, hq _ m1⟩⟩
  | false =>
  rw [i1] at hfn
  refine ⟨_, rfl, iteF ?_⟩
  refine ⟨_, rfl, rfl, C, dd, fs, _, rfl, T, noC, rfl, d1, lC, (by show 8 ≤ sizeLine; decide), fun l2 h2 => ⟨l2, cAt, rfl, .inl (SqL.of upd_same), rfl, rfl, ?_⟩⟩
  have d2 := step (o := .lst cAt) d1 h2
  have m2 := m1.trans (same_upd (o := .lst cAt) h2)
  cases i2 : inV (.str q) cAt with
  | true =>
    rw [i2] at hfn
    cases hfn
    exact ⟨_, rfl, iteT ⟨_, rfl, rfl, C, dd, fs, _, rfl, T, noF, rfl, d2, lF, hq _ m2⟩⟩
  | false =>
  rw [i2] at hfn
  refine ⟨_, rfl, iteF ?_⟩
  refine ⟨_, rfl, rfl, C, dd, fs, _, rfl, T, noC, rfl, d2, lC, (by show 5 ≤ sizeLine; decide), fun l3 h3 => ⟨l3, cNumber, rfl, .inl (SqL.of upd_same), rfl, rfl, ?_⟩⟩
  have d3 := step (o := .lst cNumber) d2 h3
  have m3 := m2.trans (same_upd (o := .lst cNumber) h3)
  cases i3 : inV (.str q) cNumber with
  | true =>
    rw [i3] at hfn
    cases hfn
    exact ⟨_, rfl, iteT ⟨_, rfl, rfl, C, dd, fs, _, rfl, T, noF, rfl, d3, lF, hq _ m3⟩⟩
  | false =>
  rw [i3] at hfn
  refine ⟨_, rfl, iteF ?_⟩
  refine ⟨_, rfl, rfl, C, dd, fs, _, rfl, T, noC, rfl, d3, lC, (by show 3 ≤ sizeLine; decide), fun l4 h4 => ⟨l4, cName, rfl, .inl (SqL.of upd_same), rfl, rfl, ?_⟩⟩
  have d4 := step (o := .lst cName) d3 h4
  have m4 := m3.trans (same_upd (o := .lst cName) h4)
  cases i4 : inV (.str q) cName with
  | true =>
    rw [i4] at hfn
    cases hfn
    exact ⟨_, rfl, iteT ⟨_, rfl, rfl, C, dd, fs, _, rfl, T, noF, rfl, d4, lF, hq _ m4⟩⟩
  | false =>
  rw [i4] at hfn
  refine ⟨_, rfl, iteF ?_⟩
  refine ⟨_, rfl, rfl, C, dd, fs, _, rfl, T, noC, rfl, d4, lC, (by show 3 ≤ sizeLine; decide), fun l5 h5 => ⟨l5, cMost, rfl, .inl (SqL.of upd_same), rfl, rfl, ?_⟩⟩
  have d5 := step (o := .lst cMost) d4 h5
  have m5 := m4.trans (same_upd (o := .lst cMost) h5)
  cases i5 : inV (.str q) cMost with
  | true =>
    rw [i5] at hfn
    cases hfn
    exact ⟨_, rfl, iteT ⟨_, rfl, rfl, C, dd, fs, _, rfl, T, noF, rfl, d5, lF, hq _ m5⟩⟩
  | false =>
  rw [i5] at hfn
  have hfn : (if q = "InvalidHead" then some ("part" : Str) else if q = "InvalidTable" then some ("rule" : Str) else if q = "InvalidText" then some ("line" : Str) else none) = some fn := hfn
  have ev : ∀ z : Str, q ≠ z → (decide (V.str q = V.str z)) = false := fun z n => decide_eq_false fun e => n (V.str.inj e)
  refine ⟨_, rfl, iteF ?_⟩
  have nS : q ≠ "InvalidStep" := fun z => by
    subst z
    have : (none : Option Str) = some fn := hfn
    cases this
  refine ⟨_, rfl, rfl, C, dd, fs, _, rfl, T, noC, rfl, d5, lC, rfl, _, rfl, ite_no (by rw [ev _ nS]; decide) ?_⟩
  refine ⟨_, rfl, rfl, C, dd, fs, _, rfl, T, noC, rfl, d5, lC, rfl, _, rfl, ?_⟩
  by_cases z1 : q = "InvalidHead"
  · rw [if_pos z1] at hfn
    cases hfn
    exact ite_of (decide_eq_true (congrArg V.str z1)) ⟨_, rfl, rfl, C, dd, fs, _, rfl, T, noF, rfl, d5, lF, hq _ m5⟩
  rw [if_neg z1] at hfn
  refine ite_no (by rw [ev _ z1]; decide) ?_
  refine ⟨_, rfl, rfl, C, dd, fs, _, rfl, T, noC, rfl, d5, lC, rfl, _, rfl, ?_⟩
  by_cases z2 : q = "InvalidTable"
  · rw [if_pos z2] at hfn
    cases hfn
    exact ite_of (decide_eq_true (congrArg V.str z2)) ⟨_, rfl, rfl, C, dd, fs, _, rfl, T, noF, rfl, d5, lF, hq _ m5⟩
  rw [if_neg z2] at hfn
  refine ite_no (by rw [ev _ z2]; decide) ?_
  refine ⟨_, rfl, rfl, C, dd, fs, _, rfl, T, noC, rfl, d5, lC, rfl, _, rfl, ?_⟩
  by_cases z3 : q = "InvalidText"
  · rw [if_pos z3] at hfn
    cases hfn
    exact ite_of (decide_eq_true (congrArg V.str z3)) ⟨_, rfl, rfl, C, dd, fs, _, rfl, T, noF, rfl, d5, lF, hq _ m5⟩
  rw [if_neg z3] at hfn
  cases hfn
end
/-! ### ask and tell: a value with no code, or an error's code and field -/
/-- what is wished of the exceptions that ask() lets out -/
def ErrWish (K : PySem.W.Frag) (cs : List Value) (Q : VK) : XK := fun cls d H => PySem.W.exmAny K cls cs = some true ∧ ∃ (q : Str) (v : V), ErrAt K cls d H q v ∧ ∀ H2 p, Same H H2 → H2 p = none → Q (.ref p) (upd H2 p (.tup [.str q, v]))
def spField1 (K : PySem.W.Frag) (a : Addr) (cls : Value) (d : Option Addr) : Sp := fun vs H Q _ => ∃ (q : Str) (v : V), vs = [.ref a] ∧ ErrAt K cls d H q v ∧ ∀ H', Same H H' → Q v H'
theorem pe_fld {Y : Cx} (K : PySem.W.Frag) {a : Addr} {oe : Obj} {cls : Value} {d : Option Addr} {ps1 pos : Pos} {e : Expr} {es : List Expr} {t : TA} (G : HasP Y.prog Y.w Y.K Y.mg Y.base 1 "_law_field" ["_law_e"] (spField Y.K)) (hr : L2H.RoomH 1 Y.A) (hp : (a, oe) ∈ Y.pn)
    (hz : Zc cls d oe) (hf : ∃ vs, oe.data = .fields vs) (hg : Gl Y "_law_field") (ha : PA Y (e :: es) t) (hK : Y.K = K := by rfl) (he : starEach (e :: es) Y.env = (false, eval e Y.env) :: starEach es Y.env := by rfl) (hpl : (backTo pos (starEach es Y.env)).any (·.1) = false := by rfl) :
    PE Y (.Call (.Name "_law_field" ps1) (e :: es) [] pos) (tCall (spField1 K a cls d) [] E0 t) := by
  subst hK
  exact pe_ownP G hr hp (fun vs H Q ⟨q, v, e, r⟩ => ⟨cls, d, q, v, e, hz, hf, r⟩) hg ha (by decide) he hpl
def TGot (K : PySem.W.Frag) (cs : List Value) : (XK → Hp → VK → Prop) → Hp → VK → Prop := fun tl H Q => tl (ErrWish K cs Q) H fun v H1 => 2 ≤ sizeLine ∧ ∀ p, H1 p = none → Q (.ref p) (upd H1 p (.tup [.str "", v]))
section
variable {X : Cx}
theorem got_gives {g : Addr} {cdg : Value} {q : Str} {C1 C2 C3 : Value} {k : Nat} (hr : Room (k + 2) X.A) (G_l_field : HasP X.prog X.w X.K X.mg X.base 1 "_law_field" ["_law_e"] (spField X.K)) (m1 : X.mg "RingError" = some C1) (m2 : X.mg "Missing" = some C2) (m3 : X.mg "NothingLeft" = some C3) :
    LamX.GivesTo X N_l_got "_law_got" (defScope s_l_got) g cdg (defBody s_l_got) "_law_ask" q (TGot X.K [C1, C2, C3]) := by
  intro f c' s H Q tl act hc h
  have hr1 : Room (k + 1) (X.A.deeper (envOfC "_law_got" (defScope s_l_got) s.heap.objs.size g cdg)) := hr.deeper _
  have hr2 : ∀ a : Addr, L2H.RoomH 1 ((X.A.deeper (envOfC "_law_got" (defScope s_l_got) s.heap.objs.size g cdg)).mark (some (.ref a))) := fun a => by
    have r := hr1.mono (Nat.succ_le_succ (Nat.zero_le k))
    exact ⟨r.dp, r.un⟩
  refine ⟨_, pss_one (ps_try_tup3 (X := (cxOf C8.CX0 X.prog X.w X.K X.mg X.base N_l_got "_law_got" (defScope s_l_got) g cdg X.A X.stack s H C8.E0).nox) (i := 1) (c1 := C1) (c2 := C2) (c3 := C3)
      (tb := fun W D σ H => ∃ Ech : XK, (∀ cls d σ' H', Ech cls d H' → W cls d σ' H') ∧ σ[0]? = some (some (.ref f)) ∧ H c' = some (LamX.CodeO c' q) ∧ tl Ech H (fun v H1 => 2 ≤ sizeLine ∧ ∀ p, H1 p = none → D.rt (.ref p) (upd H1 p (.tup [.str "", v]))))
      rfl rfl sc_l_got.nd rfl rfl ⟨rfl, by decide, .inl m1⟩ ⟨rfl, by decide, .inl m2⟩ ⟨rfl, by decide, .inl m3⟩ (fun W pn xe tk _ => ?_) (fun a oe cls d pn hz hf => pss_one (ps_ret (pe_tup (pa_cons (pe_xg (K := X.K) (List.mem_cons_self) hz hf (pv 1)) (pa_cons (pe_fld (Y := Cx.suite (cxOf C8.CX0 X.prog X.w X.K X.mg X.base N_l_got "_law_got" (defScope s_l_got) g cdg X.A X.stack s H C8.E0).nox a ((a, oe) :: pn)) X.K G_l_field (hr2 a) (List.mem_cons_self) hz hf rfl (pa_cons (pv 1) pa_nil)) pa_nil)))))), ?_⟩
  · constructor
    intro pins s' σ H' D I h'
    obtain ⟨Ech, hW, h1, h2, h3⟩ := h'
    have hp := fun p1 p2 => act W pn xe Ech p1 p2 tk hW
    exact (pss_one (ps_ret (pe_tup (pa_cons pe_str (pa_cons (hp _ _) pa_nil))))).run pins s' σ H' D I ⟨h1, h2, h3⟩
  · refine ⟨ErrWish X.K [C1, C2, C3] Q, fun cls d σ' H' ⟨hm, qq, v, er, hQ⟩ => ⟨hm, fun a na hl => ?_⟩, rfl, hc, h⟩
    obtain ⟨C, dd, fs, fn, rfl, T, rfl, hd, noC, lC, hfn, noF, lF⟩ := er.ex
    have hv : (σ'.set 1 (some (.ref a)))[1]? = some (some (V.ref a)) := List.getElem?_set_self (by rw [hl]; show 1 < N_l_got.length; decide)
    exact ⟨_, hv, rfl, C, dd, fs, _, rfl, T, noC, rfl, hd, lC, _, hv, qq, v, rfl, er, fun H2 s2 => ⟨by show 2 ≤ sizeLine; decide, fun p hp => hQ H2 p s2 hp⟩⟩
end
end My
/-! lambdas that a list holds: made, handed on, called by defs of one's own -/
namespace LamL
open PySem PySem.Spec PyProof.Rows L2 LamX My
/-- what is asked of the state at a call holds over a larger ground: all that is there, but the tracked things and the frames that run -/
theorem ground {X : Cx} {pins : List (Addr × Obj)} {σ : L2.St} {H : Hp} {s : Shared} (I : Inv X pins σ H s) (hfn : ∀ x, X.fn x = true) :
    ∃ B : Heap, Env0 X.prog X.w X.K X.mg B X.A X.stack s H ∧ (∀ b o, X.base.get? b = some o → B.get? b = some o) ∧ X.base.objs.size ≤ B.objs.size ∧ (∀ b o, B.get? b = some o → s.heap.get? b = some o) ∧ ∀ x c, X.env.cells.lookup x = some c → ∃ o, s.heap.get? c = some o ∧ B.get? c = some o := by
  have kp : ∀ b o, s.heap.get? b = some o → H b = none → b ∉ frs X.stack → (PySem.W.hideAll s.heap (trk s.heap H ++ frs X.stack)).get? b = some o := fun b o e n f =>
    PySem.W.hideAll_get _ e fun m => (List.mem_append.mp m).elim (fun z => by
      have q : (H b).isSome = true := (List.mem_filter.mp z).2
      rw [n] at q
      cases q) f
  have bk : ∀ b o, X.base.get? b = some o → (PySem.W.hideAll s.heap (trk s.heap H ++ frs X.stack)).get? b = some o := fun b o e => kp b o (I.bs b o e).1 (I.bs b o e).2 fun hm => by
    have z := (I.stack.mem hm).1
    rw [e] at z
    cases z
  have hs : (PySem.W.hideAll s.heap (trk s.heap H ++ frs X.stack)).objs.size = s.heap.objs.size := PySem.W.hideAll_size _ _
  obtain ⟨mb, b1, b2⟩ := I.mod.blt
  refine ⟨_, ⟨I.ok.frames, ⟨I.mod.kin.keeps bk, I.mod.glob.keeps bk, ⟨mb, b1.keeps bk, b2⟩, I.mod.nolimit.keeps bk⟩, fun b o e => ?_, Nat.le_of_eq hs, funFrames_none I.stack fun L hL => PySem.W.hideAll_none _ (List.mem_append_right _ hL), I.stkFree, I.hok, I.bare⟩, bk, by rw [hs]; exact Nat.le_trans I.ok.bsz I.sz, fun b o e => PySem.W.of_hideAll _ e, fun x c e => ?_⟩
  · have e1 := PySem.W.of_hideAll _ e
    refine ⟨e1, ?_⟩
    cases q : H b with
    | none => rfl
    | some u =>
      have hm : b ∈ trk s.heap H := List.mem_filter.mpr ⟨List.mem_range.mpr (Heap.lt_size e1), by rw [q]; rfl⟩
      rw [PySem.W.hideAll_none _ (List.mem_append_left _ hm)] at e
      cases e
  · obtain ⟨v, o, ho, hd⟩ := I.cell x c e
    refine ⟨o, ho, kp c o ho (I.freeC x c e) fun hm => ?_⟩
    rcases List.mem_cons.mp (I.stkSub c hm) with z | z
    · exact I.cne x c e z
    · obtain ⟨_, o', e', _⟩ := I.ok.funs.mem z
      exact Nat.lt_irrefl _ (Nat.lt_of_lt_of_le (Heap.lt_size e') (I.ok.cab x c (hfn x) e))
/-! ### the function's object -/
def FunO (f : Addr) (fd : FuncData) : HO := .ext fun h => h.get? f = some { cls := .type "function", data := .func fd }
theorem funO_ne {f : Addr} {fd : FuncData} (ps : Array Value) : FunO f fd ≠ .tbl ps := fun z => by
  unfold FunO at z
  cases z
theorem funO_get {P : Program} {w : World} {H : Hp} {h : Heap} {f : Addr} {fd : FuncData} (k : HOk P w H h) (e : H f = some (FunO f fd)) : h.get? f = some { cls := .type "function", data := .func fd } := (k f _ e).1
/-- a lambda, as it is written: the names with a default (one at most), its text -/
structure LamD where
  pn : List Str
  params : Arguments
  body : Expr
  scope : Scope
  /-- the slots of the maker's names that a parameter hides -/
  ws : List Nat
abbrev lamFd (X : Cx) (L : LamD) (dV doc pm : Value) (c' : Addr) (ctv : Value) : FuncData :=
  PySem.W.kdv_fn "<lambda>" (X.env.qual ++ "<lambda>") L.params (.expr L.body) L.scope (cloFrom X.env.cells L.scope.names []) dV doc pm (.ref c') ctv
/-- it was made here, and lies at f -/
def IsLam (X : Cx) (L : LamD) (H : Hp) (f : Addr) : Prop := ∃ (c' : Addr) (dV doc pm ctv : Value), H f = some (FunO f (lamFd X L dV doc pm c' ctv)) ∧ H c' = some (CodeO c' (X.env.qual ++ "<lambda>")) ∧
  ((L.pn = [] ∧ dV = .none) ∨ ∃ n T, L.pn = [n] ∧ dV = .ref T ∧ H T = some (.tup [.int 0]))
theorem IsLam.ext {X : Cx} {L : LamD} {H H' : Hp} {f : Addr} (h : IsLam X L H f) (e : ExtN H H') : IsLam X L H' f := by
  obtain ⟨c', dV, doc, pm, ctv, h1, h2, h3⟩ := h
  refine ⟨c', dV, doc, pm, ctv, e _ _ h1 funO_ne, e _ _ h2 codeO_ne, ?_⟩
  rcases h3 with ⟨a, b⟩ | ⟨n, T, a, b, c⟩
  · exact .inl ⟨a, b⟩
  · exact .inr ⟨n, T, a, b, e _ _ c fun ps z => by cases z⟩
theorem IsLam.same {X : Cx} {L : LamD} {H H' : Hp} {f : Addr} (h : IsLam X L H f) (e : Same H H') : IsLam X L H' f := h.ext (ExtN.of e)
/-- the lambdas of a list, in their order -/
def LamsAt (X : Cx) : List LamD → Hp → List Addr → Prop
  | [], _, [] => True
  | L :: Ls, H, f :: fs => IsLam X L H f ∧ LamsAt X Ls H fs
  | _, _, _ => False
theorem LamsAt.ext {X : Cx} {H H' : Hp} (e : ExtN H H') : ∀ {Ls : List LamD} {fs : List Addr}, LamsAt X Ls H fs → LamsAt X Ls H' fs
  | [], [], _ => True.intro
  | _ :: _, _ :: _, h => ⟨h.1.ext e, LamsAt.ext e h.2⟩
  | [], _ :: _, h => h.elim
  | _ :: _, [], h => h.elim
theorem LamsAt.same {X : Cx} {H H' : Hp} {Ls : List LamD} {fs : List Addr} (h : LamsAt X Ls H fs) (e : Same H H') : LamsAt X Ls H' fs := h.ext (ExtN.of e)
theorem LamsAt.len {X : Cx} {H : Hp} : ∀ {Ls : List LamD} {fs : List Addr}, LamsAt X Ls H fs → fs.length = Ls.length
  | [], [], _ => rfl
  | _ :: _, _ :: _, h => congrArg (· + 1) (LamsAt.len h.2)
  | [], _ :: _, h => h.elim
  | _ :: _, [], h => h.elim
/-! ### making -/
def tMk (X : Cx) (T : List (Addr × Str)) (L : LamD) : TE := fun _ H Q => Tabs T H ∧ ∀ f H1, ExtN H H1 → Tabs T H1 → IsLam X L H1 f → Q (.ref f) H1
section
variable {X : Cx} {pins : List (Addr × Obj)} {σ : L2.St} {H : Hp} {s : Shared}
theorem mk_core {T : List (Addr × Str)} {c P : Addr} {L : LamD} {pos : Pos} {dV : Value} {E : Value → Shared → Prop} {Q : Value → Shared → Prop} (I : Inv X pins σ H s) (TB : TabB X.base X.mg c P) (hcode : X.env.code = .ref c)
    (hm : (P, X.env.qual ++ "<lambda>") ∈ T) (hu : ∀ p ∈ T, p.1 = P → p.2 = X.env.qual ++ "<lambda>") (hT : Tabs T H) (hfree : ∀ y ∈ L.scope.names, y.2 = .free → ∃ c, X.env.cells.lookup y.1 = some c)
    (h : ∀ (f c' : Addr) (doc pm ctv : Value) (H1 : Hp) (s' : Shared), Inv X pins σ H1 s' → ExtN H H1 → Tabs T H1 → H1 f = some (FunO f (lamFd X L dV doc pm c' ctv)) → H1 c' = some (CodeO c' (X.env.qual ++ "<lambda>")) → Q (.ref f) s') :
    wpAny (model X.prog X.w) X.A (makeTail "<lambda>" (X.env.qual ++ "<lambda>") L.params (.expr L.body) L.scope X.env dV .none none pos pos.line) Q E s := by
  obtain ⟨ps, tP, t3, look⟩ := hT _ hm
  have oP : s.heap.get? P = some { cls := .none, data := .fields ps } := I.hok P _ tP
  have bP : s.heap.BuiltinsAt X.mg P := TB.bm.keeps I.bk
  -- the function's object, laid behind a state that knows the tables
  have fin : ∀ {H2 : Hp} {h2 : Heap} {tk t2 : Nat} {c' : Addr} {doc pm ctv : Value}, Inv X pins σ H2 { s with heap := h2, toks := t2 } → ExtN H H2 → Tabs T H2 → H2 c' = some (CodeO c' (X.env.qual ++ "<lambda>")) →
      Q (.ref h2.objs.size) { s with heap := h2.push { cls := .type "function", data := .func (lamFd X L dV doc pm c' ctv) }, toks := tk } := fun {H2 h2 tk t2 c' doc pm ctv} I2 e2 T2 hc => by
    have n2 : H2 h2.objs.size = none := I2.hok.fresh (Nat.le_refl _)
    have sm : Same H2 (upd H2 h2.objs.size (FunO h2.objs.size (lamFd X L dV doc pm c' ctv))) := same_upd n2
    have I3 : Inv X pins σ (upd H2 h2.objs.size (FunO h2.objs.size (lamFd X L dV doc pm c' ctv))) { s with heap := h2.push { cls := .type "function", data := .func (lamFd X L dV doc pm c' ctv) }, toks := tk } :=
      I2.laid (t' := tk) (fun b u e => Heap.get?_push_of_some _ e) (Nat.le_refl _) ⟨Heap.get?_push_size _ rfl, ⟨_, Heap.get?_push_size _ rfl⟩, fun h1 h2 p st => st _ p⟩
    exact h _ c' doc pm ctv _ _ I3 (e2.trans (ExtN.of sm)) (T2.ext sm) upd_same (sm _ _ hc)
  cases hc : codeAmong pos ps.toList with
  | none =>
    refine PySem.W.kdv_makeTail (mg := X.mg) (c := c) (P := P) (ps := ps) (closure_ok hfree) I.ok.glob (I.mod.glob.keeps I.bk) hcode (TB.code.keeps I.bk) oP t3 hc TB.gP bP fun c' ctv doc h' tk hx hge hlt hrec htb => ?_
    obtain ⟨c2, oc, vs, t, e2, hoc, hd, hv⟩ := hrec
    cases e2
    have nC : H c' = none := I.hok.fresh hge
    have I1 := inv_table (t' := tk) (more := #[rawInt pos.line, rawInt pos.col, .ref c']) (h' := h') I tP hx htb hge ⟨oc, vs, t, hoc, hd, hv⟩
    have eN : ExtN H (upd (upd H P (.tbl (ps ++ #[rawInt pos.line, rawInt pos.col, .ref c']))) c' (CodeO c' (X.env.qual ++ "<lambda>"))) := by
      intro b o e n
      have bP' : b ≠ P := fun z => by
        rw [z, tP] at e
        exact n ps (Option.some.inj e).symm
      rw [upd_ne (ne_of_none e nC), upd_ne bP']
      exact e
    have atP : upd (upd H P (.tbl (ps ++ #[rawInt pos.line, rawInt pos.col, .ref c']))) c' (CodeO c' (X.env.qual ++ "<lambda>")) P = some (.tbl (ps ++ #[rawInt pos.line, rawInt pos.col, .ref c'])) := by rw [upd_ne (ne_of_none tP nC), upd_same]
    have eL : (ps ++ #[rawInt pos.line, rawInt pos.col, .ref c']).toList = ps.toList ++ [rawInt pos.line, rawInt pos.col, .ref c'] := by simp
    refine fin I1 eN (fun p hp => ?_) upd_same
    by_cases hb : p.1 = P
    · rw [hu p hp hb, hb]
      refine ⟨_, atP, by rw [eL]; exact PySem.TriplesOk_snoc _ _ _ _ t3, fun p' cv hcv => ?_⟩
      rw [eL] at hcv
      rcases among_app _ t3 hcv with z | z
      · obtain ⟨c0, e1, e2⟩ := look p' cv z
        exact ⟨c0, e1, eN _ _ e2 codeO_ne⟩
      · exact ⟨c', z, upd_same⟩
    · obtain ⟨ps', a1, a2, a3⟩ := hT p hp
      refine ⟨ps', by rw [upd_ne (ne_of_none a1 nC), upd_ne hb]; exact a1, a2, fun p' cv hcv => ?_⟩
      obtain ⟨c0, e1, e2⟩ := a3 p' cv hcv
      exact ⟨c0, e1, eN _ _ e2 codeO_ne⟩
  | some cv =>
    obtain ⟨c', e, hco⟩ := look pos cv hc
    subst e
    refine PySem.W.kdv_makeTailHit (mg := X.mg) (c := c) (P := P) (ps := ps) (closure_ok hfree) I.ok.glob (I.mod.glob.keeps I.bk) hcode (TB.code.keeps I.bk) oP t3 hc bP fun ctv doc h' tk hx hsz => ?_
    exact fin (I.kept (t' := tk) hx) (ExtN.refl H) hT hco
/-- what is asked of a lambda's text: no parameter, or one with the default 0 -/
structure LamTxt (X : Cx) (L : LamD) : Prop where
  kind : L.scope.kind = .function
  co : L.scope.isCoroutine = false
  gen : L.scope.isGenerator = false
  cell : ∀ y ∈ L.scope.names, y.2 ≠ .cell
  loc : ∀ y ∈ L.scope.names, y.2 = .local → y.1 ∈ L.pn ∧ ∀ i, X.N[i]? = some y.1 → i ∈ L.ws
  par : ∀ n ∈ L.pn, L.scope.names.lookup n = some .local
  free : ∀ y ∈ L.scope.names, y.2 = .free → X.env.scope.names.lookup y.1 = some .cell ∨ X.env.scope.names.lookup y.1 = some .free
def lamTxtB (N : List Str) (sc : Scope) (pn : List Str) (ws : List Nat) (scope : Scope) : Bool :=
  decide (scope.kind = .function) && !scope.isCoroutine && !scope.isGenerator && (scope.names.all fun y => !decide (y.2 = .cell) && (!decide (y.2 = .local) || (decide (y.1 ∈ pn) && (List.range N.length).all fun i => !decide (N[i]? = some y.1) || decide (i ∈ ws))) && (!decide (y.2 = .free) || decide (sc.names.lookup y.1 = some .cell) || decide (sc.names.lookup y.1 = some .free))) &&
    pn.all fun n => decide (scope.names.lookup n = some .local)
theorem lamTxt_by {X : Cx} {L : LamD} (h : lamTxtB X.N X.env.scope L.pn L.ws L.scope = true) : LamTxt X L := by
  unfold lamTxtB at h
  simp only [Bool.and_eq_true, Bool.or_eq_true, Bool.not_eq_true', decide_eq_true_eq, decide_eq_false_iff_not, List.all_eq_true] at h
  obtain ⟨⟨⟨⟨h1, h2⟩, h3⟩, h4⟩, h5⟩ := h
  refine ⟨h1, h2, h3, fun y hy => (h4 y hy).1.1, fun y hy e => ?_, h5, fun y hy e => ?_⟩
  · obtain ⟨z1, z2⟩ := ((h4 y hy).1.2).resolve_left fun z => z e
    exact ⟨z1, fun i hi => (z2 i (List.mem_range.mpr (List.getElem?_eq_some_iff.mp hi).1)).resolve_left fun z => z hi⟩
  rcases (h4 y hy).2 with (z | z) | z
  · exact absurd e z
  · exact .inl z
  · exact .inr z
theorem lamTxt_at {X : Cx} {L : LamD} (N : List Str) (sc : Scope) (h : lamTxtB N sc L.pn L.ws L.scope = true) (hN : X.N = N := by rfl) (hs : X.env.scope = sc := by rfl) : LamTxt X L := by
  subst hN
  subst hs
  exact lamTxt_by h
theorem LamTxt.has {L : LamD} (t : LamTxt X L) (ok : X.Ok) : ∀ y ∈ L.scope.names, y.2 = .free → ∃ c, X.env.cells.lookup y.1 = some c := fun y hy e => ok.has _ (t.free y hy e)
/-- lambda: body -/
theorem pe_mk0 {T : List (Addr × Str)} {c P : Addr} {params : Arguments} {body : Expr} {scope : Scope} {pos : Pos} (TB : TabB X.base X.mg c P) (hcode : X.env.code = .ref c) (hm : (P, X.env.qual ++ "<lambda>") ∈ T) (hu : ∀ p ∈ T, p.1 = P → p.2 = X.env.qual ++ "<lambda>")
    (t : LamTxt X ⟨[], params, body, scope, []⟩) (hdef : defaultsOf params X.env = ([], [])) : PE X (.Lambda params body scope pos) (tMk X T ⟨[], params, body, scope, []⟩) := by
  refine ⟨fun pins s σ H Q I h => ?_⟩
  obtain ⟨hT, h⟩ := h
  refine PySem.W.kla_eval hdef ?_
  rw [makeFunction_eq]
  simp only [List.zip_nil_right, List.filterMap_nil, List.isEmpty_nil, if_true, pure_bind]
  refine mk_core (L := ⟨[], params, body, scope, []⟩) I TB hcode hm hu hT (t.has I.ok) fun f c' doc pm ctv H1 s' I1 e1 T1 hf hc => ?_
  exact ⟨.ref f, H1, I1, rfl, h f H1 e1 T1 ⟨c', _, doc, pm, ctv, hf, hc, .inl ⟨rfl, rfl⟩⟩⟩
/-- lambda n=0: body -/
theorem pe_mk1 (ws : List Nat) {T : List (Addr × Str)} {c P : Addr} {n : Str} {params : Arguments} {body d0 : Expr} {scope : Scope} {pos : Pos} (TB : TabB X.base X.mg c P) (hcode : X.env.code = .ref c) (hm : (P, X.env.qual ++ "<lambda>") ∈ T) (hu : ∀ p ∈ T, p.1 = P → p.2 = X.env.qual ++ "<lambda>")
    (t : LamTxt X ⟨[n], params, body, scope, ws⟩) (hd : params.defaults = [d0]) (hk0 : params.kw_defaults = []) (h0 : PE X d0 (tC (.int 0))) : PE X (.Lambda params body scope pos) (tMk X T ⟨[n], params, body, scope, ws⟩) := by
  refine ⟨fun pins s σ H Q I h => ?_⟩
  obtain ⟨hT, h⟩ := h
  refine PySem.W.kdv_lam (by rw [hd]; rfl) hk0 ?_
  rw [hd]
  refine PySem.W.kdv_all1 (thn (h0.run pins s σ H (fun v H' => v = .int 0 ∧ H' = H) I ⟨rfl, rfl⟩) fun u s1 ⟨v, H', I1, r, ev, eH⟩ => PySem.W.kdv_all0 ?_)
  subst ev
  subst eH
  rw [makeFunction_eq]
  simp only [List.zip_nil_right, List.filterMap_nil, List.isEmpty_nil, if_true, pure_bind, List.isEmpty_cons, Bool.false_eq_true, if_false]
  have nT : H' s1.heap.objs.size = none := I1.hok.fresh (Nat.le_refl _)
  have sm : Same H' (upd H' s1.heap.objs.size (.tup [.int 0])) := same_upd nT
  refine wpAny_bind (wpAny_newTextTuple ?_)
  have I2 : Inv X pins σ (upd H' s1.heap.objs.size (.tup [.int 0])) { s1 with heap := s1.heap.push { cls := .type "tuple", data := .seq [u].toArray } } :=
    I1.laid (t' := s1.toks) (fun b u e => Heap.get?_push_of_some _ e) (Nat.le_refl _) ⟨by show 1 ≤ sizeLine; decide, [u], .cons r .nil, ⟨_, Heap.get?_push_size _ rfl, rfl, _, rfl⟩⟩
  refine mk_core (L := ⟨[n], params, body, scope, ws⟩) I2 TB hcode hm hu (hT.ext sm) (t.has I2.ok) fun f c' doc pm ctv H1 s' I3 e1 T1 hf hc => ?_
  exact ⟨.ref f, H1, I3, rfl, h f H1 ((ExtN.of sm).trans e1) T1 ⟨c', _, doc, pm, ctv, hf, hc, .inr ⟨n, _, rfl, rfl, e1 _ _ upd_same fun ps z => by cases z⟩⟩⟩
/-- a list's lambdas -/
def tMks (X : Cx) (T : List (Addr × Str)) (Ls : List LamD) : TA := fun _ H Q => Tabs T H ∧ ∀ fs H1, ExtN H H1 → Tabs T H1 → LamsAt X Ls H1 fs → Q (fs.map V.ref) H1
theorem pal_nil {T : List (Addr × Str)} : PA X [] (tMks X T []) := ⟨fun pos pins s σ H Q I h => pa_nil.run pos pins s σ H Q I (h.2 [] H (ExtN.refl H) h.1 True.intro)⟩
theorem pal_cons {T : List (Addr × Str)} {L : LamD} {Ls : List LamD} {e : Expr} {es : List Expr} (he : PE X e (tMk X T L)) (ha : PA X es (tMks X T Ls)) (hs : starEach (e :: es) X.env = (false, eval e X.env) :: starEach es X.env := by rfl) : PA X (e :: es) (tMks X T (L :: Ls)) :=
  ⟨fun pos pins s σ H Q I h => (pa_cons he ha hs).run pos pins s σ H Q I ⟨h.1, fun f H1 e1 T1 l1 => ⟨T1, fun fs H2 e2 T2 l2 => h.2 (f :: fs) H2 (e1.trans e2) T2 ⟨l1.ext e2, l2⟩⟩⟩⟩
end
end LamL
namespace LamL
open PySem PySem.Spec PyProof.Rows L2 LamX My
/-! ### calling -/
/-- f() at any state over the ground B keeps what tl reads -/
def Can (P : Program) (w : World) (K : PySem.W.Frag) (mg : Str → Option Value) (B : Heap) (k : Nat) (f : Addr) (tl : XK → Hp → VK → Prop) : Prop := ∀ (A : Around) (outer : List Env) (s : Shared) (H : Hp) (Q : VK) (E : XK),
  Room k A → Env0 P w K mg B A outer s H → tl E H Q → codeAny (model P w) A (.call (.ref f) ⟨[], []⟩) (CR (L2.CX P w) outer P w H s Q E) s
/-- how the call binds -/
def LamBind (L : LamD) : Prop :=
  (L.pn = [] → ∀ (q : Str) (cl : List (Str × Addr)) (doc pm cv ctv : Value), bindArgs (PySem.W.kdv_fn "<lambda>" q L.params (.expr L.body) L.scope cl .none doc pm cv ctv) ⟨[], []⟩ = pure []) ∧
  ∀ n, L.pn = [n] → ∀ (q : Str) (cl : List (Str × Addr)) (T : Addr) (doc pm cv ctv u : Value), ∃ k : Option (Array Value) → Sem (List (Str × Value)),
    bindArgs (PySem.W.kdv_fn "<lambda>" q L.params (.expr L.body) L.scope cl (.ref T) doc pm cv ctv) ⟨[], []⟩ = seqItems? (.ref T) >>= k ∧ k (some #[u]) = pure [(n, u)]
section
variable {X : Cx} {pins : List (Addr × Obj)} {σ : L2.St} {H : Hp} {s : Shared}
theorem lam_enter {A : Around} {outer : List Env} {E : XK} {L : LamD} {f c' : Addr} {h₁ : Heap} {tk : Nat} {B : Heap} {s1 : Shared} {HZ : Hp} {binds : List (Str × Value)} (I : Inv X pins σ H s) (t : LamTxt X L) (e0 : Env0 X.prog X.w X.K X.mg B A outer s1 HZ) (hd : A.handled = none)
    (bk : ∀ b o, X.base.get? b = some o → B.get? b = some o) (bsz : X.base.objs.size ≤ B.objs.size) (bc : ∀ x c, X.env.cells.lookup x = some c → ∃ o, s.heap.get? c = some o ∧ B.get? c = some o)
    (hns : h₁.Ns s1.heap.objs.size fun y => binds.reverse.lookup y) (kp : ∀ b o, s1.heap.get? b = some o → h₁.get? b = some o) :
    Inv (lamCx X A outer s1 HZ E L.scope f c') [] (wipe σ L.ws) HZ { s1 with heap := h₁, toks := tk } := by
  have hfree := t.has I.ok
  have cm : ∀ {y c}, (cloFrom X.env.cells L.scope.names []).lookup y = some c → X.env.cells.lookup y = some c := by
    intro y c e
    cases cloFrom_mem (PySem.mem_of_lookup e) with
    | inl hm => cases hm
    | inr hm =>
      obtain ⟨h1, h2⟩ := hm
      obtain ⟨c1, hc⟩ := hfree _ h1 rfl
      have hc : X.env.cells.lookup y = some c1 := hc
      rw [h2, hc]
      rfl
  have look : ∀ {y}, L.scope.names.lookup y = some .free → ∃ c, (cloFrom X.env.cells L.scope.names []).lookup y = some c := by
    intro y hl
    exact mem_lookup (cloFrom_has (cells := X.env.cells) (acc := []) (PySem.mem_of_lookup hl))
  have old : ∀ {x c}, X.env.cells.lookup x = some c → ∀ v, s.heap.IsCell c v → HZ c = none ∧ h₁.IsCell c v := by
    rintro x c e v ⟨o, ho, hd⟩
    obtain ⟨o', ho', hb⟩ := bc x c e
    rw [ho] at ho'
    cases ho'
    obtain ⟨q1, q2⟩ := e0.bs c o hb
    exact ⟨q2, o, kp c o q1, hd⟩
  have none' : ∀ b : Addr, b ∉ (lamCx X A outer s1 HZ E L.scope f c').ex := by
    intro b z
    cases (show b ∈ ([] : List Addr) from z)
  have bs' : ∀ b o, X.base.get? b = some o → s1.heap.get? b = some o ∧ HZ b = none := fun b o e => e0.bs b o (bk b o e)
  have fr' : s1.heap.FunFrames X.base outer := funFrames_none e0.funs fun b hb => by
    have z := (e0.funs.mem hb).1
    cases q : X.base.get? b with
    | none => rfl
    | some o =>
      rw [bk b o q] at z
      cases z
  have okX : (lamCx X A outer s1 HZ E L.scope f c').Ok := by
    refine ⟨I.mod, t.kind, rfl, rfl, Nat.le_refl _, ?_, ?_, ?_, fun _ => hd, Around.frames_deeper e0.frames, .inr ⟨rfl, rfl⟩, fun b z => absurd z (none' b), bs', Nat.le_trans bsz e0.bsz, fun b _ _ => none' b, fun b z => absurd z (none' b), fr', e0.frf⟩
    · exact fun y z c e1 e2 => I.ok.inj y z c (cm e1) (cm e2)
    · intro y hy
      have hy : L.scope.names.lookup y = some .cell ∨ L.scope.names.lookup y = some .free := hy
      cases hy with
      | inl hy => exact absurd rfl (t.cell _ (PySem.mem_of_lookup hy))
      | inr hy => exact look hy
    · intro y c z _
      cases (show false = true from z)
  refine ⟨okX, rfl, e0.bare, Un.kept kp, ⟨_, hns, ?_⟩, ?_, e0.hok.fresh (Nat.le_refl _), ?_, fun q hq => absurd (show q ∈ ([] : List (Addr × Obj)) ++ [] from hq) (by simp), e0.hok.kept kp, by rw [wipe_length]; exact I.len⟩
  · intro i y v e1 e2 e3
    have e3 : Vis L.scope y := e3
    have e1 : X.N[i]? = some y := e1
    rcases e3 with k | k | k
    · exact absurd ((t.loc _ (PySem.mem_of_lookup k) rfl).2 i e1) (wipe_some e2).2
    · exact absurd rfl (t.cell _ (PySem.mem_of_lookup k))
    · obtain ⟨m, hn, hl⟩ := I.loc
      have fr := t.free _ (PySem.mem_of_lookup k) rfl
      obtain ⟨w', r, q⟩ := hl i y v e1 (wipe_some e2).1 (fr.elim (fun k => .inr (.inl k)) fun k => .inr (.inr k))
      obtain ⟨c2, h2⟩ := look k
      refine ⟨w', r, .inr ⟨.inr k, c2, h2, ?_⟩⟩
      have c1 := cm h2
      rcases q with ⟨k', _⟩ | ⟨_, c3, e', z⟩
      · have k' : X.env.scope.names.lookup y = some .local := k'
        cases fr with
        | inl k2 =>
          rw [show X.env.scope.names.lookup y = _ from k2] at k'
          cases k'
        | inr k2 =>
          rw [show X.env.scope.names.lookup y = _ from k2] at k'
          cases k'
      · rw [c1] at e'
        cases e'
        exact (old c1 _ z).2
  · intro y c e
    obtain ⟨w', z⟩ := I.cell y c (cm e)
    exact ⟨w', (old (cm e) _ z).2⟩
  · intro y c e
    obtain ⟨w', z⟩ := I.cell y c (cm e)
    exact (old (cm e) _ z).1
theorem lam_can {L : LamD} {B : Heap} {k : Nat} {f : Addr} {tb : XK → TE} (I : Inv X pins σ H s) (t : LamTxt X L) (hb : LamBind L) (bk : ∀ b o, X.base.get? b = some o → B.get? b = some o) (bsz : X.base.objs.size ≤ B.objs.size)
    (bc : ∀ x c, X.env.cells.lookup x = some c → ∃ o, s.heap.get? c = some o ∧ B.get? c = some o)
    (hbody : ∀ (A : Around) (outer : List Env) (s : Shared) (H : Hp) (E : XK) (f c' : Addr), Room k (A.deeper (lamEnv X L.scope s.heap.objs.size f c')) → PE (lamCx X A outer s H E L.scope f c') L.body (tb E)) :
    Can X.prog X.w X.K X.mg B (k + 1) f fun E HZ Q => IsLam X L HZ f ∧ tb E (wipe σ L.ws) HZ Q := by
  rintro A outer s1 HZ Q E hr e0 ⟨⟨c', dV, doc, pm, ctv, hf, hc, hp⟩, ht⟩
  have of1 := funO_get e0.hok hf
  obtain ⟨⟨oc, vs, tt, hoc, hdc, hvc⟩, _, _⟩ := e0.hok c' _ hc
  have lim : s1.heap.NoLimit := e0.mod.nolimit.keeps fun b o e => (e0.bs b o e).1
  have run : ∀ binds : List (Str × Value), (∀ y ∈ binds, L.scope.names.lookup y.1 = some .local) → BindsTo s1 (lamFd X L dV doc pm c' ctv) ⟨[], []⟩ binds → codeAny (model X.prog X.w) A (.call (.ref f) ⟨[], []⟩) (CR (L2.CX X.prog X.w) outer X.prog X.w HZ s1 Q E) s1 := by
    intro binds hl hbd
    refine PySem.W.kla_callFunE hr.depth of1 rfl t.co t.gen rfl ⟨c', oc, vs, tt, rfl, hoc, hdc, hvc⟩ (hbd _ _ _ _ ?_)
    refine wpAny_newFunctionEnv (fun y hy => t.cell y hy) hl (fun h₁ hns hsb => ⟨lim.fresh _ hsb, ?_⟩) t.kind
    have kp : ∀ b o, s1.heap.get? b = some o → h₁.get? b = some o := fun b o e => hsb.extBut b o (Nat.ne_of_lt (Heap.lt_size e)) (Heap.get?_push_of_some _ e)
    have J := lam_enter (tk := s1.toks + binds.length) (E := E) (f := f) (c' := c') I t e0 hr.hd bk bsz bc hns kp
    refine PySem.W.kla_codeExpr (wpAny_mono ((hbody A outer s1 HZ E f c' (hr.deeper _)).run [] _ _ HZ Q J ht) ?_ fun e s' hq => hq)
    rintro v s' ⟨w', H', J', rv, q⟩
    exact ⟨w', H', J'.os, J'.bare, J'.base, J'.hok, rv, q⟩
  rcases hp with ⟨hn, rfl⟩ | ⟨n, T, hn, rfl, hT⟩
  · exact run [] (fun y hy => by cases hy) (.of_eq (hb.1 hn _ _ _ _ _ _))
  · obtain ⟨_, its, r, o, ho, _, m, hd⟩ := e0.hok T _ hT
    cases r with
    | cons r1 r2 =>
      cases r2
      rename_i u
      obtain ⟨k', h1, h2⟩ := hb.2 n hn (X.env.qual ++ "<lambda>") (cloFrom X.env.cells L.scope.names []) T doc pm (.ref c') ctv u
      refine run [(n, u)] (fun y hy => ?_) (.of_defaults rfl ho hd h1 h2)
      rw [List.mem_singleton.mp hy]
      exact t.par n (by rw [hn]; exact List.mem_cons_self)
end
end LamL
namespace LamL
open PySem PySem.Spec PyProof.Rows L2 LamX My
/-! ### x(), in the def that got the lambda -/
def Known (H : Hp) (f : Addr) : Prop := (∃ fd, H f = some (FunO f fd)) ∧ ∃ c' q, H c' = some (CodeO c' q)
theorem Known.same {H H' : Hp} {f : Addr} (h : Known H f) (s : Same H H') : Known H' f := by
  obtain ⟨⟨fd, a⟩, c', q, b⟩ := h
  exact ⟨⟨fd, s _ _ a⟩, c', q, s _ _ b⟩
theorem IsLam.known {X : Cx} {L : LamD} {H : Hp} {f : Addr} (h : IsLam X L H f) : Known H f := by
  obtain ⟨c', dV, doc, pm, ctv, h1, h2, _⟩ := h
  exact ⟨⟨_, h1⟩, c', _, h2⟩
theorem act_can {Z : Cx} {f : Addr} {k i : Nat} {a : Str} {W : WX} {E : XK} {tl : XK → Hp → VK → Prop} {p1 p2 : Pos} (can : Can Z.prog Z.w Z.K Z.mg Z.base k f tl) (hr : Room k Z.A) (tk : Takes Z W) (hW : ∀ cls d σ' H', E cls d H' → W cls d σ' H')
    (hN : Z.N[i]? = some a) (hv : Vis Z.env.scope a) (hd : (a == ("__debug__" : Str)) = false := by decide) (hcd : (a == ("__classdict__" : Str)) = false := by decide) :
    PE Z (.Call (.Name a p1) [] [] p2) (fun σZ HZ Q => σZ[i]? = some (some (.ref f)) ∧ (∃ fd, HZ f = some (FunO f fd)) ∧ tl E HZ Q) := by
  constructor
  rintro pins s σ H Q I ⟨hs, ⟨fd, hf⟩, ht⟩
  apply wpAny_Call_Name_kw
  apply thn ((pe_var (pos := p1) (i := i) hN hv hd hcd).run pins s σ H (fun v H1 => v = .ref f ∧ H1 = H) I ⟨.ref f, hs, rfl, rfl⟩)
  rintro u s1 ⟨v, H1, I1, r1, ev, eH⟩
  subst ev
  rw [eH] at I1
  obtain rfl : u = Value.ref f := r1
  refine PySem.W.callWith_F0 ⟨_, _, _, _, funO_get I1.hok hf⟩ (wpAny_call (codeAny_mono (can Z.A Z.stack s1 H Q E hr I1.env0 ht) fun r s' hq => ?_))
  cases r with
  | error e => exact passes_call tk hW pins σ H s1 e s' I1 hq
  | ok fl =>
    cases fl with
    | ret u => exact I1.after hq
    | next => exact False.elim hq
    | brk => exact False.elim hq
    | cont => exact False.elim hq
/-! ### _law_got, _law_all -/
section
variable {P : Program} {w : World} {K : PySem.W.Frag} {mg : Str → Option Value} {B : Heap}
/-- what f() gives, told as _law_got tells it -/
def Asked (P : Program) (w : World) (K : PySem.W.Frag) (mg : Str → Option Value) (B : Heap) (k : Nat) (cs : List Value) (f : Addr) (H : Hp) (Q : VK) : Prop :=
  ∃ tl, Can P w K mg B k f tl ∧ Known H f ∧ TGot K cs tl H Q
def spGotL (P : Program) (w : World) (K : PySem.W.Frag) (mg : Str → Option Value) (B : Heap) (k : Nat) (cs : List Value) : Sp := fun vs H Q _ => ∃ f, vs = [.ref f] ∧ Asked P w K mg B k cs f H Q
theorem ok_gotL {C1 C2 C3 : Value} {k : Nat} (F : Fn K mg "_law_got" s_l_got ["_law_ask"]) (m1 : mg "RingError" = some C1) (m2 : mg "Missing" = some C2) (m3 : mg "NothingLeft" = some C3)
    (G_l_field : HasP P w K mg B 1 "_law_field" ["_law_e"] (spField K)) : Has P w K mg B (k + 2) "_law_got" ["_law_ask"] (spGotL P w K mg B (k + 1) [C1, C2, C3]) := by
  obtain ⟨f, fd, F, m, b⟩ := F.ex
  have kp := F.kp
  obtain ⟨oc, od, kV, doc, pm, an, cdv, ct, osl, rfl, lk, hcd⟩ := F.ex
  refine ⟨f, _, ⟨fun vs H Q E h => ?_, fun A outer s H args us vs Q E hr e0 hb r h => ?_⟩, m, kp, b⟩
  · obtain ⟨g, rfl, _⟩ := h
    rfl
  obtain ⟨g, rfl, tl, can, ⟨⟨gd, hg⟩, c', q, hc⟩, ht⟩ := h
  refine run_ofS lk hcd sc_l_got hr e0 hb r rfl fun hr' => ?_
  have GG := got_gives (X := { prog := P, w := w, K := K, mg := mg, base := B, A := A, N := [], s_0 := s, H_0 := H, env := envOfC "_law_got" (defScope s_l_got) s.heap.objs.size f cdv, outer := outer, stack := outer, ex := [], fn := fun _ => true, calm := true, pn := [], xe := fun _ _ => False })
    (g := f) (cdg := cdv) (q := q) (k := k) hr G_l_field m1 m2 m3
  obtain ⟨t, h1, h2⟩ := GG g c' s H Q (fun E H' Q' => (∃ fd, H' g = some (FunO g fd)) ∧ tl E H' Q') (fun W pn xe E p1 p2 tk hW => by
    have pa := act_can (Z := Cx.tr (cxOf C8.CX0 P w K mg B N_l_got "_law_got" (defScope s_l_got) f cdv A outer s H C8.E0) pn xe) (i := 0) (a := "_law_ask") (p1 := p1) (p2 := p2) (f := g) can hr' tk hW rfl (by exact .inl rfl)
    exact ⟨fun pins s' σ' H' Q' I ⟨e1, _, e2, e3⟩ => pa.run pins s' σ' H' Q' I ⟨e1, e2, e3⟩⟩) hc ⟨⟨gd, hg⟩, ht⟩
  exact ⟨t, h1.nox, h2⟩
/-! ### a list of one's own, out of a callee's sight -/
def hid (H : Hp) (D : Addr) : Hp := fun b => if b = D then none else H b
theorem hid_at {H : Hp} {D : Addr} : hid H D D = none := if_pos rfl
theorem hid_ne {H : Hp} {D b : Addr} (h : b ≠ D) : hid H D b = H b := if_neg h
theorem hid_some {H : Hp} {D b : Addr} {o : HO} (h : hid H D b = some o) : b ≠ D ∧ H b = some o := by
  by_cases z : b = D
  · rw [z, hid_at] at h
    cases h
  · rw [hid_ne z] at h
    exact ⟨z, h⟩
theorem hid_none {H : Hp} {D b : Addr} (h : H b = none) : hid H D b = none := by
  by_cases z : b = D
  · rw [z, hid_at]
  · rw [hid_ne z, h]
theorem hid_sub {H : Hp} {D : Addr} : Same (hid H D) H := fun b o h => (hid_some h).2
theorem hid_same {H H' : Hp} {D : Addr} (h : H D = none) (s : Same H H') : Same H (hid H' D) := fun b o e => by
  rw [hid_ne (ne_of_none e h)]
  exact s _ _ e
theorem hid_upd {H : Hp} {D : Addr} {o : HO} (h : H D = none) : hid (upd H D o) D = H := by
  funext b
  by_cases z : b = D
  · rw [z, hid_at, h]
  · rw [hid_ne z, upd_ne z]
theorem hok_hid {h : Heap} {H : Hp} {D : Addr} {xs : List V} (k : HOk P w H h) (hD : H D = some (.lst xs)) : HOk P w (hid H D) h := fun b o e => by
  obtain ⟨_, e'⟩ := hid_some e
  refine (k b o e').stay (fun _ _ _ q => q) (fun c q => ?_) fun c ys q => ?_
  · rw [hid_ne (ne_of q hD fun z => by cases z)]
    exact q
  · rw [hid_ne (ne_of q hD fun z => by cases z)]
    exact q
/-- the callee runs, the list at D hidden from it -/
theorem ce_hid {outer : List Env} {H : Hp} {s s' : Shared} {D : Addr} {xs : List V} {Q : VK} {u : Value} (k : HOk P w H s.heap) (hD : H D = some (.lst xs)) (fr : D ∉ frs outer)
    (h : CE outer P w (hid H D) s (fun v H' => H' D = none → Q v (upd H' D (.lst xs))) u s') : CE outer P w H s Q u s' := by
  obtain ⟨v, H', os, ag, un, hok, r, q⟩ := h
  obtain ⟨hl, its, n, rv, ho⟩ : ObjOk P w H s.heap D (.lst xs) := k D _ hD
  have nD : H' D = none := un.free D _ ho hid_at (fun z => by cases z)
  have oD := un.keep D _ ho hid_at fr (fun z => by cases z)
  have ne : ∀ {b : Addr} {o : HO}, H' b = some o → b ≠ D := fun e => ne_of_none e nD
  have nh : ∀ {b : Addr} {o : HO}, H b = some o → (∀ ys, o ≠ .lst ys) → b ≠ D := fun {b o} e n z => by
    rw [z, hD] at e
    exact n xs (Option.some.inj e).symm
  refine ⟨v, _, os, ag, ⟨fun b o e n => un.keep b o e (hid_none n), fun b o e n => un.slot b o e (hid_none n), fun b o e n hx => ?_, un.there, fun b ys e => ?_, fun b o z e => ?_, fun b ps e => ?_⟩, fun b o e => ?_, r, q nD⟩
  · have z : b ≠ D := fun z => by
      rw [z, hD] at n
      cases n
    rw [upd_ne z]
    exact un.free b o e (hid_none n) hx
  · have z := nh e fun ys q => by cases q
    rw [upd_ne z]
    exact un.tups b ys (by rw [hid_ne z]; exact e)
  · have z' := nh e fun ys q => by cases q
    rw [upd_ne z']
    exact un.frzs b o z (by rw [hid_ne z']; exact e)
  · have z := nh e fun ys q => by cases q
    rw [upd_ne z]
    exact un.tbls b ps (by rw [hid_ne z]; exact e)
  · by_cases z : b = D
    · rw [z, upd_same] at e
      cases e
      rw [z]
      exact ⟨hl, its, n, rv, oD⟩
    · rw [upd_ne z] at e
      refine (hok b o e).stay (fun _ _ _ q => q) (fun c q => ?_) fun c ys q => ?_
      · rw [upd_ne (ne q)]
        exact q
      · rw [upd_ne (ne q)]
        exact q
def tCallD (sp : Sp) (t : TA) : TE := fun σ H Q => t σ H fun vs H1 => ∃ D xs, H1 D = some (.lst xs) ∧ sp vs (hid H1 D) (fun v H' => H' D = none → Q v (upd H' D (.lst xs))) E0
theorem pe_ownD {X : Cx} {k : Nat} {x : Str} {ps : List Str} {sp : Sp} {p pos : Pos} {e : Expr} {es : List Expr} {t : TA} (h : Has X.prog X.w X.K X.mg X.base k x ps sp) (hr : Room k X.A) (hg : Gl X x) (ha : PA X (e :: es) t) (hdb : (x == ("__debug__" : Str)) = false := by decide)
    (he : starEach (e :: es) X.env = (false, eval e X.env) :: starEach es X.env := by rfl) (hpl : (backTo pos (starEach es X.env)).any (·.1) = false := by rfl) : PE X (.Call (.Name x p) (e :: es) [] pos) (tCallD sp t) := by
  obtain ⟨f, fd, F, m, kp, hb⟩ := h.ex
  constructor
  intro pins s σ H Q I h
  apply wpAny_Call_Name_kw (ld_glob I hg m ?_ hdb)
  apply PySem.W.callWith_K (h₀ := X.base) I.ok.mod.kin kp _ he hpl
  apply thn (ha.run pos pins s σ H _ I h)
  rintro us s1 ⟨vs, H1, I1, r, D, xs, hD, q⟩
  refine ⟨I1.kIn, ?_⟩
  have b := hb s1 us I1.kIn (by rw [List.append_nil, ← r.length]; exact F.len _ _ _ _ q)
  rw [List.append_nil] at b
  have e1 := I1.env0
  have e2 : Env0 X.prog X.w X.K X.mg X.base X.A X.stack s1 (hid H1 D) := ⟨e1.frames, e1.mod, fun b o e => ⟨(e1.bs b o e).1, hid_none (e1.bs b o e).2⟩, e1.bsz, e1.funs, fun b hb => hid_none (e1.frf b hb), hok_hid e1.hok hD, e1.bare⟩
  apply wpAny_call
  apply codeAny_mono (F.run X.A X.stack s1 (hid H1 D) ⟨us, []⟩ us vs _ E0 hr e2 b r q)
  intro r s' hq
  cases r with
  | error e => exact (show False from hq).elim
  | ok fl =>
    cases fl with
    | ret u => exact I1.after (ce_hid I1.hok hD (fun z => by have := I1.stkFree D z; rw [hD] at this; cases this) hq)
    | next => exact False.elim hq
    | brk => exact False.elim hq
    | cont => exact False.elim hq
abbrev Res := V → Hp → Prop
def Keeps (R : Res) : Prop := ∀ v H H', R v H → Same H H' → R v H'
/-- each lambda gives, wherever it is asked behind H, what its R says -/
def AskedAll (P : Program) (w : World) (K : PySem.W.Frag) (mg : Str → Option Value) (B : Heap) (k : Nat) (cs : List Value) (H : Hp) (fs : List Addr) (Rs : List Res) : Prop :=
  Paired (fun f R => Keeps R ∧ Known H f ∧ ∀ Hb Q, Same H Hb → (∀ v H', Same Hb H' → R v H' → Q v H') → Asked P w K mg B k cs f Hb Q) fs Rs
def spAllL (P : Program) (w : World) (K : PySem.W.Frag) (mg : Str → Option Value) (B : Heap) (k : Nat) (cs : List Value) : Sp := fun vs H Q _ => ∃ (a : Addr) (fs : List Addr) (Rs : List Res), vs = [.ref a] ∧ H a = some (.lst (fs.map V.ref)) ∧ fs.length ≤ 100 ∧ AskedAll P w K mg B k cs H fs Rs ∧
  ∀ (xs : List V) (l : Addr) (H' : Hp), Same H H' → H l = none → H' l = some (.lst xs) → Paired (fun x R => R x H') xs Rs → Q (.ref l) H'
/-- what holds of each pair, told of what stands on the right -/
theorem pall {α β : Type} {F : α → β → Prop} : ∀ {xs : List α} {ys : List β} {y : β}, Paired F xs ys → y ∈ ys → ∃ x, F x y
  | _, _, _, .nil, h => by cases h
  | _, _, _, .cons r t, h => by
    rcases List.mem_cons.mp h with e | h
    · rw [e]
      exact ⟨_, r⟩
    · exact pall t h
theorem ok_allL {cs : List Value} {k : Nat} (F : Fn K mg "_law_all" s_l_all ["_law_asks"]) (G_l_got : Has P w K mg B (k + 2) "_law_got" ["_law_ask"] (spGotL P w K mg B (k + 1) cs)) : Has P w K mg B (k + 3) "_law_all" ["_law_asks"] (spAllL P w K mg B (k + 1) cs) := by
  refine F.has sc_l_all (fun vs H Q E h => ?_) (fun f cdv A outer s H vs Q E hr h => ?_)
  · obtain ⟨a, fs, Rs, rfl, _⟩ := h
    rfl
  obtain ⟨a, fs, Rs, rfl, ha, hn, hA, q⟩ := h
  refine ⟨_, (pss_one (ps_ret (pe_lc (own := [("_law_ask", 1)]) (g := gName 1) (tt := tYes) (by rfl) sc_l_all.nd (pi_list (pv 0)) (blkOk_by (own := [("_law_ask", 1)]) (N := N_l_all) (sc := defScope s_l_all) (by decide +kernel)) (fun _ _ _ _ _ => (pg_name (i := 1) sc_l_all.nd rfl (Or.inl rfl))) (fun _ _ _ _ _ => pts_nil) (fun _ _ _ _ _ => (LamL.pe_ownD G_l_got hr (by rfl) (pa_cons (pv 1) pa_nil)))))), ?_⟩
  refine ⟨_, rfl, a, rfl, ⟨_, SqL.of ha⟩, fun D hD => ?_⟩
  refine lc_it (walk_list (xs := fs.map V.ref)) (fun i H' => Same H H' ∧ ∃ xs, H' D = some (.lst xs) ∧ Paired (fun x R => R x (hid H' D)) xs (Rs.take i)) ⟨same_upd hD, [], upd_same, .nil⟩ (fun i H' _ e => SqL.of (e.1 _ _ ha)) ?_ ?_
  · rintro i v Ha Hb hi ⟨sa, xs, ea, pa⟩ ⟨rfl, hv⟩
    obtain ⟨g, hg, rfl⟩ := at_map hv
    have lr := plen hA
    have hi : i < fs.length := by simpa using hi
    obtain ⟨g', R, hg', hR, kR, kn, ask⟩ := pat hA (i := i) (by omega)
    rw [hg] at hg'
    cases hg'
    have lx := plen pa
    have lt : (Rs.take i).length ≤ 100 := by rw [List.length_take]; omega
    refine ⟨rfl, tYes_ok ⟨_, rfl, D, xs, ea, g, rfl, ask (hid Hb D) _ (hid_same hD sa) fun v H' s' r' nD => ⟨xs, upd_same, small1000 (by omega), fun c o e => ?_, xs ++ [v], upd_same, ?_⟩⟩⟩
    · rw [upd_ne (ne_of_none e hD), upd_ne (ne_of_none e hD)]
      exact s' _ _ (hid_same hD sa _ _ e)
    · rw [upd_upd, hid_upd nD, take_snoc hR]
      exact papp (pmem pa fun x R hm h => by obtain ⟨_, kR, _⟩ := pall hA (List.mem_of_mem_take hm); exact kR x _ _ h s') (.cons r' .nil)
  · rintro H2 ⟨s2, xs, e2, p2⟩
    rw [List.length_map, plen hA, List.take_length] at p2
    exact q xs D H2 s2 hD e2 (pmem p2 fun x R hm h => by obtain ⟨_, kR, _⟩ := pall hA hm; exact kR x _ _ h hid_sub)
end
end LamL
namespace LamL
open PySem PySem.Spec PyProof.Rows L2 LamX My
/-! ### _law_all(asks), in the def that made the lambdas -/
inductive LamsOk (X : Cx) (k : Nat) : List LamD → List (XK → TE) → Prop
  | nil : LamsOk X k [] []
  | cons {L : LamD} {Ls : List LamD} {t : XK → TE} {ts : List (XK → TE)} (h : LamTxt X L) (b : LamBind L)
      (hbody : ∀ (A : Around) (outer : List Env) (s : Shared) (H : Hp) (E : XK) (f c' : Addr), Room k (A.deeper (lamEnv X L.scope s.heap.objs.size f c')) → PE (lamCx X A outer s H E L.scope f c') L.body (t E)) (r : LamsOk X k Ls ts) : LamsOk X k (L :: Ls) ((fun E σ H Q => t E (wipe σ L.ws) H Q) :: ts)
theorem bind0 {params : Arguments} {body : Expr} {scope : Scope} (h : ∀ (q : Str) (cl : List (Str × Addr)) (doc pm cv ctv : Value), bindArgs (PySem.W.kdv_fn "<lambda>" q params (.expr body) scope cl .none doc pm cv ctv) ⟨[], []⟩ = pure []) : LamBind ⟨[], params, body, scope, []⟩ :=
  ⟨fun _ => h, fun n z => by cases z⟩
theorem bind1 {n : Str} {ws : List Nat} {params : Arguments} {body : Expr} {scope : Scope} (h : ∀ (q : Str) (cl : List (Str × Addr)) (T : Addr) (doc pm cv ctv u : Value), ∃ k : Option (Array Value) → Sem (List (Str × Value)),
    bindArgs (PySem.W.kdv_fn "<lambda>" q params (.expr body) scope cl (.ref T) doc pm cv ctv) ⟨[], []⟩ = seqItems? (.ref T) >>= k ∧ k (some #[u]) = pure [(n, u)]) : LamBind ⟨[n], params, body, scope, ws⟩ :=
  ⟨fun z => (by cases z), fun m z => (by cases z; exact h)⟩
/-- what is wished of each: wherever it is asked behind H, it gives what its R says -/
def Wish (K : PySem.W.Frag) (cs : List Value) (σ : L2.St) (H : Hp) : List (XK → TE) → List Res → Prop
  | [], [] => True
  | t :: ts, R :: Rs => Keeps R ∧ (∀ Hb Q, Same H Hb → (∀ v H', Same Hb H' → R v H' → Q v H') → TGot K cs (fun E H' Q' => t E σ H' Q') Hb Q) ∧ Wish K cs σ H ts Rs
  | _, _ => False
def AllP (X : Cx) (k : Nat) (cs : List Value) (σ : L2.St) (Q : VK) (vs : List V) (H1 : Hp) : Prop := ∃ (a : Addr) (fs : List Addr) (Ls : List LamD) (ts : List (XK → TE)) (Rs : List Res), vs = [.ref a] ∧ H1 a = some (.lst (fs.map V.ref)) ∧ fs.length ≤ 100 ∧ LamsAt X Ls H1 fs ∧ LamsOk X k Ls ts ∧ Wish X.K cs σ H1 ts Rs ∧
  ∀ (xs : List V) (l : Addr) (H' : Hp), Same H1 H' → H1 l = none → H' l = some (.lst xs) → Paired (fun x R => R x H') xs Rs → Q (.ref l) H'
def tAllL (X : Cx) (k : Nat) (cs : List Value) (te : TE) : TE := fun σ H Q => te σ H fun v H1 => AllP X k cs σ Q [v] H1
section
variable {X : Cx} {pins : List (Addr × Obj)} {σ : L2.St} {H : Hp} {s : Shared}
theorem asked_of {B : Heap} {k : Nat} {cs : List Value} (I : Inv X pins σ H s) (bk : ∀ b o, X.base.get? b = some o → B.get? b = some o) (bsz : X.base.objs.size ≤ B.objs.size) (bc : ∀ x c, X.env.cells.lookup x = some c → ∃ o, s.heap.get? c = some o ∧ B.get? c = some o) :
    ∀ {Ls : List LamD} {ts : List (XK → TE)} {fs : List Addr} {Rs : List Res}, LamsOk X k Ls ts → LamsAt X Ls H fs → Wish X.K cs σ H ts Rs → AskedAll X.prog X.w X.K X.mg B (k + 1) cs H fs Rs
  | [], _, [], [], .nil, _, _ => .nil
  | [], _, [], _ :: _, .nil, _, w => w.elim
  | [], _, _ :: _, _, .nil, l, _ => l.elim
  | _ :: _, _, [], _, .cons _ _ _ _, l, _ => l.elim
  | _ :: _, _, _ :: _, [], .cons _ _ _ _, _, w => w.elim
  | L :: Ls, _ :: ts, f :: fs, R :: Rs, .cons h b hb r, l, w =>
    .cons ⟨w.1, l.1.known, fun Hb Q s q => ⟨_, lam_can I h b bk bsz bc hb, l.1.known.same s, ⟨l.1.same s, w.2.1 Hb Q s q⟩⟩⟩ (asked_of I bk bsz bc r l.2 w.2.2)
theorem pe_allL {k : Nat} {cs : List Value} {p pos : Pos} {e : Expr} {te : TE} (F : ∀ B : Heap, Has X.prog X.w X.K X.mg B (k + 3) "_law_all" ["_law_asks"] (spAllL X.prog X.w X.K X.mg B (k + 1) cs)) (hr : Room (k + 3) X.A) (hfn : ∀ x, X.fn x = true) (hg : Gl X "_law_all") (he : PE X e te)
    (hst : starEach [e] X.env = (false, eval e X.env) :: starEach [] X.env := by rfl) (hpl : (backTo pos (starEach [] X.env)).any (·.1) = false := by rfl) : PE X (.Call (.Name "_law_all" p) [e] [] pos) (tAllL X k cs te) := by
  obtain ⟨f, fd, _, m, kp, _⟩ := (F X.base).ex
  constructor
  intro pins s σ H Q I h
  apply wpAny_Call_Name_kw (ld_glob I hg m ?_ (by decide))
  apply PySem.W.callWith_K (h₀ := X.base) I.ok.mod.kin kp _ hst hpl
  apply thn ((pa_cons he pa_nil hst).run pos pins s σ H (AllP X k cs σ Q) I h)
  rintro us s1 ⟨vs, H1, I1, r, a, fs, Ls, ts, Rs, rfl, ha, hn, hl, hok, hw, q⟩
  refine ⟨I1.kIn, ?_⟩
  obtain ⟨B, e0, bk, bsz, _, bc⟩ := ground I1 hfn
  obtain ⟨f', fd', F', m', _, hb⟩ := (F B).ex
  rw [m] at m'
  cases m'
  have b := hb s1 us I1.kIn (by rw [List.append_nil, ← r.length]; rfl)
  rw [List.append_nil] at b
  apply wpAny_call
  apply codeAny_mono (F'.run X.A X.stack s1 H1 ⟨us, []⟩ us _ Q E0 hr e0 b r ⟨a, fs, Rs, rfl, ha, hn, asked_of I1 bk bsz bc hok hl hw, q⟩)
  intro r s' hq
  cases r with
  | error e => exact (show False from hq).elim
  | ok fl =>
    cases fl with
    | ret u => exact I1.after hq
    | next => exact False.elim hq
    | brk => exact False.elim hq
    | cont => exact False.elim hq
end
theorem pcons {α β : Type} {F : α → β → Prop} {xs : List α} {y : β} {ys : List β} (h : Paired F xs (y :: ys)) : ∃ x xs', xs = x :: xs' ∧ F x y ∧ Paired F xs' ys := by
  cases h with
  | cons r t => exact ⟨_, _, rfl, r, t⟩
theorem pnil {α β : Type} {F : α → β → Prop} {xs : List α} (h : Paired F xs ([] : List β)) : xs = [] := by
  cases h
  rfl
/-- the tuple (code, what it tells) -/
def RT (xs : List V) : Res := fun v H => ∃ p, v = .ref p ∧ H p = some (.tup xs)
theorem RT.keeps {xs : List V} : Keeps (RT xs) := fun v H H' ⟨p, e, h⟩ s => ⟨p, e, s _ _ h⟩
end LamL
/-! len(set(xs)) for a list of any number of texts -/
namespace SetN
open PySem PySem.Spec PyProof.Rows
/-- how many different texts stand among the first i of xs -/
def num (xs : List Str) : Nat → Nat
  | 0 => 0
  | i + 1 => if xs.getD i Str.empty ∈ xs.take i then num xs i else num xs i + 1
theorem num_le (xs : List Str) : ∀ i, num xs i ≤ i
  | 0 => Nat.le_refl _
  | i + 1 => by
    have h := num_le xs i
    show (if xs.getD i Str.empty ∈ xs.take i then num xs i else num xs i + 1) ≤ i + 1
    split <;> omega
section
variable {prog : Program} {w : World} {A : Around} {R : Result → Shared → Prop} {I : Addr} {fp wr : List Addr} {G : Array GenState → Array GenState → Prop} {P : Nat → Value → Prop} {St : Nat → Shared → Prop} {xs : List Str}
theorem keeps {h h' : Heap} {S : Addr} {f : Str → Bool} {n : Nat} (r : h.SetOf (PySem.strKind prog w) S f n) (k : ∀ o, h.get? S = some o → h'.get? S = some o) : h'.SetOf (PySem.strKind prog w) S f n :=
  let ⟨o, es, ep, t, ho, q⟩ := r
  ⟨o, es, ep, t, k o ho, q⟩
theorem fill {s0 : Shared} (W : WalksS prog w A.in1 I fp wr G xs.length P St) {S : Addr} (far : S ∉ fp) (text : ∀ i v, P i v → ∃ t, v = .str (xs.getD i Str.empty) t) (few : xs.length < 4000)
    (fin : ∀ s', Moved (S :: wr) G s0 s' → s'.heap.SetOf (PySem.strKind prog w) S (fun k => decide (k ∈ xs)) (num xs xs.length) → R (.ok (.ret .none)) s') :
    ∀ m i s, i + m = xs.length → Moved (S :: wr) G s0 s → St i s → s.heap.SetOf (PySem.strKind prog w) S (fun k => decide (k ∈ xs.take i)) (num xs i) →
      codeAny (model prog w) A (.builtin "set.update.loop" ⟨[.ref S, .ref I], []⟩) R s
  | 0, i, s, e, mv, st, so => by
    obtain rfl : i = xs.length := by omega
    rw [List.take_length] at so
    refine codeAny_builtin F.entry_set_update_loop ?_
    rw [Around.under_plainId F.plain_set_update_loop _]
    refine wpAny_bind (m := pyNext (.ref I)) (W.done s _ _ st fun s' hm => ?_)
    show wpAny _ A.in1 (ret Value.none) _ _ s'
    have far' : S ∉ wr := fun h => far (W.sub _ h)
    exact wpAny_pure (fin s' (mv.trans W.gtrans (hm.mono fun b hb => List.mem_cons_of_mem _ hb)) (keeps so fun o => hm.heap S o far'))
  | m + 1, i, s, e, mv, st, so => by
    have lt : i < xs.length := by omega
    have far' : S ∉ wr := fun h => far (W.sub _ h)
    refine codeAny_builtin F.entry_set_update_loop ?_
    rw [Around.under_plainId F.plain_set_update_loop _]
    refine wpAny_bind (m := pyNext (.ref I)) (W.item i s _ _ lt st fun v s' hv st' hm => ?_)
    obtain ⟨t, rfl⟩ := text i v hv
    have so' := keeps (h' := s'.heap) so fun o => hm.heap S o far'
    show wpAny _ A.in1 (holding [Value.str (xs.getD i Str.empty) t] (setAdd S (.str (xs.getD i Str.empty) t)) >>= _) _ _ s'
    refine wpAny_bind (wpAny_holding ?_)
    unfold setAdd
    refine wpAny_holding (wpAny_bind ((PySem.strKind prog w).pyHash (k := xs.getD i Str.empty) (strKind_is _ _ _ _) ?_))
    have room : num xs i + 1 < scanBound := by
      have := num_le xs i
      unfold scanBound
      omega
    refine wpAny_setAddHashed_of (knd := PySem.strKind prog w) (s := { s' with toks := s'.toks + 1 }) (strKind_is _ _ _ _) rfl so' room fun h' sb so2 => ?_
    have so3 : h'.SetOf (PySem.strKind prog w) S (fun k => decide (k ∈ xs.take (i + 1))) (num xs (i + 1)) := by
      refine SetOf_congr so2 (fun k => ?_) ?_
      · rw [List.take_succ_eq_append_getElem lt]
        have : xs.getD i Str.empty = xs[i] := by simp [List.getD, lt]
        rw [this]
        simp only [List.mem_append, List.mem_singleton, Bool.decide_or]
      · show _ = if xs.getD i Str.empty ∈ xs.take i then num xs i else num xs i + 1
        simp
    refine wpAny_pure ⟨plainId_quiet F.plain_set_update_loop _, fill W far text few fin m (i + 1) _ (by omega) ?_ (W.frame _ s' _ _ st' (Nat.le_succ _) fun b hb o eo => ?_) so3⟩
    · refine (mv.trans W.gtrans (hm.mono fun b hb => List.mem_cons_of_mem _ hb)).then_heap (Nat.le_succ _) fun b o hb eo => ?_
      rw [sb.2 b fun q => hb (by rw [q]; exact List.mem_cons_self)]
      exact eo
    · rw [sb.2 b fun q => far (by rw [← q]; exact hb)]
      exact eo
end
section
variable {prog : Program} {w : World} {A : Around} {E : Value → Shared → Prop} {s : Shared}
/-- the new, empty set -/
def empt (led : Bool) : Obj := { cls := .type "set", dict := none, data := .set #[] 0 (.fresh 0 0 led) }
/-- set(x): what a walk over x puts into a new set -/
theorem set_by {x : Value} {Q : Value → Shared → Prop}
    (h : ∀ (led : Bool) (B : Around) (Q' : Unit → Shared → Prop), B.handled = A.handled → (∀ s', Q (.ref s.heap.objs.size) s' → Q' () s') →
      wpAny (model prog w) B (Builtin.Frozenset.updateFrom "set.__init__" s.heap.objs.size x) Q' E { s with heap := s.heap.push (empt led) }) :
    wpAny (model prog w) A (call (.type "set") [x]) Q E s := by
  have ⟨_, _, mro⟩ := F.called_set.mro
  have made := F.called_set.made
  have sub := F.called_set.sub
  have noType := F.called_set.notType
  have can := F.called_set.canCreate
  have okCall := F.typeCall_set_1 x
  refine wpAny_call (codeAny_of_tree ?_)
  show wpAny _ _ (callAny (.type "set") _) _ _ _
  refine wpAny_pure ⟨Code.quiet_builtin _ (by decide +kernel), codeAny_builtin F.entry_type_call ?_⟩
  rw [Around.under_plain (weight_type_call_type "set" [x] []) rfl]
  repeat (any_goals (first | assumption | wp_step))
  refine codeAny_mono (code_set_new_1 x (E := E) (Q₁ := fun v t => ∃ led, v = .ref s.heap.objs.size ∧ t = { s with heap := s.heap.push (empt led) }) fun led => ⟨led, rfl, rfl⟩) fun r t hr => ?_
  match r, hr with
  | .error e, hr => exact hr
  | .ok (.ret v), ⟨led, ev, et⟩ =>
    subst ev
    subst et
    have at0 : (s.heap.push (empt led)).get? s.heap.objs.size = some (empt led) := Heap.get?_push_size _ rfl
    have ty : Shared.TypeIs { s with heap := s.heap.push (empt led) } (.ref s.heap.objs.size) "set" := ⟨_, at0, rfl⟩
    have look := F.called_set.init.lookup
    have bnd := F.called_set.init.bind (.ref s.heap.objs.size)
    repeat (any_goals (first | assumption | wp_step))
    refine codeAny_mono (codeAny_call_builtin (R := wants (fun r t => r = .none ∧ Q (.ref s.heap.objs.size) t) E) F.called_set.init.plain F.entry_set_init (check_set_init_1 ty ?_)) fun r t hr => ?_
    · unfold Builtin.«set.__init__» noKeywords
      generalize hU : Builtin.Frozenset.updateFrom "set.__init__" = U
      simp only [hU] at h
      wp_walk
      refine h led _ _ (by rfl) fun t q => ?_
      show wpAny _ _ (ret Value.none) _ _ _
      exact wpAny_pure ⟨rfl, q⟩
    · match r, hr with
      | .error e, hr => exact hr
      | .ok (.ret r), ⟨e1, q⟩ =>
        subst e1
        repeat (any_goals (first | assumption | wp_step))
  | .ok (.next), hr => exact hr.elim
theorem set_texts {l : Addr} {items : Array Value} {xs : List Str} {Q : Value → Shared → Prop} (calm : A.handled = none) (hl : s.heap.IsList l items) (hi : StrsAre items.toList xs) (few : xs.length < 4000)
    (h : ∀ (h' : Heap) (tk : Nat), h'.SetOf (PySem.strKind prog w) s.heap.objs.size (fun k => decide (k ∈ xs)) (num xs xs.length) →
      (∀ b o, b < s.heap.objs.size → s.heap.get? b = some o → h'.get? b = some o) → Q (.ref s.heap.objs.size) { s with heap := h', toks := tk }) :
    wpAny (model prog w) A (call (.type "set") [.ref l]) Q E s := by
  refine set_by fun led B Q' hB hQ => ?_
  have ⟨ol, ho, hc, nl, hd⟩ := hl
  have lt : l < s.heap.objs.size := Heap.lt_size ho
  have at0 : (s.heap.push (empt led)).get? s.heap.objs.size = some (empt led) := Heap.get?_push_size _ rfl
  have hl1 : (s.heap.push (empt led)).IsList l items := ⟨ol, Heap.get?_push_of_some _ ho, hc, nl, hd⟩
  have ty : Shared.TypeIs { s with heap := s.heap.push (empt led) } (.ref l) "list" := ⟨ol, Heap.get?_push_of_some _ ho, hc⟩
  have s1 := F.sub_list_set
  have s2 := F.sub_list_frozenset
  have ne : (Value.type "list" == Value.type "dict") = false := by decide
  unfold Builtin.Frozenset.updateFrom
  generalize hP : pyIter = It
  wp_walk
  subst hP
  refine wpAny_pyIter_list hl1 (wpAny_bind (wpAny_runValue ?_))
  have size : xs.length = items.size := by rw [← StrsAre.len_eq hi, Array.length_toList]
  have calm' : B.in1.handled = none := by rw [show B.in1.handled = B.handled from rfl, hB, calm]
  have neI : l ≠ (s.heap.push (empt led)).objs.size := by
    rw [Heap.size_push]
    exact Nat.ne_of_lt (Nat.lt_succ_of_lt lt)
  have far : s.heap.objs.size ∉ [(s.heap.push (empt led)).objs.size, l] := by
    rw [Heap.size_push]
    simp only [List.mem_cons, List.not_mem_nil, or_false, not_or]
    exact ⟨Nat.ne_of_lt (Nat.lt_succ_self _), Nat.ne_of_gt lt⟩
  have W := (Walks.list (prog := prog) (w := w) (A := B.in1) calm' (s.heap.push (empt led)).objs.size l neI items).toS
  rw [← size] at W
  refine fill (xs := xs) W far (fun i v hv => SS.strs_at hi i v (by rw [Array.getElem?_toList]; exact hv)) few ?fin xs.length 0 _ (by omega) (Moved.refl W.grefl) ⟨⟨_, Heap.get?_push_size _ rfl, rfl, rfl⟩, hl1.push _⟩ ?new
  case new =>
    exact SetOf_congr ((setObjOf_fresh (knd := PySem.strKind prog w) led).setOf (Heap.get?_push_of_some _ at0) (by unfold scanBound; omega)) (fun k => by simp) rfl
  case fin =>
    intro t mv so
    obtain ⟨h', g', d', tk', os'⟩ := t
    obtain rfl : g' = s.gens := mv.gens
    obtain rfl : d' = s.drawn := mv.drawn
    obtain rfl : os' = s.os := mv.os
    refine wpAny_pure (hQ _ (h h' tk' so fun b o hb eo => mv.heap b o ?_ (Heap.get?_push_of_some _ (Heap.get?_push_of_some _ eo))))
    rw [Heap.size_push]
    simp only [List.mem_cons, List.not_mem_nil, or_false, not_or]
    exact ⟨Nat.ne_of_lt hb, Nat.ne_of_lt (Nat.lt_succ_of_lt hb)⟩
end
end SetN
namespace L2
open PySem PySem.Spec PyProof.Rows SetN
section
variable {X : Cx}
/-- len(set(xs)) -/
def tLenSetN (K : PySem.W.Frag) (ta : TE) : TE := fun σ H Q => ta σ H fun x H1 => ∃ l, ∃ xs : List Str, x = .ref l ∧ SqL K H1 l (xs.map V.str) ∧ xs.length < 4000 ∧ Q (.int (num xs xs.length)) H1
theorem pe_lenSetN {a : Expr} {ta : TE} {p p2 q pos : Pos} (hc : X.calm = true) (hg : Gl X "len") (hm : X.mg "len" = none) (hg2 : Gl X "set") (hm2 : X.mg "set" = none) (ha : PE X a ta)
    (na : starEach [a] X.env = (false, eval a X.env) :: starEach [] X.env := by rfl) : PE X (.Call (.Name "len" p) [.Call (.Name "set" p2) [a] [] q] [] pos) (tLenSetN X.K ta) := by
  refine ⟨fun pins s σ H Q I h => ?_⟩
  refine Call_ (ld_blt I hg hm boot_len (PyProof.Rows.callWith_builtin1 (PyProof.Rows.args_cons ?_ rfl) rfl rfl))
  refine Call_ (ld_blt I hg2 hm2 boot_set (PyProof.Rows.callWith_type1 (PyProof.Rows.args_cons (thn (ha.run pins s σ H _ I h) fun v s1 ⟨x, H1, I1, r1, q1⟩ => PyProof.Rows.args_nil ?_) na) na rfl))
  have ⟨l, xs, ex, hq, few, q2⟩ := q1
  subst ex
  cases r1
  have ⟨its, rv, pl, _⟩ := I1.list hq
  refine set_texts (I1.ok.hd hc) pl.isList (by simpa using L2.strsAre_of rv) few fun h' tk so keep => PyProof.Rows.args_nil ?_
  have ⟨o, es, ep, t, ho, hex, hd, _, _, _, hf, hn⟩ := so
  have I2 : Inv X pins σ H1 { s1 with heap := h', toks := tk } := I1.kept fun b o e => keep b o (Heap.lt_size e) e
  have le := num_le xs xs.length
  exact call_len_set ho hex hd hf (by rw [hn] <;> omega) ⟨.int (num xs xs.length), H1, I2.tok _, ⟨_, by rw [hn]⟩, q2⟩
end
end L2
/-! benches of sums: ints and names -/
namespace My
open PySem PySem.Spec PyProof.Rows L2
abbrev letters : Str := "abcdefghijklmnopqrstuvwxyz"
abbrev kept : List V := [.str "in", .str "out", .str "proc", .str "give"]
structure Txt (K : PySem.W.Frag) (mg : Str → Option Value) (kw : Addr) : Prop where
  m_LETTERS : ∃ u, mg "LETTERS" = some (.str letters u)
  m_MOST_LETTERS : ∃ u, mg "MOST_LETTERS" = some (.int 6 u)
  m_KEPT_WORDS : mg "KEPT_WORDS" = some (.ref kw)
  t_KEPT_WORDS : ∀ H, SqT K H kw kept
  m_MOST_INPUTS : ∃ u, mg "MOST_INPUTS" = some (.int 8 u)
  m_MOST_OUTPUTS : ∃ u, mg "MOST_OUTPUTS" = some (.int 8 u)
  m_MOST_LINES : ∃ u, mg "MOST_LINES" = some (.int 40 u)
  m_MOST_PARTS : ∃ u, mg "MOST_PARTS" = some (.int 48 u)
/-- whether a text is a name -/
def nameB (z : Str) : Bool := if 1 ≤ z.length ∧ z.length ≤ 6 then (!inV (.str z) kept) && (z.cps.toList.map fun c => decide (c ∈ letters.cps.toList)).all id else false
def nameV : V → Bool
  | .str z => nameB z
  | _ => false
def spIsInt : Sp := fun vs H Q _ => ∃ (x : V) (t : String), vs = [x] ∧ Typ H x t ∧ Q (.bl (isIntV x)) H
def spIsName : Sp := fun vs H Q _ => ∃ (x : V) (t : String), vs = [x] ∧ Typ H x t ∧ (∀ z, x = .str z → z.length ≤ 1000) ∧ ∀ H', Same H H' → Q (.bl (nameV x)) H'
section
variable {P : Program} {w : World} {K : PySem.W.Frag} {mg : Str → Option Value} {base : Heap} {kw : Addr}
theorem ok_is_int (F : Fn K mg "is_int" s_is_int ["value"]) (B : Blt mg) : Has P w K mg base 1 "is_int" ["value"] spIsInt := by
  refine F.has sc_is_int (fun vs H Q E h => ?_) (fun f cdv A outer s H vs Q E hr h => ?_)
  · obtain ⟨a, t, rfl, _⟩ := h
    rfl
  obtain ⟨x, t, rfl, ht, q⟩ := h
  refine ⟨_, (pss_one (ps_ret (pe_and (pe_callB call_isi (by rfl) B.isinstance bb_isinstance (pa_cons (pv 0) (pa_cons (pe_bltn (v := .ty "int") (by rfl) B.int bb_int rfl) pa_nil))) (pe_one (pe_not (pe_callB call_isi (by rfl) B.isinstance bb_isinstance (pa_cons (pv 0) (pa_cons (pe_bltn (v := .ty "bool") (by rfl) B.bool bb_bool rfl) pa_nil)))))))), ?_⟩
  have ty := ht.tyx (K := K)
  cases ht with
  | non =>
    refine ⟨_, rfl, _, .ty "int", _, .type "int", false, rfl, .ty _, ty, kit_ty (by decide +kernel), _, rfl, iteF ?_⟩
    exact q
  | bl x =>
    refine ⟨_, rfl, _, .ty "int", _, .type "int", true, rfl, .ty _, ty, kit_ty (by decide +kernel), _, rfl, iteT ?_⟩
    refine ⟨_, rfl, _, .ty "bool", _, .type "bool", true, rfl, .ty _, ty, kit_ty (by decide +kernel), _, rfl, ?_⟩
    exact q
  | int i =>
    refine ⟨_, rfl, _, .ty "int", _, .type "int", true, rfl, .ty _, ty, kit_ty (by decide +kernel), _, rfl, iteT ?_⟩
    refine ⟨_, rfl, _, .ty "bool", _, .type "bool", false, rfl, .ty _, ty, kit_ty (by decide +kernel), _, rfl, ?_⟩
    exact q
  | str z =>
    refine ⟨_, rfl, _, .ty "int", _, .type "int", false, rfl, .ty _, ty, kit_ty (by decide +kernel), _, rfl, iteF ?_⟩
    exact q
  | lst h =>
    refine ⟨_, rfl, _, .ty "int", _, .type "int", false, rfl, .ty _, ty, kit_ty (by decide +kernel), _, rfl, iteF ?_⟩
    exact q
  | tup h =>
    refine ⟨_, rfl, _, .ty "int", _, .type "int", false, rfl, .ty _, ty, kit_ty (by decide +kernel), _, rfl, iteF ?_⟩
    exact q
theorem ok_is_name (F : Fn K mg "is_name" s_is_name ["value"]) (B : Blt mg) (T : Txt K mg kw) : Has P w K mg base 1 "is_name" ["value"] spIsName := by
  refine F.has sc_is_name (fun vs H Q E h => ?_) (fun f cdv A outer s H vs Q E hr h => ?_)
  · obtain ⟨a, t, rfl, _⟩ := h
    rfl
  obtain ⟨x, t, rfl, ht, hz, q⟩ := h
  refine ⟨_, (pss_cons (ps_if (PW.pt (pw_or (pt_not (pt_val (pe_callB call_isi (by rfl) B.isinstance bb_isinstance (pa_cons (pv 0) (pa_cons (pe_bltn (v := .ty "str") (by rfl) B.str bb_str rfl) pa_nil))))) (pw_or1 (pt_not (pt_chain op_le op_le pe_int (pe_callB call_len (by rfl) B.len bb_len (pa_cons (pv 0) pa_nil)) (pe_gint T.m_MOST_LETTERS (by rfl)))))))
        (pss_one (ps_ret pe_bl))
        pss_nil)
      (pss_one (ps_ret (pe_and (pe_cmpR op_notIn_seq (pv 0) (pe_gref T.m_KEPT_WORDS (by rfl)) rfl) (pe_one (pe_callB (cr_all rfl) (by rfl) B.all bb_all (pa_cons (pe_lc (own := [("sign", 1)]) (g := gName 1) (tt := tYes) (by rfl) sc_is_name.nd (pi_str (pv 0)) (blkOk_by (own := [("sign", 1)]) (N := N_is_name) (sc := defScope s_is_name) (by decide +kernel)) (fun _ _ _ _ _ => (pg_name (i := 1) sc_is_name.nd rfl (Or.inl rfl))) (fun _ _ _ _ _ => pts_nil) (fun _ _ _ _ _ => (pe_cmpR op_in_sign (pv 1) (pe_gstr T.m_LETTERS (by rfl)) rfl))) pa_nil))))))), ?_⟩
  have ty := ht.tyx (K := K)
  cases ht with
  | str z =>
    have hl := hz z rfl
    refine ⟨_, rfl, _, .ty "str", _, .type "str", true, rfl, .ty _, ty, kit_ty (by decide +kernel), _, rfl, iteF ?_⟩
    refine ⟨_, rfl, .str z, z.length, rfl, ⟨Nat.le_of_lt (small1000 hl), rfl⟩, _, _, rfl, rfl, _, rfl, ?_⟩
    by_cases h1 : 1 ≤ z.length
    · refine ite_of (decide_eq_true (by omega)) ⟨_, _, rfl, rfl, _, rfl, ?_⟩
      by_cases h2 : z.length ≤ 6
      · refine iteNS (by omega) ?_
        refine ⟨_, rfl, kw, kept, rfl, .inr (T.t_KEPT_WORDS _), rfl, rfl, !inV (.str z) kept, rfl, ?_⟩
        cases hin : inV (.str z) kept with
        | true =>
          refine iteF ?_
          have e : nameV (.str z) = false := by
            show nameB z = false
            unfold nameB
            rw [if_pos ⟨h1, h2⟩, hin]
            rfl
          have q' := q H (Same.refl H)
          rw [e] at q'
          exact q'
        | false =>
          refine iteT ?_
          refine ⟨_, rfl, z, rfl, fun D hD => lc_it walk_str (fun i H' => Same H H' ∧ H' D = some (.lst (((z.cps.toList.map fun c => decide (c ∈ letters.cps.toList)).take i).map V.bl)))
            ⟨same_upd hD, upd_same⟩ (fun _ _ _ _ => True.intro) ?_ ?_⟩
          · rintro i v H1 H2 hi ⟨s1, e1⟩ ⟨rfl, c, hc, rfl⟩
            refine ⟨rfl, tYes_ok ?_⟩
            refine ⟨_, rfl, c, letters, rfl, rfl, _, e1, ?_, ?_, ?_⟩
            · rw [List.length_map, List.length_take, List.length_map, Array.length_toList]
              exact Nat.lt_of_le_of_lt (Nat.min_le_right _ _) (small1000 hl)
            · intro a o ha
              rw [upd_ne (ne_of_none ha hD)]
              exact s1 _ _ ha
            · rw [upd_same]
              have e2 : (z.cps.toList.map fun c => decide (c ∈ letters.cps.toList))[i]? = some (decide (c ∈ letters.cps.toList)) := by
                rw [List.getElem?_map, Array.getElem?_toList, hc]
                rfl
              rw [List.take_add_one, e2, List.map_append]
              rfl
          · rintro H1 ⟨s1, e1⟩
            have e2 : ((z.cps.toList.map fun c => decide (c ∈ letters.cps.toList)).take z.cps.size) = (z.cps.toList.map fun c => decide (c ∈ letters.cps.toList)) := List.take_of_length_le (by rw [List.length_map, Array.length_toList]; exact Nat.le_refl _)
            rw [e2] at e1
            refine ⟨D, _, rfl, SqL.of e1, ?_⟩
            have e : nameV (.str z) = (z.cps.toList.map fun c => decide (c ∈ letters.cps.toList)).all id := by
              show nameB z = _
              unfold nameB
              rw [if_pos ⟨h1, h2⟩, hin]
              rfl
            have q' := q H1 s1
            rw [e] at q'
            exact q'
      · refine ite_of (by rw [decide_eq_false (by omega)]; rfl) ?_
        have e : nameV (.str z) = false := by
          show nameB z = false
          unfold nameB
          rw [if_neg fun k => h2 k.2]
        have q' := q H (Same.refl H)
        rw [e] at q'
        exact q'
    · refine ite_no (by rw [decide_eq_false (by omega)]; decide) ⟨_, rfl, iteT ?_⟩
      have e : nameV (.str z) = false := by
        show nameB z = false
        unfold nameB
        rw [if_neg fun k => h1 k.1]
      have q' := q H (Same.refl H)
      rw [e] at q'
      exact q'
  | non =>
    refine ⟨_, rfl, _, .ty "str", _, .type "str", false, rfl, .ty _, ty, kit_ty (by decide +kernel), _, rfl, iteT (iteT ?_)⟩
    exact q _ (Same.refl _)
  | bl x =>
    refine ⟨_, rfl, _, .ty "str", _, .type "str", false, rfl, .ty _, ty, kit_ty (by decide +kernel), _, rfl, iteT (iteT ?_)⟩
    exact q _ (Same.refl _)
  | int i =>
    refine ⟨_, rfl, _, .ty "str", _, .type "str", false, rfl, .ty _, ty, kit_ty (by decide +kernel), _, rfl, iteT (iteT ?_)⟩
    exact q _ (Same.refl _)
  | lst h =>
    refine ⟨_, rfl, _, .ty "str", _, .type "str", false, rfl, .ty _, ty, kit_ty (by decide +kernel), _, rfl, iteT (iteT ?_)⟩
    exact q _ (Same.refl _)
  | tup h =>
    refine ⟨_, rfl, _, .ty "str", _, .type "str", false, rfl, .ty _, ty, kit_ty (by decide +kernel), _, rfl, iteT (iteT ?_)⟩
    exact q _ (Same.refl _)
end
end My
/-! benches of sums: what is known, names, parts -/
namespace My
open PySem PySem.Spec PyProof.Rows L2
abbrev twoT : List V := [.ty "list", .ty "tuple"]
theorem isi_pr : Paired ClsV twoT [.type "list", .type "tuple"] := .cons (.ty _) (.cons (.ty _) .nil)
theorem isi_kit {K : PySem.W.Frag} : PySem.W.kitAny K (.type "list") [.type "list", .type "tuple"] = some true := kitAny_cons (b := true) (kit_ty (by decide +kernel)) (fun z => by cases z) (fun _ => rfl)
/-- the names that a dict or a list holds -/
inductive Known (H : Hp) (k : Addr) (S : Str → Bool) : Prop
  | dict (kvs : List (Key × V)) : H k = some (.dK kvs) → kvs.length ≤ 200 → (∀ x, (valV kvs (.inr x)).isSome = S x) → Known H k S
  | list (ns : List Str) : H k = some (.lst (ns.map V.str)) → ns.length ≤ 200 → (∀ x, decide (x ∈ ns) = S x) → Known H k S
theorem Known.same {H H' : Hp} {k : Addr} {S : Str → Bool} (h : Known H k S) (s : Same H H') : Known H' k S := by
  cases h with
  | dict kvs e l z => exact .dict kvs (s _ _ e) l z
  | list ns e l z => exact .list ns (s _ _ e) l z
/-- a value that is no tuple of two -/
inductive NoPair (H : Hp) : V → Prop
  | non : NoPair H .non
  | str (x : Str) : NoPair H (.str x)
  | lst {a : Addr} {xs : List V} : H a = some (.lst xs) → NoPair H (.ref a)
  | tup {a : Addr} {xs : List V} : H a = some (.tup xs) → xs.length ≠ 2 → xs.length ≤ 100 → NoPair H (.ref a)
theorem NoPair.same {H H' : Hp} {v : V} (h : NoPair H v) (s : Same H H') : NoPair H' v := by
  cases h with
  | non => exact .non
  | str x => exact .str x
  | lst e => exact .lst (s _ _ e)
  | tup e n l => exact .tup (s _ _ e) n l
/-- a part: a number with a name, a bool with a name, anything else -/
inductive PartD
  | num (i : Int) (x : Str)
  | yes (b : Bool) (x : Str)
  | odd
def PartAt (H : Hp) (v : V) : PartD → Prop
  | .num i x => ∃ a, v = .ref a ∧ H a = some (.tup [.int i, .str x]) ∧ x.length ≤ 1000
  | .yes b x => ∃ a, v = .ref a ∧ H a = some (.tup [.bl b, .str x]) ∧ x.length ≤ 1000
  | .odd => NoPair H v
theorem PartAt.same {H H' : Hp} {v : V} : ∀ {d : PartD}, PartAt H v d → Same H H' → PartAt H' v d
  | .num _ _, ⟨a, e, h, l⟩, s => ⟨a, e, s _ _ h, l⟩
  | .yes _ _, ⟨a, e, h, l⟩, s => ⟨a, e, s _ _ h, l⟩
  | .odd, h, s => NoPair.same h s
def partB (S : Str → Bool) : PartD → Bool
  | .num i x => decide (i ≠ 0) && (nameB x && S x)
  | _ => false
def spKnown : Sp := fun vs H Q _ => ∃ (x : Str) (k : Addr) (S : Str → Bool), vs = [.str x, .ref k] ∧ x.length ≤ 1000 ∧ Known H k S ∧ ∀ H', Same H H' → Q (.bl (nameB x && S x)) H'
def spPart : Sp := fun vs H Q _ => ∃ (v : V) (d : PartD) (k : Addr) (S : Str → Bool), vs = [v, .ref k] ∧ PartAt H v d ∧ Known H k S ∧ ∀ H', Same H H' → Q (.bl (partB S d)) H'
def namesB (ns : List Str) : Bool := if 1 ≤ ns.length ∧ ns.length ≤ 8 then (ns.map nameB).all id && decide (SetN.num ns ns.length = ns.length) else false
def spNames : Sp := fun vs H Q _ => ∃ (a : Addr) (ns : List Str), vs = [.ref a, .int 8] ∧ H a = some (.lst (ns.map V.str)) ∧ ns.length ≤ 100 ∧ (∀ x ∈ ns, x.length ≤ 1000) ∧ ∀ H', Same H H' → Q (.bl (namesB ns)) H'
def knownB (S : Str → Bool) (ns : List Str) : Bool := if 1 ≤ ns.length ∧ ns.length ≤ 8 then (ns.map fun x => nameB x && S x).all id else false
def spKnowns : Sp := fun vs H Q _ => ∃ (a k : Addr) (ns : List Str) (S : Str → Bool), vs = [.ref a, .ref k, .int 8] ∧ H a = some (.lst (ns.map V.str)) ∧ ns.length ≤ 100 ∧ (∀ x ∈ ns, x.length ≤ 1000) ∧ Known H k S ∧ ∀ H', Same H H' → Q (.bl (knownB S ns)) H'
theorem flat_names (ns : List Str) : (ns.map V.str).all flatV = true := by
  rw [List.all_map, List.all_eq_true]
  exact fun _ _ => rfl
theorem inV_names (x : Str) (ns : List Str) : inV (.str x) (ns.map V.str) = decide (x ∈ ns) := by
  unfold inV
  induction ns with
  | nil => rfl
  | cons y ys ih =>
    rw [List.map_cons, List.any_cons, ih]
    have e : eqV (.str y) (.str x) = decide (x = y) := by
      show (y == x) = _
      by_cases e : x = y
      · rw [decide_eq_true e, e]
        exact beq_self_eq_true y
      · rw [decide_eq_false e]
        exact beq_eq_false_iff_ne.mpr fun z => e z.symm
    rw [e]
    by_cases e1 : x = y <;> by_cases e2 : x ∈ ys <;> simp [e1, e2]
section
variable {P : Program} {w : World} {K : PySem.W.Frag} {mg : Str → Option Value} {base : Heap} {kw : Addr}
theorem ok_is_known (F : Fn K mg "is_known" s_is_known ["value", "known"]) (B : Blt mg) (G_is_name : Has P w K mg base 1 "is_name" ["value"] spIsName) : Has P w K mg base 2 "is_known" ["value", "known"] spKnown := by
  refine F.has sc_is_known (fun vs H Q E h => ?_) (fun f cdv A outer s H vs Q E hr h => ?_)
  · obtain ⟨a, t, S, rfl, _⟩ := h
    rfl
  obtain ⟨x, k, S, rfl, hx, hk, q⟩ := h
  cases hk with
  | dict kvs e l z =>
    refine ⟨_, (pss_one (ps_ret (pe_and (pe_own G_is_name (hr.mono (by decide)) (by rfl) (pa_cons (pv 0) pa_nil)) (pe_one (pe_cmp (pc_din (hu_of hr) (pv 0) (pv 1))))))), ?_⟩
    refine ⟨_, rfl, .str x, _, rfl, .str x, fun y ey => (by cases ey; exact hx), fun H1 s1 => ⟨_, rfl, ?_⟩⟩
    have q' := q H1 s1
    show if nameB x = true then _ else _
    cases hb : nameB x with
    | false =>
      rw [hb] at q'
      exact iteF q'
    | true =>
      rw [hb, ← z x] at q'
      exact iteT ⟨_, rfl, _, rfl, k, _, rfl, DGet.k (k := .inr x) (s1 _ _ e), q'⟩
  | list ns e l z =>
    refine ⟨_, (pss_one (ps_ret (pe_and (pe_own G_is_name (hr.mono (by decide)) (by rfl) (pa_cons (pv 0) pa_nil)) (pe_one (pe_cmpR op_in_seq (pv 0) (pv 1) rfl))))), ?_⟩
    refine ⟨_, rfl, .str x, _, rfl, .str x, fun y ey => (by cases ey; exact hx), fun H1 s1 => ⟨_, rfl, ?_⟩⟩
    have q' := q H1 s1
    show if nameB x = true then _ else _
    cases hb : nameB x with
    | false =>
      rw [hb] at q'
      exact iteF q'
    | true =>
      rw [hb, ← z x] at q'
      refine iteT ⟨_, rfl, _, rfl, k, _, rfl, .inl (SqL.of (s1 _ _ e)), rfl, flat_names ns, ?_⟩
      show Q (.bl (inV (.str x) (ns.map V.str))) H1
      rw [inV_names]
      exact q'
theorem ok_is_part (F : Fn K mg "is_part" s_is_part ["value", "known"]) (B : Blt mg) (G_is_int : Has P w K mg base 1 "is_int" ["value"] spIsInt) (G_is_known : Has P w K mg base 2 "is_known" ["value", "known"] spKnown) : Has P w K mg base 3 "is_part" ["value", "known"] spPart := by
  refine F.has sc_is_part (fun vs H Q E h => ?_) (fun f cdv A outer s H vs Q E hr h => ?_)
  · obtain ⟨v, d, k, S, rfl, _⟩ := h
    rfl
  obtain ⟨v, d, k, S, rfl, hv, hk, q⟩ := h
  refine ⟨_, (pss_cons (ps_if (PW.pt (pw_or (pt_not (pt_val (pe_callB call_isi (by rfl) B.isinstance bb_isinstance (pa_cons (pv 0) (pa_cons (pe_bltn (v := .ty "tuple") (by rfl) B.tuple bb_tuple rfl) pa_nil))))) (pw_or1 (pt_cmpR op_ne (pe_callB call_len (by rfl) B.len bb_len (pa_cons (pv 0) pa_nil)) pe_int (nomark _)))))
        (pss_one (ps_ret pe_bl))
        pss_nil)
      (pss_one (ps_ret (pe_and (pe_own G_is_int (hr.mono (by decide)) (by rfl) (pa_cons (pe_ix ix_tup (pv 0) pe_int (fun _ _ => rfl)) pa_nil)) (pe_and (pe_cmpR op_ne (pe_ix ix_tup (pv 0) pe_int (fun _ _ => rfl)) pe_int (nomark _)) (pe_one (pe_own G_is_known (hr.mono (by decide)) (by rfl) (pa_cons (pe_ix ix_tup (pv 0) pe_int (fun _ _ => rfl)) (pa_cons (pv 1) pa_nil))))))))), ?_⟩
  match d, hv with
  | .odd, hv =>
    have q' := q H (Same.refl H)
    cases hv with
    | non => exact ⟨_, rfl, _, .ty "tuple", _, .type "tuple", false, rfl, .ty _, Typ.non.tyx, kit_ty (by decide +kernel), _, rfl, iteT (iteT q')⟩
    | str x => exact ⟨_, rfl, _, .ty "tuple", _, .type "tuple", false, rfl, .ty _, (Typ.str x).tyx, kit_ty (by decide +kernel), _, rfl, iteT (iteT q')⟩
    | lst h => exact ⟨_, rfl, _, .ty "tuple", _, .type "tuple", false, rfl, .ty _, (Typ.lst h).tyx, kit_ty (by decide +kernel), _, rfl, iteT (iteT q')⟩
    | tup h n l => exact ⟨_, rfl, _, .ty "tuple", _, .type "tuple", true, rfl, .ty _, (Typ.tup h).tyx, kit_ty (by decide +kernel), _, rfl, iteF ⟨_, rfl, _, _, rfl, .inr ⟨_, SqT.of h, rfl⟩, rfl, _, rfl, ite_of (by simpa using fun z => n (by omega)) q'⟩⟩
  | .yes b x, ⟨a, e, h, l⟩ =>
    subst e
    have q' := q H (Same.refl H)
    refine ⟨_, rfl, _, .ty "tuple", _, .type "tuple", true, rfl, .ty _, (Typ.tup h).tyx, kit_ty (by decide +kernel), _, rfl, iteF ?_⟩
    refine ⟨_, rfl, .ref a, 2, rfl, .inr ⟨_, SqT.of h, rfl⟩, rfl, _, rfl, ite_no (by decide) ?_⟩
    exact ⟨_, rfl, a, _, _, _, rfl, rfl, SqT.of h, atI_nat (j := 0) rfl, .bl b, _, rfl, .bl b, _, rfl, iteF q'⟩
  | .num i x, ⟨a, e, h, l⟩ =>
    subst e
    refine ⟨_, rfl, _, .ty "tuple", _, .type "tuple", true, rfl, .ty _, (Typ.tup h).tyx, kit_ty (by decide +kernel), _, rfl, iteF ?_⟩
    refine ⟨_, rfl, .ref a, 2, rfl, .inr ⟨_, SqT.of h, rfl⟩, rfl, _, rfl, ite_no (by decide) ?_⟩
    refine ⟨_, rfl, a, _, _, _, rfl, rfl, SqT.of h, atI_nat (j := 0) rfl, .int i, _, rfl, .int i, _, rfl, iteT ?_⟩
    refine ⟨_, rfl, a, _, _, _, rfl, rfl, SqT.of h, atI_nat (j := 0) rfl, rfl, ?_⟩
    refine ⟨_, rfl, ?_⟩
    have e : partB S (.num i x) = (decide (i ≠ 0) && (nameB x && S x)) := rfl
    by_cases i0 : i = 0
    · have q' := q H (Same.refl H)
      rw [e, decide_eq_false (by simpa using i0)] at q'
      exact ite_no (by simp [i0]) q'
    · refine ite_of (by simp [i0]) ?_
      refine ⟨_, rfl, a, _, _, _, rfl, rfl, SqT.of h, atI_nat (j := 1) rfl, _, rfl, x, k, S, rfl, l, hk, fun H1 s1 => ?_⟩
      have q' := q H1 s1
      rw [e, decide_eq_true i0] at q'
      exact q'
theorem ok_are_names (F : Fn K mg "are_names" s_are_names ["value", "most"]) (B : Blt mg) (G_is_name : Has P w K mg base 1 "is_name" ["value"] spIsName) : Has P w K mg base 2 "are_names" ["value", "most"] spNames := by
  refine F.has sc_are_names (fun vs H Q E h => ?_) (fun f cdv A outer s H vs Q E hr h => ?_)
  · obtain ⟨v, d, rfl, _⟩ := h
    rfl
  obtain ⟨a, ns, rfl, ha, hl, hx, q⟩ := h
  refine ⟨_, (pss_cons (ps_if (PW.pt (pw_or (pt_not (pt_val (pe_callB call_isiT (by rfl) B.isinstance bb_isinstance (pa_cons (pv 0) (pa_cons (pe_tup (pa_cons (pe_bltn (v := .ty "list") (by rfl) B.list bb_list rfl) (pa_cons (pe_bltn (v := .ty "tuple") (by rfl) B.tuple bb_tuple rfl) pa_nil))) pa_nil))))) (pw_or1 (pt_not (pt_chain op_le op_le pe_int (pe_callB call_len (by rfl) B.len bb_len (pa_cons (pv 0) pa_nil)) (pv 1))))))
        (pss_one (ps_ret pe_bl))
        pss_nil)
      (pss_one (ps_ret (pe_and (pe_callB (cr_all rfl) (by rfl) B.all bb_all (pa_cons (pe_lc (own := [("name", 2)]) (g := gName 2) (tt := tYes) (by rfl) sc_are_names.nd (pi_list (pv 0)) (blkOk_by (own := [("name", 2)]) (N := N_are_names) (sc := defScope s_are_names) (by decide +kernel)) (fun _ _ _ _ _ => (pg_name (i := 2) sc_are_names.nd rfl (Or.inl rfl))) (fun _ _ _ _ _ => pts_nil) (fun _ _ _ _ _ => (pe_own G_is_name (hr.mono (by decide)) (by rfl) (pa_cons (pv 2) pa_nil)))) pa_nil)) (pe_one (pe_cmpR op_eq (pe_lenSetN (by rfl) (by rfl) B.len (by rfl) B.set (pv 0)) (pe_callB call_len (by rfl) B.len bb_len (pa_cons (pv 0) pa_nil)) (nomark _))))))), ?_⟩
  refine ⟨_, rfl, by show 2 ≤ sizeLine; decide, fun t ht => ?_⟩
  have s1 : Same H (upd H t (.tup twoT)) := same_upd ht
  have ha1 := s1 _ _ ha
  refine ⟨.ref a, t, twoT, .type "list", _, true, rfl, upd_same, isi_pr, (Typ.lst ha1).tyx, isi_kit, _, rfl, iteF ?_⟩
  refine ⟨_, rfl, .ref a, ns.length, rfl, .inl ⟨_, SqL.of ha1, by rw [List.length_map]⟩, _, _, rfl, rfl, _, rfl, ?_⟩
  by_cases h1 : 1 ≤ ns.length
  · refine ite_of (decide_eq_true (by omega)) ⟨_, rfl, _, _, rfl, rfl, _, rfl, ?_⟩
    by_cases h2 : ns.length ≤ 8
    · have e0 : namesB ns = ((ns.map nameB).all id && decide (SetN.num ns ns.length = ns.length)) := by
        unfold namesB
        rw [if_pos ⟨h1, h2⟩]
      refine iteNS (by omega) ?_
      refine ⟨_, rfl, a, rfl, ⟨_, SqL.of ha1⟩, fun D hD => ?_⟩
      refine lc_it (walk_list (xs := ns.map V.str)) (fun i H' => Same (upd H t (.tup twoT)) H' ∧ H' D = some (.lst (((ns.take i).map nameB).map V.bl))) ⟨same_upd hD, upd_same⟩ (fun i H' _ e => SqL.of (e.1 _ _ ha1)) ?_ ?_
      · rintro i v Ha Hb hi ⟨sa, ea⟩ ⟨rfl, hv⟩
        obtain ⟨x, hx', rfl⟩ := at_map hv
        refine ⟨rfl, tYes_ok ⟨_, rfl, .str x, "str", rfl, .str x, fun y ey => (by cases ey; exact hx x (List.mem_of_getElem? hx')), fun Hc sc => ⟨_, sc _ _ ea, small1000 (by simp; omega), fun c o hc => ?_, ?_⟩⟩⟩
        · rw [upd_ne (ne_of_none hc hD)]
          exact sc _ _ (sa _ _ hc)
        · rw [upd_same, take_snoc hx']
          simp [nameV]
      · rintro H2 ⟨s2, e2⟩
        have s12 := s1.trans s2
        rw [List.length_map, List.take_length] at e2
        refine ⟨D, _, rfl, SqL.of e2, ?_⟩
        have q' := q H2 s12
        rw [e0] at q'
        refine ⟨_, rfl, ?_⟩
        cases hb : (ns.map nameB).all id with
        | false =>
          rw [hb] at q'
          exact iteF q'
        | true =>
          rw [hb] at q'
          refine iteT ⟨_, rfl, a, ns, rfl, SqL.of (s2 _ _ ha1), by omega, _, rfl, .ref a, ns.length, rfl, .inl ⟨_, SqL.of (s2 _ _ ha1), by rw [List.length_map]⟩, rfl, ?_⟩
          have e5 : decide (V.int (SetN.num ns ns.length : Nat) = V.int (ns.length : Nat)) = decide (SetN.num ns ns.length = ns.length) := by
            by_cases z : SetN.num ns ns.length = ns.length
            · rw [decide_eq_true z, z]
              simp
            · rw [decide_eq_false z]
              simp only [V.int.injEq, decide_eq_false_iff_not]
              omega
          show Q (.bl (decide (V.int (SetN.num ns ns.length : Nat) = V.int (ns.length : Nat)))) H2
          rw [e5]
          exact q'
    · have q' := q _ s1
      rw [show namesB ns = false from if_neg fun k => h2 k.2] at q'
      exact ite_of (by rw [decide_eq_false (by omega)]; rfl) q'
  · have q' := q _ s1
    rw [show namesB ns = false from if_neg fun k => h1 k.1] at q'
    exact ite_no (by rw [decide_eq_false (by omega)]; decide) ⟨_, rfl, iteT q'⟩
theorem ok_are_known (F : Fn K mg "are_known" s_are_known ["value", "known", "most"]) (B : Blt mg) (G_is_known : Has P w K mg base 2 "is_known" ["value", "known"] spKnown) : Has P w K mg base 3 "are_known" ["value", "known", "most"] spKnowns := by
  refine F.has sc_are_known (fun vs H Q E h => ?_) (fun f cdv A outer s H vs Q E hr h => ?_)
  · obtain ⟨v, d, ns, S, rfl, _⟩ := h
    rfl
  obtain ⟨a, k, ns, S, rfl, ha, hl, hx, hk, q⟩ := h
  refine ⟨_, (pss_cons (ps_if (PW.pt (pw_or (pt_not (pt_val (pe_callB call_isiT (by rfl) B.isinstance bb_isinstance (pa_cons (pv 0) (pa_cons (pe_tup (pa_cons (pe_bltn (v := .ty "list") (by rfl) B.list bb_list rfl) (pa_cons (pe_bltn (v := .ty "tuple") (by rfl) B.tuple bb_tuple rfl) pa_nil))) pa_nil))))) (pw_or1 (pt_not (pt_chain op_le op_le pe_int (pe_callB call_len (by rfl) B.len bb_len (pa_cons (pv 0) pa_nil)) (pv 2))))))
        (pss_one (ps_ret pe_bl))
        pss_nil)
      (pss_one (ps_ret (pe_callB (cr_all rfl) (by rfl) B.all bb_all (pa_cons (pe_lc (own := [("name", 3)]) (g := gName 3) (tt := tYes) (by rfl) sc_are_known.nd (pi_list (pv 0)) (blkOk_by (own := [("name", 3)]) (N := N_are_known) (sc := defScope s_are_known) (by decide +kernel)) (fun _ _ _ _ _ => (pg_name (i := 3) sc_are_known.nd rfl (Or.inl rfl))) (fun _ _ _ _ _ => pts_nil) (fun _ _ _ _ _ => (pe_own G_is_known (hr.mono (by decide)) (by rfl) (pa_cons (pv 3) (pa_cons (pv 1) pa_nil))))) pa_nil))))), ?_⟩
  refine ⟨_, rfl, by show 2 ≤ sizeLine; decide, fun t ht => ?_⟩
  have s1 : Same H (upd H t (.tup twoT)) := same_upd ht
  have ha1 := s1 _ _ ha
  refine ⟨.ref a, t, twoT, .type "list", _, true, rfl, upd_same, isi_pr, (Typ.lst ha1).tyx, isi_kit, _, rfl, iteF ?_⟩
  refine ⟨_, rfl, .ref a, ns.length, rfl, .inl ⟨_, SqL.of ha1, by rw [List.length_map]⟩, _, _, rfl, rfl, _, rfl, ?_⟩
  by_cases h1 : 1 ≤ ns.length
  · refine ite_of (decide_eq_true (by omega)) ⟨_, rfl, _, _, rfl, rfl, _, rfl, ?_⟩
    by_cases h2 : ns.length ≤ 8
    · have e0 : knownB S ns = (ns.map fun x => nameB x && S x).all id := by
        unfold knownB
        rw [if_pos ⟨h1, h2⟩]
      refine iteNS (by omega) ?_
      refine ⟨_, rfl, a, rfl, ⟨_, SqL.of ha1⟩, fun D hD => ?_⟩
      refine lc_it (walk_list (xs := ns.map V.str)) (fun i H' => Same (upd H t (.tup twoT)) H' ∧ H' D = some (.lst (((ns.take i).map fun x => nameB x && S x).map V.bl))) ⟨same_upd hD, upd_same⟩ (fun i H' _ e => SqL.of (e.1 _ _ ha1)) ?_ ?_
      · rintro i v Ha Hb hi ⟨sa, ea⟩ ⟨rfl, hv⟩
        obtain ⟨x, hx', rfl⟩ := at_map hv
        refine ⟨rfl, tYes_ok ⟨_, rfl, _, rfl, x, k, S, rfl, hx x (List.mem_of_getElem? hx'), hk.same (s1.trans sa), fun Hc sc => ⟨_, sc _ _ ea, small1000 (by simp; omega), fun c o hc => ?_, ?_⟩⟩⟩
        · rw [upd_ne (ne_of_none hc hD)]
          exact sc _ _ (sa _ _ hc)
        · rw [upd_same, take_snoc hx']
          simp
      · rintro H2 ⟨s2, e2⟩
        have s12 := s1.trans s2
        rw [List.length_map, List.take_length] at e2
        refine ⟨D, _, rfl, SqL.of e2, ?_⟩
        have q' := q H2 s12
        rw [e0] at q'
        exact q'
    · have q' := q _ s1
      rw [show knownB S ns = false from if_neg fun k => h2 k.2] at q'
      exact ite_of (by rw [decide_eq_false (by omega)]; rfl) q'
  · have q' := q _ s1
    rw [show knownB S ns = false from if_neg fun k => h1 k.1] at q'
    exact ite_no (by rw [decide_eq_false (by omega)]; decide) ⟨_, rfl, iteT q'⟩
end
end My
/-! benches of sums: lines -/
namespace My
open PySem PySem.Spec PyProof.Rows L2
/-- a line: a name with parts, a name with None, anything else -/
inductive LineD
  | line (x : Str) (ps : List PartD)
  | bare (x : Str)
  | odd
def LineAt (H : Hp) (v : V) : LineD → Prop
  | .line x ps => ∃ a p vs, v = .ref a ∧ H a = some (.tup [.str x, .ref p]) ∧ H p = some (.lst vs) ∧ Paired (PartAt H) vs ps ∧ x.length ≤ 1000 ∧ ps.length ≤ 100
  | .bare x => ∃ a, v = .ref a ∧ H a = some (.tup [.str x, .non]) ∧ x.length ≤ 1000
  | .odd => NoPair H v
theorem LineAt.same {H H' : Hp} {v : V} : ∀ {d : LineD}, LineAt H v d → Same H H' → LineAt H' v d
  | .line _ _, ⟨a, p, vs, e, h, h2, pr, l⟩, s => ⟨a, p, vs, e, s _ _ h, s _ _ h2, pmono (fun v d e => e.same s) pr, l⟩
  | .bare _, ⟨a, e, h, l⟩, s => ⟨a, e, s _ _ h, l⟩
  | .odd, h, s => NoPair.same h s
def nameP : PartD → Str
  | .num _ x => x
  | .yes _ x => x
  | .odd => Str.empty
def lineB (S : Str → Bool) : LineD → Bool
  | .line x ps => if (nameB x && !S x) = true ∧ 1 ≤ ps.length ∧ ps.length ≤ 48 then (ps.map (partB S)).all id && decide (SetN.num (ps.map nameP) (ps.map nameP).length = (ps.map nameP).length) else false
  | _ => false
def KnD (H : Hp) (k : Addr) (S : Str → Bool) : Prop := ∃ kvs : List (Key × V), H k = some (.dK kvs) ∧ kvs.length ≤ 200 ∧ ∀ x, (valV kvs (.inr x)).isSome = S x
theorem KnD.same {H H' : Hp} {k : Addr} {S : Str → Bool} (h : KnD H k S) (s : Same H H') : KnD H' k S := by
  obtain ⟨kvs, e, l, z⟩ := h
  exact ⟨kvs, s _ _ e, l, z⟩
theorem KnD.known {H : Hp} {k : Addr} {S : Str → Bool} (h : KnD H k S) : Known H k S := by
  obtain ⟨kvs, e, l, z⟩ := h
  exact .dict kvs e l z
theorem kit_non {K : PySem.W.Frag} : PySem.W.kitAny K (.type "NoneType") [.type "list", .type "tuple"] = some false := kitAny_cons (b := false) (kit_ty (by decide +kernel)) (fun _ => kitAny_cons (b := false) (kit_ty (by decide +kernel)) (fun _ => rfl) (fun z => by cases z)) (fun z => by cases z)
def spLine : Sp := fun vs H Q _ => ∃ (v : V) (d : LineD) (k : Addr) (S : Str → Bool), vs = [v, .ref k] ∧ LineAt H v d ∧ KnD H k S ∧ ∀ H', Same H H' → Q (.bl (lineB S d)) H'
section
variable {P : Program} {w : World} {K : PySem.W.Frag} {mg : Str → Option Value} {base : Heap} {kw : Addr}
theorem ok_is_line (F : Fn K mg "is_line" s_is_line ["value", "known"]) (B : Blt mg) (T : Txt K mg kw) (G_is_name : Has P w K mg base 1 "is_name" ["value"] spIsName) (G_is_part : Has P w K mg base 3 "is_part" ["value", "known"] spPart) : Has P w K mg base 4 "is_line" ["value", "known"] spLine := by
  refine F.has sc_is_line (fun vs H Q E h => ?_) (fun f cdv A outer s H vs Q E hr h => ?_)
  · obtain ⟨v, d, k, S, rfl, _⟩ := h
    rfl
  obtain ⟨v, d, k, S, rfl, hv, hk, q⟩ := h
  refine ⟨_, (pss_cons (ps_if (PW.pt (pw_or (pt_not (pt_val (pe_callB call_isi (by rfl) B.isinstance bb_isinstance (pa_cons (pv 0) (pa_cons (pe_bltn (v := .ty "tuple") (by rfl) B.tuple bb_tuple rfl) pa_nil))))) (pw_or1 (pt_cmpR op_ne (pe_callB call_len (by rfl) B.len bb_len (pa_cons (pv 0) pa_nil)) pe_int (nomark _)))))
        (pss_one (ps_ret pe_bl))
        pss_nil)
      (pss_cons (ps_asg (pv 0) (pg_tup rfl (pgs_cons (pg_name (i := 2) sc_is_line.nd rfl (Or.inl rfl)) (pgs_cons (pg_name (i := 3) sc_is_line.nd rfl (Or.inl rfl)) pgs_nil))))
      (pss_cons (ps_if (PW.pt (pw_or (pt_not (pt_val (pe_own G_is_name (hr.mono (by decide)) (by rfl) (pa_cons (pv 2) pa_nil)))) (pw_or (pt_cmp (pc_din (hu_of hr) (pv 2) (pv 1))) (pw_or1 (pt_not (pt_val (pe_callB call_isiT (by rfl) B.isinstance bb_isinstance (pa_cons (pv 3) (pa_cons (pe_tup (pa_cons (pe_bltn (v := .ty "list") (by rfl) B.list bb_list rfl) (pa_cons (pe_bltn (v := .ty "tuple") (by rfl) B.tuple bb_tuple rfl) pa_nil))) pa_nil)))))))))
        (pss_one (ps_ret pe_bl))
        pss_nil)
      (pss_cons (ps_if (PW.pt (pw_or (pt_not (pt_chain op_le op_le pe_int (pe_callB call_len (by rfl) B.len bb_len (pa_cons (pv 3) pa_nil)) (pe_gint T.m_MOST_PARTS (by rfl)))) (pw_or1 (pt_not (pt_val (pe_callB (cr_all rfl) (by rfl) B.all bb_all (pa_cons (pe_lc (own := [("part", 4)]) (g := gName 4) (tt := tYes) (by rfl) sc_is_line.nd (pi_list (pv 3)) (blkOk_by (own := [("part", 4)]) (N := N_is_line) (sc := defScope s_is_line) (by decide +kernel)) (fun _ _ _ _ _ => (pg_name (i := 4) sc_is_line.nd rfl (Or.inl rfl))) (fun _ _ _ _ _ => pts_nil) (fun _ _ _ _ _ => (pe_own G_is_part (hr.mono (by decide)) (by rfl) (pa_cons (pv 4) (pa_cons (pv 1) pa_nil))))) pa_nil)))))))
        (pss_one (ps_ret pe_bl))
        pss_nil)
      (pss_one (ps_ret (pe_cmpR op_eq (pe_lenSetN (by rfl) (by rfl) B.len (by rfl) B.set (pe_lc (own := [("part", 4)]) (g := gName 4) (tt := tYes) (by rfl) sc_is_line.nd (pi_list (pv 3)) (blkOk_by (own := [("part", 4)]) (N := N_is_line) (sc := defScope s_is_line) (by decide +kernel)) (fun _ _ _ _ _ => (pg_name (i := 4) sc_is_line.nd rfl (Or.inl rfl))) (fun _ _ _ _ _ => pts_nil) (fun _ _ _ _ _ => (pe_ix (LcN.ix_tupK K rfl) (pv 4) pe_int (fun _ _ => rfl))))) (pe_callB call_len (by rfl) B.len bb_len (pa_cons (pv 3) pa_nil)) (nomark _)))))))), ?_⟩
  match d, hv with
  | .odd, hv =>
    have q' := q H (Same.refl H)
    cases hv with
    | non => exact ⟨_, rfl, _, .ty "tuple", _, .type "tuple", false, rfl, .ty _, Typ.non.tyx, kit_ty (by decide +kernel), _, rfl, iteT (iteT q')⟩
    | str x => exact ⟨_, rfl, _, .ty "tuple", _, .type "tuple", false, rfl, .ty _, (Typ.str x).tyx, kit_ty (by decide +kernel), _, rfl, iteT (iteT q')⟩
    | lst h => exact ⟨_, rfl, _, .ty "tuple", _, .type "tuple", false, rfl, .ty _, (Typ.lst h).tyx, kit_ty (by decide +kernel), _, rfl, iteT (iteT q')⟩
    | tup h n l => exact ⟨_, rfl, _, .ty "tuple", _, .type "tuple", true, rfl, .ty _, (Typ.tup h).tyx, kit_ty (by decide +kernel), _, rfl, iteF ⟨_, rfl, _, _, rfl, .inr ⟨_, SqT.of h, rfl⟩, rfl, _, rfl, ite_of (by simpa using fun z => n (by omega)) q'⟩⟩
  | .bare x, ⟨a, e, h, l⟩ =>
    subst e
    refine ⟨_, rfl, _, .ty "tuple", _, .type "tuple", true, rfl, .ty _, (Typ.tup h).tyx, kit_ty (by decide +kernel), _, rfl, iteF ?_⟩
    refine ⟨_, rfl, .ref a, 2, rfl, .inr ⟨_, SqT.of h, rfl⟩, rfl, _, rfl, ite_no (by decide) ?_⟩
    refine ⟨_, rfl, a, _, rfl, SqT.of h, rfl, _, _, rfl, _, _, rfl, rfl, ?_⟩
    refine ⟨_, rfl, .str x, "str", rfl, .str x, fun y ey => (by cases ey; exact l), fun H1 s1 => ⟨nameB x, rfl, ?_⟩⟩
    have q' : ∀ H', Same H H' → Q (.bl false) H' := q
    obtain ⟨kvs, ek, lk, zk⟩ := hk
    cases hb : nameB x with
    | false => exact iteT (iteT (q' _ s1))
    | true =>
      refine iteF ?_
      refine ⟨_, rfl, _, rfl, k, _, rfl, DGet.k (k := .inr x) (s1 _ _ ek), (valV kvs (.inr x)).isSome, rfl, ?_⟩
      cases hs : (valV kvs (.inr x)).isSome with
      | true => exact iteT (iteT (q' _ s1))
      | false =>
        refine iteF ⟨_, rfl, by show 2 ≤ sizeLine; decide, fun t ht => ?_⟩
        refine ⟨.non, t, twoT, .type "NoneType", _, false, rfl, upd_same, isi_pr, Typ.non.tyx, kit_non, _, rfl, iteT ?_⟩
        exact q' _ (s1.trans (same_upd ht))
  | .line x ps, ⟨a, p, vs, e, h, hp, pr, l, lp⟩ =>
    subst e
    have lv := plen pr
    obtain ⟨kvs, ek, lk, zk⟩ := id hk
    have e0 : lineB S (.line x ps) = if (nameB x && !S x) = true ∧ 1 ≤ ps.length ∧ ps.length ≤ 48 then (ps.map (partB S)).all id && decide (SetN.num (ps.map nameP) (ps.map nameP).length = (ps.map nameP).length) else false := rfl
    have no : ¬ ((nameB x && !S x) = true ∧ 1 ≤ ps.length ∧ ps.length ≤ 48) → ∀ H', Same H H' → Q (.bl false) H' := fun hn H' s' => by
      have z := q H' s'
      rw [e0, if_neg hn] at z
      exact z
    refine ⟨_, rfl, _, .ty "tuple", _, .type "tuple", true, rfl, .ty _, (Typ.tup h).tyx, kit_ty (by decide +kernel), _, rfl, iteF ?_⟩
    refine ⟨_, rfl, .ref a, 2, rfl, .inr ⟨_, SqT.of h, rfl⟩, rfl, _, rfl, ite_no (by decide) ?_⟩
    refine ⟨_, rfl, a, _, rfl, SqT.of h, rfl, _, _, rfl, _, _, rfl, rfl, ?_⟩
    refine ⟨_, rfl, .str x, "str", rfl, .str x, fun y ey => (by cases ey; exact l), fun H1 s1 => ⟨nameB x, rfl, ?_⟩⟩
    cases hb : nameB x with
    | false => exact iteT (iteT (no (by rw [hb]; simp) _ s1))
    | true =>
      refine iteF ⟨_, rfl, _, rfl, k, _, rfl, DGet.k (k := .inr x) (s1 _ _ ek), (valV kvs (.inr x)).isSome, rfl, ?_⟩
      have zx := zk x
      cases hs : (valV kvs (.inr x)).isSome with
      | true =>
        rw [hs] at zx
        exact iteT (iteT (no (by rw [← zx]; simp) _ s1))
      | false =>
        rw [hs] at zx
        refine iteF ⟨_, rfl, by show 2 ≤ sizeLine; decide, fun t ht => ?_⟩
        have s2 := s1.trans (same_upd (o := .tup twoT) ht)
        refine ⟨.ref p, t, twoT, .type "list", _, true, rfl, upd_same, isi_pr, (Typ.lst (s2 _ _ hp)).tyx, isi_kit, _, rfl, iteF ?_⟩
        generalize upd H1 t (.tup twoT) = H2 at s2 ⊢
        refine ⟨_, rfl, .ref p, vs.length, rfl, .inl ⟨_, SqL.of (s2 _ _ hp), rfl⟩, _, _, rfl, rfl, _, rfl, ?_⟩
        have zl : ps.length = vs.length := lv.symm
        by_cases h1 : 1 ≤ vs.length
        · refine ite_of (decide_eq_true (by omega)) ⟨_, _, rfl, rfl, _, rfl, ?_⟩
          by_cases h2 : vs.length ≤ 48
          · refine iteNS (by omega) ?_
            have hp2 := s2 _ _ hp
            refine ⟨_, rfl, p, rfl, ⟨_, SqL.of hp2⟩, fun D hD => ?_⟩
            refine lc_it (walk_list (xs := vs)) (fun i H' => Same H2 H' ∧ H' D = some (.lst (((ps.take i).map (partB S)).map V.bl))) ⟨same_upd hD, upd_same⟩ (fun i H' _ e => SqL.of (e.1 _ _ hp2)) ?_ ?_
            · rintro i v Ha Hb hi ⟨sa, ea⟩ ⟨rfl, hv⟩
              obtain ⟨v', d, hv', hd, hp⟩ := pat pr (by omega : i < ps.length)
              rw [hv] at hv'
              cases hv'
              refine ⟨rfl, tYes_ok ⟨_, rfl, _, rfl, v, d, k, S, rfl, hp.same (s2.trans sa), hk.known.same (s2.trans sa), fun Hc sc => ⟨_, sc _ _ ea, small1000 (by simp; omega), fun c o hc => ?_, ?_⟩⟩⟩
              · rw [upd_ne (ne_of_none hc hD)]
                exact sc _ _ (sa _ _ hc)
              · rw [upd_same, take_snoc hd]
                simp
            rintro H3 ⟨s3, e3⟩
            rw [← zl, List.take_length] at e3
            have s13 := s2.trans s3
            have hp3 := s3 _ _ hp2
            have e1 : lineB S (.line x ps) = ((ps.map (partB S)).all id && decide (SetN.num (ps.map nameP) (ps.map nameP).length = (ps.map nameP).length)) := by
              rw [e0, if_pos ⟨by rw [hb, ← zx]; rfl, by omega, by omega⟩]
            refine ⟨D, _, rfl, SqL.of e3, (ps.map (partB S)).all id, rfl, ?_⟩
            cases ha : (ps.map (partB S)).all id with
            | false =>
              have z := q _ s13
              rw [e1, ha] at z
              exact iteT z
            | true =>
              refine iteF ?_
              refine ⟨_, rfl, p, rfl, ⟨_, SqL.of hp3⟩, fun D2 hD2 => ?_⟩
              refine lc_it (walk_list (xs := vs)) (fun i H' => Same H3 H' ∧ H' D2 = some (.lst (((ps.take i).map nameP).map V.str))) ⟨same_upd hD2, upd_same⟩ (fun i H' _ e => SqL.of (e.1 _ _ hp3)) ?_ ?_
              · rintro i v Ha Hb hi ⟨sa, ea⟩ ⟨rfl, hv⟩
                obtain ⟨v', d, hv', hd, hp⟩ := pat pr (by omega : i < ps.length)
                rw [hv] at hv'
                cases hv'
                have hb : partB S d = true := by
                  rw [List.all_map, List.all_eq_true] at ha
                  exact ha d (List.mem_of_getElem? hd)
                match d, hp, hb with
                | .num n y, ⟨c0, e, hc0, _⟩, _ =>
                  subst e
                  refine ⟨rfl, tYes_ok ⟨_, rfl, c0, _, _, _, rfl, rfl, SqT.of (sa _ _ (s13 _ _ hc0)), atI_nat (j := 1) rfl, _, ea, small1000 (by simp; omega), fun c o hc => ?_, ?_⟩⟩
                  · rw [upd_ne (ne_of_none hc hD2)]
                    exact sa _ _ hc
                  · rw [upd_same, take_snoc hd]
                    simp [nameP]
              rintro H4 ⟨s4, e4⟩
              rw [← zl, List.take_length] at e4
              refine ⟨D2, ps.map nameP, rfl, SqL.of e4, by simp; omega, _, rfl, .ref p, vs.length, rfl, .inl ⟨_, SqL.of (s4 _ _ hp3), rfl⟩, rfl, ?_⟩
              have z := q _ (s13.trans s4)
              rw [e1, ha] at z
              have e5 : decide (V.int (SetN.num (ps.map nameP) (ps.map nameP).length : Nat) = V.int (vs.length : Nat)) = decide (SetN.num (ps.map nameP) (ps.map nameP).length = (ps.map nameP).length) := by
                by_cases z : SetN.num (ps.map nameP) (ps.map nameP).length = (ps.map nameP).length
                · rw [decide_eq_true z, z, List.length_map, zl]
                  simp
                · rw [decide_eq_false z]
                  simp only [V.int.injEq, decide_eq_false_iff_not]
                  rw [List.length_map] at z ⊢
                  omega
              show Q (.bl (decide (V.int (SetN.num (ps.map nameP) (ps.map nameP).length : Nat) = V.int (vs.length : Nat)))) H4
              rw [e5]
              exact z
          · exact ite_of (by rw [decide_eq_false (by omega)]; rfl) (no (by omega) _ s2)
        · exact ite_no (by rw [decide_eq_false (by omega)]; decide) ⟨_, rfl, iteT (no (by omega) _ s2)⟩
end
end My
/-! d = {k: v for x in xs}, d a local of the def -/
namespace L2
open PySem PySem.Spec PyProof.Rows
section
variable {X : Cx}
theorem sw_dict {kx vx : Expr} {gs : List Comprehension} {scope : Scope} {pos py : Pos} {y : Str} {l : Nat} {env : Env} (fn : env.scope.kind = .function) (loc : env.scope.names.lookup y = some .local) (line : (py.line == pos.line) = true)
    (other : (scope.names.any fun (n, k) => n == y && (k == .local || k == .cell)) = false) : swapsWith (.DictComp kx vx gs scope pos) (some (.Name y py)) l env = pure true := by
  have h1 : env.kindOf y = some .local := loc
  have h2 : env.blockKind = .function := by
    unfold Env.blockKind
    rw [fn]
    rfl
  unfold swapsWith
  simp only [h1, h2, other, Expr.pos, line]
  rfl
theorem ps_setDc {i : Nat} {y : Str} {py : Pos} {kx vx tg iter : Expr} {ifs : List Expr} {scope : Scope} {own : List (Str × Nat)} {pos spos : Pos} {wi : TI} {g : TG} {tt : TT} {tk tv : TE} (hc : X.calm = true) (hN : X.N.Nodup) (hy : X.N[i]? = some y) (hyl : X.env.scope.names.lookup y = some .local)
    (sw : swapsWith (.DictComp kx vx [⟨tg, iter, ifs, 0⟩] scope pos) (some (.Name y py)) spos.line X.env = pure true) (hi : PI X tg iter wi) (ok : BlkOk X.N X.env.scope scope own)
    (hg : ∀ (s : Shared) (H : Hp) (C : Addr) (cl : List (Str × Addr)) (fp : List Addr), PG (X.blk s H scope (compEnvC scope cl C X.env) fp) tg g) (ht : ∀ (s : Shared) (H : Hp) (C : Addr) (cl : List (Str × Addr)) (fp : List Addr), PTs (X.blk s H scope (compEnvC scope cl C X.env) fp) ifs tt)
    (hk : ∀ (s : Shared) (H : Hp) (C : Addr) (cl : List (Str × Addr)) (fp : List Addr), PE (X.blk s H scope (compEnvC scope cl C X.env) fp) kx tk) (hv : ∀ (s : Shared) (H : Hp) (C : Addr) (cl : List (Str × Addr)) (fp : List Addr), PE (X.blk s H scope (compEnvC scope cl C X.env) fp) vx tv)
    (hs : ∀ x, foldedSetIterable iter X.env x = pure x := by intro _; rfl) :
    PS X (.Assign [.Name y py] (.DictComp kx vx [⟨tg, iter, ifs, 0⟩] scope pos) spos) (tAsg (tDc wi g tt tk tv (own.map (·.2))) (gName i)) := by
  refine ⟨fun pins s σ H D I h => ?_⟩
  have h' : tDc wi g tt tk tv (own.map (·.2)) σ H (fun x H1 => gName i x σ H1 D.nx) := h
  rw [exec_Assign_Name_used _ _ _ _ sw]
  refine wpAny_bind (wpAny_standAt (wpAny_bind ?_))
  show wpAny _ X.A (do let _ ← comprehension (.DictComp kx vx [⟨tg, iter, ifs, 0⟩] scope pos) scope X.env (firstIterPos [⟨tg, iter, ifs, 0⟩] pos) newDict false (eval iter X.env) (some (assign (.Name y py) X.env))) _ _ s
  refine wpAny_bind (thn (dc_core (Qf := fun _ t => SP X pins D .next t) hc hN I hi ok hg ht hk hv hs h' fun B C t m H' I' q hn f => ?_) fun _ t q => wpAny_pure (wpAny_pure q))
  have ⟨f0, f1, f2, f3, f4, f5⟩ := f
  show wpAny _ _ (assign (.Name y py) X.env (.ref B)) _ _ _
  refine wpAny_assign_Name (store_ok2 (v := V.ref B) I' hN hy (.inl hyl) rfl (fun t2 I2 ⟨a, sb, ha⟩ => ?_) (.inr hyl))
  have apart : C ≠ a := ha.elim (fun e => e ▸ f1) fun e z => f4 y a e z.symm
  exact ⟨m, hn.sameBut sb apart, fun h3 sb3 => ⟨_, H', I2.turned (t' := t2.toks) (fun b o hb e => (sb3.2 b hb).trans e) f0 f1 f3 f4 f5, q⟩⟩
end
end L2
namespace L2
open PySem PySem.Spec PyProof.Rows
/-- the turns of a dict comprehension over a walk -/
theorem dc_it {J : It} {n : Nat} {G : Hp → Prop} {Y : Nat → Hp → V → Hp → Prop} (w : Walk J n G Y) {g : TG} {tt : TT} {tk tv : TE} {vs : List Nat} {σ : St} {H1 : Hp} {D : Addr} {Qd : Hp → Prop} (Pv : Nat → Hp → Prop) (first : Pv 0 (upd H1 D (.dK []))) (hG : ∀ i H, i ≤ n → Pv i H → G H)
    (turn : ∀ i x H H', i < n → Pv i H → Y i H x H' → g x (wipe σ vs) H' fun σ2 H2 => wipe σ2 vs = wipe σ vs ∧ tt σ2 H2 fun b H3 =>
      if b = true then tk σ2 H3 fun y H4 => tv σ2 H4 fun z H5 => ∃ kvs k, y = kV k ∧ H5 D = some (.dK kvs) ∧ kvs.length < sizeLine ∧ Pv (i + 1) (upd H5 D (.dK (putK kvs k z))) else Pv (i + 1) H3) (last : ∀ H, Pv n H → Qd H) :
    ∃ W : Nat → Nat → Hp → Prop, (∃ m, W 0 m (upd H1 D (.dK []))) ∧ ∀ i m H, W i m H →
      (J.stop i H ∧ Qd H) ∨ (J.go i H ∧ ∃ Nx : Hp → Prop, (∀ H', Nx H' → ∃ m', m' < m ∧ W (i + 1) m' H') ∧ ∀ x H', J.yld i H x H' → g x (wipe σ vs) H' fun σ2 H2 => wipe σ2 vs = wipe σ vs ∧ tt σ2 H2 fun b H3 =>
        if b = true then tk σ2 H3 fun y H4 => tv σ2 H4 fun z H5 => ∃ kvs k, y = kV k ∧ H5 D = some (.dK kvs) ∧ kvs.length < sizeLine ∧ Nx (upd H5 D (.dK (putK kvs k z))) else Nx H3) := by
  refine ⟨fun i m H => i + m = n ∧ Pv i H, ⟨n, by omega, first⟩, fun i m H ⟨e, p⟩ => ?_⟩
  have ok := hG i H (by omega) p
  match m, e with
  | 0, e =>
    obtain rfl : i = n := by omega
    exact .inl ⟨w.stops H ok, last H p⟩
  | m + 1, e =>
    have lt : i < n := by omega
    exact .inr ⟨w.goes i H lt ok, Pv (i + 1), fun H' p' => ⟨m, by omega, by omega, p'⟩, fun x H' y => turn i x H H' lt p (w.yields i H x H' lt ok y)⟩
end L2
/-! benches of sums: the first wrong line -/
namespace My
open PySem PySem.Spec PyProof.Rows L2
def nameL : LineD → Str
  | .line x _ => x
  | .bare x => x
  | .odd => Str.empty
def putS (S : Str → Bool) (x : Str) : Str → Bool := fun y => decide (y = x) || S y
def wrongF : Nat → (Str → Bool) → List LineD → Option Nat
  | _, _, [] => none
  | i, S, d :: ds => if i = 40 then some i else if lineB S d = true then wrongF (i + 1) (putS S (nameL d)) ds else some i
def natV : Option Nat → V
  | some n => .int (n : Nat)
  | none => .non
def inS (ns : List Str) : Str → Bool := fun x => decide (x ∈ ns)
def spWrong : Sp := fun vs H Q _ => ∃ (L I : Addr) (ls : List V) (ds : List LineD) (ns : List Str), vs = [.ref L, .ref I] ∧ H L = some (.lst ls) ∧ Paired (LineAt H) ls ds ∧ ds.length ≤ 50 ∧ H I = some (.lst (ns.map V.str)) ∧ ns.length ≤ 100 ∧ ∀ H', Same H H' → Q (natV (wrongF 0 (inS ns) ds)) H'
section
variable {P : Program} {w : World} {K : PySem.W.Frag} {mg : Str → Option Value} {base : Heap} {kw : Addr}
theorem ok_first_wrong_line (F : Fn K mg "first_wrong_line" s_first_wrong_line ["lines", "inputs"]) (B : Blt mg) (T : Txt K mg kw) (G_is_line : Has P w K mg base 4 "is_line" ["value", "known"] spLine) : Has P w K mg base 5 "first_wrong_line" ["lines", "inputs"] spWrong := by
  refine F.has sc_first_wrong_line (fun vs H Q E h => ?_) (fun f cdv A outer s H vs Q E hr h => ?_)
  · obtain ⟨L, I, ls, ds, ns, rfl, _⟩ := h
    rfl
  obtain ⟨L, I, ls, ds, ns, rfl, hL, pr, ld, hI, ln, q⟩ := h
  refine ⟨_, (pss_cons (ps_setDc (i := 2) (own := [("name", 3)]) (g := gName 3) (tt := tYes) (by rfl) sc_first_wrong_line.nd rfl rfl (sw_dict rfl rfl rfl (by decide +kernel)) (pi_list (pv 1)) (blkOk_by (own := [("name", 3)]) (N := N_first_wrong_line) (sc := defScope s_first_wrong_line) (by decide +kernel)) (fun _ _ _ _ _ => (pg_name (i := 3) sc_first_wrong_line.nd rfl (Or.inl rfl))) (fun _ _ _ _ _ => pts_nil) (fun _ _ _ _ _ => (pv 3)) (fun _ _ _ _ _ => pe_bl))
      (pss_cons (ps_for PassesOwn.never rfl (pi_enum (by rfl) B.enumerate (pa_cons (pv 0) pa_nil)) (pg_tup rfl (pgs_cons (pg_name (i := 4) sc_first_wrong_line.nd rfl (Or.inl rfl)) (pgs_cons (pg_name (i := 5) sc_first_wrong_line.nd rfl (Or.inl rfl)) pgs_nil)))
        (pss_cons (ps_if (PW.pt (pw_or (pt_cmpR op_eq (pv 4) (pe_gint T.m_MOST_LINES (by rfl)) (nomark _)) (pw_or1 (pt_not (pt_val (pe_own G_is_line (hr.mono (by decide)) (by rfl) (pa_cons (pv 5) (pa_cons (pv 2) pa_nil))))))))
        (pss_one (ps_ret (pv 4)))
        pss_nil)
      (pss_one (ps_dput (hu_of hr) (pv 2) (pe_ix ix_tup (pv 5) pe_int (fun _ _ => rfl)) pe_bl (by rfl)))))
      (pss_one (ps_ret pe_non)))), ?_⟩
  have lv := plen pr
  refine ⟨_, rfl, I, rfl, ⟨_, SqL.of hI⟩, fun D hD => ?_⟩
  refine dc_it (walk_list (xs := ns.map V.str)) (fun i H' => Same H H' ∧ ∃ kvs : List (Key × V), H' D = some (.dK kvs) ∧ kvs.length ≤ i ∧ ∀ x, (valV kvs (.inr x)).isSome = inS (ns.take i) x) ⟨same_upd hD, [], upd_same, Nat.le_refl _, fun x => rfl⟩ (fun i H' _ e => SqL.of (e.1 _ _ hI)) ?_ ?_
  · rintro i v Ha Hb0 hi0 ⟨sa, kvs, ek, lk, zk⟩ ⟨rfl, hv⟩
    obtain ⟨x, hx, rfl⟩ := at_map hv
    have hi := (List.getElem?_eq_some_iff.mp hx).1
    refine ⟨rfl, tYes_ok ⟨_, rfl, kvs, .inr x, rfl, ek, small1000 (by omega), fun c o hc => ?_, _, upd_same, ?_, fun z => ?_⟩⟩
    · rw [upd_ne (ne_of_none hc hD)]
      exact sa _ _ hc
    · have := length_putK kvs (.inr x) (.bl true)
      omega
    · rw [valV_put, take_snoc hx]
      by_cases e : z = x
      · rw [if_pos (by rw [e])]
        simp [inS, e]
      · rw [if_neg (by simpa using e), zk z]
        simp [inS, e]
  rintro H1 ⟨s1, kvs0, ek0, lk0, zk0⟩
  rw [List.length_map] at lk0 zk0
  rw [List.take_length] at zk0
  have hL1 := s1 _ _ hL
  refine ⟨_, rfl, L, _, rfl, SqL.of hL1, for_it (walk_enum (xs := ls)) (fun i σ H' => ∃ y3 y4 y5, σ = [some (.ref L), some (.ref I), some (.ref D), y3, y4, y5] ∧ Same H H' ∧ ∃ (kvs : List (Key × V)) (S : Str → Bool), H' D = some (.dK kvs) ∧ kvs.length ≤ ns.length + i ∧ (∀ x, (valV kvs (.inr x)).isSome = S x) ∧ wrongF 0 (inS ns) ds = wrongF i S (ds.drop i))
    ⟨_, _, _, rfl, s1, kvs0, inS ns, ek0, lk0, zk0, rfl⟩ (fun i σ H' _ e => by obtain ⟨_, _, _, _, e, _⟩ := e; exact SqL.of (e _ _ hL)) ?_ ?_⟩
  · rintro i v σ Ha Hb hi ⟨y3, y4, y5, rfl, sa, kvs, S, ek, lk, zk, ew⟩ ⟨U, x1, y, rfl, hU, rfl, hx1, hy⟩
    have hy : ls[i]? = some y := hy
    have hi : i < ls.length := hi
    have ex : x1 = V.int (i : Nat) := (Option.some.inj hx1).symm
    subst ex
    have sU := same_upd (o := .tup [.int (i : Nat), y]) hU
    refine ⟨U, [.int (i : Nat), y], rfl, SqT.of upd_same, rfl, .int (i : Nat), [y], rfl, y, [], rfl, rfl, ?_⟩
    obtain ⟨v', d, hv', hd, hp⟩ := pat pr (by omega : i < ds.length)
    rw [hy] at hv'
    cases hv'
    have dr : ds.drop i = d :: ds.drop (i + 1) := by
      rw [List.drop_eq_getElem_cons (by omega : i < ds.length)]
      rw [List.getElem?_eq_getElem (by omega : i < ds.length)] at hd
      rw [Option.some.inj hd]
    have ew2 : wrongF 0 (inS ns) ds = if i = 40 then some i else if lineB S d = true then wrongF (i + 1) (putS S (nameL d)) (ds.drop (i + 1)) else some i := by
      rw [ew, dr]
      rfl
    have sb := sa.trans sU
    refine ⟨_, rfl, rfl, ?_⟩
    refine ⟨_, rfl, ?_⟩
    by_cases e : i = 40
    · rw [if_pos e] at ew2
      have z := q _ sb
      rw [ew2] at z
      exact ite_of (by simp [e]) (iteT ⟨_, rfl, z⟩)
    rw [if_neg e] at ew2
    refine ite_no (by simp; omega) ?_
    refine ⟨_, rfl, _, rfl, y, d, D, S, rfl, hp.same sb, ⟨kvs, sU _ _ ek, by omega, zk⟩, fun H3 s3 => ⟨lineB S d, rfl, ?_⟩⟩
    have sc := sb.trans s3
    cases hb : lineB S d with
    | false =>
      rw [hb, if_neg (by decide)] at ew2
      have z := q _ sc
      rw [ew2] at z
      exact iteT ⟨_, rfl, z⟩
    | true =>
      rw [hb, if_pos rfl] at ew2
      match d, hb, hp with
      | .line x ps, hb, ⟨c0, p0, vs0, e0, h0, _⟩ =>
      subst e0
      have ek3 := s3 _ _ (sU _ _ ek)
      refine iteF ⟨_, rfl, _, rfl, c0, _, _, _, rfl, rfl, SqT.of (sc _ _ h0), atI_nat (j := 0) rfl, D, _, rfl, DPut.k (k := .inr x) ek3 (small1000 (by omega)), _, _, _, rfl, fun c o hc => ?_, _, putS S x, upd_same, ?_, fun z => ?_, ew2⟩
      · rw [upd_ne (ne_of_none hc hD)]
        exact sc _ _ hc
      · have := length_putK kvs (.inr x) (.bl true)
        omega
      · rw [valV_put]
        by_cases e : z = x
        · rw [if_pos (by rw [e])]
          simp [putS, e]
        · rw [if_neg (by simpa using e), zk z]
          simp [putS, e]
  · rintro σ H2 ⟨y3, y4, y5, rfl, s2, kvs, S, ek, lk, zk, ew⟩
    rw [List.drop_eq_nil_of_le (by omega)] at ew
    have z := q _ s2
    rw [ew] at z
    exact z
end
end My
/-! benches of sums: outputs in a tuple -/
namespace My
open PySem PySem.Spec PyProof.Rows L2
theorem isi_kitT {K : PySem.W.Frag} : PySem.W.kitAny K (.type "tuple") [.type "list", .type "tuple"] = some true := kitAny_cons (b := false) (kit_ty (by decide +kernel)) (fun _ => kitAny_cons (b := true) (kit_ty (by decide +kernel)) (fun z => by cases z) (fun _ => rfl)) (fun z => by cases z)
/-- the outputs: a list or a tuple of names -/
def OutAt (H : Hp) (O : Addr) (ns : List Str) : Prop := H O = some (.lst (ns.map V.str)) ∨ H O = some (.tup (ns.map V.str))
theorem OutAt.same {H H' : Hp} {O : Addr} {ns : List Str} (h : OutAt H O ns) (s : Same H H') : OutAt H' O ns := h.imp (s _ _) (s _ _)
def spKnownsA : Sp := fun vs H Q _ => ∃ (a k : Addr) (ns : List Str) (S : Str → Bool), vs = [.ref a, .ref k, .int 8] ∧ OutAt H a ns ∧ ns.length ≤ 100 ∧ (∀ x ∈ ns, x.length ≤ 1000) ∧ Known H k S ∧ ∀ H', Same H H' → Q (.bl (knownB S ns)) H'
section
variable {P : Program} {w : World} {K : PySem.W.Frag} {mg : Str → Option Value} {base : Heap} {kw : Addr}
theorem ok_are_knownA (F : Fn K mg "are_known" s_are_known ["value", "known", "most"]) (B : Blt mg) (G_is_known : Has P w K mg base 2 "is_known" ["value", "known"] spKnown) : Has P w K mg base 3 "are_known" ["value", "known", "most"] spKnownsA := by
  refine F.has sc_are_known (fun vs H Q E h => ?_) (fun f cdv A outer s H vs Q E hr h => ?_)
  · obtain ⟨v, d, ns, S, rfl, _⟩ := h
    rfl
  obtain ⟨a, k, ns, S, rfl, ha, hl, hx, hk, q⟩ := h
  rcases ha with ha | ha
  · refine ⟨_, (pss_cons (ps_if (PW.pt (pw_or (pt_not (pt_val (pe_callB call_isiT (by rfl) B.isinstance bb_isinstance (pa_cons (pv 0) (pa_cons (pe_tup (pa_cons (pe_bltn (v := .ty "list") (by rfl) B.list bb_list rfl) (pa_cons (pe_bltn (v := .ty "tuple") (by rfl) B.tuple bb_tuple rfl) pa_nil))) pa_nil))))) (pw_or1 (pt_not (pt_chain op_le op_le pe_int (pe_callB call_len (by rfl) B.len bb_len (pa_cons (pv 0) pa_nil)) (pv 2))))))
        (pss_one (ps_ret pe_bl))
        pss_nil)
      (pss_one (ps_ret (pe_callB (cr_all rfl) (by rfl) B.all bb_all (pa_cons (pe_lc (own := [("name", 3)]) (g := gName 3) (tt := tYes) (by rfl) sc_are_known.nd (pi_list (pv 0)) (blkOk_by (own := [("name", 3)]) (N := N_are_known) (sc := defScope s_are_known) (by decide +kernel)) (fun _ _ _ _ _ => (pg_name (i := 3) sc_are_known.nd rfl (Or.inl rfl))) (fun _ _ _ _ _ => pts_nil) (fun _ _ _ _ _ => (pe_own G_is_known (hr.mono (by decide)) (by rfl) (pa_cons (pv 3) (pa_cons (pv 1) pa_nil))))) pa_nil))))), ?_⟩
    refine ⟨_, rfl, by show 2 ≤ sizeLine; decide, fun t ht => ?_⟩
    have s1 : Same H (upd H t (.tup twoT)) := same_upd ht
    have ha1 := s1 _ _ ha
    refine ⟨.ref a, t, twoT, .type "list", _, true, rfl, upd_same, isi_pr, (Typ.lst ha1).tyx, isi_kit, _, rfl, iteF ?_⟩
    refine ⟨_, rfl, .ref a, ns.length, rfl, .inl ⟨_, SqL.of ha1, by rw [List.length_map]⟩, _, _, rfl, rfl, _, rfl, ?_⟩
    by_cases h1 : 1 ≤ ns.length
    · refine ite_of (decide_eq_true (by omega)) ⟨_, rfl, _, _, rfl, rfl, _, rfl, ?_⟩
      by_cases h2 : ns.length ≤ 8
      · have e0 : knownB S ns = (ns.map fun x => nameB x && S x).all id := by
          unfold knownB
          rw [if_pos ⟨h1, h2⟩]
        refine iteNS (by omega) ?_
        refine ⟨_, rfl, a, rfl, ⟨_, SqL.of ha1⟩, fun D hD => ?_⟩
        refine lc_it (walk_list (xs := ns.map V.str)) (fun i H' => Same (upd H t (.tup twoT)) H' ∧ H' D = some (.lst (((ns.take i).map fun x => nameB x && S x).map V.bl))) ⟨same_upd hD, upd_same⟩ (fun i H' _ e => SqL.of (e.1 _ _ ha1)) ?_ ?_
        · rintro i v Ha Hb hi ⟨sa, ea⟩ ⟨rfl, hv⟩
          obtain ⟨x, hx', rfl⟩ := at_map hv
          refine ⟨rfl, tYes_ok ⟨_, rfl, _, rfl, x, k, S, rfl, hx x (List.mem_of_getElem? hx'), hk.same (s1.trans sa), fun Hc sc => ⟨_, sc _ _ ea, small1000 (by simp; omega), fun c o hc => ?_, ?_⟩⟩⟩
          · rw [upd_ne (ne_of_none hc hD)]
            exact sc _ _ (sa _ _ hc)
          · rw [upd_same, take_snoc hx']
            simp
        · rintro H2 ⟨s2, e2⟩
          have s12 := s1.trans s2
          rw [List.length_map, List.take_length] at e2
          refine ⟨D, _, rfl, SqL.of e2, ?_⟩
          have q' := q H2 s12
          rw [e0] at q'
          exact q'
      · have q' := q _ s1
        rw [show knownB S ns = false from if_neg fun k => h2 k.2] at q'
        exact ite_of (by rw [decide_eq_false (by omega)]; rfl) q'
    · have q' := q _ s1
      rw [show knownB S ns = false from if_neg fun k => h1 k.1] at q'
      exact ite_no (by rw [decide_eq_false (by omega)]; decide) ⟨_, rfl, iteT q'⟩
  · refine ⟨_, (pss_cons (ps_if (PW.pt (pw_or (pt_not (pt_val (pe_callB call_isiT (by rfl) B.isinstance bb_isinstance (pa_cons (pv 0) (pa_cons (pe_tup (pa_cons (pe_bltn (v := .ty "list") (by rfl) B.list bb_list rfl) (pa_cons (pe_bltn (v := .ty "tuple") (by rfl) B.tuple bb_tuple rfl) pa_nil))) pa_nil))))) (pw_or1 (pt_not (pt_chain op_le op_le pe_int (pe_callB call_len (by rfl) B.len bb_len (pa_cons (pv 0) pa_nil)) (pv 2))))))
        (pss_one (ps_ret pe_bl))
        pss_nil)
      (pss_one (ps_ret (pe_callB (cr_all rfl) (by rfl) B.all bb_all (pa_cons (pe_lc (own := [("name", 3)]) (g := gName 3) (tt := tYes) (by rfl) sc_are_known.nd (pi_tup (pv 0)) (blkOk_by (own := [("name", 3)]) (N := N_are_known) (sc := defScope s_are_known) (by decide +kernel)) (fun _ _ _ _ _ => (pg_name (i := 3) sc_are_known.nd rfl (Or.inl rfl))) (fun _ _ _ _ _ => pts_nil) (fun _ _ _ _ _ => (pe_own G_is_known (hr.mono (by decide)) (by rfl) (pa_cons (pv 3) (pa_cons (pv 1) pa_nil))))) pa_nil))))), ?_⟩
    refine ⟨_, rfl, by show 2 ≤ sizeLine; decide, fun t ht => ?_⟩
    have s1 : Same H (upd H t (.tup twoT)) := same_upd ht
    have ha1 := s1 _ _ ha
    refine ⟨.ref a, t, twoT, .type "tuple", _, true, rfl, upd_same, isi_pr, (Typ.tup ha1).tyx, isi_kitT, _, rfl, iteF ?_⟩
    refine ⟨_, rfl, .ref a, ns.length, rfl, .inr ⟨_, SqT.of ha1, by rw [List.length_map]⟩, _, _, rfl, rfl, _, rfl, ?_⟩
    by_cases h1 : 1 ≤ ns.length
    · refine ite_of (decide_eq_true (by omega)) ⟨_, rfl, _, _, rfl, rfl, _, rfl, ?_⟩
      by_cases h2 : ns.length ≤ 8
      · have e0 : knownB S ns = (ns.map fun x => nameB x && S x).all id := by
          unfold knownB
          rw [if_pos ⟨h1, h2⟩]
        refine iteNS (by omega) ?_
        refine ⟨_, rfl, a, rfl, ⟨_, SqT.of ha1⟩, fun D hD => ?_⟩
        refine lc_it (walk_tup (xs := ns.map V.str)) (fun i H' => Same (upd H t (.tup twoT)) H' ∧ H' D = some (.lst (((ns.take i).map fun x => nameB x && S x).map V.bl))) ⟨same_upd hD, upd_same⟩ (fun i H' _ e => SqT.of (e.1 _ _ ha1)) ?_ ?_
        · rintro i v Ha Hb hi ⟨sa, ea⟩ ⟨rfl, hv⟩
          obtain ⟨x, hx', rfl⟩ := at_map hv
          refine ⟨rfl, tYes_ok ⟨_, rfl, _, rfl, x, k, S, rfl, hx x (List.mem_of_getElem? hx'), hk.same (s1.trans sa), fun Hc sc => ⟨_, sc _ _ ea, small1000 (by simp; omega), fun c o hc => ?_, ?_⟩⟩⟩
          · rw [upd_ne (ne_of_none hc hD)]
            exact sc _ _ (sa _ _ hc)
          · rw [upd_same, take_snoc hx']
            simp
        · rintro H2 ⟨s2, e2⟩
          have s12 := s1.trans s2
          rw [List.length_map, List.take_length] at e2
          refine ⟨D, _, rfl, SqL.of e2, ?_⟩
          have q' := q H2 s12
          rw [e0] at q'
          exact q'
      · have q' := q _ s1
        rw [show knownB S ns = false from if_neg fun k => h2 k.2] at q'
        exact ite_of (by rw [decide_eq_false (by omega)]; rfl) q'
    · have q' := q _ s1
      rw [show knownB S ns = false from if_neg fun k => h1 k.1] at q'
      exact ite_no (by rw [decide_eq_false (by omega)]; decide) ⟨_, rfl, iteT q'⟩
end
end My
/-! benches of sums: the making, with lines -/
namespace My
open PySem PySem.Spec PyProof.Rows L2
structure SCls (K : PySem.W.Frag) (C : Addr) : Prop where
  cl : Cls K C
  n1 : NoAttr K C "_inputs"
  n2 : NoAttr K C "_lines"
  n3 : NoAttr K C "_outputs"
def namesP : LineD → List Str
  | .line _ ps => ps.map nameP
  | _ => []
inductive Tell
  | head (w : Str)
  | line (n : Nat)
  | unused (x : Str)
  | ok
def tellF (ins : List Str) (ds : List LineD) (outs : List Str) : Tell :=
  if namesB ins = false then .head "in" else match wrongF 0 (inS ins) ds with
    | some n => .line n
    | none => if knownB (inS (ins ++ ds.map nameL)) outs = false then .head "out" else
      match (ins ++ ds.map nameL).find? fun x => !decide (x ∈ outs ++ ds.flatMap namesP) with
      | some x => .unused x
      | none => .ok
theorem wrong_none : ∀ {ds : List LineD} {i : Nat} {S : Str → Bool}, wrongF i S ds = none → ∀ d ∈ ds, ∃ x ps, d = .line x ps ∧ ∀ p ∈ ps, ∃ n y, p = .num n y
  | [], _, _, _, d, hd => by cases hd
  | e :: ds, i, S, h, d, hd => by
    have h : (if i = 40 then some i else if lineB S e = true then wrongF (i + 1) (putS S (nameL e)) ds else some i) = none := h
    by_cases h1 : i = 40
    · rw [if_pos h1] at h
      cases h
    rw [if_neg h1] at h
    by_cases h2 : lineB S e = true
    · rw [if_pos h2] at h
      rcases List.mem_cons.mp hd with rfl | hd
      · match d, h2 with
        | .line x ps, h2 =>
          refine ⟨x, ps, rfl, fun p hp => ?_⟩
          have h2 : (if (nameB x && !S x) = true ∧ 1 ≤ ps.length ∧ ps.length ≤ 48 then (ps.map (partB S)).all id && decide (SetN.num (ps.map nameP) (ps.map nameP).length = (ps.map nameP).length) else false) = true := h2
          by_cases h3 : (nameB x && !S x) = true ∧ 1 ≤ ps.length ∧ ps.length ≤ 48
          · rw [if_pos h3, Bool.and_eq_true, List.all_map, List.all_eq_true] at h2
            have := h2.1 p hp
            match p, this with
            | .num n y, _ => exact ⟨n, y, rfl⟩
          · rw [if_neg h3] at h2
            cases h2
      · exact wrong_none h d hd
    · rw [if_neg h2] at h
      cases h
theorem flat_names_le : ∀ {ds : List LineD}, (∀ d ∈ ds, (namesP d).length ≤ 100) → (ds.flatMap namesP).length ≤ ds.length * 100
  | [], _ => by simp
  | d :: ds, h => by
    have h1 := h d List.mem_cons_self
    have h2 := flat_names_le (ds := ds) fun e he => h e (List.mem_cons_of_mem _ he)
    rw [List.flatMap_cons, List.length_append, List.length_cons]
    omega
/-- a line as a bench keeps it: the parts in a tuple -/
def KeptAt (H : Hp) (t : Addr) : LineD → Prop
  | .line x ps => ∃ p vs, H t = some (.tup [.str x, .ref p]) ∧ H p = some (.tup vs) ∧ Paired (PartAt H) vs ps ∧ x.length ≤ 1000 ∧ ps.length ≤ 100 ∧ ∀ q ∈ ps, ∃ n y, q = .num n y
  | _ => False
theorem num_put {H : Hp} {D : Addr} {v : V} {n : Int} {y : Str} {xs ys : List V} (h : PartAt H v (.num n y)) (e : H D = some (.lst xs)) : PartAt (upd H D (.lst ys)) v (.num n y) := by
  obtain ⟨a, q, h, l⟩ := h
  refine ⟨a, q, ?_, l⟩
  rw [upd_ne (ne_of h e (by intro z; cases z))]
  exact h
theorem nums_put {H : Hp} {D : Addr} {xs ys : List V} (e : H D = some (.lst xs)) : ∀ {vs : List V} {ps : List PartD}, Paired (PartAt H) vs ps → (∀ q ∈ ps, ∃ n y, q = .num n y) → Paired (PartAt (upd H D (.lst ys))) vs ps
  | _, _, .nil, _ => .nil
  | _, _, .cons (b := q) h t, k => by
    obtain ⟨n, y, rfl⟩ := k q List.mem_cons_self
    exact .cons (num_put h e) (nums_put e t fun q hq => k q (List.mem_cons_of_mem _ hq))
theorem KeptAt.put {H : Hp} {D t : Addr} {xs ys : List V} (e : H D = some (.lst xs)) : ∀ {d : LineD}, KeptAt H t d → KeptAt (upd H D (.lst ys)) t d
  | .line x ps, ⟨p, vs, h1, h2, pr, l, m, k⟩ => ⟨p, vs, by rw [upd_ne (ne_of h1 e (by intro z; cases z))]; exact h1, by rw [upd_ne (ne_of h2 e (by intro z; cases z))]; exact h2, nums_put e pr k, l, m, k⟩
theorem KeptAt.same {H H' : Hp} {t : Addr} : ∀ {d : LineD}, KeptAt H t d → Same H H' → KeptAt H' t d
  | .line x ps, ⟨p, vs, h1, h2, pr, r⟩, s => ⟨p, vs, s _ _ h1, s _ _ h2, pmono (fun v d e => e.same s) pr, r⟩
theorem KeptAt.kp {H H' : Hp} {t a : Addr} {C dx : Addr} {fs : List (Str × V)} (k : Kp a H H') (e : H a = some (.ins C dx fs)) : ∀ {d : LineD}, KeptAt H t d → KeptAt H' t d
  | .line x ps, ⟨p, vs, h1, h2, pr, l, m, nm⟩ => by
    refine ⟨p, vs, k _ _ (ne_of h1 e (by intro z; cases z)) h1, k _ _ (ne_of h2 e (by intro z; cases z)) h2, ?_, l, m, nm⟩
    refine pmem pr fun v q hq h => ?_
    obtain ⟨n, y, rfl⟩ := nm q hq
    obtain ⟨c, z, h, l⟩ := h
    exact ⟨c, z, k _ _ (ne_of h e (by intro z; cases z)) h, l⟩
def BenchG (C : Addr) (H : Hp) (a : Addr) (ins : List Str) (ds : List LineD) (outs : List Str) : Prop := ∃ dx I L O ts, H a = some (.ins C dx [("_inputs", .ref I), ("_lines", .ref L), ("_outputs", .ref O)]) ∧
  H I = some (.tup (ins.map V.str)) ∧ H L = some (.tup (ts.map V.ref)) ∧ H O = some (.tup (outs.map V.str)) ∧ Paired (KeptAt H) ts ds
def SayG (C CH CL CU a : Addr) (ins : List Str) (ds : List LineD) (outs : List Str) (H : Hp) (Q : VK) (E : XK) : Prop := match tellF ins ds outs with
  | .head w => ∀ H' d, Same H H' → H' d = none → E (.ref CH) (some d) (upd H' d (.xd (errD "part" "InvalidHead" (.str w))))
  | .line n => ∀ H' d, Same H H' → H' d = none → E (.ref CL) (some d) (upd H' d (.xd (errD "at" "InvalidLine" (.int (n : Nat)))))
  | .unused x => ∀ H' d, Same H H' → H' d = none → E (.ref CU) (some d) (upd H' d (.xd (errD "name" "Unused" (.str x))))
  | .ok => ∀ H', Kp a H H' → BenchG C H' a ins ds outs → Q .non H'
def spInitG (C CH CL CU : Addr) : Sp := fun vs H Q E => ∃ (a dx I L O : Addr) (ins outs : List Str) (ls : List V) (ds : List LineD), vs = [.ref a, .ref I, .ref L, .ref O] ∧ H a = some (.ins C dx []) ∧
  H I = some (.lst (ins.map V.str)) ∧ ins.length ≤ 100 ∧ (∀ x ∈ ins, x.length ≤ 1000) ∧ H L = some (.lst ls) ∧ Paired (LineAt H) ls ds ∧ ds.length ≤ 50 ∧ OutAt H O outs ∧ outs.length ≤ 100 ∧ (∀ x ∈ outs, x.length ≤ 1000) ∧ SayG C CH CL CU a ins ds outs H Q E
section
variable {P : Program} {w : World} {K : PySem.W.Frag} {mg : Str → Option Value} {base : Heap} {kw C CH CL CU fH xH dH fL xL dL fU xU dU : Addr}
theorem ok_initG {f : Addr} {fd : FuncData} (R : SCls K C) (B : Blt mg) (T : Txt K mg kw) (E_InvalidHead : ErrX.ErrTxt P K mg "InvalidHead" "part" "InvalidHead" CH fH xH dH) (E_InvalidLine : ErrX.ErrTxt P K mg "InvalidLine" "at" "InvalidLine" CL fL xL dL)
    (E_Unused : ErrX.ErrTxt P K mg "Unused" "name" "Unused" CU fU xU dU) (F : Fun K "__init__" "Sums.__init__" s_Sums_init f fd) (G_are_names : Has P w K mg base 2 "are_names" ["value", "most"] spNames)
    (G_first_wrong_line : Has P w K mg base 5 "first_wrong_line" ["lines", "inputs"] spWrong) (G_are_known : Has P w K mg base 3 "are_known" ["value", "known", "most"] spKnownsA) :
    FnOk P w K mg base (L2.CX P w) 6 f fd ["self", "inputs", "lines", "outputs"] (spInitG C CH CL CU) := by
  refine F.okX sc_Sums_init (fun vs H Q E h => ?_) (fun cdv A outer s H vs Q E hr h => ?_)
  · obtain ⟨a, dx, I, L, O, ins, outs, ls, ds, rfl, _⟩ := h
    rfl
  obtain ⟨a, dx, I, L, O, ins, outs, ls, ds, rfl, ha, hI, lI, tI, hL, pr, lL, hO, lO, tO, h⟩ := h
  have TK : Takes (cxOf (L2.CX P w) P w K mg base N_Sums_init "Sums.__init__" (defScope s_Sums_init) f cdv A outer s H E) (fun cls d _ H => E cls d H) := takes_of rfl rfl rfl rfl
  refine ⟨_, (pss_cons (ps_if (pt_not (pt_val (pe_own G_are_names (hr.mono (by decide)) (by rfl) (pa_cons (pv 1) (pa_cons (pe_gint T.m_MOST_INPUTS (by rfl)) pa_nil)))))
        (pss_one (ps_raise rfl TK (pmk_err E_InvalidHead hr (pa_cons pe_str pa_nil) (by rfl))))
        pss_nil)
      (pss_cons (ps_set (i := 4) sc_Sums_init.nd rfl (Or.inl rfl) (pe_own G_first_wrong_line (hr.mono (by decide)) (by rfl) (pa_cons (pv 2) (pa_cons (pv 1) pa_nil))))
      (pss_cons (ps_if (pt_cmp (pc_notN (pv 4)))
        (pss_one (ps_raise rfl TK (pmk_err E_InvalidLine hr (pa_cons (pv 4) pa_nil) (by rfl))))
        pss_nil)
      (pss_cons (ps_set (i := 5) sc_Sums_init.nd rfl (Or.inl rfl) (pe_op op_cat (pe_callTy call_list_of (by rfl) B.list bb_list (pa_cons (pv 1) pa_nil)) (pe_lc (own := [("line", 6)]) (g := gName 6) (tt := tYes) (by rfl) sc_Sums_init.nd (pi_list (pv 2)) (blkOk_by (own := [("line", 6)]) (N := N_Sums_init) (sc := defScope s_Sums_init) (by decide +kernel)) (fun _ _ _ _ _ => (pg_name (i := 6) sc_Sums_init.nd rfl (Or.inl rfl))) (fun _ _ _ _ _ => pts_nil) (fun _ _ _ _ _ => (pe_ix (LcN.ix_tupK K rfl) (pv 6) pe_int (fun _ _ => rfl))))))
      (pss_cons (ps_if (pt_not (pt_val (pe_own G_are_known (hr.mono (by decide)) (by rfl) (pa_cons (pv 3) (pa_cons (pv 5) (pa_cons (pe_gint T.m_MOST_OUTPUTS (by rfl)) pa_nil))))))
        (pss_one (ps_raise rfl TK (pmk_err E_InvalidHead hr (pa_cons pe_str pa_nil) (by rfl))))
        pss_nil)
      (pss_cons (ps_set (i := 7) sc_Sums_init.nd rfl (Or.inl rfl) (pe_op op_cat (pe_callTy call_list_of (by rfl) B.list bb_list (pa_cons (pv 3) pa_nil)) (LcN.pe_lcN (own := [("line", 6), ("part", 8)]) (ws := [8]) (g := gName 6) (tt := tYes) rfl sc_Sums_init.nd (pi_list (pv 2)) (blkOk_by (own := [("line", 6), ("part", 8)]) (N := N_Sums_init) (sc := defScope s_Sums_init) (by decide +kernel)) (by decide) (.inr ⟨_, _, _, rfl⟩) (fun _ _ _ _ _ => (pg_name (i := 6) sc_Sums_init.nd rfl (Or.inl rfl))) (fun _ _ _ _ _ => pts_nil) (fun _ _ _ _ _ => (LcN.inner_more (g := gName 8) (tt := tYes) (vs := [8]) rfl rfl rfl (.inl rfl) (NK.pi_listK K rfl (pe_ix (LcN.ix_tupK K rfl) (pv 6) pe_int (fun _ _ => rfl))) (pg_name (i := 8) sc_Sums_init.nd rfl (Or.inl rfl)) pts_nil
          (LcN.inner_last rfl rfl (pe_ix (LcN.ix_tupK K rfl) (pv 8) pe_int (fun _ _ => rfl))) (by decide) (fun _ => rfl))))))
      (pss_cons (ps_for (passes_of rfl) rfl (pi_list (pv 5)) (pg_name (i := 9) sc_Sums_init.nd rfl (Or.inl rfl))
        (pss_one (ps_if (pt_cmpR op_notIn_seq (pv 9) (pv 7) rfl)
        (pss_one (ps_raise rfl TK (pmk_err E_Unused hr (pa_cons (pv 9) pa_nil) (by rfl))))
        pss_nil)))
      (pss_cons (ps_fld (pv 0) (pe_callTy call_tuple_of (by rfl) B.tuple bb_tuple (pa_cons (pv 1) pa_nil)) rfl)
      (pss_cons (ps_fld (pv 0) (pe_callTy call_tuple_of (by rfl) B.tuple bb_tuple (pa_cons (pe_lc (own := [("name", 9), ("parts", 10)]) (g := gTup K 2 (gCons (gName 9) (gCons (gName 10) gNil))) (tt := tYes) (by rfl) sc_Sums_init.nd (pi_list (pv 2)) (blkOk_by (own := [("name", 9), ("parts", 10)]) (N := N_Sums_init) (sc := defScope s_Sums_init) (by decide +kernel)) (fun _ _ _ _ _ => (pg_tup rfl (pgs_cons (pg_name (i := 9) sc_Sums_init.nd rfl (Or.inl rfl)) (pgs_cons (pg_name (i := 10) sc_Sums_init.nd rfl (Or.inl rfl)) pgs_nil)))) (fun _ _ _ _ _ => pts_nil) (fun _ _ _ _ _ => (pe_tup (pa_cons (pv 9) (pa_cons (pe_callTy (NK.call_tuple_ofK K rfl) (by rfl) B.tuple bb_tuple (pa_cons (pv 10) pa_nil)) pa_nil))))) pa_nil)) rfl)
      (pss_one (ps_fld (pv 0) (pe_callTy call_tuple_of (by rfl) B.tuple bb_tuple (pa_cons (pv 3) pa_nil)) rfl))))))))))), ?_⟩
  have lv := plen pr
  unfold SayG tellF at h
  refine ⟨_, rfl, I, ins, rfl, hI, lI, tI, fun H1 s1 => ⟨namesB ins, rfl, ?_⟩⟩
  cases hb : namesB ins with
  | false =>
    rw [hb, if_pos rfl] at h
    exact iteT ⟨.str "in", rfl, fun d hd => h H1 d s1 hd⟩
  | true =>
  rw [hb, if_neg (by decide)] at h
  refine iteF ?_
  refine ⟨_, rfl, _, rfl, L, I, ls, ds, ins, rfl, s1 _ _ hL, pmono (fun v d e => e.same s1) pr, lL, s1 _ _ hI, lI, fun H2 s2 => ?_⟩
  have s02 := s1.trans s2
  cases hw : wrongF 0 (inS ins) ds with
  | some n =>
    rw [hw] at h
    exact ⟨_, rfl, true, rfl, iteT ⟨_, rfl, .int (n : Nat), rfl, fun d hd => h H2 d s02 hd⟩⟩
  | none =>
  rw [hw] at h
  have ok := wrong_none hw
  refine ⟨_, rfl, false, rfl, iteF ?_⟩
  have hI2 := s02 _ _ hI
  have hL2 := s02 _ _ hL
  refine ⟨_, rfl, I, _, rfl, .inl (SqL.of hI2), fun l1 n1 => ?_⟩
  have u1 := same_upd (o := .lst (ins.map V.str)) n1
  refine ⟨_, rfl, L, rfl, ⟨_, SqL.of (u1 _ _ hL2)⟩, fun D hD => ?_⟩
  refine lc_it (walk_list (xs := ls)) (fun i H' => Same (upd H2 l1 (.lst (ins.map V.str))) H' ∧ H' D = some (.lst (((ds.take i).map nameL).map V.str))) ⟨same_upd hD, upd_same⟩ (fun i H' _ e => SqL.of (e.1 _ _ (u1 _ _ hL2))) ?_ ?_
  · rintro i v Ha Hb hi ⟨sa, ea⟩ ⟨rfl, hv⟩
    obtain ⟨v', d, hv', hd, hp⟩ := pat pr (by omega : i < ds.length)
    rw [hv] at hv'
    cases hv'
    obtain ⟨x, ps, rfl, _⟩ := ok d (List.mem_of_getElem? hd)
    obtain ⟨c0, p0, vs0, rfl, h0, _⟩ := hp
    refine ⟨rfl, tYes_ok ⟨_, rfl, c0, _, _, _, rfl, rfl, SqT.of (sa _ _ (u1 _ _ (s02 _ _ h0))), atI_nat (j := 0) rfl, _, ea, small1000 (by simp; omega), fun c o hc => ?_, ?_⟩⟩
    · rw [upd_ne (ne_of_none hc hD)]
      exact sa _ _ hc
    · rw [upd_same, take_snoc hd]
      simp [nameL]
  rintro H3 ⟨s3, e3⟩
  rw [lv, List.take_length] at e3
  have s13 := u1.trans s3
  have s03 := s02.trans s13
  refine ⟨l1, D, _, _, rfl, rfl, s3 _ _ upd_same, e3, ?_, fun l2 n2 => ?_⟩
  · simp
    exact Nat.le_of_lt (small1000 (by omega))
  have u2 := same_upd (o := .lst (ins.map V.str ++ (ds.map nameL).map V.str)) n2
  have s04 := s03.trans u2
  have en : ins.map V.str ++ (ds.map nameL).map V.str = (ins ++ ds.map nameL).map V.str := by rw [List.map_append]
  rw [en] at u2 s04 ⊢
  obtain ⟨ns, hns⟩ : ∃ ns, ns = ins ++ ds.map nameL := ⟨_, rfl⟩
  have lns : ns.length ≤ 150 := by
    rw [hns, List.length_append, List.length_map]
    omega
  rw [← hns] at h u2 s04 ⊢
  have en4 : upd H3 l2 (.lst (ns.map V.str)) l2 = some (.lst (ns.map V.str)) := upd_same
  generalize upd H3 l2 (.lst (ns.map V.str)) = H4 at u2 s04 en4 ⊢
  refine ⟨_, rfl, _, rfl, O, l2, outs, inS ns, rfl, hO.same s04, lO, tO, .list ns en4 (by omega) (fun x => rfl), fun H5 s5 => ⟨knownB (inS ns) outs, rfl, ?_⟩⟩
  have s05 := s04.trans s5
  cases hk : knownB (inS ns) outs with
  | false =>
    simp only [hk, if_pos] at h
    exact iteT ⟨.str "out", rfl, fun d hd => h H5 d s05 hd⟩
  | true =>
  simp only [hk, Bool.true_eq_false, if_false] at h
  refine iteF ?_
  -- what is used
  have hO5 := hO.same s05
  have hL5 := s05 _ _ hL
  refine ⟨_, rfl, O, _, rfl, hO5.imp SqL.of SqT.of, fun l6 n6 => ?_⟩
  have u6 := same_upd (o := .lst (outs.map V.str)) n6
  have s06 := s05.trans u6
  have e6 : upd H5 l6 (.lst (outs.map V.str)) l6 = some (.lst (outs.map V.str)) := upd_same
  have en6 := u6 _ _ (s5 _ _ en4)
  generalize upd H5 l6 (.lst (outs.map V.str)) = H6 at u6 s06 e6 en6 ⊢
  have hL6 := s06 _ _ hL
  have hall : ∀ d ∈ ds, (namesP d).length ≤ 100 := fun d hd => by
    obtain ⟨k, hk⟩ := List.mem_iff_getElem?.mp hd
    have hk' := (List.getElem?_eq_some_iff.mp hk).1
    obtain ⟨v', d', _, hd', hp⟩ := pat pr hk'
    rw [hk] at hd'
    cases hd'
    match d, hp with
    | .line x ps, ⟨_, _, _, _, _, _, _, _, l⟩ => simpa [namesP] using l
    | .bare x, _ => simp [namesP]
    | .odd, _ => simp [namesP]
  refine ⟨_, rfl, L, rfl, ⟨_, SqL.of hL6⟩, fun D2 hD2 => ?_⟩
  have up : ∀ {x : Addr} {o : HO} (acc : List V), H6 x = some o → (upd H6 D2 (.lst acc)) x = some o := fun acc h => by
    rw [upd_ne (ne_of_none h hD2)]
    exact h
  refine LcN.clause_it (walk_list (xs := ls)) (fun i H' => H' = upd H6 D2 (.lst (((ds.take i).flatMap namesP).map V.str))) rfl (fun i H' _ e => by rw [e]; exact SqL.of (up _ hL6)) ?_ ?_
  · rintro i v Ha Hb hi rfl ⟨rfl, hv⟩
    obtain ⟨v', d, hv', hd, hp⟩ := pat pr (by omega : i < ds.length)
    rw [hv] at hv'
    cases hv'
    obtain ⟨x, ps, rfl, num⟩ := ok d (List.mem_of_getElem? hd)
    obtain ⟨c0, p0, vs0, rfl, h0, hp0, prp, _, lps⟩ := hp
    have lv0 := plen prp
    have lf := flat_names_le (ds := ds.take i) fun d hd => hall d (List.mem_of_mem_take hd)
    have li : (ds.take i).length ≤ 50 := by
      rw [List.length_take]
      omega
    refine ⟨rfl, tYes_ok ⟨_, rfl, c0, _, _, _, rfl, rfl, SqT.of (up _ (s06 _ _ h0)), atI_nat (j := 1) rfl, p0, rfl, ⟨_, SqL.of (up _ (s06 _ _ hp0))⟩, ?_⟩⟩
    refine LcN.clause_it (walk_list (xs := vs0)) (fun j H' => H' = upd H6 D2 (.lst (((ds.take i).flatMap namesP ++ (ps.take j).map nameP).map V.str))) (by simp) (fun j H' _ e => by rw [e]; exact SqL.of (up _ (s06 _ _ hp0))) ?_ ?_
    · rintro j v Hc Hd hj rfl ⟨rfl, hv⟩
      obtain ⟨v', d', hv', hd', hp'⟩ := pat prp (by omega : j < ps.length)
      rw [hv] at hv'
      cases hv'
      obtain ⟨n, y, rfl⟩ := num d' (List.mem_of_getElem? hd')
      obtain ⟨c1, rfl, h1, _⟩ := hp'
      refine ⟨rfl, tYes_ok ⟨_, rfl, c1, _, _, _, rfl, rfl, SqT.of (up _ (s06 _ _ h1)), atI_nat (j := 1) rfl, _, upd_same, LcN.small100 ?_, ?_⟩⟩
      · simp only [List.length_map, List.length_append, List.length_take]
        omega
      · show upd (upd H6 D2 _) D2 _ = upd H6 D2 _
        rw [upd_upd, take_snoc hd']
        refine congrArg (fun z => upd H6 D2 (.lst z)) ?_
        simp [nameP]
    · rintro Hc rfl
      rw [lv0, List.take_length, take_snoc hd]
      simp [namesP]
  rintro H7 rfl
  rw [lv, List.take_length]
  have lf := flat_names_le hall
  have u7 := same_upd (H := H6) (o := .lst ((ds.flatMap namesP).map V.str)) hD2
  refine ⟨l6, D2, _, _, rfl, rfl, u7 _ _ e6, upd_same, ?_, fun l8 n8 => ?_⟩
  · simp only [List.length_append, List.length_map]
    exact Nat.le_of_lt (LcN.small100 (by omega))
  have u8 := same_upd (o := .lst (outs.map V.str ++ (ds.flatMap namesP).map V.str)) n8
  have es : outs.map V.str ++ (ds.flatMap namesP).map V.str = (outs ++ ds.flatMap namesP).map V.str := by rw [List.map_append]
  have s08 := s06.trans (u7.trans u8)
  have en8 := u8 _ _ (u7 _ _ en6)
  rw [es] at u8 s08 en8 ⊢
  obtain ⟨us, hus⟩ : ∃ us, us = outs ++ ds.flatMap namesP := ⟨_, rfl⟩
  rw [← hus] at h u8 s08 en8 ⊢
  have e8 : upd (upd H6 D2 (.lst ((ds.flatMap namesP).map V.str))) l8 (.lst (us.map V.str)) l8 = some (.lst (us.map V.str)) := upd_same
  generalize upd (upd H6 D2 (.lst ((ds.flatMap namesP).map V.str))) l8 (.lst (us.map V.str)) = H8 at u8 s08 en8 e8 ⊢
  refine ⟨_, rfl, l2, rfl, ⟨_, SqL.of en8⟩, for_list (xs := ns.map V.str) (fun i σ H' => ∃ y9, σ = [some (.ref a), some (.ref I), some (.ref L), some (.ref O), some .non, some (.ref l2), none, some (.ref l8), none, y9, none] ∧ H' = H8 ∧ ∀ x ∈ ns.take i, x ∈ us) ⟨_, rfl, rfl, fun x hx => by simp at hx⟩ (fun i σ H' _ h => by obtain ⟨_, _, h, _⟩ := h; rw [h]; exact SqL.of en8) ?_ ?_⟩
  · rintro i v σ Ha hv ⟨y9, rfl, rfl, pre⟩
    obtain ⟨x, hx, rfl⟩ := at_map hv
    refine ⟨_, rfl, _, rfl, l8, _, rfl, .inl (SqL.of e8), rfl, flat_names us, !inV (.str x) (us.map V.str), rfl, ?_⟩
    rw [inV_names]
    by_cases e : x ∈ us
    · rw [decide_eq_true e]
      refine iteF ⟨_, rfl, rfl, fun z hz => ?_⟩
      rw [take_snoc hx] at hz
      rcases List.mem_append.mp hz with hz | hz
      · exact pre z hz
      · rw [List.mem_singleton.mp hz]
        exact e
    · rw [decide_eq_false e]
      have fd : ns.find? (fun x => !decide (x ∈ us)) = some x := by
        rw [List.find?_eq_some_iff_append]
        refine ⟨by simp [e], ns.take i, ns.drop (i + 1), ?_, fun z hz => by simp [pre z hz]⟩
        obtain ⟨lt, ex⟩ := List.getElem?_eq_some_iff.mp hx
        rw [← ex, ← List.drop_eq_getElem_cons lt, List.take_append_drop]
      rw [fd] at h
      exact iteT ⟨_, rfl, .str x, rfl, fun d hd => h _ d s08 hd⟩
  · rintro σ Ha ⟨y9, rfl, eHa, pre⟩
    have eHa := eHa.symm
    subst eHa
    rw [List.length_map, List.take_length] at pre
    have fd : ns.find? (fun x => !decide (x ∈ us)) = none := by
      rw [List.find?_eq_none]
      intro z hz
      simp [pre z hz]
    rw [fd] at h
    have lt : ∀ {x : Addr} {xs : List V}, H8 x = some (.lst xs) → x ≠ a := fun h => ne_of h (s08 _ _ ha) (by intro q; cases q)
    refine ⟨_, rfl, I, _, rfl, .inl ⟨SqL.of (s08 _ _ hI), fun t1 m1 => ?_⟩⟩
    have v1 := same_upd (o := .tup (ins.map V.str)) m1
    refine ⟨_, rfl, a, C, dx, [], rfl, v1 _ _ (s08 _ _ ha), R.cl, R.n1, by decide, ?_⟩
    obtain ⟨H9, h9⟩ : ∃ H9, H9 = upd (upd H8 t1 (.tup (ins.map V.str))) a (.ins C dx [("_inputs", .ref t1)]) := ⟨_, rfl⟩
    have k9 : Kp a H8 H9 := by rw [h9]; exact (Kp.of v1).trans Kp.upd
    have a9 : H9 a = some (.ins C dx [("_inputs", .ref t1)]) := by rw [h9]; exact upd_same
    have hL9 := k9 _ _ (lt (s08 _ _ hL)) (s08 _ _ hL)
    have kO : ∀ {Hx : Hp}, Kp a H8 Hx → OutAt Hx O outs := fun k => (hO.same s08).elim (fun z => .inl (k _ _ (lt z) z)) (fun z => .inr (k _ _ (ne_of z (s08 _ _ ha) (by intro q; cases q)) z))
    show _
    refine ⟨_, rfl, L, rfl, ⟨_, SqL.of (by first | exact hL9 | (rw [h9] at hL9; exact hL9))⟩, fun D3 hD3 => ?_⟩
    have hD3 : H9 D3 = none := by rw [h9]; exact hD3
    refine lc_it (walk_list (xs := ls)) (fun i H' => Same H9 H' ∧ ∃ ts : List Addr, H' D3 = some (.lst (ts.map V.ref)) ∧ Paired (KeptAt H') ts (ds.take i)) ⟨by rw [h9] at hD3 ⊢; exact same_upd hD3, [], upd_same, .nil⟩ (fun i H' _ e => SqL.of (e.1 _ _ hL9)) ?_ ?_
    · rintro i v Hb Hc hi ⟨sa, ts, ea, pt⟩ ⟨rfl, hv⟩
      obtain ⟨v', d, hv', hd, hp⟩ := pat pr (by omega : i < ds.length)
      rw [hv] at hv'
      cases hv'
      obtain ⟨x, ps, rfl, num⟩ := ok d (List.mem_of_getElem? hd)
      obtain ⟨c0, p0, vs0, rfl, h0, hp0, prp, lx, lps⟩ := hp
      have k09 : ∀ {x : Addr} {o : HO}, H x = some o → (∀ dd fs, o ≠ .ins C dd fs) → H9 x = some o := fun h n => k9 _ _ (ne_of (s08 _ _ h) (s08 _ _ ha) (n _ _)) (s08 _ _ h)
      have q0 := sa _ _ (k09 h0 (by intro _ _ z; cases z))
      have q1 := sa _ _ (k09 hp0 (by intro _ _ z; cases z))
      refine ⟨c0, _, rfl, SqT.of q0, rfl, _, _, rfl, _, _, rfl, rfl, rfl, tYes_ok ⟨_, rfl, _, rfl, p0, _, rfl, .inl ⟨SqL.of q1, fun t1 n1 => ⟨by show 2 ≤ sizeLine; decide, fun t2 n2 => ?_⟩⟩⟩⟩
      have c1 := same_upd (o := .tup vs0) n1
      have c2 := same_upd (o := .tup [.str x, .ref t1]) n2
      have c12 := c1.trans c2
      have eD := c12 _ _ ea
      have lt := plen pt
      refine ⟨_, eD, small1000 ?_, fun c o hc => ?_, ts ++ [t2], ?_, ?_⟩
      · rw [List.length_map, lt, List.length_take]
        omega
      · rw [upd_ne (ne_of_none hc hD3)]
        exact c12 _ _ (sa _ _ hc)
      · rw [upd_same]
        simp
      · rw [take_snoc hd]
        refine (pmono (fun t d h => (h.same c12).put eD) pt).snoc (KeptAt.put eD ⟨t1, vs0, upd_same, c2 _ _ upd_same, pmem prp fun v q hq h => ?_, lx, lps, num⟩)
        obtain ⟨n, y, rfl⟩ := num q hq
        obtain ⟨c, z, h, l⟩ := h
        exact ⟨c, z, c12 _ _ (sa _ _ (k09 h (by intro _ _ z; cases z))), l⟩
    rintro Ha ⟨sa, ts, ea, pt⟩
    rw [lv, List.take_length] at pt
    refine ⟨D3, _, rfl, .inl ⟨SqL.of ea, fun t2 m2 => ?_⟩⟩
    have v3 := same_upd (o := .tup (ts.map V.ref)) m2
    have v23 := sa.trans v3
    refine ⟨_, rfl, a, C, dx, _, rfl, v23 _ _ a9, R.cl, R.n2, by show 1 < 1000; decide, ?_⟩
    obtain ⟨H10, h10⟩ : ∃ H10, H10 = upd (upd Ha t2 (.tup (ts.map V.ref))) a (.ins C dx [("_inputs", .ref t1), ("_lines", .ref t2)]) := ⟨_, rfl⟩
    have k10 : Kp a H9 H10 := by rw [h10]; exact (Kp.of v23).trans Kp.upd
    have ka : Kp a (upd Ha t2 (.tup (ts.map V.ref))) H10 := by rw [h10]; exact Kp.upd
    have a10 : H10 a = some (.ins C dx [("_inputs", .ref t1), ("_lines", .ref t2)]) := by rw [h10]; exact upd_same
    have n2a : t2 ≠ a := ne_of (show upd Ha t2 (.tup (ts.map V.ref)) t2 = some (.tup (ts.map V.ref)) from upd_same) (v23 _ _ a9) (by intro q; cases q)
    have e2 : H10 t2 = some (.tup (ts.map V.ref)) := ka _ _ n2a upd_same
    have n1a : t1 ≠ a := ne_of (show upd H8 t1 (.tup (ins.map V.str)) t1 = some (.tup (ins.map V.str)) from upd_same) (v1 _ _ (s08 _ _ ha)) (by intro q; cases q)
    have e1 : H9 t1 = some (.tup (ins.map V.str)) := by
      rw [h9, upd_ne n1a]
      exact upd_same
    have p10 : Paired (KeptAt H10) ts ds := pmono (fun t d h => (h.same v3).kp ka (v23 _ _ a9)) pt
    have hO10 := kO (k9.trans k10)
    rcases hO10 with hO10 | hO10
    · show _
      refine ⟨_, rfl, O, _, rfl, .inl ⟨SqL.of (by first | exact hO10 | (rw [h10] at hO10; exact hO10)), fun t3 m3 => ?_⟩⟩
      have m3 : H10 t3 = none := by rw [h10]; exact m3
      have v4 := same_upd (o := .tup (outs.map V.str)) m3
      refine ⟨_, rfl, a, C, dx, _, rfl, by first | exact v4 _ _ a10 | (rw [h10] at v4 a10; exact v4 _ _ a10), R.cl, R.n3, by show 2 < 1000; decide, ?_⟩
      obtain ⟨H11, h11⟩ : ∃ H11, H11 = upd (upd H10 t3 (.tup (outs.map V.str))) a (.ins C dx [("_inputs", .ref t1), ("_lines", .ref t2), ("_outputs", .ref t3)]) := ⟨_, rfl⟩
      have kb : Kp a (upd H10 t3 (.tup (outs.map V.str))) H11 := by rw [h11]; exact Kp.upd
      have k11 : Kp a H10 H11 := (Kp.of v4).trans kb
      have n3a : t3 ≠ a := ne_of (show upd H10 t3 (.tup (outs.map V.str)) t3 = some (.tup (outs.map V.str)) from upd_same) (v4 _ _ a10) (by intro q; cases q)
      have z := h H11 (((Kp.of s08).trans k9).trans (k10.trans k11)) ⟨dx, t1, t2, t3, ts, by rw [h11]; exact upd_same, k11 _ _ n1a (k10 _ _ n1a e1), k11 _ _ n2a e2, kb _ _ n3a upd_same, pmono (fun t d h => h.kp k11 a10) p10⟩
      rw [h11, h10] at z
      exact z
    · refine ⟨_, rfl, O, _, rfl, .inr ⟨SqT.of (by first | exact hO10 | (rw [h10] at hO10; exact hO10)), ?_⟩⟩
      refine ⟨_, rfl, a, C, dx, _, rfl, by first | exact a10 | (rw [h10] at a10; exact a10), R.cl, R.n3, by show 2 < 1000; decide, ?_⟩
      obtain ⟨H11, h11⟩ : ∃ H11, H11 = upd H10 a (.ins C dx [("_inputs", .ref t1), ("_lines", .ref t2), ("_outputs", .ref O)]) := ⟨_, rfl⟩
      have k11 : Kp a H10 H11 := by rw [h11]; exact Kp.upd
      have n3a : O ≠ a := ne_of hO10 a10 (by intro q; cases q)
      have z := h H11 (((Kp.of s08).trans k9).trans (k10.trans k11)) ⟨dx, t1, t2, O, ts, by rw [h11]; exact upd_same, k11 _ _ n1a (k10 _ _ n1a e1), k11 _ _ n2a e2, k11 _ _ n3a hO10, pmono (fun t d h => h.kp k11 a10) p10⟩
      rw [h11, h10] at z
      exact z
end
end My
namespace My
open PySem PySem.Spec PyProof.Rows L2
/-! ### a def that may raise, by its name -/
structure HasX (P : Program) (w : World) (K : PySem.W.Frag) (mg : Str → Option Value) (base : Heap) (k : Nat) (x : Str) (ps : List Str) (sp : Sp) : Prop where
  ex : ∃ (f : Addr) (fd : FuncData), FnOk P w K mg base (L2.CX P w) k f fd ps sp ∧ mg x = some (.ref f) ∧ PySem.W.keepIn K (.ref f) = true ∧ Binds K fd ps []
section
variable {X : Cx} {k : Nat} {x : Str} {ps : List Str} {sp : Sp} {p pos : Pos} {e : Expr} {es : List Expr} {t : TA}
/-- called where it raises nothing -/
theorem pe_ownX (h : HasX X.prog X.w X.K X.mg X.base k x ps sp) (hr : Room k X.A) (hg : Gl X x) (ha : PA X (e :: es) t) (hdb : (x == ("__debug__" : Str)) = false := by decide)
    (he : starEach (e :: es) X.env = (false, eval e X.env) :: starEach es X.env := by rfl) (hpl : (backTo pos (starEach es X.env)).any (·.1) = false := by rfl) : PE X (.Call (.Name x p) (e :: es) [] pos) (tCall sp [] E0 t) := by
  obtain ⟨f, fd, F, m, kp, b⟩ := h.ex
  exact pe_call F hr hg m kp b .nil passL ha hdb he hpl
/-- called where what it raises is taken by E -/
theorem pe_ownE {E : XK} (h : HasX X.prog X.w X.K X.mg X.base k x ps sp) (tk : Takes X (fun cls d _ H => E cls d H)) (hr : Room k X.A) (hg : Gl X x) (ha : PA X (e :: es) t) (hdb : (x == ("__debug__" : Str)) = false := by decide)
    (he : starEach (e :: es) X.env = (false, eval e X.env) :: starEach es X.env := by rfl) (hpl : (backTo pos (starEach es X.env)).any (·.1) = false := by rfl) : PE X (.Call (.Name x p) (e :: es) [] pos) (tCall sp [] E t) := by
  obtain ⟨f, fd, F, m, kp, b⟩ := h.ex
  exact pe_call F hr hg m kp b .nil (passes_call tk fun _ _ _ _ h => h) ha hdb he hpl
end
/-! ### a maker by position that may raise -/
structure HasCX (P : Program) (w : World) (K : PySem.W.Frag) (mg : Str → Option Value) (base : Heap) (k : Nat) (x : Str) (C : Addr) (ps : List Str) (sp : Sp) : Prop where
  ex : ∃ (f : Addr) (fd : FuncData), Mk K C f ∧ FnOk P w K mg base (L2.CX P w) k f fd ps sp ∧ mg x = some (.ref C) ∧ Binds K fd ps []
section
variable {X : Cx} {k : Nat} {x : Str} {C : Addr} {ps : List Str} {sp : Sp} {p pos : Pos} {e : Expr} {es : List Expr} {t : TA} {E : XK}
theorem pe_mkX (h : HasCX X.prog X.w X.K X.mg X.base k x C ps sp) (hr : Room (k + 1) X.A) (hg : Gl X x) (ha : PA X (e :: es) t)
    (hdb : (x == ("__debug__" : Str)) = false := by decide) (he : starEach (e :: es) X.env = (false, eval e X.env) :: starEach es X.env := by rfl) (hpl : (backTo pos (starEach es X.env)).any (·.1) = false := by rfl) : PE X (.Call (.Name x p) (e :: es) [] pos) (tMake C sp [] E0 t) := by
  obtain ⟨f, fd, M, F, m, b⟩ := h.ex
  exact pe_make M F hr hg m b .nil passL ha hdb he hpl
theorem pe_mkE (h : HasCX X.prog X.w X.K X.mg X.base k x C ps sp) (tk : Takes X (fun cls d _ H => E cls d H)) (hr : Room (k + 1) X.A) (hg : Gl X x) (ha : PA X (e :: es) t)
    (hdb : (x == ("__debug__" : Str)) = false := by decide) (he : starEach (e :: es) X.env = (false, eval e X.env) :: starEach es X.env := by rfl) (hpl : (backTo pos (starEach es X.env)).any (·.1) = false := by rfl) : PE X (.Call (.Name x p) (e :: es) [] pos) (tMake C sp [] E t) := by
  obtain ⟨f, fd, M, F, m, b⟩ := h.ex
  exact pe_make M F hr hg m b .nil (passes_call tk fun _ _ _ _ h => h) ha hdb he hpl
end
end My
/-! benches of sums: what a bench tells of itself -/
namespace My
open PySem PySem.Spec PyProof.Rows L2
def partsD : LineD → List PartD
  | .line _ ps => ps
  | _ => []
def addsD (ds : List LineD) : Int := (ds.map fun d => ((partsD d).length : Int) - 1).sum
def spInputsB (C : Addr) : Sp := fun vs H Q _ => ∃ (a : Addr) (ins outs : List Str) (ds : List LineD), vs = [.ref a] ∧ BenchG C H a ins ds outs ∧ ∀ I, H I = some (.tup (ins.map V.str)) → Q (.ref I) H
def spOutputsB (C : Addr) : Sp := fun vs H Q _ => ∃ (a : Addr) (ins outs : List Str) (ds : List LineD), vs = [.ref a] ∧ BenchG C H a ins ds outs ∧ ∀ O, H O = some (.tup (outs.map V.str)) → Q (.ref O) H
def spLinesB (C : Addr) : Sp := fun vs H Q _ => ∃ (a : Addr) (ins outs : List Str) (ds : List LineD), vs = [.ref a] ∧ BenchG C H a ins ds outs ∧ ∀ (L : Addr) (ts : List Addr), H L = some (.tup (ts.map V.ref)) → Paired (KeptAt H) ts ds → Q (.ref L) H
def spAddsB (C : Addr) : Sp := fun vs H Q _ => ∃ (a : Addr) (ins outs : List Str) (ds : List LineD), vs = [.ref a] ∧ BenchG C H a ins ds outs ∧ ds.length ≤ 50 ∧ ∀ H', Same H H' → Q (.int (addsD ds)) H'
theorem KeptAt.shape {H : Hp} {t : Addr} {d : LineD} (h : KeptAt H t d) : ∃ x ps p vs, d = .line x ps ∧ H t = some (.tup [.str x, .ref p]) ∧ H p = some (.tup vs) ∧ Paired (PartAt H) vs ps ∧ x.length ≤ 1000 ∧ ps.length ≤ 100 ∧ ∀ q ∈ ps, ∃ n y, q = .num n y := by
  match d, h with
  | .line x ps, ⟨p, vs, h1, h2, r⟩ => exact ⟨x, ps, p, vs, rfl, h1, h2, r⟩
section
variable {P : Program} {w : World} {K : PySem.W.Frag} {mg : Str → Option Value} {base : Heap} {C : Addr}
theorem ok_inputsB {f p : Addr} {fd : FuncData} (R : SCls K C) (F : Fun K "inputs" "Sums.inputs" s_Sums_inputs f fd) (pr : PropOf K C "inputs" p f) (b : Binds K fd ["self"] []) : HasPr P w K mg base 1 C "inputs" (spInputsB C) := by
  refine ⟨p, f, fd, pr, F.ok sc_Sums_inputs (fun vs H Q E h => ?_) (fun cdv A outer s H vs Q E hr h => ?_), b⟩
  · obtain ⟨a, _, _, _, rfl, _⟩ := h
    rfl
  obtain ⟨a, ins, outs, ds, rfl, ⟨dx, I, L, O, ts, h1, h2, h3, h4, h5⟩, q⟩ := h
  exact ⟨_, (pss_one (ps_ret (L2.pe_fld (pv 0) rfl))), ⟨_, rfl, a, C, dx, _, _, rfl, h1, R.cl, R.n1, rfl, q I h2⟩⟩
theorem ok_outputsB {f p : Addr} {fd : FuncData} (R : SCls K C) (F : Fun K "outputs" "Sums.outputs" s_Sums_outputs f fd) (pr : PropOf K C "outputs" p f) (b : Binds K fd ["self"] []) : HasPr P w K mg base 1 C "outputs" (spOutputsB C) := by
  refine ⟨p, f, fd, pr, F.ok sc_Sums_outputs (fun vs H Q E h => ?_) (fun cdv A outer s H vs Q E hr h => ?_), b⟩
  · obtain ⟨a, _, _, _, rfl, _⟩ := h
    rfl
  obtain ⟨a, ins, outs, ds, rfl, ⟨dx, I, L, O, ts, h1, h2, h3, h4, h5⟩, q⟩ := h
  exact ⟨_, (pss_one (ps_ret (L2.pe_fld (pv 0) rfl))), ⟨_, rfl, a, C, dx, _, _, rfl, h1, R.cl, R.n3, rfl, q O h4⟩⟩
theorem ok_linesB {f p : Addr} {fd : FuncData} (R : SCls K C) (F : Fun K "lines" "Sums.lines" s_Sums_lines f fd) (pr : PropOf K C "lines" p f) (b : Binds K fd ["self"] []) : HasPr P w K mg base 1 C "lines" (spLinesB C) := by
  refine ⟨p, f, fd, pr, F.ok sc_Sums_lines (fun vs H Q E h => ?_) (fun cdv A outer s H vs Q E hr h => ?_), b⟩
  · obtain ⟨a, _, _, _, rfl, _⟩ := h
    rfl
  obtain ⟨a, ins, outs, ds, rfl, ⟨dx, I, L, O, ts, h1, h2, h3, h4, h5⟩, q⟩ := h
  exact ⟨_, (pss_one (ps_ret (L2.pe_fld (pv 0) rfl))), ⟨_, rfl, a, C, dx, _, _, rfl, h1, R.cl, R.n2, rfl, q L ts h3 h5⟩⟩
theorem ok_addsB {f p : Addr} {fd : FuncData} (R : SCls K C) (B : Blt mg) (F : Fun K "adds" "Sums.adds" s_Sums_adds f fd) (pr : PropOf K C "adds" p f) (b : Binds K fd ["self"] []) : HasPr P w K mg base 1 C "adds" (spAddsB C) := by
  refine ⟨p, f, fd, pr, F.ok sc_Sums_adds (fun vs H Q E h => ?_) (fun cdv A outer s H vs Q E hr h => ?_), b⟩
  · obtain ⟨a, _, _, _, rfl, _⟩ := h
    rfl
  obtain ⟨a, ins, outs, ds, rfl, ⟨dx, I, L, O, ts, h1, h2, h3, h4, h5⟩, ld, q⟩ := h
  have lt := plen h5
  refine ⟨_, (pss_one (ps_ret (pe_callB (cr_sum rfl) (by rfl) B.sum bb_sum (pa_cons (pe_lc (own := [("_", 1), ("parts", 2)]) (g := gTup K 2 (gCons (gName 1) (gCons (gName 2) gNil))) (tt := tYes) (by rfl) sc_Sums_adds.nd (pi_tup (L2.pe_fld (pv 0) rfl)) (blkOk_by (own := [("_", 1), ("parts", 2)]) (N := N_Sums_adds) (sc := defScope s_Sums_adds) (by decide +kernel)) (fun _ _ _ _ _ => (pg_tup rfl (pgs_cons (pg_name (i := 1) sc_Sums_adds.nd rfl (Or.inl rfl)) (pgs_cons (pg_name (i := 2) sc_Sums_adds.nd rfl (Or.inl rfl)) pgs_nil)))) (fun _ _ _ _ _ => pts_nil) (fun _ _ _ _ _ => (pe_op op_sub (pe_callB (NK.call_lenK K rfl) (by rfl) B.len bb_len (pa_cons (pv 2) pa_nil)) pe_int))) pa_nil)))), ?_⟩
  refine ⟨_, rfl, a, C, dx, _, _, rfl, h1, R.cl, R.n2, rfl, L, rfl, ⟨_, SqT.of h3⟩, fun D hD => ?_⟩
  refine lc_it (walk_tup (xs := ts.map V.ref)) (fun i H' => Same H H' ∧ H' D = some (.lst (((ds.take i).map fun d => ((partsD d).length : Int) - 1).map V.int))) ⟨same_upd hD, upd_same⟩ (fun i H' _ e => SqT.of (e.1 _ _ h3)) ?_ ?_
  · rintro i v Ha Hb hi ⟨sa, ea⟩ ⟨rfl, hv⟩
    obtain ⟨t, ht, rfl⟩ := at_map hv
    have hi : i < ds.length := by
      have := (List.getElem?_eq_some_iff.mp ht).1
      omega
    obtain ⟨t', d, ht', hd, hk⟩ := pat h5 hi
    rw [ht] at ht'
    cases ht'
    obtain ⟨x, ps, p0, vs, rfl, g1, g2, g3, _⟩ := hk.shape
    have lv := plen g3
    refine ⟨t, _, rfl, SqT.of (sa _ _ g1), rfl, _, _, rfl, _, _, rfl, rfl, rfl, tYes_ok ?_⟩
    refine ⟨_, rfl, .ref p0, vs.length, rfl, .inr ⟨_, SqT.of (sa _ _ g2), rfl⟩, _, _, rfl, rfl, _, ea, small1000 (by simp; omega), fun c o hc => ?_, ?_⟩
    · rw [upd_ne (ne_of_none hc hD)]
      exact sa _ _ hc
    · rw [upd_same, take_snoc hd]
      simp [partsD, lv]
  · rintro H2 ⟨s2, e2⟩
    rw [List.length_map, lt, List.take_length] at e2
    exact ⟨D, _, rfl, SqL.of e2, q _ s2⟩
end
end My
/-! benches of sums: the table -/
namespace My
open PySem PySem.Spec PyProof.Rows L2
abbrev RowE := Str → Option (List Int)
def unitR (n i : Nat) : List Int := (List.range n).map fun j => if j = i then 1 else 0
def putE (e : RowE) (x : Str) (r : List Int) : RowE := fun y => if y = x then some r else e y
def env0 (n : Nat) : Nat → List Str → RowE → RowE
  | _, [], e => e
  | i, x :: xs, e => env0 n (i + 1) xs (putE e x (unitR n i))
def partF (e : RowE) (j : Nat) : PartD → Int
  | .num f y => f * ((e y).getD []).getD j 0
  | _ => 0
def combR (e : RowE) (n : Nat) (ps : List PartD) : List Int := (List.range n).map fun j => (ps.map (partF e j)).sum
def envL (n : Nat) : List LineD → RowE → RowE
  | [], e => e
  | d :: ds, e => envL n ds (putE e (nameL d) (combR e n (partsD d)))
def tableF (ins : List Str) (ds : List LineD) (outs : List Str) : List (List Int) :=
  outs.map fun o => ((envL ins.length ds (env0 ins.length 0 ins fun _ => none)) o).getD []
theorem env0_snoc {n : Nat} : ∀ {k : Nat} {xs : List Str} {x : Str} {e : RowE}, env0 n k (xs ++ [x]) e = putE (env0 n k xs e) x (unitR n (k + xs.length))
  | k, [], x, e => rfl
  | k, y :: ys, x, e => by
    show env0 n (k + 1) (ys ++ [x]) (putE e y (unitR n k)) = _
    rw [env0_snoc, List.length_cons, Nat.add_right_comm, Nat.add_assoc]
    rfl
theorem envL_snoc {n : Nat} : ∀ {ds : List LineD} {d : LineD} {e : RowE}, envL n (ds ++ [d]) e = putE (envL n ds e) (nameL d) (combR (envL n ds e) n (partsD d))
  | [], d, e => rfl
  | c :: ds, d, e => by
    show envL n (ds ++ [d]) (putE e (nameL c) (combR e n (partsD c))) = _
    rw [envL_snoc]
    rfl
/-- the rows in a dict -/
def RowsIn (H : Hp) (n : Nat) (kvs : List (Key × V)) (e : RowE) : Prop := ∀ y r, e y = some r → ∃ l, valV kvs (.inr y) = some (.ref l) ∧ H l = some (.lst (r.map V.int)) ∧ r.length = n
theorem RowsIn.same {H H' : Hp} {n : Nat} {kvs : List (Key × V)} {e : RowE} (h : RowsIn H n kvs e) (s : Same H H') : RowsIn H' n kvs e := fun y r k => by
  obtain ⟨l, h1, h2, h3⟩ := h y r k
  exact ⟨l, h1, s _ _ h2, h3⟩
theorem RowsIn.put {H : Hp} {n : Nat} {kvs : List (Key × V)} {e : RowE} {D l : Addr} {x : Str} {r : List Int} (h : RowsIn H n kvs e) (hD : H D = some (.dK kvs)) (hl : H l = some (.lst (r.map V.int))) (hr : r.length = n) : RowsIn (upd H D (.dK (putK kvs (.inr x) (.ref l)))) n (putK kvs (.inr x) (.ref l)) (putE e x r) := fun y q k => by
  have ne : ∀ {c : Addr} {xs : List V}, H c = some (.lst xs) → (upd H D (.dK (putK kvs (.inr x) (.ref l)))) c = some (.lst xs) := fun z => by
    rw [upd_ne (ne_of z hD (by intro w; cases w))]
    exact z
  by_cases z : y = x
  · have : putE e x r y = some r := by simp [putE, z]
    rw [this] at k
    cases k
    exact ⟨l, by rw [valV_put, if_pos (by rw [z])], ne hl, hr⟩
  · have : putE e x r y = e y := by simp [putE, z]
    rw [this] at k
    obtain ⟨c, h1, h2, h3⟩ := h y q k
    exact ⟨c, by rw [valV_put, if_neg (by simpa using z)]; exact h1, ne h2, h3⟩
theorem env0_some {n : Nat} : ∀ {k : Nat} {xs : List Str} {e : RowE} {y : Str}, (y ∈ xs ∨ (e y).isSome = true) → (env0 n k xs e y).isSome = true
  | k, [], e, y, h => h.elim (fun h => by cases h) id
  | k, x :: xs, e, y, h => by
    show (env0 n (k + 1) xs (putE e x (unitR n k)) y).isSome = true
    refine env0_some ?_
    by_cases z : y = x
    · exact .inr (by simp [putE, z])
    · rcases h with h | h
      · exact .inl ((List.mem_cons.mp h).resolve_left z)
      · exact .inr (by simpa [putE, z] using h)
theorem envL_some {n : Nat} : ∀ {ds : List LineD} {e : RowE} {y : Str}, (y ∈ ds.map nameL ∨ (e y).isSome = true) → (envL n ds e y).isSome = true
  | [], e, y, h => h.elim (fun h => by cases h) id
  | d :: ds, e, y, h => by
    show (envL n ds (putE e (nameL d) (combR e n (partsD d))) y).isSome = true
    refine envL_some ?_
    by_cases z : y = nameL d
    · exact .inr (by simp [putE, z])
    · rcases h with h | h
      · exact .inl ((List.mem_cons.mp h).resolve_left z)
      · exact .inr (by simpa [putE, z] using h)
/-- every part tells of an input or of a line before -/
def Told (ins : List Str) (ds : List LineD) : Prop := ∀ i d, ds[i]? = some d → ∀ p ∈ partsD d, nameP p ∈ ins ∨ nameP p ∈ (ds.take i).map nameL
def Slim (ds : List LineD) : Prop := ∀ d ∈ ds, ∀ f y, PartD.num f y ∈ partsD d → -(2 ^ 64) < f ∧ f < 2 ^ 64
def spTableB (C : Addr) : Sp := fun vs H Q _ => ∃ (a : Addr) (ins outs : List Str) (ds : List LineD), vs = [.ref a] ∧ BenchG C H a ins ds outs ∧ ins.length ≤ 50 ∧ ds.length ≤ 50 ∧ outs.length ≤ 100 ∧ Told ins ds ∧ Slim ds ∧ (∀ o ∈ outs, o ∈ ins ∨ o ∈ ds.map nameL) ∧
  ∀ (H' : Hp) (l : Addr) (rs : List Addr), Same H H' → H l = none → H' l = some (.lst (rs.map V.ref)) → Paired (fun r (xs : List Int) => H' r = some (.lst (xs.map V.int))) rs (tableF ins ds outs) → Q (.ref l) H'
section
variable {P : Program} {w : World} {K : PySem.W.Frag} {mg : Str → Option Value} {base : Heap} {C : Addr}
theorem ok_tableB {f : Addr} {fd : FuncData} (R : SCls K C) (B : Blt mg) (F : Fun K "table" "Sums.table" s_Sums_table f fd) (M : Meth K C "table" f) (b : Binds K fd ["self"] []) : HasM P w K mg base 1 C "table" ["self"] (spTableB C) := by
  refine ⟨f, fd, F.ok sc_Sums_table (fun vs H Q E h => ?_) (fun cdv A outer s H vs Q E hr h => ?_), M, b⟩
  · obtain ⟨a, _, _, _, rfl, _⟩ := h
    rfl
  obtain ⟨a, ins, outs, ds, rfl, ⟨dx, I, L, O, ts, h1, h2, h3, h4, h5⟩, li, ld, lo, told, slim, hout, q⟩ := h
  refine ⟨_, (pss_cons (ps_set (i := 1) sc_Sums_table.nd rfl (Or.inr rfl) (pe_callTy LcN.cr_range1 (by rfl) B.range bb_range (pa_cons (pe_callB call_len (by rfl) B.len bb_len (pa_cons (L2.pe_fld (pv 0) rfl) pa_nil)) pa_nil)))
      (pss_cons (ps_set (i := 2) sc_Sums_table.nd rfl (Or.inr rfl) (pe_dc (own := [("place", 4), ("name", 5)]) (g := gTup K 2 (gCons (gName 4) (gCons (gName 5) gNil))) (tt := tYes) (by rfl) sc_Sums_table.nd (EM.pi_enumT K rfl (by rfl) B.enumerate (pa_cons (L2.pe_fld (pv 0) rfl) pa_nil)) (blkOk_by (own := [("place", 4), ("name", 5)]) (N := N_Sums_table) (sc := defScope s_Sums_table) (by decide +kernel)) (fun _ _ _ _ _ => (pg_tup rfl (pgs_cons (pg_name (i := 4) sc_Sums_table.nd rfl (Or.inr rfl)) (pgs_cons (pg_name (i := 5) sc_Sums_table.nd rfl (Or.inl rfl)) pgs_nil)))) (fun _ _ _ _ _ => pts_nil) (fun _ _ _ _ _ => (pv 5)) (fun _ _ _ _ _ => (pe_lc (own := [("at", 3)]) (g := gName 3) (tt := tYes) (by rfl) sc_Sums_table.nd (LcN.pi_rng (pv 1)) (blkOk_by (own := [("at", 3)]) (N := N_Sums_table) (by rfl)) (fun _ _ _ _ _ => (pg_name (i := 3) sc_Sums_table.nd rfl (Or.inl rfl))) (fun _ _ _ _ _ => pts_nil) (fun _ _ _ _ _ => (pe_callTy call_int1 (by rfl) B.int bb_int (pa_cons (pe_cmpR op_eq (pv 3) (pv 4) (nomark _)) pa_nil)))))))
      (pss_cons (ps_for PassesOwn.never rfl (pi_tup (L2.pe_fld (pv 0) rfl)) (pg_tup rfl (pgs_cons (pg_name (i := 5) sc_Sums_table.nd rfl (Or.inl rfl)) (pgs_cons (pg_name (i := 6) sc_Sums_table.nd rfl (Or.inr rfl)) pgs_nil)))
        (pss_one (ps_dput (hu_of hr) (pv 2) (pv 5) (pe_lc (own := [("at", 3)]) (g := gName 3) (tt := tYes) (by rfl) sc_Sums_table.nd (LcN.pi_rng (pv 1)) (blkOk_by (own := [("at", 3)]) (N := N_Sums_table) (sc := defScope s_Sums_table) (by decide +kernel)) (fun _ _ _ _ _ => (pg_name (i := 3) sc_Sums_table.nd rfl (Or.inr rfl))) (fun _ _ _ _ _ => pts_nil) (fun _ _ _ _ _ => (pe_callB (NK.cr_sumK K rfl rfl) (by rfl) B.sum bb_sum (pa_cons (pe_lc (own := [("factor", 7), ("other", 8)]) (g := gTup K 2 (gCons (gName 7) (gCons (gName 8) gNil))) (tt := tYes) (by rfl) sc_Sums_table.nd (NK.pi_tupK K rfl (pv 6)) (blkOk_by (own := [("factor", 7), ("other", 8)]) (N := N_Sums_table) (by rfl)) (fun _ _ _ _ _ => (pg_tup rfl (pgs_cons (pg_name (i := 7) sc_Sums_table.nd rfl (Or.inl rfl)) (pgs_cons (pg_name (i := 8) sc_Sums_table.nd rfl (Or.inl rfl)) pgs_nil)))) (fun _ _ _ _ _ => pts_nil) (fun _ _ _ _ _ => (pe_op op_mul (pv 7) (pe_ix (LcN.ix_listK K rfl) (pe_dget (hu_of hr) (pv 2) (pv 8) (fun _ _ => rfl)) (pv 3) (fun _ _ => rfl))))) pa_nil)))) (by rfl))))
      (pss_one (ps_ret (pe_lc (own := [("name", 5)]) (g := gName 5) (tt := tYes) (by rfl) sc_Sums_table.nd (pi_tup (L2.pe_fld (pv 0) rfl)) (blkOk_by (own := [("name", 5)]) (N := N_Sums_table) (sc := defScope s_Sums_table) (by decide +kernel)) (fun _ _ _ _ _ => (pg_name (i := 5) sc_Sums_table.nd rfl (Or.inl rfl))) (fun _ _ _ _ _ => pts_nil) (fun _ _ _ _ _ => (pe_callTy (NK.call_list_ofK K rfl) (by rfl) B.list bb_list (pa_cons (pe_dget (hu_of hr) (pv 2) (pv 5) (fun _ _ => rfl)) pa_nil))))))))), ?_⟩
  have lt := plen h5
  refine ⟨_, rfl, a, C, dx, _, _, rfl, h1, R.cl, R.n1, rfl, .ref I, ins.length, rfl, .inr ⟨_, SqT.of h2, by rw [List.length_map]⟩, _, rfl, fun pr npr => ?_⟩
  have spr := same_upd (o := .rng 0 (ins.length : Nat)) npr
  have epr : upd H pr (.rng 0 (ins.length : Nat)) pr = some (.rng 0 (ins.length : Nat)) := upd_same
  generalize upd H pr (.rng 0 (ins.length : Nat)) = H0 at spr epr ⊢
  obtain ⟨n, hn⟩ : ∃ n, n = ins.length := ⟨_, rfl⟩
  rw [← hn] at epr
  have rng : -(2 ^ 62) ≤ ((n : Nat) : Int) ∧ ((n : Nat) : Int) < 2 ^ 62 := ⟨by omega, by omega⟩
  refine ⟨_, rfl, a, C, dx, _, _, rfl, spr _ _ h1, R.cl, R.n1, rfl, I, _, rfl, SqT.of (spr _ _ h2), fun D hD => ?_⟩
  refine dc_it (EM.walk_enumT (xs := ins.map V.str)) (fun i H' => Same H0 H' ∧ ∃ kvs : List (Key × V), H' D = some (.dK kvs) ∧ kvs.length ≤ i ∧ RowsIn H' n kvs (env0 n 0 (ins.take i) fun _ => none)) ⟨same_upd hD, [], upd_same, Nat.le_refl _, fun y r k => by cases k⟩ (fun i H' _ e => SqT.of (e.1 _ _ (spr _ _ h2))) ?_ ?_
  · rintro i v Ha Hb hi ⟨sa, kvs, ek, lk, ev⟩ ⟨U, x1, y, rfl, hU, rfl, hx1, hy⟩
    have hy : (ins.map V.str)[i]? = some y := hy
    obtain ⟨x, hx, rfl⟩ := at_map hy
    have ex : x1 = V.int (i : Nat) := (Option.some.inj hx1).symm
    subst ex
    have sU := same_upd (o := .tup [.int (i : Nat), .str x]) hU
    have sb := sa.trans sU
    refine ⟨U, [.int (i : Nat), .str x], rfl, SqT.of upd_same, rfl, .int (i : Nat), [.str x], rfl, .str x, [], rfl, rfl, rfl, tYes_ok ?_⟩
    refine ⟨_, rfl, _, rfl, pr, (n : Nat), rfl, sb _ _ epr, rng.1, rng.2, fun D2 hD2 => ?_⟩
    generalize upd Ha U (.tup [.int (i : Nat), .str x]) = Hc at sU sb hD2 ⊢
    refine lc_it (walk_range (lo := 0) (n := n)) (fun j H' => Same Hc H' ∧ H' D2 = some (.lst (((List.range j).map fun j => if j = i then (1 : Int) else 0).map V.int))) ⟨same_upd hD2, upd_same⟩ (fun _ _ _ _ => True.intro) ?_ ?_
    · rintro j v Hd He hj ⟨sd, ed⟩ ⟨rfl, rfl⟩
      refine ⟨rfl, tYes_ok ⟨_, rfl, _, rfl, rfl, .inr ⟨_, rfl, _, ed, small1000 (by simp; omega), fun c o hc => ?_, ?_⟩⟩⟩
      · rw [upd_ne (ne_of_none hc hD2)]
        exact sd _ _ hc
      · rw [upd_same, List.range_succ, List.map_append, List.map_append]
        have e6 : (if decide (V.int ((0 : Int) + (j : Int)) = V.int ((i : Nat) : Int)) = true then (1 : Int) else 0) = if j = i then 1 else 0 := by
          by_cases z : j = i
          · subst z
            simp
          · have : ¬ V.int ((0 : Int) + (j : Int)) = V.int ((i : Nat) : Int) := fun q => z (by have := V.int.inj q; omega)
            rw [decide_eq_false this, if_neg z]
            rfl
        rw [e6]
        rfl
    · rintro Hd ⟨sd, ed⟩
      have sc := sb.trans sd
      have ekd := sd _ _ (sU _ _ ek)
      have lx : ins.take (i + 1) = ins.take i ++ [x] := take_snoc hx
      have li : (ins.take i).length = i := by
        rw [List.length_take]
        have := (List.getElem?_eq_some_iff.mp hx).1
        omega
      refine ⟨kvs, .inr x, rfl, ekd, small1000 (by have := (List.getElem?_eq_some_iff.mp hx).1; omega), fun c o hc => ?_, _, upd_same, ?_, ?_⟩
      · rw [upd_ne (ne_of_none hc hD)]
        exact sc _ _ hc
      · have := length_putK kvs (.inr x) (.ref D2)
        omega
      · rw [lx, env0_snoc, li, Nat.zero_add]
        exact (ev.same (sU.trans sd)).put ekd ed (by simp [unitR])
  rintro H1 ⟨s1, kvs0, ek0, lk0, ev0⟩
  rw [List.length_map] at lk0 ev0
  rw [List.take_length] at ev0
  obtain ⟨e0, he0⟩ : ∃ e0, e0 = env0 n 0 ins (fun _ => none) := ⟨_, rfl⟩
  rw [← he0] at ev0
  have dom0 : ∀ y, y ∈ ins → (e0 y).isSome = true := fun y hy => by
    rw [he0]
    exact env0_some (.inl hy)
  have s01 := spr.trans s1
  have hpr := s1 _ _ epr
  refine ⟨_, rfl, a, C, dx, _, _, rfl, s01 _ _ h1, R.cl, R.n2, rfl, L, rfl, ⟨_, SqT.of (s01 _ _ h3)⟩, for_it (walk_tup (xs := ts.map V.ref)) (fun i σ H' => ∃ y3 y4 y5 y6 y7 y8, σ = [some (.ref a), some (.ref pr), some (.ref D), y3, y4, y5, y6, y7, y8] ∧ Same H0 H' ∧ ∃ kvs : List (Key × V), H' D = some (.dK kvs) ∧ kvs.length ≤ ins.length + i ∧ RowsIn H' n kvs (envL n (ds.take i) e0))
    ⟨_, _, _, _, _, _, rfl, s1, kvs0, ek0, lk0, ev0⟩ (fun i σ H' _ e => by obtain ⟨_, _, _, _, _, _, _, e, _⟩ := e; exact SqT.of ((spr.trans e) _ _ h3)) ?_ ?_⟩
  · rintro i v σ Ha Hb hi ⟨y3, y4, y5, y6, y7, y8, rfl, sa, kvs, ek, lk, ev⟩ ⟨rfl, hv⟩
    obtain ⟨t, ht, rfl⟩ := at_map hv
    have hi : i < ds.length := by
      have := (List.getElem?_eq_some_iff.mp ht).1
      omega
    obtain ⟨t', d, ht', hd, hk⟩ := pat h5 hi
    rw [ht] at ht'
    cases ht'
    obtain ⟨x, ps, p0, vs, rfl, g1, g2, g3, lx, lps, num⟩ := hk.shape
    have lv := plen g3
    have s0a := spr.trans sa
    refine ⟨t, _, rfl, SqT.of (s0a _ _ g1), rfl, _, _, rfl, _, _, rfl, rfl, ?_⟩
    refine ⟨_, rfl, pr, (n : Nat), rfl, sa _ _ epr, rng.1, rng.2, fun D2 hD2 => ?_⟩
    obtain ⟨e, he⟩ : ∃ e, e = envL n (ds.take i) e0 := ⟨_, rfl⟩
    rw [← he] at ev
    have dom : ∀ y, (y ∈ ins ∨ y ∈ (ds.take i).map nameL) → (e y).isSome = true := fun y hy => by
      rw [he]
      exact envL_some (hy.elim (fun h => .inr (dom0 y h)) .inl)
    refine lc_it (walk_range (lo := 0) (n := n)) (fun j H' => Same Hb H' ∧ H' D2 = some (.lst (((List.range j).map fun j => (ps.map (partF e j)).sum).map V.int))) ⟨same_upd hD2, upd_same⟩ (fun _ _ _ _ => True.intro) ?_ ?_
    · rintro j v Hd He hj ⟨sd, ed⟩ ⟨rfl, rfl⟩
      refine ⟨rfl, tYes_ok ?_⟩
      refine ⟨_, rfl, p0, rfl, ⟨_, SqT.of (sd _ _ (s0a _ _ g2))⟩, fun D4 hD4 => ?_⟩
      refine lc_it (walk_tup (xs := vs)) (fun k H' => Same He H' ∧ H' D4 = some (.lst (((ps.take k).map (partF e j)).map V.int))) ⟨same_upd hD4, upd_same⟩ (fun k H' _ z => SqT.of (z.1 _ _ (sd _ _ (s0a _ _ g2)))) ?_ ?_
      · rintro k v Hf Hg hk ⟨sf, ef⟩ ⟨rfl, hv⟩
        obtain ⟨v', q, hv', hq, hp⟩ := pat g3 (by omega : k < ps.length)
        rw [hv] at hv'
        cases hv'
        have mq := List.mem_of_getElem? hq
        obtain ⟨f0, y, rfl⟩ := num q mq
        obtain ⟨c1, rfl, hc1, _⟩ := hp
        have sdf := sd.trans sf
        obtain ⟨r, hr⟩ := Option.isSome_iff_exists.mp (dom y (told i _ hd _ mq))
        obtain ⟨l, w1, w2, w3⟩ := ev y r hr
        have jn : j < r.length := by rw [w3]; exact hj
        have sl := slim _ (List.mem_of_getElem? hd) f0 y mq
        refine ⟨c1, _, rfl, SqT.of (sdf _ _ (s0a _ _ hc1)), rfl, _, _, rfl, _, _, rfl, rfl, rfl, tYes_ok ?_⟩
        have pe : partF e j (.num f0 y) = f0 * r[j] := by
          show f0 * ((e y).getD []).getD j 0 = _
          rw [hr]
          simp [List.getD, jn]
        refine ⟨_, rfl, _, rfl, _, rfl, D, .ref l, rfl, by rw [← w1]; exact DGet.k (k := .inr y) (sdf _ _ ek), _, rfl, l, _, _, _, rfl, rfl, SqL.of (sdf _ _ w2), at_of (j := j) (v := .int r[j]) (by omega) (by rw [List.getElem?_map, List.getElem?_eq_getElem jn]; rfl), f0, r[j], rfl, rfl, .inl sl, _, ef, small1000 (by simp; omega), fun c o hc => ?_, ?_⟩
        · rw [upd_ne (ne_of_none hc hD4)]
          exact sf _ _ hc
        · rw [upd_same, take_snoc hq]
          simp [pe]
      · rintro Hf ⟨sf, ef⟩
        rw [lv, List.take_length] at ef
        refine ⟨D4, _, rfl, SqL.of ef, _, sf _ _ ed, small1000 (by simp; omega), fun c o hc => ?_, ?_⟩
        · rw [upd_ne (ne_of_none hc hD2)]
          exact sf _ _ (sd _ _ hc)
        · rw [upd_same, List.range_succ]
          simp
    · rintro Hd ⟨sd, ed⟩
      have ekd := sd _ _ ek
      have lx2 : ds.take (i + 1) = ds.take i ++ [.line x ps] := take_snoc hd
      refine ⟨_, rfl, _, rfl, D, _, rfl, DPut.k (k := .inr x) ekd (small1000 (by omega)), _, _, _, _, _, _, rfl, fun c o hc => ?_, _, upd_same, ?_, ?_⟩
      · rw [upd_ne (ne_of_none hc hD)]
        exact sd _ _ (sa _ _ hc)
      · have := length_putK kvs (.inr x) (.ref D2)
        omega
      · rw [lx2, envL_snoc, ← he]
        exact (ev.same sd).put ekd ed (by simp [combR])
  · rintro σ H2 ⟨y3, y4, y5, y6, y7, y8, rfl, s2, kvs, ek, lk, ev⟩
    rw [List.length_map, lt, List.take_length] at ev
    have s02 := spr.trans s2
    obtain ⟨e, he⟩ : ∃ e, e = envL n ds e0 := ⟨_, rfl⟩
    rw [← he] at ev
    have et : tableF ins ds outs = outs.map fun o => (e o).getD [] := by
      rw [he, he0, hn]
      rfl
    refine ⟨_, rfl, a, C, dx, _, _, rfl, s02 _ _ h1, R.cl, R.n3, rfl, O, rfl, ⟨_, SqT.of (s02 _ _ h4)⟩, fun D5 hD5 => ?_⟩
    refine lc_it (walk_tup (xs := outs.map V.str)) (fun i H' => Same H2 H' ∧ ∃ rs : List Addr, H' D5 = some (.lst (rs.map V.ref)) ∧ Paired (fun r (xs : List Int) => H' r = some (.lst (xs.map V.int)) ∧ r ≠ D5) rs ((outs.take i).map fun o => (e o).getD [])) ⟨same_upd hD5, [], upd_same, .nil⟩ (fun i H' _ z => SqT.of ((s02.trans z.1) _ _ h4)) ?_ ?_
    · rintro i v Ha Hb hi ⟨sa, rs, ea, pr2⟩ ⟨rfl, hv⟩
      obtain ⟨o, ho, rfl⟩ := at_map hv
      have mo := List.mem_of_getElem? ho
      obtain ⟨r, hr⟩ : ∃ r, e o = some r := Option.isSome_iff_exists.mp (by
        rw [he]
        exact envL_some ((hout o mo).elim (fun h => .inr (dom0 o h)) .inl))
      obtain ⟨l, w1, w2, w3⟩ := ev o r hr
      have lr := plen pr2
      refine ⟨rfl, tYes_ok ⟨_, rfl, _, rfl, D, .ref l, rfl, by rw [← w1]; exact DGet.k (k := .inr o) (sa _ _ ek), l, _, rfl, .inl (SqL.of (sa _ _ w2)), fun l2 n2 => ?_⟩⟩
      have c2 := same_upd (o := .lst (r.map V.int)) n2
      have eD := c2 _ _ ea
      refine ⟨_, eD, small1000 ?_, fun c o hc => ?_, rs ++ [l2], ?_, ?_⟩
      · rw [List.length_map, lr, List.length_map, List.length_take]
        omega
      · rw [upd_ne (ne_of_none hc hD5)]
        exact c2 _ _ (sa _ _ hc)
      · rw [upd_same]
        simp
      · rw [take_snoc ho, List.map_append]
        have n2D : l2 ≠ D5 := (ne_of_none ea n2).symm
        refine (pmono (fun c xs h => ⟨by rw [upd_ne h.2]; exact c2 _ _ h.1, h.2⟩) pr2).snoc ⟨?_, n2D⟩
        rw [upd_ne n2D, upd_same]
        show some (HO.lst (r.map V.int)) = some (HO.lst (((e o).getD []).map V.int))
        rw [hr]
        rfl
    · rintro H3 ⟨s3, rs, e3, pr2⟩
      rw [List.length_map, List.take_length, ← et] at pr2
      have n5 : H D5 = none := (spr.trans s2).free hD5
      exact q _ D5 rs (s02.trans s3) n5 e3 (pmono (fun c xs h => h.1) pr2)
end
end My
/-! list(x), x a text: its signs -/
namespace ListT
open PySem PySem.Spec PyProof.Rows
section
variable {prog : Program} {w : World} {A : Around} {E : Value → Shared → Prop} {s : Shared} {x : Str} {t : Tok}
theorem extend_text {R : Result → Shared → Prop} (calm : A.handled = none) (S : Addr) (c0 : Nat) (hS : s.heap.get? S = some { cls := .type "list", data := .seq #[] c0 }) (small : x.cps.size ≤ sizeLine)
    (fin : ∀ (h' : Heap) (tk : Nat) (acc : Array Value) (c' : Nat), (∀ b o, b ≠ S → s.heap.get? b = some o → h'.get? b = some o) → h'.get? S = some { cls := .type "list", dict := none, data := .seq acc c', slots := #[] } → ItemsOf (SignAt x) acc x.cps.size → R (.ok (.ret .none)) { s with heap := h', toks := tk }) :
    wpAny (model prog w) A.in1 (Builtin.List.listExtendWith (.ref S) (.str x t) .none)
      (fun r s' => match r with | .done f => R (.ok f) s' | .again c' => c'.quiet = true ∧ codeAny (model prog w) A c' R s') (fun e s' => R (.error e) s') s := by
  have lt : S < s.heap.objs.size := Heap.lt_size hS
  unfold Builtin.List.listExtendWith
  refine wpAny_bind (wpAny_typeOf (T := "str") (v := .str x t) rfl ?_)
  have n1 : Builtin.List.listSameRef (.ref S) (.str x t) = false := rfl
  have n2 : (Value.type "str" == Value.type "list") = false := by decide
  have n3 : (Value.type "str" == Value.type "tuple") = false := by decide
  simp only [n1, n2, n3, Bool.or_false, Bool.false_eq_true, if_false]
  refine wpAny_bind (wpAny_pyIter_str fun o St W st => ?_)
  refine wpAny_bind (wpAny_holding ?_)
  unfold Builtin.List.listLengthHint
  refine wpAny_bind (wpAny_specialOf (T := "str") (v := .str x t) rfl F.str_len ?_)
  wp_delta
  refine wpAny_bind (wpAny_isInstance (T := "str") (v := .str x t) (b := true) rfl (by rw [isSubtype_type]; kernel_rfl) ?_)
  show wpAny _ A.in1 (typeOf (Value.str x t) >>= _) _ _ _
  refine wpAny_bind (wpAny_typeOf (T := "str") (v := .str x t) rfl (wpAny_pure ?_))
  rw [if_neg (by decide)]
  have far : S ∉ [s.heap.objs.size] := fun q => Nat.ne_of_lt lt (List.mem_singleton.mp q)
  refine wpAny_pure ⟨plainId_quiet F.plain_extend_loop _, codeAny_extend_loopS (W A.in1 calm).toS small _ far _ x.cps.size 0 _ _ _ rfl (Nat.zero_le _) st (Heap.get?_push_of_some _ hS) (ItemsOf.nil _) fun s' acc c' mv e' items => ?_⟩
  rw [Moved.eq_with mv]
  refine fin s'.heap s'.toks acc c' (fun b ob hb e => mv.heap b ob (fun q => ?_) (Heap.get?_push_of_some _ e)) e' items
  rcases List.mem_cons.mp q with q | q
  · exact hb q
  · exact absurd (Heap.lt_size e) (by rw [List.mem_singleton.mp q]; exact Nat.lt_irrefl _)
theorem list_text {Q : Value → Shared → Prop} (calm : A.handled = none) (small : x.cps.size ≤ sizeLine)
    (h : ∀ (h' : Heap) (tk : Nat) (acc : Array Value) (c' : Nat), (∀ b o, s.heap.get? b = some o → h'.get? b = some o) → h'.get? s.heap.objs.size = some { cls := .type "list", dict := none, data := .seq acc c', slots := #[] } → ItemsOf (SignAt x) acc x.cps.size → Q (.ref s.heap.objs.size) { s with heap := h', toks := tk }) :
    wpAny (model prog w) A (call (.type "list") [.str x t]) Q E s := by
  refine callType_codes (Q₁ := fun v u => v = .ref s.heap.objs.size ∧ u = { s with heap := s.heap.push { cls := .type "list", data := .seq #[] } }) F.called_list (F.typeCall_list_1 _) F.entry_list_init (code_list_new _ ⟨rfl, rfl⟩) fun v u hv => ?_
  obtain ⟨rfl, rfl⟩ := hv
  have at0 : (s.heap.push { cls := .type "list", data := .seq #[] }).get? s.heap.objs.size = some { cls := .type "list", data := .seq #[] } := Heap.get?_push_size _ rfl
  refine ⟨⟨_, at0, rfl⟩, F.args_list_init_2 _ _, ?_⟩
  show wpAny _ _ (do let old ← Builtin.List.listItems (.ref s.heap.objs.size); Builtin.List.listUpdate (.ref s.heap.objs.size) (fun _ => #[]); letGo old.toList.reverse; Builtin.List.listExtendWith (.ref s.heap.objs.size) (.str x t) .none) _ _ _
  unfold Builtin.List.listItems
  refine wpAny_bind (wpAny_bind (wpAny_seqItems at0 rfl (wpAny_pure ?_)))
  show wpAny _ _ (updateSeq s.heap.objs.size (fun _ => #[]) >>= fun _ => letGo (#[] : Array Value).toList.reverse >>= fun _ => Builtin.List.listExtendWith (.ref s.heap.objs.size) (.str x t) .none) _ _ _
  refine wpAny_bind (wpAny_updateSeq at0 rfl (wpAny_bind (wpAny_letGo ?_)))
  have at1 := Heap.get?_update_self (Obj.mapSeq (fun _ => (#[] : Array Value))) at0 rfl
  refine extend_text (A := A.in1) calm _ _ at1 small fun h' tk acc c' keep e items => ⟨rfl, h h' tk acc c' (fun b o eb => ?_) e items⟩
  have nb : b ≠ s.heap.objs.size := Nat.ne_of_lt (Heap.lt_size eb)
  exact keep b o nb ((Heap.get?_update_other _ _ (Ne.symm nb)).trans (Heap.get?_push_of_some _ eb))
end
end ListT
namespace L2
open PySem PySem.Spec PyProof.Rows
section
variable {X : Cx}
/-- the signs of a text, each a text -/
def signV (x : Str) : List V := x.cps.toList.map fun c => V.str ⟨#[c]⟩
theorem call_list_text (hc : X.calm = true) : CallR X (.type "list") (fun xs H Q => ∃ x : Str, xs = [.str x] ∧ x.length ≤ 1000 ∧ ∀ l, H l = none → Q (.ref l) (upd H l (.lst (signV x)))) := by
  intro pins s σ H xs us Q I r h
  obtain ⟨x, rfl, small, q⟩ := h
  obtain ⟨u, rfl, rx⟩ := vals1 r
  obtain ⟨t, rfl⟩ := rx
  have sm : x.cps.size ≤ 1000 := small
  refine ListT.list_text (I.ok.hd hc) (Nat.le_of_lt (small1000 sm)) fun h' tk acc c' keep e items => ?_
  refine ⟨.ref s.heap.objs.size, _, I.laid (t' := tk) keep (Nat.le_refl _) (show ObjOk X.prog X.w _ h' _ (.lst (signV x)) from ⟨?_, acc.toList, c', ?_, by rw [Array.toArray_toList]; exact e⟩), rfl, q _ (I.hok.fresh (Nat.le_refl _))⟩
  · unfold signV
    rw [List.length_map, Array.length_toList]
    exact Nat.le_of_lt (small1000 sm)
  · refine vals_of_at ?_ fun j y u h1 h2 => ?_
    · unfold signV
      rw [List.length_map, Array.length_toList, Array.length_toList, items.1]
    · obtain ⟨c, k, e1, rfl⟩ := items.2 j u (by rw [← h2, Array.getElem?_toList])
      unfold signV at h1
      rw [List.getElem?_map, Array.getElem?_toList, e1] at h1
      rw [← Option.some.inj h1]
      exact ⟨k, rfl⟩
end
end L2
/-! new names -/
namespace My
open PySem PySem.Spec PyProof.Rows L2
def signs : List Str := letters.cps.toList.map fun c => ⟨#[c]⟩
def optsF : List Str := signs ++ signs.flatMap fun x => signs.map fun y => x ++ y
def newF (k : Nat) (taken : List Str) : List Str := (optsF.filter fun x => nameB x && !decide (x ∈ taken)).take k
def spNew : Sp := fun vs H Q _ => ∃ (k : Nat) (t : Addr) (taken : List Str), vs = [.int k, .ref t] ∧ H t = some (.lst (taken.map V.str)) ∧ taken.length ≤ 200 ∧ k ≤ 100 ∧
  ∀ (H' : Hp) (l : Addr), Same H H' → H l = none → H' l = some (.lst ((newF k taken).map V.str)) → Q (.ref l) H'
theorem notIn_seqK {X : Cx} (K : PySem.W.Frag) (hK : X.K = K) : OpR X (compareOp .NotIn) (rIn K true) := by
  subst hK
  exact op_notIn_seq
theorem cut_any {xs : List V} {k : Nat} : cutV xs none (some (k : Int)) = xs.take k := by
  unfold cutV
  rw [HT.sIx_none, HT.sIx_nat, List.drop_zero, Nat.sub_zero]
  by_cases h : k ≤ xs.length
  · rw [Nat.min_eq_left h]
  · rw [Nat.min_eq_right (by omega), List.take_length, List.take_of_length_le (by omega)]
theorem pairs_le (i : Nat) : ((signs.take i).flatMap fun x => signs.map fun y => x ++ y).length ≤ 26 * 26 := by
  have h : ∀ l : List Str, (l.flatMap fun x => signs.map fun y => x ++ y).length = l.length * 26 := fun l => by
    induction l with
    | nil => rfl
    | cons a l ih =>
      rw [List.flatMap_cons, List.length_append, ih, List.length_map, List.length_cons]
      show 26 + _ = _
      omega
  rw [h, List.length_take]
  have : signs.length = 26 := rfl
  omega
theorem opts_short : ∀ x ∈ optsF, x.length ≤ 1000 := by decide +kernel
section
variable {P : Program} {w : World} {K : PySem.W.Frag} {mg : Str → Option Value} {base : Heap} {kw : Addr}
theorem ok_new_names (F : Fn K mg "new_names" s_new_names ["count", "taken"]) (B : Blt mg) (T : Txt K mg kw) (G_is_name : Has P w K mg base 1 "is_name" ["value"] spIsName) : Has P w K mg base 2 "new_names" ["count", "taken"] spNew := by
  refine F.has sc_new_names (fun vs H Q E h => ?_) (fun f cdv A outer s H vs Q E hr h => ?_)
  · obtain ⟨k, t, taken, rfl, _⟩ := h
    rfl
  obtain ⟨k, t, taken, rfl, ht, lt, lk, q⟩ := h
  refine ⟨_, (pss_cons (ps_set (i := 2) sc_new_names.nd rfl (Or.inl rfl) (pe_op op_cat (pe_callTy (call_list_text (by rfl)) (by rfl) B.list bb_list (pa_cons (pe_gstr T.m_LETTERS (by rfl)) pa_nil)) (LcN.pe_lcN (own := [("one", 3), ("other", 4)]) (ws := [4]) (g := gName 3) (tt := tYes) rfl sc_new_names.nd (pi_str (pe_gstr T.m_LETTERS (by rfl))) (blkOk_by (own := [("one", 3), ("other", 4)]) (N := N_new_names) (sc := defScope s_new_names) (by decide +kernel)) (by decide) (.inr ⟨_, _, _, rfl⟩) (fun _ _ _ _ _ => (pg_name (i := 3) sc_new_names.nd rfl (Or.inl rfl))) (fun _ _ _ _ _ => pts_nil) (fun _ _ _ _ _ => (LcN.inner_more (g := gName 4) (tt := tYes) (vs := [4]) rfl rfl rfl (.inl rfl) (pi_str (pe_gstr T.m_LETTERS (by rfl))) (pg_name (i := 4) sc_new_names.nd rfl (Or.inl rfl)) pts_nil
          (LcN.inner_last rfl rfl (pe_op op_add_str (pv 3) (pv 4))) (by decide) (fun _ => rfl))))))
      (pss_one (ps_ret (pe_slice sl_list (pe_lc (own := [("name", 5)]) (g := gName 5) (by rfl) sc_new_names.nd (pi_list (pv 2)) (blkOk_by (own := [("name", 5)]) (N := N_new_names) (sc := defScope s_new_names) (by decide +kernel)) (fun _ _ _ _ _ => (pg_name (i := 5) sc_new_names.nd rfl (Or.inl rfl))) (fun _ _ _ _ _ => (pts_one (PW.pt (pw_and (pt_val (pe_own G_is_name (hr.mono (by decide)) (by rfl) (pa_cons (pv 5) pa_nil))) (pw_and1 (pt_cmpR (notIn_seqK K rfl) (pv 5) (pv 1) rfl)))))) (fun _ _ _ _ _ => (pv 5))) po_none (po_some (pv 0)))))), ?_⟩
  refine ⟨letters, rfl, by decide, fun l1 n1 => ?_⟩
  have c1 := same_upd (o := .lst (signV letters)) n1
  have e1 : upd H l1 (.lst (signV letters)) l1 = some (.lst (signV letters)) := upd_same
  generalize upd H l1 (.lst (signV letters)) = H1 at c1 e1 ⊢
  have sg : ∀ {i c : Nat}, letters.cps[i]? = some c → signs[i]? = some ⟨#[c]⟩ := fun hc => by
    unfold signs
    rw [List.getElem?_map, Array.getElem?_toList, hc]
    rfl
  have l26 : signs.length = 26 := rfl
  refine ⟨letters, rfl, fun D hD => ?_⟩
  refine LcN.clause_it (walk_str (z := letters)) (fun i H' => H' = upd H1 D (.lst (((signs.take i).flatMap fun x => signs.map fun y => x ++ y).map V.str))) rfl (fun _ _ _ _ => True.intro) ?_ ?_
  · rintro i v Ha Hb hi rfl ⟨rfl, c, hc, rfl⟩
    have lf : ((signs.take i).flatMap fun x => signs.map fun y => x ++ y).length ≤ 26 * 26 := pairs_le i
    refine ⟨rfl, tYes_ok ⟨letters, rfl, ?_⟩⟩
    refine LcN.clause_it (walk_str (z := letters)) (fun j H' => H' = upd H1 D (.lst ((((signs.take i).flatMap fun x => signs.map fun y => x ++ y) ++ (signs.take j).map fun y => (⟨#[c]⟩ : Str) ++ y).map V.str))) (by simp) (fun _ _ _ _ => True.intro) ?_ ?_
    · rintro j v Hc Hd hj rfl ⟨rfl, d, hd, rfl⟩
      refine ⟨rfl, tYes_ok ⟨_, rfl, _, rfl, _, _, rfl, rfl, by show 1 + 1 ≤ sizeLine; decide, _, upd_same, LcN.small100 ?_, ?_⟩⟩
      · simp only [List.length_map, List.length_append, List.length_take]
        omega
      · show upd (upd H1 D _) D _ = upd H1 D _
        rw [upd_upd, take_snoc (sg hd)]
        refine congrArg (fun z => upd H1 D (.lst z)) ?_
        simp
    · rintro Hc rfl
      have e26 : letters.cps.size = signs.length := rfl
      rw [e26, List.take_length, take_snoc (sg hc)]
      simp
  rintro H2 rfl
  have e26 : letters.cps.size = signs.length := rfl
  rw [e26, List.take_length]
  have u2 := same_upd (H := H1) (o := .lst ((signs.flatMap fun x => signs.map fun y => x ++ y).map V.str)) hD
  have es : signV letters = signs.map V.str := rfl
  refine ⟨l1, D, _, _, rfl, rfl, u2 _ _ e1, upd_same, by rw [es]; show 26 + 676 ≤ sizeLine; decide, fun l2 n2 => ?_⟩
  have eo : signV letters ++ (signs.flatMap fun x => signs.map fun y => x ++ y).map V.str = optsF.map V.str := by
    rw [es, ← List.map_append]
    rfl
  rw [eo]
  have u3 := same_upd (o := .lst (optsF.map V.str)) n2
  have e3 : upd (upd H1 D (.lst ((signs.flatMap fun x => signs.map fun y => x ++ y).map V.str))) l2 (.lst (optsF.map V.str)) l2 = some (.lst (optsF.map V.str)) := upd_same
  generalize upd (upd H1 D (.lst ((signs.flatMap fun x => signs.map fun y => x ++ y).map V.str))) l2 (.lst (optsF.map V.str)) = H3 at u3 e3 ⊢
  have s03 := c1.trans (u2.trans u3)
  refine ⟨_, rfl, l2, rfl, ⟨_, SqL.of e3⟩, fun D3 hD3 => ?_⟩
  refine lc_it (walk_list (xs := optsF.map V.str)) (fun i H' => Same H3 H' ∧ H' D3 = some (.lst (((optsF.take i).filter fun x => nameB x && !decide (x ∈ taken)).map V.str))) ⟨same_upd hD3, upd_same⟩ (fun i H' _ e => SqL.of (e.1 _ _ e3)) ?_ ?_
  · rintro i v Ha Hb hi ⟨sa, ea⟩ ⟨rfl, hv⟩
    obtain ⟨x, hx, rfl⟩ := at_map hv
    have lx : x.length ≤ 1000 := opts_short x (List.mem_of_getElem? hx)
    refine ⟨rfl, ?_⟩
    refine ⟨_, rfl, .str x, "str", rfl, .str x, fun y ey => (by cases ey; exact lx), fun Hc sc => ⟨nameB x, rfl, ?_⟩⟩
    have sac := sa.trans sc
    have fe : (optsF.take (i + 1)).filter (fun x => nameB x && !decide (x ∈ taken)) = (optsF.take i).filter (fun x => nameB x && !decide (x ∈ taken)) ++ [x].filter (fun x => nameB x && !decide (x ∈ taken)) := by
      rw [take_snoc hx, List.filter_append]
    have no : (nameB x && !decide (x ∈ taken)) = false → (optsF.take (i + 1)).filter (fun x => nameB x && !decide (x ∈ taken)) = (optsF.take i).filter (fun x => nameB x && !decide (x ∈ taken)) := fun h => by
      rw [fe, List.filter_cons, h]
      simp
    cases hb : nameB x with
    | false =>
      rw [no (by rw [hb]; rfl)]
      exact iteF (iteF ⟨sac, sc _ _ ea⟩)
    | true =>
      refine iteT ?_
      refine ⟨_, rfl, _, rfl, t, _, rfl, .inl (SqL.of (sac _ _ (s03 _ _ ht))), rfl, flat_names taken, !inV (.str x) (taken.map V.str), rfl, ?_⟩
      rw [inV_names]
      by_cases hm : x ∈ taken
      · rw [no (by rw [decide_eq_true hm]; simp), decide_eq_true hm]
        exact iteF ⟨sac, sc _ _ ea⟩
      · rw [decide_eq_false hm]
        refine iteT ⟨_, rfl, _, sc _ _ ea, small1000 ?_, fun c o hc => ?_, ?_⟩
        · rw [List.length_map]
          have h1 := List.length_filter_le (fun x => nameB x && !decide (x ∈ taken)) (optsF.take i)
          have h2 : (optsF.take i).length ≤ 702 := by
            rw [List.length_take]
            have : optsF.length = 702 := rfl
            omega
          omega
        · rw [upd_ne (ne_of_none hc hD3)]
          exact sac _ _ hc
        · rw [upd_same, fe, List.filter_cons, hb, decide_eq_false hm]
          simp
  · rintro H4 ⟨s4, e4⟩
    rw [List.length_map, List.take_length] at e4
    refine ⟨_, rfl, _, rfl, D3, _, rfl, SqL.of e4, fun l nl => ?_⟩
    have s04 := s03.trans s4
    refine q _ l (s04.trans (same_upd nl)) (s04.free nl) ?_
    rw [upd_same, cut_any, ← List.map_take]
    rfl
end
end My
/-! a bench turned -/
namespace My
open PySem PySem.Spec PyProof.Rows L2
abbrev Usr := Str → List PartD
def addU (u : Usr) (n : Str) (p : PartD) : Usr := fun m => if m = n then u m ++ [p] else u m
def addP (x : Str) (u : Usr) : PartD → Usr
  | .num f y => addU u y (.num f x)
  | _ => u
def usrO (ps : List (Str × Str)) (u : Usr) : Usr := ps.foldl (fun u p => addU u p.2 (.num 1 p.1)) u
def usrL (ds : List LineD) (u : Usr) : Usr := ds.foldl (fun u d => (partsD d).foldl (addP (nameL d)) u) u
def turnN (ins : List Str) (ds : List LineD) : List Str := ins ++ ds.map nameL
def turnI (ins : List Str) (ds : List LineD) (outs : List Str) : List Str := newF outs.length (turnN ins ds)
def turnU (ins : List Str) (ds : List LineD) (outs : List Str) : Usr := usrL ds (usrO ((turnI ins ds outs).zip outs) fun _ => [])
def turnD (ins : List Str) (ds : List LineD) (outs : List Str) : List LineD := (turnN ins ds).reverse.map fun n => .line n (turnU ins ds outs n)
theorem usrO_snoc {ps : List (Str × Str)} {p : Str × Str} {u : Usr} : usrO (ps ++ [p]) u = addU (usrO ps u) p.2 (.num 1 p.1) := by
  unfold usrO
  rw [List.foldl_append]
  rfl
theorem addU_len {u : Usr} {n m : Str} {p : PartD} : (addU u n p m).length ≤ (u m).length + 1 := by
  unfold addU
  split
  · rw [List.length_append]
    exact Nat.le_refl _
  · omega
theorem usrO_len : ∀ {ps : List (Str × Str)} {u : Usr} {n : Str}, (usrO ps u n).length ≤ (u n).length + ps.length
  | [], u, n => Nat.le_refl _
  | p :: ps, u, n => by
    have h1 := usrO_len (ps := ps) (u := addU u p.2 (.num 1 p.1)) (n := n)
    have h2 := addU_len (u := u) (n := p.2) (m := n) (p := .num 1 p.1)
    show (usrO ps (addU u p.2 (.num 1 p.1)) n).length ≤ _
    rw [List.length_cons]
    omega
theorem usrO_len0 {ps : List (Str × Str)} {n : Str} : (usrO ps (fun _ => []) n).length ≤ ps.length := by
  have h := usrO_len (ps := ps) (u := fun _ => []) (n := n)
  simpa using h
theorem parts_len {x : Str} : ∀ {qs : List PartD} {u : Usr} {n : Str}, (qs.foldl (addP x) u n).length ≤ (u n).length + qs.length
  | [], u, n => Nat.le_refl _
  | q :: qs, u, n => by
    have h1 := parts_len (x := x) (qs := qs) (u := addP x u q) (n := n)
    have h2 : (addP x u q n).length ≤ (u n).length + 1 := by
      match q with
      | .num f y => exact addU_len
      | .yes _ _ => exact Nat.le_succ _
      | .odd => exact Nat.le_succ _
    show (qs.foldl (addP x) (addP x u q) n).length ≤ _
    rw [List.length_cons]
    omega
theorem usrL_snoc {ds : List LineD} {d : LineD} {u : Usr} : usrL (ds ++ [d]) u = (partsD d).foldl (addP (nameL d)) (usrL ds u) := by
  unfold usrL
  rw [List.foldl_append]
  rfl
theorem usrL_len : ∀ {ds : List LineD} {u : Usr} {n : Str}, (∀ d ∈ ds, (partsD d).length ≤ 100) → (usrL ds u n).length ≤ (u n).length + ds.length * 100
  | [], u, n, _ => by simp [usrL]
  | d :: ds, u, n, h => by
    have h1 := usrL_len (ds := ds) (u := (partsD d).foldl (addP (nameL d)) u) (n := n) fun e he => h e (List.mem_cons_of_mem _ he)
    have h2 := parts_len (x := nameL d) (qs := partsD d) (u := u) (n := n)
    have h3 := h d List.mem_cons_self
    show (usrL ds ((partsD d).foldl (addP (nameL d)) u) n).length ≤ _
    rw [List.length_cons]
    omega
/-- the lists of users that a dict holds -/
structure UsersAt (H0 H : Hp) (kvs : List (Key × V)) (ns : List Str) (u : Usr) : Prop where
  ex : ∀ n ∈ ns, ∃ l vs, valV kvs (.inr n) = some (.ref l) ∧ H l = some (.lst vs) ∧ Paired (PartAt H) vs (u n) ∧ (∀ q ∈ u n, ∃ f y, q = .num f y) ∧ H0 l = none
  one : ∀ n m l, valV kvs (.inr n) = some (.ref l) → valV kvs (.inr m) = some (.ref l) → n = m
theorem nums_same {H H' : Hp} {vs : List V} {ps : List PartD} (h : Paired (PartAt H) vs ps) (s : Same H H') : Paired (PartAt H') vs ps := pmono (fun v d e => e.same s) h
theorem UsersAt.same {H0 H H' : Hp} {kvs : List (Key × V)} {ns : List Str} {u : Usr} (h : UsersAt H0 H kvs ns u) (s : Same H H') : UsersAt H0 H' kvs ns u := ⟨fun n hn => by
  obtain ⟨l, vs, h1, h2, h3, h4, h5⟩ := h.ex n hn
  exact ⟨l, vs, h1, s _ _ h2, nums_same h3 s, h4, h5⟩, h.one⟩
/-- one user more at n -/
theorem UsersAt.add {H0 H : Hp} {kvs : List (Key × V)} {ns : List Str} {u : Usr} {n : Str} {l a : Addr} {vs : List V} {f : Int} {x : Str} (h : UsersAt H0 H kvs ns u) (hv : valV kvs (.inr n) = some (.ref l)) (hl : H l = some (.lst vs)) (ha : H a = some (.tup [.int f, .str x])) (hx : x.length ≤ 1000) :
    UsersAt H0 (upd H l (.lst (vs ++ [.ref a]))) kvs ns (addU u n (.num f x)) := ⟨fun m hm => by
  obtain ⟨k, ws, h1, h2, h3, h4, h5⟩ := h.ex m hm
  by_cases e : m = n
  · subst e
    rw [hv] at h1
    obtain rfl : l = k := V.ref.inj (Option.some.inj h1)
    rw [hl] at h2
    cases h2
    have e1 : addU u m (.num f x) m = u m ++ [.num f x] := by simp [addU]
    rw [e1]
    refine ⟨l, vs ++ [.ref a], hv, upd_same, (nums_put hl h3 h4).snoc (num_put ⟨a, rfl, ha, hx⟩ hl), fun q hq => ?_, h5⟩
    rcases List.mem_append.mp hq with hq | hq
    · exact h4 q hq
    · exact ⟨f, x, List.mem_singleton.mp hq⟩
  · have e1 : addU u n (.num f x) m = u m := by simp [addU, e]
    rw [e1]
    have ne : k ≠ l := fun z => e (h.one m n l (by rw [h1, z]) hv)
    exact ⟨k, ws, h1, by rw [upd_ne ne]; exact h2, nums_put hl h3 h4, h4, h5⟩, h.one⟩
end My
/-! a bench turned: the promise -/
namespace My
open PySem PySem.Spec PyProof.Rows L2
structure HasMX (P : Program) (w : World) (K : PySem.W.Frag) (mg : Str → Option Value) (base : Heap) (k : Nat) (C : Addr) (m : Str) (ps : List Str) (sp : Sp) : Prop where
  ex : ∃ (f : Addr) (fd : FuncData), FnOk P w K mg base (L2.CX P w) k f fd ps sp ∧ Meth K C m f ∧ Binds K fd ps []
def spTurnedB (C CT : Addr) : Sp := fun vs H Q E => ∃ (a : Addr) (ins outs : List Str) (ds : List LineD), vs = [.ref a] ∧ BenchG C H a ins ds outs ∧ ins.length ≤ 100 ∧ ds.length ≤ 50 ∧ outs.length ≤ 100 ∧ (∀ x ∈ ins, x.length ≤ 1000) ∧ (∀ x ∈ turnN ins ds, x.length ≤ 1000) ∧ Told ins ds ∧ (∀ o ∈ outs, o ∈ turnN ins ds) ∧
  ((40 < (turnN ins ds).length ∧ ∀ H' d, Same H H' → H' d = none → E (.ref CT) (some d) (upd H' d (.xd (errD "most" "TooMany" (.int 40))))) ∨
   ((turnN ins ds).length ≤ 40 ∧ (∀ n, (turnU ins ds outs n).length ≤ 100) ∧ tellF (turnI ins ds outs) (turnD ins ds outs) ins = .ok ∧
     ∀ (H' : Hp) (l : Addr), Same H H' → H l = none → BenchG C H' l (turnI ins ds outs) (turnD ins ds outs) ins → Q (.ref l) H'))
theorem made_same {C : Addr} {H : Hp} {x dx : Addr} (hx : H x = none) (hdx : H dx = none) : Same H (upd (upd H dx (.own x)) x (.ins C dx [])) := fun b o e => by
  rw [upd_ne (ne_of_none e hx), upd_ne (ne_of_none e hdx)]
  exact e
theorem pmap2 {H : Hp} {u : Usr} : ∀ {rs : List Addr} {xs : List Str}, Paired (fun r n => LineAt H (.ref r) (.line n (u n))) rs xs → Paired (LineAt H) (rs.map V.ref) (xs.map fun n => .line n (u n))
  | _, _, .nil => .nil
  | _, _, .cons h t => .cons h (pmap2 t)
section
variable {P : Program} {w : World} {K : PySem.W.Frag} {mg : Str → Option Value} {base : Heap} {kw C CH CL CU CT fT xT dT : Addr}
theorem ok_turnedB {f : Addr} {fd : FuncData} (R : SCls K C) (B : Blt mg) (T : Txt K mg kw) (E_TooMany : ErrX.ErrTxt P K mg "TooMany" "most" "TooMany" CT fT xT dT) (F : Fun K "turned" "Sums.turned" s_Sums_turned f fd) (M : Meth K C "turned" f) (b : Binds K fd ["self"] [])
    (G_new_names : Has P w K mg base 2 "new_names" ["count", "taken"] spNew) (MK_Sums : HasCX P w K mg base 6 "Sums" C ["self", "inputs", "lines", "outputs"] (spInitG C CH CL CU)) : HasMX P w K mg base 8 C "turned" ["self"] (spTurnedB C CT) := by
  refine ⟨f, fd, F.okX sc_Sums_turned (fun vs H Q E h => ?_) (fun cdv A outer s H vs Q E hr h => ?_), M, b⟩
  · obtain ⟨a, _, _, _, rfl, _⟩ := h
    rfl
  obtain ⟨a, ins, outs, ds, rfl, ⟨dx, I, L, O, ts, h1, h2, h3, h4, h5⟩, li, ld, lo, tI, tN, told, hout, h⟩ := h
  have TK : Takes (cxOf (L2.CX P w) P w K mg base N_Sums_turned "Sums.turned" (defScope s_Sums_turned) f cdv A outer s H E) (fun cls d _ H => E cls d H) := takes_of rfl rfl rfl rfl
  refine ⟨_, (pss_cons (ps_set (i := 1) sc_Sums_turned.nd rfl (Or.inl rfl) (pe_op op_cat (pe_callTy call_list_of (by rfl) B.list bb_list (pa_cons (L2.pe_fld (pv 0) rfl) pa_nil)) (pe_lc (own := [("name", 2), ("_", 3)]) (g := gTup K 2 (gCons (gName 2) (gCons (gName 3) gNil))) (tt := tYes) (by rfl) sc_Sums_turned.nd (pi_tup (L2.pe_fld (pv 0) rfl)) (blkOk_by (own := [("name", 2), ("_", 3)]) (N := N_Sums_turned) (sc := defScope s_Sums_turned) (by decide +kernel)) (fun _ _ _ _ _ => (pg_tup rfl (pgs_cons (pg_name (i := 2) sc_Sums_turned.nd rfl (Or.inl rfl)) (pgs_cons (pg_name (i := 3) sc_Sums_turned.nd rfl (Or.inl rfl)) pgs_nil)))) (fun _ _ _ _ _ => pts_nil) (fun _ _ _ _ _ => (pv 2)))))
      (pss_cons (ps_if (pt_cmpR op_gt (pe_callB call_len (by rfl) B.len bb_len (pa_cons (pv 1) pa_nil)) (pe_gint T.m_MOST_LINES (by rfl)) (nomark _))
        (pss_one (ps_raise rfl TK (pmk_err E_TooMany hr (pa_cons (pe_gint T.m_MOST_LINES (by rfl)) pa_nil) (by rfl))))
        pss_nil)
      (pss_cons (ps_set (i := 4) sc_Sums_turned.nd rfl (Or.inl rfl) (pe_own G_new_names (hr.mono (by decide)) (by rfl) (pa_cons (pe_callB call_len (by rfl) B.len bb_len (pa_cons (L2.pe_fld (pv 0) rfl) pa_nil)) (pa_cons (pv 1) pa_nil))))
      (pss_cons (ps_set (i := 5) sc_Sums_turned.nd rfl (Or.inr rfl) (pe_dc (own := [("name", 2)]) (g := gName 2) (tt := tYes) (by rfl) sc_Sums_turned.nd (pi_list (pv 1)) (blkOk_by (own := [("name", 2)]) (N := N_Sums_turned) (sc := defScope s_Sums_turned) (by decide +kernel)) (fun _ _ _ _ _ => (pg_name (i := 2) sc_Sums_turned.nd rfl (Or.inl rfl))) (fun _ _ _ _ _ => pts_nil) (fun _ _ _ _ _ => (pv 2)) (fun _ _ _ _ _ => (pe_lst pa_nil))))
      (pss_cons (ps_for (passes_of rfl) rfl (ZM.pi_zipM K rfl (by rfl) B.zip (pa_cons (pv 4) (pa_cons (L2.pe_fld (pv 0) rfl) pa_nil))) (pg_tup rfl (pgs_cons (pg_name (i := 2) sc_Sums_turned.nd rfl (Or.inl rfl)) (pgs_cons (pg_name (i := 6) sc_Sums_turned.nd rfl (Or.inl rfl)) pgs_nil)))
        (pss_one (ps_expr (pe_bm PySem.F.plainAttrs_list PySem.F.slot_list_append PySem.F.type_list_append mt_append (pe_dget (hu_of hr) (pv 5) (pv 6) (fun _ _ => rfl)) (pa_cons (pe_tup (pa_cons pe_int (pa_cons (pv 2) pa_nil))) pa_nil)))))
      (pss_cons (ps_for (passes_of rfl) rfl (pi_tup (L2.pe_fld (pv 0) rfl)) (pg_tup rfl (pgs_cons (pg_name (i := 2) sc_Sums_turned.nd rfl (Or.inl rfl)) (pgs_cons (pg_name (i := 7) sc_Sums_turned.nd rfl (Or.inl rfl)) pgs_nil)))
        (pss_one (ps_for (passes_of rfl) rfl (pi_tup (pv 7)) (pg_tup rfl (pgs_cons (pg_name (i := 8) sc_Sums_turned.nd rfl (Or.inl rfl)) (pgs_cons (pg_name (i := 9) sc_Sums_turned.nd rfl (Or.inl rfl)) pgs_nil)))
        (pss_one (ps_expr (pe_bm PySem.F.plainAttrs_list PySem.F.slot_list_append PySem.F.type_list_append mt_append (pe_dget (hu_of hr) (pv 5) (pv 9) (fun _ _ => rfl)) (pa_cons (pe_tup (pa_cons (pv 8) (pa_cons (pv 2) pa_nil))) pa_nil)))))))
      (pss_one (ps_ret (pe_mkX MK_Sums (hr.mono (by decide)) (by rfl) (pa_cons (pv 4) (pa_cons (pe_lc (own := [("name", 2)]) (g := gName 2) (tt := tYes) (by rfl) sc_Sums_turned.nd (pi_reversed (by rfl) B.reversed (pa_cons (pv 1) pa_nil)) (blkOk_by (own := [("name", 2)]) (N := N_Sums_turned) (sc := defScope s_Sums_turned) (by decide +kernel)) (fun _ _ _ _ _ => (pg_name (i := 2) sc_Sums_turned.nd rfl (Or.inl rfl))) (fun _ _ _ _ _ => pts_nil) (fun _ _ _ _ _ => (pe_tup (pa_cons (pv 2) (pa_cons (pe_dget (hu_of hr) (pv 5) (pv 2) (fun _ _ => rfl)) pa_nil))))) (pa_cons (L2.pe_fld (pv 0) rfl) pa_nil)))))))))))), ?_⟩
  have lt := plen h5
  -- the names
  refine ⟨_, rfl, a, C, dx, _, _, rfl, h1, R.cl, R.n1, rfl, I, _, rfl, .inr (SqT.of h2), fun l1 n1 => ?_⟩
  have c1 := same_upd (o := .lst (ins.map V.str)) n1
  have e1 : upd H l1 (.lst (ins.map V.str)) l1 = some (.lst (ins.map V.str)) := upd_same
  generalize upd H l1 (.lst (ins.map V.str)) = H1 at c1 e1 ⊢
  refine ⟨_, rfl, a, C, dx, _, _, rfl, c1 _ _ h1, R.cl, R.n2, rfl, L, rfl, ⟨_, SqT.of (c1 _ _ h3)⟩, fun D hD => ?_⟩
  refine lc_it (walk_tup (xs := ts.map V.ref)) (fun i H' => Same H1 H' ∧ H' D = some (.lst (((ds.take i).map nameL).map V.str))) ⟨same_upd hD, upd_same⟩ (fun i H' _ e => SqT.of (e.1 _ _ (c1 _ _ h3))) ?_ ?_
  · rintro i v Ha Hb hi ⟨sa, ea⟩ ⟨rfl, hv⟩
    obtain ⟨t, ht, rfl⟩ := at_map hv
    have hi : i < ds.length := by
      have := (List.getElem?_eq_some_iff.mp ht).1
      omega
    obtain ⟨t', d, ht', hd, hk⟩ := pat h5 hi
    rw [ht] at ht'
    cases ht'
    obtain ⟨x, ps, p0, vs, rfl, g1, _⟩ := hk.shape
    refine ⟨t, _, rfl, SqT.of (sa _ _ (c1 _ _ g1)), rfl, _, _, rfl, _, _, rfl, rfl, rfl, tYes_ok ⟨_, rfl, _, ea, small1000 (by simp; omega), fun c o hc => ?_, ?_⟩⟩
    · rw [upd_ne (ne_of_none hc hD)]
      exact sa _ _ hc
    · rw [upd_same, take_snoc hd]
      simp [nameL]
  rintro H2 ⟨s2, e2⟩
  rw [List.length_map, lt, List.take_length] at e2
  refine ⟨l1, D, _, _, rfl, rfl, s2 _ _ e1, e2, ?_, fun l3 n3 => ?_⟩
  · simp
    exact Nat.le_of_lt (small1000 (by omega))
  have en : ins.map V.str ++ (ds.map nameL).map V.str = (turnN ins ds).map V.str := by
    unfold turnN
    rw [List.map_append]
  rw [en]
  have u3 := same_upd (o := .lst ((turnN ins ds).map V.str)) n3
  have e3 : upd H2 l3 (.lst ((turnN ins ds).map V.str)) l3 = some (.lst ((turnN ins ds).map V.str)) := upd_same
  generalize upd H2 l3 (.lst ((turnN ins ds).map V.str)) = H3 at u3 e3 ⊢
  have s03 := c1.trans (s2.trans u3)
  obtain ⟨ns, hns⟩ : ∃ ns, ns = turnN ins ds := ⟨_, rfl⟩
  rw [← hns] at e3 h hout tN
  refine ⟨_, rfl, .ref l3, ns.length, rfl, .inl ⟨_, SqL.of e3, by rw [List.length_map]⟩, ?_⟩
  rcases h with ⟨big, er⟩ | ⟨small, lu, ok, q⟩
  · exact ⟨_, _, rfl, rfl, _, rfl, ite_of (decide_eq_true (by omega)) ⟨.int 40, rfl, fun d hd => er H3 d s03 hd⟩⟩
  refine ⟨_, _, rfl, rfl, _, rfl, ite_no (by simp; omega) ?_⟩
  refine ⟨_, rfl, a, C, dx, _, _, rfl, s03 _ _ h1, R.cl, R.n3, rfl, .ref O, outs.length, rfl, .inr ⟨_, SqT.of (s03 _ _ h4), by rw [List.length_map]⟩, _, rfl, outs.length, l3, ns, rfl, e3, by omega, lo, fun H4 l4 s4 nl4 e4 => ?_⟩
  have s04 := s03.trans s4
  have e34 := s4 _ _ e3
  obtain ⟨is, his⟩ : ∃ is, is = turnI ins ds outs := ⟨_, rfl⟩
  have e4 : H4 l4 = some (.lst (is.map V.str)) := by
    rw [his]
    unfold turnI
    rw [← hns]
    exact e4
  -- the users, none yet
  refine ⟨_, rfl, l3, rfl, ⟨_, SqL.of e34⟩, fun D5 hD5 => ?_⟩
  refine dc_it (walk_list (xs := ns.map V.str)) (fun i H' => Same H4 H' ∧ ∃ kvs : List (Key × V), H' D5 = some (.dK kvs) ∧ kvs.length ≤ i ∧ UsersAt H4 H' kvs (ns.take i) (fun _ => []) ∧ ∀ n l, valV kvs (.inr n) = some (.ref l) → ∃ o, H' l = some o) ⟨same_upd hD5, [], upd_same, Nat.le_refl _, ⟨fun n hn => by simp at hn, fun n m l h => by cases h⟩, fun n l h => by cases h⟩ (fun i H' _ e => SqL.of (e.1 _ _ e34)) ?_ ?_
  · rintro i v Ha Hb hi ⟨sa, kvs, ek, lk, us, al⟩ ⟨rfl, hv⟩
    obtain ⟨x, hx, rfl⟩ := at_map hv
    have hi' := (List.getElem?_eq_some_iff.mp hx).1
    refine ⟨rfl, tYes_ok ⟨_, rfl, by show 0 ≤ sizeLine; decide, fun u nu => ?_⟩⟩
    have cu := same_upd (o := .lst []) nu
    have eku := cu _ _ ek
    have D5u : u ≠ D5 := (ne_of_none ek nu).symm
    have off : ∀ n, valV kvs (.inr n) ≠ some (.ref u) := fun n h => by
      obtain ⟨o, ho⟩ := al n u h
      rw [nu] at ho
      cases ho
    refine ⟨kvs, .inr x, rfl, eku, small1000 (by omega), fun c o hc => ?_, _, upd_same, ?_, ⟨fun n hn => ?_, fun n m l h1 h2 => ?_⟩, fun n l h => ?_⟩
    · rw [upd_ne (ne_of_none hc hD5)]
      exact cu _ _ (sa _ _ hc)
    · have := length_putK kvs (.inr x) (.ref u)
      omega
    · by_cases e : n = x
      · refine ⟨u, [], by rw [valV_put, if_pos (by rw [e])], by rw [upd_ne D5u]; exact upd_same, .nil, (fun q hq => by cases hq), sa.free nu⟩
      · rw [take_snoc hx] at hn
        have hn' : n ∈ ns.take i := (List.mem_append.mp hn).resolve_right fun z => e (List.mem_singleton.mp z)
        obtain ⟨l, vs, h1, h2, h3, h4, h5⟩ := us.ex n hn'
        cases h3
        exact ⟨l, [], by rw [valV_put, if_neg (by simpa using e)]; exact h1, by rw [upd_ne (ne_of (cu _ _ h2) eku (by intro q; cases q))]; exact cu _ _ h2, .nil, h4, h5⟩
    · rw [valV_put] at h1 h2
      by_cases e1 : n = x
      · by_cases e2 : m = x
        · rw [e1, e2]
        · rw [if_pos (by rw [e1])] at h1
          rw [if_neg (by simpa using e2)] at h2
          cases h1
          exact absurd h2 (off m)
      · rw [if_neg (by simpa using e1)] at h1
        by_cases e2 : m = x
        · rw [if_pos (by rw [e2])] at h2
          cases h2
          exact absurd h1 (off n)
        · rw [if_neg (by simpa using e2)] at h2
          exact us.one n m l h1 h2
    · rw [valV_put] at h
      by_cases e : n = x
      · rw [if_pos (by rw [e])] at h
        cases h
        exact ⟨_, by rw [upd_ne D5u]; exact upd_same⟩
      · rw [if_neg (by simpa using e)] at h
        obtain ⟨o, ho⟩ := al n l h
        by_cases z : l = D5
        · exact ⟨_, by rw [z]; exact upd_same⟩
        · exact ⟨o, by rw [upd_ne z]; exact cu _ _ ho⟩
  rintro H5 ⟨s5, kvs, ek, lk, us, al⟩
  rw [List.length_map] at us lk
  rw [List.take_length] at us
  clear al
  have s05 := s04.trans s5
  obtain ⟨zs, hzs⟩ : ∃ zs, zs = is.zip outs := ⟨_, rfl⟩
  have iS : ∀ x ∈ is, x.length ≤ 1000 := fun x hx => by
    rw [his] at hx
    unfold turnI newF at hx
    exact opts_short x (List.mem_filter.mp (List.mem_of_mem_take hx)).1
  have e45 := s5 _ _ e4
  have hO5 := s05 _ _ h4
  have bnd : ∀ {Hx : Hp} {u : Usr} {n : Str} {l : Addr} {vs : List V}, UsersAt H4 Hx kvs ns u → n ∈ ns → valV kvs (.inr n) = some (.ref l) → Hx l = some (.lst vs) → vs.length = (u n).length := fun U hn h1 h2 => by
    obtain ⟨k, ws, w1, w2, w3, _, _⟩ := U.ex _ hn
    rw [h1] at w1
    cases w1
    rw [h2] at w2
    cases w2
    exact plen w3
  refine ⟨_, rfl, _, rfl, a, C, dx, _, _, rfl, s05 _ _ h1, R.cl, R.n3, rfl, l4, O, _, _, rfl, SqL.of e45, SqT.of hO5, for_it (ZM.walk_zipM (K := K) (xs := is.map V.str) (ys := outs.map V.str) (n := zs.length) (by rw [hzs]; simp)) (fun i σ H' => ∃ y2 y3 y6 y7 y8 y9, σ = [some (.ref a), some (.ref l3), y2, y3, some (.ref l4), some (.ref D5), y6, y7, y8, y9] ∧ Same H4 H' ∧ H' D5 = some (.dK kvs) ∧ UsersAt H4 H' kvs ns (usrO (zs.take i) fun _ => []))
    ⟨_, _, _, _, _, _, rfl, s5, ek, us⟩ (fun i σ H' _ e => by obtain ⟨_, _, _, _, _, _, _, e, _⟩ := e; exact ⟨SqL.of (e _ _ e4), SqT.of ((s04.trans e) _ _ h4)⟩) ?_ ?_⟩
  · rintro i v σ Ha Hb hi ⟨y2, y3, y6, y7, y8, y9, rfl, sa, ea, ua⟩ ⟨U, v1, v2, rfl, hU, rfl, e1, e2⟩
    obtain ⟨nm, hnm, rfl⟩ := at_map (show (is.map V.str)[i]? = some v1 from e1)
    obtain ⟨o, ho, rfl⟩ := at_map (show (outs.map V.str)[i]? = some v2 from e2)
    have hz : zs[i]? = some (nm, o) := by
      rw [hzs, List.getElem?_zip_eq_some]
      exact ⟨hnm, ho⟩
    have sU := same_upd (o := .tup [.str nm, .str o]) hU
    have om := hout o (List.mem_of_getElem? ho)
    have uU := ua.same sU
    obtain ⟨l, vs, w1, w2, w3, w4, w5⟩ := uU.ex o om
    refine ⟨U, [.str nm, .str o], rfl, SqT.of upd_same, rfl, .str nm, [.str o], rfl, .str o, [], rfl, rfl, ?_⟩
    generalize upd Ha U (.tup [.str nm, .str o]) = Hc at sU uU w2 w3 ⊢
    have eac := sU _ _ ea
    refine ⟨_, rfl, _, rfl, D5, .ref l, rfl, by rw [← w1]; exact DGet.k (k := .inr o) eac, ?_⟩
    refine ⟨.inl ⟨rfl, _, SqL.of w2⟩, ?_⟩
    refine ⟨_, rfl, by show 2 ≤ sizeLine; decide, fun pa npa => ?_⟩
    have cp := same_upd (o := .tup [.int 1, .str nm]) npa
    have epa : upd Hc pa (.tup [.int 1, .str nm]) pa = some (.tup [.int 1, .str nm]) := upd_same
    generalize upd Hc pa (.tup [.int 1, .str nm]) = Hd at cp epa ⊢
    have lz : (zs.take i).length ≤ 100 := by
      have : zs.length ≤ outs.length := by
        rw [hzs, List.length_zip]
        exact Nat.min_le_right _ _
      rw [List.length_take]
      omega
    have lvs := plen w3
    have lU := usrO_len0 (ps := zs.take i) (n := o)
    refine ⟨l, vs, .ref pa, rfl, rfl, cp _ _ w2, small1000 (by omega), _, _, _, _, _, _, rfl, fun c oo hc => ?_, ?_, ?_⟩
    · rw [upd_ne (ne_of_none hc w5)]
      exact cp _ _ (sU _ _ (sa _ _ hc))
    · rw [upd_ne (ne_of eac w2 (by intro q; cases q))]
      exact cp _ _ eac
    · rw [take_snoc hz, usrO_snoc]
      exact (uU.same cp).add w1 (cp _ _ w2) epa (iS nm (List.mem_of_getElem? hnm))
  rintro σ H6 ⟨y2, y3, y6, y7, y8, y9, rfl, s6, e6, u6⟩
  rw [List.take_length] at u6
  obtain ⟨u0, hu0⟩ : ∃ u0, u0 = usrO zs fun _ => [] := ⟨_, rfl⟩
  rw [← hu0] at u6
  have s06 := s04.trans s6
  have lu0 : ∀ n, (u0 n).length ≤ 100 := fun n => by
    have h1 := usrO_len0 (ps := zs) (n := n)
    have h3 : zs.length ≤ outs.length := by
      rw [hzs, List.length_zip]
      exact Nat.min_le_right _ _
    rw [hu0]
    omega
  have hpl : ∀ d ∈ ds, (partsD d).length ≤ 100 := fun d hd => by
    obtain ⟨k, hk⟩ := List.mem_iff_getElem?.mp hd
    obtain ⟨t, d', _, hd', hka⟩ := pat h5 (List.getElem?_eq_some_iff.mp hk).1
    rw [hk] at hd'
    cases hd'
    obtain ⟨x, ps, p0, vs, rfl, _, _, _, _, l, _⟩ := hka.shape
    exact l
  -- the users of the lines
  refine ⟨_, rfl, a, C, dx, _, _, rfl, s06 _ _ h1, R.cl, R.n2, rfl, L, rfl, ⟨_, SqT.of (s06 _ _ h3)⟩, for_it (walk_tup (xs := ts.map V.ref)) (fun i σ H' => ∃ y2 y3 y6 y7 y8 y9, σ = [some (.ref a), some (.ref l3), y2, y3, some (.ref l4), some (.ref D5), y6, y7, y8, y9] ∧ Same H4 H' ∧ H' D5 = some (.dK kvs) ∧ UsersAt H4 H' kvs ns (usrL (ds.take i) u0))
    ⟨_, _, _, _, _, _, rfl, s6, e6, u6⟩ (fun i σ H' _ e => by obtain ⟨_, _, _, _, _, _, _, e, _⟩ := e; exact SqT.of ((s04.trans e) _ _ h3)) ?_ ?_⟩
  · rintro i v σ Ha Hb hi ⟨y2, y3, y6, y7, y8, y9, rfl, sa, ea, ua⟩ ⟨rfl, hv⟩
    obtain ⟨t, ht, rfl⟩ := at_map hv
    have hi : i < ds.length := by
      have := (List.getElem?_eq_some_iff.mp ht).1
      omega
    obtain ⟨t', d, ht', hd, hk⟩ := pat h5 hi
    rw [ht] at ht'
    cases ht'
    obtain ⟨x, ps, p0, vs, rfl, g1, g2, g3, lx, lps, num⟩ := hk.shape
    have lv := plen g3
    have s0a := s04.trans sa
    refine ⟨t, _, rfl, SqT.of (s0a _ _ g1), rfl, _, _, rfl, _, _, rfl, rfl, ?_⟩
    obtain ⟨ui, hui⟩ : ∃ ui, ui = usrL (ds.take i) u0 := ⟨_, rfl⟩
    rw [← hui] at ua
    have lui : ∀ n, (ui n).length ≤ 5100 := fun n => by
      have h1 := usrL_len (ds := ds.take i) (u := u0) (n := n) fun d hd => hpl d (List.mem_of_mem_take hd)
      have h2 := lu0 n
      have h3 : (ds.take i).length ≤ 50 := by
        rw [List.length_take]
        omega
      rw [hui]
      omega
    have tk : usrL (ds.take (i + 1)) u0 = ps.foldl (addP x) ui := by
      rw [take_snoc hd, usrL_snoc, hui]
      rfl
    refine ⟨_, rfl, p0, rfl, ⟨_, SqT.of (s0a _ _ g2)⟩, for_it (walk_tup (xs := vs)) (fun k σ H' => ∃ y3 y6 y8 y9, σ = [some (.ref a), some (.ref l3), some (.str x), y3, some (.ref l4), some (.ref D5), y6, some (.ref p0), y8, y9] ∧ Same H4 H' ∧ H' D5 = some (.dK kvs) ∧ UsersAt H4 H' kvs ns ((ps.take k).foldl (addP x) ui))
      ⟨_, _, _, _, rfl, sa, ea, ua⟩ (fun k σ H' _ e => by obtain ⟨_, _, _, _, _, e, _⟩ := e; exact SqT.of ((s04.trans e) _ _ g2)) ?_ ?_⟩
    · rintro k v σ Hc Hd hk ⟨y3, y6, y8, y9, rfl, sc, ec, uc⟩ ⟨rfl, hv⟩
      obtain ⟨v', q, hv', hq, hp⟩ := pat g3 (by omega : k < ps.length)
      rw [hv] at hv'
      cases hv'
      have mq := List.mem_of_getElem? hq
      obtain ⟨f0, y, rfl⟩ := num q mq
      obtain ⟨c1, rfl, hc1, _⟩ := hp
      have yn : y ∈ ns := by
        rw [hns]
        unfold turnN
        rcases told i _ hd _ mq with h | h
        · exact List.mem_append_left _ h
        · exact List.mem_append_right _ (by
            obtain ⟨d', h1, h2⟩ := List.mem_map.mp h
            exact List.mem_map.mpr ⟨d', List.mem_of_mem_take h1, h2⟩)
      obtain ⟨l, ws, w1, w2, w3, w4, w5⟩ := uc.ex y yn
      have s0c := s04.trans sc
      refine ⟨c1, _, rfl, SqT.of (s0c _ _ hc1), rfl, _, _, rfl, _, _, rfl, rfl, ?_⟩
      refine ⟨_, rfl, _, rfl, D5, .ref l, rfl, by rw [← w1]; exact DGet.k (k := .inr y) ec, ?_⟩
      refine ⟨.inl ⟨rfl, _, SqL.of w2⟩, ?_⟩
      refine ⟨_, rfl, _, rfl, by show 2 ≤ sizeLine; decide, fun pa npa => ?_⟩
      have cp := same_upd (o := .tup [.int f0, .str x]) npa
      have epa : upd Hd pa (.tup [.int f0, .str x]) pa = some (.tup [.int f0, .str x]) := upd_same
      generalize upd Hd pa (.tup [.int f0, .str x]) = He at cp epa ⊢
      have lws := plen w3
      have lpu := parts_len (x := x) (qs := ps.take k) (u := ui) (n := y)
      have lyu := lui y
      have lpk : (ps.take k).length ≤ 100 := by
        rw [List.length_take]
        omega
      refine ⟨l, ws, .ref pa, rfl, rfl, cp _ _ w2, LcN.small100 (by omega), _, _, _, _, rfl, fun c oo hc => ?_, ?_, ?_⟩
      · rw [upd_ne (ne_of_none hc w5)]
        exact cp _ _ (sc _ _ hc)
      · rw [upd_ne (ne_of ec w2 (by intro q; cases q))]
        exact cp _ _ ec
      · rw [take_snoc hq, List.foldl_append]
        exact (uc.same cp).add w1 (cp _ _ w2) epa lx
    · rintro σ Hc ⟨y3, y6, y8, y9, rfl, sc, ec, uc⟩
      rw [lv, List.take_length, ← tk] at uc
      exact ⟨_, _, _, _, _, _, rfl, sc, ec, uc⟩
  · rintro σ H7 ⟨y2, y3, y6, y7, y8, y9, rfl, s7, e7, u7⟩
    rw [List.length_map, lt, List.take_length] at u7
    have hu : usrL ds u0 = turnU ins ds outs := by
      rw [hu0, hzs, his]
      rfl
    rw [hu] at u7
    have s07 := s04.trans s7
    have e37 := s7 _ _ e34
    refine ⟨_, rfl, _, rfl, l3, _, rfl, SqL.of e37, fun D6 hD6 => ?_⟩
    refine lc_it (walk_rev (xs := ns.map V.str)) (fun i H' => Same H7 H' ∧ ∃ rs : List Addr, H' D6 = some (.lst (rs.map V.ref)) ∧ Paired (fun r n => ∃ l, H' r = some (.tup [.str n, .ref l]) ∧ valV kvs (.inr n) = some (.ref l)) rs (ns.reverse.take i)) ⟨same_upd hD6, [], upd_same, .nil⟩ (fun i H' _ e => SqL.of (e.1 _ _ e37)) ?_ ?_
    · rintro i v Ha Hb hi ⟨sa, rs, ea, pr⟩ ⟨rfl, hv⟩
      obtain ⟨n, hn, rfl⟩ := at_map hv
      rw [List.length_map] at hn hi
      have hr2 : ns.reverse[i]? = some n := by rw [List.getElem?_reverse hi]; exact hn
      have mn := List.mem_of_getElem? hn
      obtain ⟨l, ws, w1, w2, _⟩ := u7.ex n mn
      refine ⟨rfl, tYes_ok ⟨_, rfl, _, rfl, _, rfl, D5, .ref l, rfl, by rw [← w1]; exact DGet.k (k := .inr n) (sa _ _ e7), by show 2 ≤ sizeLine; decide, fun r nr => ?_⟩⟩
      have c1 := same_upd (o := .tup [.str n, .ref l]) nr
      have eD := c1 _ _ ea
      have lr := plen pr
      refine ⟨_, eD, small1000 ?_, fun c o hc => ?_, rs ++ [r], ?_, ?_⟩
      · rw [List.length_map, lr, List.length_take]
        omega
      · rw [upd_ne (ne_of_none hc hD6)]
        exact c1 _ _ (sa _ _ hc)
      · rw [upd_same]
        simp
      · rw [take_snoc hr2]
        have pt : ∀ {c : Addr} {xs : List V}, upd Hb r (.tup [.str n, .ref l]) c = some (.tup xs) → upd (upd Hb r (.tup [.str n, .ref l])) D6 (.lst (rs.map V.ref ++ [.ref r])) c = some (.tup xs) := fun h => by
          rw [upd_ne (ne_of h eD (by intro q; cases q))]
          exact h
        exact (pmono (fun c m ⟨k, z1, z2⟩ => ⟨k, pt (c1 _ _ z1), z2⟩) pr).snoc ⟨l, pt upd_same, w1⟩
    · rintro H8 ⟨s8, rs, e8, pr⟩
      rw [List.length_map, List.take_of_length_le (by simp)] at pr
      have s08 := s07.trans s8
      have u8 := u7.same s8
      refine ⟨_, rfl, a, C, dx, _, _, rfl, s08 _ _ h1, R.cl, R.n1, rfl, fun sc dy nsc ndy nee => ?_⟩
      have ms := made_same (C := C) nsc ndy
      have l_is : is.length ≤ 100 := by
        rw [his]
        unfold turnI newF
        rw [List.length_take]
        omega
      have u9 := u8.same ms
      have prL : Paired (LineAt (upd (upd H8 dy (.own sc)) sc (.ins C dy []))) (rs.map V.ref) (turnD ins ds outs) := by
        unfold turnD
        rw [← hns]
        refine pmap2 (pmem pr fun r n hn ⟨l, z1, z2⟩ => ?_)
        have mn : n ∈ ns := List.mem_reverse.mp hn
        obtain ⟨k, ws, w1, w2, w3, w4, w5⟩ := u9.ex n mn
        rw [z2] at w1
        cases w1
        exact ⟨r, l, ws, rfl, ms _ _ z1, w2, w3, tN n mn, lu n⟩
      have ok' : tellF is (turnD ins ds outs) ins = .ok := by rw [his]; exact ok
      refine ⟨sc, dy, l4, D6, I, is, ins, rs.map V.ref, turnD ins ds outs, rfl, upd_same, ms _ _ (s8 _ _ (s7 _ _ e4)), l_is, iS, ms _ _ e8, prL, ?_, .inr (ms _ _ (s08 _ _ h2)), li, tI, ?_⟩
      · unfold turnD
        rw [List.length_map, List.length_reverse, ← hns]
        omega
      · unfold SayG
        rw [ok']
        exact fun H' k bg => ⟨rfl, q H' sc (fun c o e => k c o (ne_of_none (s08 _ _ e) nsc) (ms _ _ (s08 _ _ e))) (s08.free nsc) (by rw [← his]; exact bg)⟩
end
end My
/-! the law's own table of a bench -/
namespace My
open PySem PySem.Spec PyProof.Rows L2
theorem RowsIn.putN {H : Hp} {n : Nat} {kvs : List (Key × V)} {e : RowE} {l : Addr} {x : Str} {r : List Int} (h : RowsIn H n kvs e) (hl : H l = some (.lst (r.map V.int))) (hr : r.length = n) : RowsIn H n (putK kvs (.inr x) (.ref l)) (putE e x r) := fun y q k => by
  by_cases z : y = x
  · have : putE e x r y = some r := by simp [putE, z]
    rw [this] at k
    cases k
    exact ⟨l, by rw [valV_put, if_pos (by rw [z])], hl, hr⟩
  · have : putE e x r y = e y := by simp [putE, z]
    rw [this] at k
    obtain ⟨c, h1, h2, h3⟩ := h y q k
    exact ⟨c, by rw [valV_put, if_neg (by simpa using z)]; exact h1, h2, h3⟩
def eqR (ins : List Str) (x : Str) : List Int := ins.map fun o => if x = o then 1 else 0
theorem eqR_unit {ins : List Str} (nd : ins.Nodup) {k : Nat} {x : Str} (hk : ins[k]? = some x) : eqR ins x = unitR ins.length k := by
  obtain ⟨lt, ex⟩ := List.getElem?_eq_some_iff.mp hk
  refine List.ext_getElem (by simp [eqR, unitR]) fun j h1 h2 => ?_
  have hj : j < ins.length := by simpa [eqR] using h1
  simp only [eqR, unitR, List.getElem_map, List.getElem_range]
  by_cases z : j = k
  · subst z
    simp [ex]
  · have : ¬ x = ins[j] := fun q => by
      have pw := List.pairwise_iff_getElem.mp nd
      rcases Nat.lt_or_gt_of_ne z with h | h
      · exact pw j k hj lt h (by rw [← q, ex])
      · exact pw k j lt hj h (by rw [← q, ex])
    simp [this, z]
theorem merge_env {H : Hp} {K : PySem.W.Frag} {ins : List Str} (nd : ins.Nodup) : ∀ {ps : List Addr} {xs : List Str} {acc : List (Key × V)} {e : RowE} {k : Nat}, Paired (fun p x => ∃ l, H p = some (.tup [.str x, .ref l]) ∧ H l = some (.lst ((eqR ins x).map V.int))) ps xs → (∀ j x, xs[j]? = some x → ins[k + j]? = some x) → RowsIn H ins.length acc e →
    ∃ kvs : List (Key × V), Paired (fun p kv => SqT K H p [kV kv.1, kv.2]) ps kvs ∧ RowsIn H ins.length (mergeK acc kvs) (env0 ins.length k xs e) ∧ kvs.length = xs.length
  | _, _, acc, e, k, .nil, _, ev => ⟨[], .nil, ev, rfl⟩
  | _, _, acc, e, k, .cons (b := x) h t, at', ev => by
    obtain ⟨l, h1, h2⟩ := h
    have hk : ins[k]? = some x := at' 0 x rfl
    have er := eqR_unit nd hk
    have ev2 : RowsIn H ins.length (putK acc (.inr x) (.ref l)) (putE e x (unitR ins.length k)) := ev.putN (by rw [← er]; exact h2) (by simp [unitR])
    obtain ⟨kvs, p1, p2, p3⟩ := merge_env (k := k + 1) nd t (fun j y hy => by rw [show k + 1 + j = k + (j + 1) by omega]; exact at' (j + 1) y hy) ev2
    exact ⟨(.inr x, .ref l) :: kvs, .cons (SqT.of h1) p1, p2, by simp [p3]⟩
def spBTab : Sp := fun vs H Q _ => ∃ (b S L O : Addr) (ins outs : List Str) (ls : List V) (ds : List LineD), vs = [.ref b] ∧ H b = some (.tup [.ref S, .ref L, .ref O]) ∧ H S = some (.lst (ins.map V.str)) ∧ H L = some (.lst ls) ∧ Paired (LineAt H) ls ds ∧ H O = some (.lst (outs.map V.str)) ∧
  (∀ d ∈ ds, ∃ x ps, d = .line x ps ∧ ∀ q ∈ ps, ∃ f y, q = .num f y) ∧ ins.length ≤ 50 ∧ ds.length ≤ 50 ∧ outs.length ≤ 100 ∧ ins.Nodup ∧ Told ins ds ∧ Slim ds ∧ (∀ o ∈ outs, o ∈ ins ∨ o ∈ ds.map nameL) ∧
  ∀ (H' : Hp) (l : Addr) (rs : List Addr), Same H H' → H l = none → H' l = some (.lst (rs.map V.ref)) → Paired (fun r (xs : List Int) => H' r = some (.lst (xs.map V.int))) rs (tableF ins ds outs) → Q (.ref l) H'
section
variable {P : Program} {w : World} {K : PySem.W.Frag} {mg : Str → Option Value} {base : Heap}
theorem ok_l_btab (F : Fn K mg "_law_bench_table" s_l_bench_table ["_law_bench_here"]) (B : Blt mg) : Has P w K mg base 1 "_law_bench_table" ["_law_bench_here"] spBTab := by
  refine F.has sc_l_bench_table (fun vs H Q E h => ?_) (fun f cdv A outer s H vs Q E hr h => ?_)
  · obtain ⟨a, _, _, _, _, _, _, _, rfl, _⟩ := h
    rfl
  obtain ⟨b, S, L, O, ins, outs, ls, ds, rfl, hb, hS, hL, pr, hO, good, li, ld, lo, nd, told, slim, hout, q⟩ := h
  refine ⟨_, (pss_cons (ps_asg (pv 0) (pg_tup rfl (pgs_cons (pg_name (i := 1) sc_l_bench_table.nd rfl (Or.inr rfl)) (pgs_cons (pg_name (i := 2) sc_l_bench_table.nd rfl (Or.inl rfl)) (pgs_cons (pg_name (i := 3) sc_l_bench_table.nd rfl (Or.inl rfl)) pgs_nil)))))
      (pss_cons (ps_set (i := 4) sc_l_bench_table.nd rfl (Or.inr rfl) (pe_callTy (call_dictP (by rfl)) (by rfl) B.dict bb_dict (pa_cons (pe_lc (own := [("_law_name", 6)]) (g := gName 6) (tt := tYes) (by rfl) sc_l_bench_table.nd (pi_list (pv 1)) (blkOk_by (own := [("_law_name", 6)]) (N := N_l_bench_table) (sc := defScope s_l_bench_table) (by decide +kernel)) (fun _ _ _ _ _ => (pg_name (i := 6) sc_l_bench_table.nd rfl (Or.inr rfl))) (fun _ _ _ _ _ => pts_nil) (fun _ _ _ _ _ => (pe_tup (pa_cons (pv 6) (pa_cons (pe_lc (own := [("_law_other", 5)]) (g := gName 5) (tt := tYes) (by rfl) sc_l_bench_table.nd (NK.pi_listK K rfl (pv 1)) (blkOk_by (own := [("_law_other", 5)]) (N := N_l_bench_table) (by rfl)) (fun _ _ _ _ _ => (pg_name (i := 5) sc_l_bench_table.nd rfl (Or.inl rfl))) (fun _ _ _ _ _ => pts_nil) (fun _ _ _ _ _ => (pe_callTy call_int1 (by rfl) B.int bb_int (pa_cons (pe_cmpR op_eq (pv 6) (pv 5) (nomark _)) pa_nil)))) pa_nil))))) pa_nil)))
      (pss_cons (ps_for PassesOwn.never rfl (pi_list (pv 2)) (pg_tup rfl (pgs_cons (pg_name (i := 6) sc_l_bench_table.nd rfl (Or.inl rfl)) (pgs_cons (pg_name (i := 7) sc_l_bench_table.nd rfl (Or.inl rfl)) pgs_nil)))
        (pss_cons (ps_set (i := 8) sc_l_bench_table.nd rfl (Or.inl rfl) (pe_op op_rep (pe_lst (pa_cons pe_int pa_nil)) (pe_callB call_len (by rfl) B.len bb_len (pa_cons (pv 1) pa_nil))))
      (pss_cons (ps_for PassesOwn.never rfl (pi_list (pv 7)) (pg_tup rfl (pgs_cons (pg_name (i := 9) sc_l_bench_table.nd rfl (Or.inr rfl)) (pgs_cons (pg_name (i := 10) sc_l_bench_table.nd rfl (Or.inl rfl)) pgs_nil)))
        (pss_one (ps_setLc (i := 8) (own := [("_law_a", 11), ("_law_b", 12)]) (g := gTup K 2 (gCons (gName 11) (gCons (gName 12) gNil))) (tt := tYes) (by rfl) sc_l_bench_table.nd rfl rfl (sw_true rfl rfl rfl (by decide +kernel)) (RZ.pi_zipA (by rfl) B.zip (pa_cons (pv 8) (pa_cons (pe_dget (hu_of hr) (pv 4) (pv 10) (fun _ _ => rfl)) pa_nil))) (blkOk_by (own := [("_law_a", 11), ("_law_b", 12)]) (N := N_l_bench_table) (sc := defScope s_l_bench_table) (by decide +kernel)) (fun _ _ _ _ _ => (pg_tup rfl (pgs_cons (pg_name (i := 11) sc_l_bench_table.nd rfl (Or.inl rfl)) (pgs_cons (pg_name (i := 12) sc_l_bench_table.nd rfl (Or.inl rfl)) pgs_nil)))) (fun _ _ _ _ _ => pts_nil) (fun _ _ _ _ _ => (pe_op op_add (pv 11) (pe_op op_mul (pv 9) (pv 12)))))))
      (pss_one (ps_dput (hu_of hr) (pv 4) (pv 6) (pv 8) (by rfl))))))
      (pss_one (ps_ret (pe_lc (own := [("_law_name", 6)]) (g := gName 6) (tt := tYes) (by rfl) sc_l_bench_table.nd (pi_list (pv 3)) (blkOk_by (own := [("_law_name", 6)]) (N := N_l_bench_table) (sc := defScope s_l_bench_table) (by decide +kernel)) (fun _ _ _ _ _ => (pg_name (i := 6) sc_l_bench_table.nd rfl (Or.inl rfl))) (fun _ _ _ _ _ => pts_nil) (fun _ _ _ _ _ => (pe_dget (hu_of hr) (pv 4) (pv 6) (fun _ _ => rfl))))))))), ?_⟩
  refine ⟨_, rfl, b, _, rfl, SqT.of hb, rfl, _, _, rfl, _, _, rfl, _, _, rfl, rfl, ?_⟩
  have lv := plen pr
  refine ⟨_, rfl, S, rfl, ⟨_, SqL.of hS⟩, fun D1 hD1 => ?_⟩
  refine lc_it (walk_list (xs := ins.map V.str)) (fun i H' => Same H H' ∧ ∃ ps : List Addr, H' D1 = some (.lst (ps.map V.ref)) ∧ Paired (fun p x => ∃ l, H' p = some (.tup [.str x, .ref l]) ∧ H' l = some (.lst ((eqR ins x).map V.int)) ∧ l ≠ D1) ps (ins.take i)) ⟨same_upd hD1, [], upd_same, .nil⟩ (fun i H' _ e => SqL.of (e.1 _ _ hS)) ?_ ?_
  · rintro i v Ha Hb hi ⟨sa, ps, ea, pp⟩ ⟨rfl, hv⟩
    obtain ⟨x, hx, rfl⟩ := at_map hv
    refine ⟨rfl, tYes_ok ⟨_, rfl, _, rfl, S, rfl, ⟨_, SqL.of (sa _ _ hS)⟩, fun D2 hD2 => ?_⟩⟩
    refine lc_it (walk_list (xs := ins.map V.str)) (fun j H' => Same Hb H' ∧ H' D2 = some (.lst ((eqR (ins.take j) x).map V.int))) ⟨same_upd hD2, upd_same⟩ (fun i H' _ e => SqL.of (e.1 _ _ (sa _ _ hS))) ?_ ?_
    · rintro j v Hc Hd hj ⟨sc, ec⟩ ⟨rfl, hv⟩
      obtain ⟨y, hy, rfl⟩ := at_map hv
      refine ⟨rfl, tYes_ok ?_⟩
      refine ⟨_, rfl, _, rfl, rfl, .inr ⟨_, rfl, _, ec, small1000 (by simp [eqR]; omega), fun c o hc => ?_, ?_⟩⟩
      · rw [upd_ne (ne_of_none hc hD2)]
        exact sc _ _ hc
      · rw [upd_same, take_snoc hy]
        have e6 : (if decide (V.str x = V.str y) = true then (1 : Int) else 0) = if x = y then 1 else 0 := by
          by_cases z : x = y
          · subst z
            simp
          · have : ¬ V.str x = V.str y := fun q => z (V.str.inj q)
            rw [decide_eq_false this, if_neg z]
            rfl
        rw [e6]
        simp [eqR]
    · rintro Hc ⟨sc, ec⟩
      rw [List.length_map, List.take_length] at ec
      refine ⟨by show 2 ≤ sizeLine; decide, fun p np => ?_⟩
      have cp := same_upd (o := .tup [.str x, .ref D2]) np
      have scp := sc.trans cp
      have eD := scp _ _ ea
      have n2 : D2 ≠ D1 := (ne_of_none ea hD2).symm
      have lp := plen pp
      have hi' := (List.getElem?_eq_some_iff.mp hx).1
      refine ⟨_, eD, small1000 ?_, fun c o hc => ?_, ps ++ [p], ?_, ?_⟩
      · rw [List.length_map, lp, List.length_take]
        omega
      · rw [upd_ne (ne_of_none hc hD1)]
        exact scp _ _ (sa _ _ hc)
      · rw [upd_same]
        simp
      · rw [take_snoc hx]
        have pt : ∀ {c : Addr} {xs : List V}, upd Hc p (.tup [.str x, .ref D2]) c = some (.tup xs) → upd (upd Hc p (.tup [.str x, .ref D2])) D1 (.lst (ps.map V.ref ++ [.ref p])) c = some (.tup xs) := fun h => by
          rw [upd_ne (ne_of h eD (by intro q; cases q))]
          exact h
        refine (pmono (fun c y ⟨l, z1, z2, z3⟩ => ⟨l, pt (scp _ _ z1), by rw [upd_ne z3]; exact scp _ _ z2, z3⟩) pp).snoc ⟨D2, pt upd_same, by rw [upd_ne n2]; exact cp _ _ ec, n2⟩
  · rintro H1 ⟨s1, ps, e1, pp⟩
    rw [List.length_map, List.take_length] at pp
    obtain ⟨kvs, k1, k2, k3⟩ := merge_env (K := (cxOf CX0 P w K mg base N_l_bench_table "_law_bench_table" (defScope s_l_bench_table) f cdv A outer s H E).nox.K) nd (acc := []) (e := fun _ => none) (k := 0) (pmono (fun p x ⟨l, z1, z2, _⟩ => ⟨l, z1, z2⟩) pp) (fun j x h => by rw [Nat.zero_add]; exact h) (fun y r h => by cases h)
    refine ⟨D1, ps, kvs, rfl, SqL.of e1, k1, fun D hD => ?_⟩
    have s2 := same_upd (H := H1) (o := .dK (mergeK [] kvs)) hD
    have eD : upd H1 D (.dK (mergeK [] kvs)) D = some (.dK (mergeK [] kvs)) := upd_same
    have ev0 := k2.same s2
    have lk0 := length_mergeK kvs []
    generalize mergeK [] kvs = kv0 at s2 eD ev0 lk0 k2 ⊢
    generalize upd H1 D (.dK kv0) = H2 at s2 eD ev0 ⊢
    have s02 := s1.trans s2
    obtain ⟨n, hn⟩ : ∃ n, n = ins.length := ⟨_, rfl⟩
    obtain ⟨e0, he0⟩ : ∃ e0, e0 = env0 ins.length 0 ins (fun _ => none) := ⟨_, rfl⟩
    rw [← he0, ← hn] at ev0
    have dom0 : ∀ y, y ∈ ins → (e0 y).isSome = true := fun y hy => by
      rw [he0]
      exact env0_some (.inl hy)
    have hL2 := s02 _ _ hL
    refine ⟨_, rfl, L, rfl, ⟨_, SqL.of hL2⟩, for_it (walk_list (xs := ls)) (fun i σ H' => ∃ y5 y6 y7 y8 y9 y10 y11 y12, σ = [some (.ref b), some (.ref S), some (.ref L), some (.ref O), some (.ref D), y5, y6, y7, y8, y9, y10, y11, y12] ∧ Same H1 H' ∧ ∃ kvs : List (Key × V), H' D = some (.dK kvs) ∧ kvs.length ≤ ins.length + i ∧ RowsIn H' n kvs (envL n (ds.take i) e0))
      ⟨_, _, _, _, _, _, _, _, rfl, s2, kv0, eD, by simp at lk0; omega, ev0⟩ (fun i σ H' _ e => by obtain ⟨_, _, _, _, _, _, _, _, _, e, _⟩ := e; exact SqL.of ((s1.trans e) _ _ hL)) ?_ ?_⟩
    · rintro i v σ Ha Hb hi ⟨y5, y6, y7, y8, y9, y10, y11, y12, rfl, sa, kvs, ek, lk, ev⟩ ⟨rfl, hv⟩
      obtain ⟨v', d, hv', hd, hp⟩ := pat pr (by omega : i < ds.length)
      rw [hv] at hv'
      cases hv'
      obtain ⟨x, ps, rfl, num⟩ := good d (List.mem_of_getElem? hd)
      obtain ⟨c0, p0, vs, rfl, h0, hp0, prp, lx, lps⟩ := hp
      have lvs := plen prp
      have s0a := s1.trans sa
      refine ⟨c0, _, rfl, SqT.of (s0a _ _ h0), rfl, _, _, rfl, _, _, rfl, rfl, ?_⟩
      refine ⟨by show 1 ≤ sizeLine; decide, fun z nz => ?_⟩
      have cz := same_upd (o := .lst [.int 0]) nz
      refine ⟨_, rfl, .ref S, n, rfl, .inl ⟨_, SqL.of ((s0a.trans cz) _ _ hS), by rw [List.length_map, hn]⟩, z, (n : Int), _, rfl, rfl, upd_same, by omega, by omega, Nat.le_of_lt (small1000 (by simp; omega)), fun r0 nr0 => ?_⟩
      have ez : (List.replicate ((n : Nat) : Int).toNat [V.int 0]).flatten = ((List.range n).map fun _ => (0 : Int)).map V.int := by
        rw [Int.toNat_natCast, List.flatten_replicate_singleton]
        symm
        rw [List.eq_replicate_iff]
        refine ⟨by rw [List.length_map, List.length_map, List.length_range], fun b hb => ?_⟩
        obtain ⟨c, hc, rfl⟩ := List.mem_map.mp hb
        obtain ⟨_, _, rfl⟩ := List.mem_map.mp hc
        rfl
      rw [ez]
      have cr := same_upd (o := .lst (((List.range n).map fun _ => (0 : Int)).map V.int)) nr0
      have er : upd (upd Hb z (.lst [.int 0])) r0 (.lst (((List.range n).map fun _ => (0 : Int)).map V.int)) r0 = some (.lst (((List.range n).map fun _ => (0 : Int)).map V.int)) := upd_same
      generalize upd (upd Hb z (.lst [.int 0])) r0 (.lst (((List.range n).map fun _ => (0 : Int)).map V.int)) = Hc at cr er ⊢
      have sbc := cz.trans cr
      obtain ⟨e, he⟩ : ∃ e, e = envL n (ds.take i) e0 := ⟨_, rfl⟩
      rw [← he] at ev
      have dom : ∀ y, (y ∈ ins ∨ y ∈ (ds.take i).map nameL) → (e y).isSome = true := fun y hy => by
        rw [he]
        exact envL_some (hy.elim (fun h => .inr (dom0 y h)) .inl)
      have s0c := s0a.trans sbc
      refine ⟨_, rfl, p0, rfl, ⟨_, SqL.of (s0c _ _ hp0)⟩, for_it (walk_list (xs := vs)) (fun k σ H' => ∃ (r : Addr) (y9 y10 y11 y12 : Option V), σ = [some (.ref b), some (.ref S), some (.ref L), some (.ref O), some (.ref D), y5, some (.str x), some (.ref p0), some (.ref r), y9, y10, y11, y12] ∧ Same Hc H' ∧ H' r = some (.lst (((List.range n).map fun j => ((ps.take k).map (partF e j)).sum).map V.int)))
        ⟨r0, _, _, _, _, rfl, Same.refl _, er⟩ (fun k σ H' _ q => by obtain ⟨_, _, _, _, _, _, q, _⟩ := q; exact SqL.of ((s0c.trans q) _ _ hp0)) ?_ ?_⟩
      · rintro k v σ Hd He hk ⟨r, y9, y10, y11, y12, rfl, sd, ed⟩ ⟨rfl, hv⟩
        obtain ⟨v', q, hv', hq, hp⟩ := pat prp (by omega : k < ps.length)
        rw [hv] at hv'
        cases hv'
        have mq := List.mem_of_getElem? hq
        obtain ⟨f0, y, rfl⟩ := num q mq
        obtain ⟨c1, rfl, hc1, _⟩ := hp
        obtain ⟨rr, hr⟩ := Option.isSome_iff_exists.mp (dom y (told i _ hd _ mq))
        obtain ⟨l, w1, w2, w3⟩ := ev y rr hr
        have sl := slim _ (List.mem_of_getElem? hd) f0 y mq
        have s0d := s0c.trans sd
        have sbd := sbc.trans sd
        refine ⟨c1, _, rfl, SqT.of (s0d _ _ hc1), rfl, _, _, rfl, _, _, rfl, rfl, ?_⟩
        refine ⟨_, rfl, _, rfl, _, rfl, D, .ref l, rfl, by rw [← w1]; exact DGet.k (k := .inr y) (sbd _ _ ek), r, l, ((List.range n).map fun j => ((ps.take k).map (partF e j)).sum).map V.int, rr.map V.int, rfl, .inl ⟨SqL.of ed, SqL.of (sbd _ _ w2), fun D2 hD2 => ?_⟩⟩
        have ed := ed
        refine lc_it (walk_zip (K := K) (xs := ((List.range n).map fun j => ((ps.take k).map (partF e j)).sum).map V.int) (ys := rr.map V.int) (n := n) (by rw [List.length_map, List.length_map, List.length_range, List.length_map, w3]; simp)) (fun j H' => Same He H' ∧ H' D2 = some (.lst (((List.range j).map fun j => ((ps.take (k + 1)).map (partF e j)).sum).map V.int))) ⟨same_upd hD2, upd_same⟩ (fun j H' _ z => ⟨SqL.of (z.1 _ _ ed), SqL.of (z.1 _ _ (sbd _ _ w2))⟩) ?_ ?_
        · rintro j v Hf Hg hj ⟨sf, ef⟩ ⟨T, v1, v2, rfl, hT, rfl, q1, q2⟩
          have jn : j < rr.length := by omega
          have q1 : (((List.range n).map fun j => ((ps.take k).map (partF e j)).sum).map V.int)[j]? = some v1 := q1
          have q2 : (rr.map V.int)[j]? = some v2 := q2
          rw [List.getElem?_map, List.getElem?_map, List.getElem?_range hj] at q1
          rw [List.getElem?_map, List.getElem?_eq_getElem jn] at q2
          obtain rfl := Option.some.inj q1
          obtain rfl := Option.some.inj q2
          have sT := same_upd (o := .tup [.int ((ps.take k).map (partF e j)).sum, .int rr[j]]) hT
          have pe : partF e j (.num f0 y) = f0 * rr[j] := by
            show f0 * ((e y).getD []).getD j 0 = _
            rw [hr]
            simp [List.getD, jn]
          refine ⟨T, [.int ((ps.take k).map (partF e j)).sum, .int rr[j]], rfl, SqT.of upd_same, rfl, _, _, rfl, _, _, rfl, rfl, rfl, tYes_ok ?_⟩
          refine ⟨_, rfl, _, rfl, _, rfl, f0, rr[j], rfl, rfl, .inl sl, _, _, rfl, rfl, _, sT _ _ ef, small1000 (by simp; omega), fun c o hc => ?_, ?_⟩
          · rw [upd_ne (ne_of_none hc hD2)]
            exact sT _ _ (sf _ _ hc)
          · rw [upd_same, List.range_succ, take_snoc hq]
            simp [pe]
        · rintro Hf ⟨sf, ef⟩
          exact ⟨D2, _, _, _, _, rfl, sd.trans sf, ef⟩
      · rintro σ Hd ⟨r, y9, y10, y11, y12, rfl, sd, ed⟩
        rw [lvs, List.take_length] at ed
        have sbd := sbc.trans sd
        have ekd := sbd _ _ ek
        have lx2 : ds.take (i + 1) = ds.take i ++ [.line x ps] := take_snoc hd
        refine ⟨_, rfl, _, rfl, _, rfl, D, _, rfl, DPut.k (k := .inr x) ekd (small1000 (by omega)), _, _, _, _, _, _, _, _, rfl, fun c o hc => ?_, _, upd_same, ?_, ?_⟩
        · rw [upd_ne (ne_of_none hc hD)]
          exact sbd _ _ (sa _ _ hc)
        · have := length_putK kvs (.inr x) (.ref r)
          omega
        · rw [lx2, envL_snoc, ← he]
          exact (ev.same sbd).put ekd ed (by simp [combR])
    · rintro σ H3 ⟨y5, y6, y7, y8, y9, y10, y11, y12, rfl, s3, kvs, ek, lk, ev⟩
      rw [lv, List.take_length] at ev
      have s03 := s1.trans s3
      obtain ⟨e, he⟩ : ∃ e, e = envL n ds e0 := ⟨_, rfl⟩
      rw [← he] at ev
      have et : tableF ins ds outs = outs.map fun o => (e o).getD [] := by
        rw [he, he0, hn]
        rfl
      refine ⟨_, rfl, O, rfl, ⟨_, SqL.of (s03 _ _ hO)⟩, fun D5 hD5 => ?_⟩
      refine lc_it (walk_list (xs := outs.map V.str)) (fun i H' => Same H3 H' ∧ ∃ rs : List Addr, H' D5 = some (.lst (rs.map V.ref)) ∧ Paired (fun r (xs : List Int) => H' r = some (.lst (xs.map V.int)) ∧ r ≠ D5) rs ((outs.take i).map fun o => (e o).getD [])) ⟨same_upd hD5, [], upd_same, .nil⟩ (fun i H' _ z => SqL.of ((s03.trans z.1) _ _ hO)) ?_ ?_
      · rintro i v Ha Hb hi ⟨sa, rs, ea, pr2⟩ ⟨rfl, hv⟩
        obtain ⟨o, ho, rfl⟩ := at_map hv
        have mo := List.mem_of_getElem? ho
        obtain ⟨r, hr⟩ : ∃ r, e o = some r := Option.isSome_iff_exists.mp (by
          rw [he]
          exact envL_some ((hout o mo).elim (fun h => .inr (dom0 o h)) .inl))
        obtain ⟨l, w1, w2, w3⟩ := ev o r hr
        have lr := plen pr2
        have nl : l ≠ D5 := ne_of_none w2 hD5
        refine ⟨rfl, tYes_ok ⟨_, rfl, _, rfl, D, .ref l, rfl, by rw [← w1]; exact DGet.k (k := .inr o) (sa _ _ ek), _, ea, small1000 ?_, fun c q hc => ?_, rs ++ [l], ?_, ?_⟩⟩
        · rw [List.length_map, lr, List.length_map, List.length_take]
          omega
        · rw [upd_ne (ne_of_none hc hD5)]
          exact sa _ _ hc
        · rw [upd_same]
          simp
        · rw [take_snoc ho, List.map_append]
          refine (pmono (fun c xs h => ⟨by rw [upd_ne h.2]; exact h.1, h.2⟩) pr2).snoc ⟨?_, nl⟩
          rw [upd_ne nl, sa _ _ w2]
          show some (HO.lst (r.map V.int)) = some (HO.lst (((e o).getD []).map V.int))
          rw [hr]
          rfl
      · rintro H6 ⟨s6, rs, e6, pr2⟩
        rw [List.length_map, List.take_length, ← et] at pr2
        exact q _ D5 rs (s03.trans s6) (s03.free hD5) e6 (pmono (fun c xs h => h.1) pr2)
end
end My
/-! _law_mixed: a drawn order of a list -/
namespace My
open PySem PySem.Spec PyProof.Rows L2
/-- all lists that x can be put into l in -/
def insAll {α : Type} (x : α) (l : List α) : List (List α) := (List.range (l.length + 1)).map fun i => l.take i ++ [x] ++ l.drop i
/-- all orders of a list, by insertions -/
def mixF {α : Type} (xs : List α) : List (List α) := xs.foldl (fun acc x => acc.flatMap (insAll x)) [[]]
theorem mixF_snoc {α : Type} (xs : List α) (x : α) : mixF (xs ++ [x]) = (mixF xs).flatMap (insAll x) := by
  unfold mixF
  rw [List.foldl_append]
  rfl
theorem mixF_ins {α : Type} {xs ys : List α} {x : α} {i : Nat} (h : ys ∈ mixF xs) (hi : i ≤ ys.length) : ys.take i ++ [x] ++ ys.drop i ∈ mixF (xs ++ [x]) := by
  rw [mixF_snoc]
  exact List.mem_flatMap.mpr ⟨ys, h, List.mem_map.mpr ⟨i, List.mem_range.mpr (by omega), rfl⟩⟩
theorem mixF_perm {α : Type} : ∀ (n : Nat) (xs ys : List α), xs.length = n → ys ∈ mixF xs → ys.Perm xs
  | 0, xs, ys, hn, h => by
    obtain rfl := List.length_eq_zero_iff.mp hn
    rw [List.mem_singleton.mp h]
  | n + 1, xs, ys, hn, h => by
    obtain ⟨xs, x, rfl⟩ : ∃ (a : List α) (b : α), xs = a ++ [b] := ⟨xs.dropLast, xs.getLast (fun e => by rw [e] at hn; simp at hn), (List.dropLast_concat_getLast _).symm⟩
    rw [mixF_snoc] at h
    obtain ⟨zs, hz, h⟩ := List.mem_flatMap.mp h
    obtain ⟨i, _, rfl⟩ := List.mem_map.mp h
    have p := mixF_perm n xs zs (by simpa using hn) hz
    refine List.Perm.trans ?_ (p.append_right [x])
    have q : (zs.take i ++ [x] ++ zs.drop i).Perm (zs.take i ++ zs.drop i ++ [x]) := by
      rw [List.append_assoc, List.append_assoc]
      exact List.Perm.append_left _ List.perm_append_comm
    rw [List.take_append_drop] at q
    exact q
def spMixed (K : PySem.W.Frag) : Sp := fun vs H Q _ => ∃ (b c l : Addr) (xs : List V), vs = [.ref b, .ref l] ∧ Bg H b c ∧ H l = some (.lst xs) ∧ l ≠ b ∧ xs.length ≤ 100 ∧
  ∀ (H' : Hp) (D : Addr) (ys : List V), Kp b H H' → Bg H' b c → H D = none → D ≠ b → H' D = some (.lst ys) → ys ∈ mixF xs → Q (.ref D) H'
section
variable {P : Program} {w : World} {K : PySem.W.Frag} {mg : Str → Option Value} {base : Heap}
theorem ok_l_mixed (F : Fn K mg "_law_mixed" s_l_mixed ["_law_bag_here", "_law_some"]) (B : Blt mg) (G_l_draw : Has P w K mg base 1 "_law_draw" ["_law_bag_here", "_law_many"] spDraw) : Has P w K mg base 2 "_law_mixed" ["_law_bag_here", "_law_some"] (spMixed K) := by
  refine F.has sc_l_mixed (fun vs H Q E h => ?_) (fun f cdv A outer s H vs Q E hr h => ?_)
  · obtain ⟨b, c, l, xs, rfl, _⟩ := h
    rfl
  obtain ⟨b, c, l, xs, rfl, hB, hl, nlb, hn, q⟩ := h
  refine ⟨_, (pss_cons (ps_set (i := 2) sc_l_mixed.nd rfl (Or.inl rfl) (pe_lst pa_nil))
      (pss_cons (ps_for PassesOwn.never rfl (pi_list (pv 1)) (pg_name (i := 3) sc_l_mixed.nd rfl (Or.inl rfl))
        (pss_one (ps_expr (pe_bm PySem.F.plainAttrs_list PySem.F.slot_list_insert PySem.F.type_list_insert mt_insert (pv 2) (pa_cons (pe_own G_l_draw (hr.mono (by decide)) (by rfl) (pa_cons (pv 0) (pa_cons (pe_op op_add (pe_callB call_len (by rfl) B.len bb_len (pa_cons (pv 2) pa_nil)) pe_int) pa_nil))) (pa_cons (pv 3) pa_nil))))))
      (pss_one (ps_ret (pv 2))))), ?_⟩
  refine ⟨by show 0 ≤ sizeLine; decide, fun D hD => ?_⟩
  have sD := same_upd (o := .lst []) hD
  have nDb := hB.ne_new hD
  have nDc := hB.ne_new2 hD
  refine ⟨_, rfl, l, rfl, ⟨_, SqL.of (sD _ _ hl)⟩, for_list (xs := xs) (fun i σ H' => ∃ (y3 : Option V) (ys : List V), σ = [some (.ref b), some (.ref l), some (.ref D), y3] ∧ Kp b H H' ∧ Bg H' b c ∧ H' D = some (.lst ys) ∧ ys ∈ mixF (xs.take i) ∧ ys.length = i) ⟨_, [], rfl, Kp.of sD, hB.same sD, upd_same, by simp [mixF], rfl⟩
    (fun i σ H' _ e => by obtain ⟨_, _, _, k, _⟩ := e; exact SqL.of (k _ _ nlb hl)) ?_ ?_⟩
  · rintro i v σ Ha hv ⟨y3, ys, rfl, ka, Ba, ea, hm, ln⟩
    have hi : i < xs.length := (List.getElem?_eq_some_iff.mp hv).1
    refine ⟨_, rfl, .inl ⟨rfl, _, SqL.of ea⟩, _, rfl, _, rfl, .ref D, _, rfl, .inl ⟨_, SqL.of ea, rfl⟩, _, _, rfl, rfl, b, c, (ys.length : Int) + 1, rfl, Ba, by omega, by omega, fun v1 H1 v0 v9 k1 B1 => ?_⟩
    refine ⟨_, rfl, D, ys, v1, v, rfl, rfl, k1 _ _ nDb ea, Nat.lt_of_lt_of_le (small1000 (by omega)) (Nat.le_refl _), v0, by omega, ?_⟩
    refine ⟨_, _, rfl, fun x o nx hx => ?_, B1.kp (d := D) nDb nDc Kp.upd, upd_same, ?_, ?_⟩
    · rw [upd_ne (ne_of_none hx hD)]
      exact k1 _ _ nx (ka _ _ nx hx)
    · rw [List.take_add_one, hv]
      exact mixF_ins hm (by omega)
    · rw [List.length_append, List.length_append, List.length_take, List.length_drop, List.length_singleton]
      omega
  · rintro σ H1 ⟨y3, ys, rfl, k1, B1, e1, hm, ln⟩
    rw [List.take_length] at hm
    exact ⟨_, rfl, q H1 D ys k1 B1 hD nDb e1 hm⟩
end
end My
/-! a method without arguments that may raise (HasMX as in V10 or YU) -/
namespace My
open PySem PySem.Spec PyProof.Rows L2
section
variable {X : Cx} {k : Nat} {m : Str} {ps : List Str} {sp : Sp} {pos apos : Pos} {o : Expr} {ta : TE} {C : Addr} {E : XK}
/-- where it raises nothing -/
theorem pe_ownMX0 {pl : Sem Bool} (c : Cls X.K C) (h : HasMX X.prog X.w X.K X.mg X.base k C m ps sp) (hr : Room k X.A) (he : PE X o ta)
    (ht : eval (.Call (.Attribute o m apos) [] [] pos) X.env = (do
      let ov ← eval o X.env
      standAt apos.atName
      let (f, first) ← holding [ov] (getMethod ov m pl)
      callWith pos f first (backTo pos (starEach [] X.env)) (backToKw pos (keywordEach [] X.env))) := by rfl) :
    PE X (.Call (.Attribute o m apos) [] [] pos) (tMeth C m sp [] E0 ta tNil) := by
  obtain ⟨f, fd, F, M, b⟩ := h.ex
  exact pe_meth0 he c M F hr b .nil passL ht
/-- where what it raises is taken by E -/
theorem pe_ownME0 {pl : Sem Bool} (c : Cls X.K C) (h : HasMX X.prog X.w X.K X.mg X.base k C m ps sp) (tk : Takes X (fun cls d _ H => E cls d H)) (hr : Room k X.A) (he : PE X o ta)
    (ht : eval (.Call (.Attribute o m apos) [] [] pos) X.env = (do
      let ov ← eval o X.env
      standAt apos.atName
      let (f, first) ← holding [ov] (getMethod ov m pl)
      callWith pos f first (backTo pos (starEach [] X.env)) (backToKw pos (keywordEach [] X.env))) := by rfl) :
    PE X (.Call (.Attribute o m apos) [] [] pos) (tMeth C m sp [] E ta tNil) := by
  obtain ⟨f, fd, F, M, b⟩ := h.ex
  exact pe_meth0 he c M F hr b .nil (passes_call tk fun _ _ _ _ h => h) ht
end
end My
namespace My
open PySem PySem.Spec PyProof.Rows L2
theorem un1 {k : Nat} {A : Around} (r : Room k A) : A.units + 1 < cLine := by
  have := r.un
  omega
section
variable {X : Cx}
/-- _law_got(lambda: body) -/
theorem pe_got {c P : Addr} {k : Nat} {cs : List Value} {params : Arguments} {body : Expr} {scope : Scope} {t : XK → TE} {p lpos pos : Pos} (F : Fn X.K X.mg "_law_got" s_l_got ["_law_ask"])
    (GV : ∀ (g : Addr) (cdv : Value), LamX.GivesTo X N_l_got "_law_got" (defScope s_l_got) g cdv (defBody s_l_got) "_law_ask" (X.env.qual ++ "<lambda>") (TGot X.K cs))
    (TB : LamX.TabB X.base X.mg c P) (hcode : X.env.code = .ref c) (hr : Room (k + 2) X.A) (hg : Gl X "_law_got") (L : LamX.LamS X.env.scope scope) (hdef : defaultsOf params X.env = ([], []))
    (hbind : ∀ (q : Str) (cl : List (Str × Addr)) (pm cv ctv : Value), bindArgs (PySem.W.kla_fn "<lambda>" q params body scope cl pm cv ctv) ⟨[], []⟩ = pure [])
    (hbody : ∀ (A : Around) (outer : List Env) (s : Shared) (H : Hp) (E : XK) (f c' : Addr), Room k (A.deeper (LamX.lamEnv X scope s.heap.objs.size f c')) → PE (LamX.lamCx X A outer s H E scope f c') body (t E)) :
    PE X (.Call (.Name "_law_got" p) [.Lambda params body scope lpos] [] pos) (LamX.tLam [(P, X.env.qual ++ "<lambda>")] (TGot X.K cs) t) := by
  obtain ⟨g, fd, F, m, b⟩ := F.ex
  have kp := F.kp
  obtain ⟨oc, od, kV, doc, pm, an, cdv, ct, osl, rfl, lk, hcd⟩ := F.ex
  exact LamX.pe_lamcall hg m kp lk hcd b sc_l_got rfl (Or.inl rfl) (GV g cdv) TB hcode List.mem_cons_self (fun p hp _ => by rw [List.mem_singleton.mp hp]) hr L hdef hbind hbody
end
end My
/-! sums over lists, and the users of a bench as one list -/
namespace My
open PySem PySem.Spec PyProof.Rows L2
theorem sum_add {α : Type} (f g : α → Int) : ∀ l : List α, (l.map fun a => f a + g a).sum = (l.map f).sum + (l.map g).sum
  | [] => rfl
  | a :: l => by
    simp only [List.map_cons, List.sum_cons, sum_add f g l]
    omega
theorem sum_mul {α : Type} (c : Int) (f : α → Int) : ∀ l : List α, (l.map fun a => c * f a).sum = c * (l.map f).sum
  | [] => by simp
  | a :: l => by
    simp only [List.map_cons, List.sum_cons, sum_mul c f l, Int.mul_add]
theorem sum_cong {α : Type} {f g : α → Int} : ∀ {l : List α}, (∀ a ∈ l, f a = g a) → (l.map f).sum = (l.map g).sum
  | [], _ => rfl
  | a :: l, h => by
    simp only [List.map_cons, List.sum_cons, h a List.mem_cons_self, sum_cong (l := l) fun b hb => h b (List.mem_cons_of_mem _ hb)]
theorem sum_nil {α : Type} {f : α → Int} : ∀ {l : List α}, (∀ a ∈ l, f a = 0) → (l.map f).sum = 0
  | [], _ => rfl
  | a :: l, h => by
    rw [List.map_cons, List.sum_cons, h a List.mem_cons_self, sum_nil (l := l) fun b hb => h b (List.mem_cons_of_mem _ hb)]
    rfl
theorem sum_one {α : Type} [DecidableEq α] {x : α} (f : α → Int) : ∀ {N : List α}, N.Nodup → x ∈ N → (N.map fun n => if x = n then f n else 0).sum = f x
  | [], _, h => by cases h
  | n :: N, nd, h => by
    have nd' := List.nodup_cons.mp nd
    rw [List.map_cons, List.sum_cons]
    by_cases e : x = n
    · subst e
      rw [if_pos rfl, sum_nil fun a ha => if_neg fun z => nd'.1 (by rw [z]; exact ha)]
      omega
    · rw [if_neg e, sum_one f nd'.2 ((List.mem_cons.mp h).resolve_left e)]
      omega
/-- by fibres -/
theorem sum_fibre {α β : Type} [DecidableEq α] {N : List α} (nd : N.Nodup) (key : β → α) (h : α → β → Int) : ∀ {L : List β}, (∀ p ∈ L, key p ∈ N) → (N.map fun n => ((L.filter fun p => decide (key p = n)).map (h n)).sum).sum = (L.map fun p => h (key p) p).sum
  | [], _ => sum_nil fun _ _ => rfl
  | p :: L, hL => by
    have ih := sum_fibre nd key h (L := L) fun q hq => hL q (List.mem_cons_of_mem _ hq)
    rw [List.map_cons, List.sum_cons, ← ih, ← sum_one (x := key p) (fun n => h n p) nd (hL p List.mem_cons_self), ← sum_add]
    refine sum_cong fun n _ => ?_
    rw [List.filter_cons]
    by_cases e : key p = n
    · rw [if_pos (by rw [decide_eq_true e]), List.map_cons, List.sum_cons, if_pos e]
    · rw [if_neg (by rw [decide_eq_false e]; decide), if_neg e]
      omega
theorem sum_flat {α β : Type} (f : β → Int) (g : α → List β) : ∀ l : List α, ((l.flatMap g).map f).sum = (l.map fun a => ((g a).map f).sum).sum
  | [] => rfl
  | a :: l => by
    rw [List.flatMap_cons, List.map_append, List.sum_append, List.map_cons, List.sum_cons, sum_flat f g l]
theorem len_sum {α : Type} (l : List α) : (l.length : Int) = (l.map fun _ => (1 : Int)).sum := by
  induction l with
  | nil => rfl
  | cons a l ih =>
    rw [List.map_cons, List.sum_cons, ← ih, List.length_cons]
    omega
abbrev numP (p : Int × Str) : PartD := .num p.1 p.2
def facs (d : LineD) : List (Int × Str) := (partsD d).filterMap fun | .num f y => some (f, y) | _ => none
theorem facs_line (x : Str) (fs : List (Int × Str)) : facs (.line x (fs.map numP)) = fs := by
  unfold facs partsD
  induction fs with
  | nil => rfl
  | cons a l ih => simpa [List.filterMap_cons] using ih
/-- who uses whom: user, factor, used -/
abbrev Use := Str × Int × Str
def usesD (d : LineD) : List Use := (facs d).map fun p => (nameL d, p.1, p.2)
def usesO (I outs : List Str) : List Use := (I.zip outs).map fun p => (p.1, 1, p.2)
def usesB (I : List Str) (ds : List LineD) (outs : List Str) : List Use := usesO I outs ++ ds.flatMap usesD
def usP (q : Use) : PartD := .num q.2.1 q.1
theorem usrO_eq (n : Str) : ∀ (ps : List (Str × Str)) (u : Usr), usrO ps u n = u n ++ ((ps.map fun p => ((p.1, 1, p.2) : Use)).filter fun q => decide (q.2.2 = n)).map usP
  | [], u => by simp [usrO]
  | p :: ps, u => by
    show usrO ps (addU u p.2 (.num 1 p.1)) n = _
    rw [usrO_eq n ps, List.map_cons, List.filter_cons]
    unfold addU
    by_cases e : n = p.2
    · subst e
      simp [usP]
    · have : ¬ p.2 = n := fun z => e z.symm
      simp [e, this]
theorem usrP_eq (n x : Str) : ∀ (fs : List (Int × Str)) (u : Usr), ((fs.map numP).foldl (addP x) u) n = u n ++ ((fs.map fun p => ((x, p.1, p.2) : Use)).filter fun q => decide (q.2.2 = n)).map usP
  | [], u => by simp
  | p :: fs, u => by
    show ((fs.map numP).foldl (addP x) (addU u p.2 (.num p.1 x))) n = _
    rw [usrP_eq n x fs, List.map_cons, List.filter_cons]
    unfold addU
    by_cases e : n = p.2
    · subst e
      simp [usP]
    · have : ¬ p.2 = n := fun z => e z.symm
      simp [e, this]
theorem usrL_eq (n : Str) : ∀ (ds : List LineD) (u : Usr), (∀ d ∈ ds, ∃ (x : Str) (fs : List (Int × Str)), d = .line x (fs.map numP)) → usrL ds u n = u n ++ ((ds.flatMap usesD).filter fun q => decide (q.2.2 = n)).map usP
  | [], u, _ => by simp [usrL]
  | d :: ds, u, h => by
    obtain ⟨x, fs, rfl⟩ := h d List.mem_cons_self
    show usrL ds ((fs.map numP).foldl (addP x) u) n = _
    rw [usrL_eq n ds _ fun e he => h e (List.mem_cons_of_mem _ he), usrP_eq, List.flatMap_cons, List.filter_append, List.map_append, List.append_assoc]
    rw [show usesD (.line x (fs.map numP)) = fs.map fun p => (x, p.1, p.2) by unfold usesD; rw [facs_line]; rfl]
theorem turnU_eq {ins : List Str} {ds : List LineD} {outs : List Str} (h : ∀ d ∈ ds, ∃ (x : Str) (fs : List (Int × Str)), d = .line x (fs.map numP)) (n : Str) : turnU ins ds outs n = ((usesB (turnI ins ds outs) ds outs).filter fun q => decide (q.2.2 = n)).map usP := by
  unfold turnU usesB usesO
  rw [usrL_eq n ds _ h, usrO_eq, List.filter_append, List.map_append, List.nil_append]
end My
/-! benches that are as they should be, and their tables turned -/
namespace My
open PySem PySem.Spec PyProof.Rows L2
structure Good (ins : List Str) (ds : List LineD) (outs : List Str) : Prop where
  nums : ∀ d ∈ ds, ∃ (x : Str) (fs : List (Int × Str)), d = .line x (fs.map numP)
  nd : (turnN ins ds).Nodup
  nm : ∀ x ∈ turnN ins ds, nameB x = true
  li : 1 ≤ ins.length ∧ ins.length ≤ 8
  ld : ds.length ≤ 40
  lp : ∀ d ∈ ds, 1 ≤ (facs d).length ∧ (facs d).length ≤ 48
  nz : ∀ d ∈ ds, ∀ p ∈ facs d, p.1 ≠ 0
  pn : ∀ d ∈ ds, ((facs d).map (·.2)).Nodup
  told : ∀ i d, ds[i]? = some d → ∀ p ∈ facs d, p.2 ∈ turnN ins (ds.take i)
  lo : 1 ≤ outs.length ∧ outs.length ≤ 8
  ok : ∀ x ∈ outs, x ∈ turnN ins ds
  used : ∀ x ∈ turnN ins ds, x ∈ outs ∨ ∃ d ∈ ds, ∃ p ∈ facs d, p.2 = x
theorem nodup_at {α : Type} {l : List α} (nd : l.Nodup) {i j : Nat} {x : α} (hi : l[i]? = some x) (hj : l[j]? = some x) : i = j := by
  obtain ⟨li, ei⟩ := List.getElem?_eq_some_iff.mp hi
  obtain ⟨lj, ej⟩ := List.getElem?_eq_some_iff.mp hj
  have pw := List.pairwise_iff_getElem.mp nd
  rcases Nat.lt_trichotomy i j with h | h | h
  · exact absurd (by rw [ei, ej]) (pw i j li lj h)
  · exact h
  · exact absurd (by rw [ei, ej]) (pw j i lj li h)
theorem env0_not {n : Nat} {y : Str} : ∀ {k : Nat} {xs : List Str} {e : RowE}, y ∉ xs → env0 n k xs e y = e y
  | k, [], e, h => rfl
  | k, x :: xs, e, h => by
    show env0 n (k + 1) xs (putE e x (unitR n k)) y = _
    rw [env0_not fun z => h (List.mem_cons_of_mem _ z)]
    have : y ≠ x := fun z => h (by rw [z]; exact List.mem_cons_self)
    simp [putE, this]
theorem env0_at {n : Nat} : ∀ {k j : Nat} {xs : List Str} {e : RowE} {y : Str}, xs.Nodup → xs[j]? = some y → env0 n k xs e y = some (unitR n (k + j))
  | k, j, [], e, y, _, h => by simp at h
  | k, 0, x :: xs, e, y, nd, h => by
    have : x = y := by simpa using h
    subst this
    show env0 n (k + 1) xs (putE e x (unitR n k)) x = _
    rw [env0_not (List.nodup_cons.mp nd).1]
    simp [putE]
  | k, j + 1, x :: xs, e, y, nd, h => by
    show env0 n (k + 1) xs (putE e x (unitR n k)) y = _
    rw [env0_at (j := j) (List.nodup_cons.mp nd).2 (by simpa using h), show k + (j + 1) = k + 1 + j by omega]
/-- the last environment of a bench -/
def envB (ins : List Str) (ds : List LineD) : RowE := envL ins.length ds (env0 ins.length 0 ins fun _ => none)
theorem comb_put {e : RowE} {x : Str} {r : List Int} {n : Nat} {fs : List (Int × Str)} (h : ∀ p ∈ fs, p.2 ≠ x) : combR (putE e x r) n (fs.map numP) = combR e n (fs.map numP) := by
  unfold combR
  refine List.map_congr_left fun j _ => ?_
  rw [List.map_map, List.map_map]
  refine sum_cong fun p hp => ?_
  show p.1 * (((putE e x r) p.2).getD []).getD j 0 = p.1 * ((e p.2).getD []).getD j 0
  simp [putE, h p hp]
structure Env (ins : List Str) (ds : List LineD) (e : RowE) : Prop where
  i : ∀ j x, ins[j]? = some x → e x = some (unitR ins.length j)
  l : ∀ d ∈ ds, e (nameL d) = some (combR e ins.length (partsD d))
theorem name_at {ins : List Str} {ds : List LineD} {k : Nat} {d : LineD} (h : ds[k]? = some d) : (turnN ins ds)[ins.length + k]? = some (nameL d) := by
  unfold turnN
  rw [List.getElem?_append_right (by omega), show ins.length + k - ins.length = k by omega, List.getElem?_map, h]
  rfl
theorem take_at {ins : List Str} {ds : List LineD} {k : Nat} {x : Str} (h : x ∈ turnN ins (ds.take k)) : ∃ i : Nat, i < ins.length + k ∧ (turnN ins ds)[i]? = some x := by
  obtain ⟨i, lt, e⟩ := List.mem_iff_getElem.mp h
  have e' : (turnN ins (ds.take k))[i]? = some x := by rw [List.getElem?_eq_getElem lt, e]
  have li : i < ins.length + min k ds.length := by simpa [turnN] using lt
  refine ⟨i, by omega, ?_⟩
  unfold turnN at e' ⊢
  by_cases c : i < ins.length
  · rw [List.getElem?_append_left c] at e' ⊢
    exact e'
  · rw [List.getElem?_append_right (by omega)] at e' ⊢
    rw [List.map_take, List.getElem?_take_of_lt (by omega)] at e'
    exact e'
theorem env_take {ins : List Str} {ds : List LineD} {outs : List Str} (G : Good ins ds outs) : ∀ k, k ≤ ds.length → Env ins (ds.take k) (envB ins (ds.take k))
  | 0, _ => by
    have ndI : ins.Nodup := (List.nodup_append.mp G.nd).1
    refine ⟨fun j x h => ?_, fun d hd => by simp at hd⟩
    show env0 ins.length 0 ins (fun _ => none) x = _
    rw [env0_at ndI h, Nat.zero_add]
  | k + 1, hk => by
    have ih := env_take G k (by omega)
    have hd : ds[k]? = some ds[k] := List.getElem?_eq_getElem (by omega)
    obtain ⟨x, fs, ex⟩ := G.nums _ (List.mem_of_getElem? hd)
    generalize ds[k] = d at hd ex
    subst ex
    have ta := take_snoc hd
    have ee : envB ins (ds.take (k + 1)) = putE (envB ins (ds.take k)) x (combR (envB ins (ds.take k)) ins.length (fs.map numP)) := by
      unfold envB
      rw [ta, envL_snoc]
      rfl
    have nx := name_at (ins := ins) hd
    have far : ∀ y, (∃ i, i < ins.length + k ∧ (turnN ins ds)[i]? = some y) → y ≠ x := fun y ⟨i, li, hi⟩ z => by
      subst z
      have := nodup_at G.nd hi nx
      omega
    have told : ∀ j d', j ≤ k → ds[j]? = some d' → ∀ p ∈ facs d', p.2 ≠ x := fun j d' hj h p hp => far p.2 (by
      obtain ⟨i, li, hi⟩ := take_at (G.told j d' h p hp)
      exact ⟨i, by omega, hi⟩)
    have at' : ∀ d' ∈ ds.take k, ∃ j, j < k ∧ ds[j]? = some d' := fun d' h => by
      obtain ⟨j, lj, ej⟩ := List.mem_iff_getElem.mp h
      have : j < min k ds.length := by simpa using lj
      exact ⟨j, by omega, (List.getElem?_take_of_lt (show j < k by omega)).symm.trans (by rw [List.getElem?_eq_getElem lj, ej])⟩
    rw [ee]
    generalize envB ins (ds.take k) = e at ih
    refine ⟨fun j y hy => ?_, fun d' hd' => ?_⟩
    · have ny : y ≠ x := far y ⟨j, by have := (List.getElem?_eq_some_iff.mp hy).1; omega, by
        unfold turnN
        rw [List.getElem?_append_left (List.getElem?_eq_some_iff.mp hy).1]
        exact hy⟩
      have : putE e x (combR e ins.length (fs.map numP)) y = e y := by simp [putE, ny]
      rw [this]
      exact ih.i j y hy
    · rw [ta] at hd'
      rcases List.mem_append.mp hd' with h | h
      · obtain ⟨j, hj, ej⟩ := at' d' h
        have ny : nameL d' ≠ x := far _ ⟨_, by omega, name_at ej⟩
        have e1 : putE e x (combR e ins.length (fs.map numP)) (nameL d') = e (nameL d') := by simp [putE, ny]
        rw [e1, ih.l d' h]
        obtain ⟨x', fs', rfl⟩ := G.nums _ (List.mem_of_getElem? ej)
        have t := told j _ (by omega) ej
        rw [facs_line] at t
        exact congrArg some (comb_put t).symm
      · obtain rfl := List.mem_singleton.mp h
        have t := told k _ (Nat.le_refl _) hd
        rw [facs_line] at t
        show putE e x (combR e ins.length (fs.map numP)) x = some (combR _ _ (fs.map numP))
        rw [comb_put t]
        simp [putE]
theorem env_of {ins : List Str} {ds : List LineD} {outs : List Str} (G : Good ins ds outs) : Env ins ds (envB ins ds) := by
  have := env_take G ds.length (Nat.le_refl _)
  rwa [List.take_length] at this
/-- the number at one place of a name's row -/
def valE (e : RowE) (j : Nat) (x : Str) : Int := ((e x).getD []).getD j 0
theorem val_in {ins : List Str} {ds : List LineD} {e : RowE} (E : Env ins ds e) {i j : Nat} {x : Str} (h : ins[j]? = some x) (hi : i < ins.length) : valE e i x = if i = j then 1 else 0 := by
  unfold valE
  rw [E.i j x h]
  simp [unitR, List.getD, hi]
theorem val_line {ins : List Str} {ds : List LineD} {e : RowE} (E : Env ins ds e) {i : Nat} {d : LineD} (h : d ∈ ds) (n : ∃ (x : Str) (fs : List (Int × Str)), d = .line x (fs.map numP)) (hi : i < ins.length) : valE e i (nameL d) = ((facs d).map fun p => p.1 * valE e i p.2).sum := by
  obtain ⟨x, fs, rfl⟩ := n
  have := E.l _ h
  unfold valE
  rw [this, facs_line]
  simp only [combR, Option.getD_some, List.getD, List.getElem?_map, List.getElem?_range hi, Option.map_some, partsD, List.map_map]
  rfl
theorem val_len {ins : List Str} {ds : List LineD} {e : RowE} (E : Env ins ds e) {x : Str} (h : x ∈ turnN ins ds) : ((e x).getD []).length = ins.length := by
  rcases List.mem_append.mp h with h | h
  · obtain ⟨j, lj, ej⟩ := List.mem_iff_getElem.mp h
    rw [E.i j x (by rw [List.getElem?_eq_getElem lj, ej])]
    simp [unitR]
  · obtain ⟨d, hd, rfl⟩ := List.mem_map.mp h
    rw [E.l d hd]
    simp [combR]
theorem table_of {ins : List Str} {ds : List LineD} {outs : List Str} : tableF ins ds outs = outs.map fun o => ((envB ins ds) o).getD [] := rfl
/-- the table with rows and columns exchanged -/
def dueF (T : List (List Int)) (n : Nat) : List (List Int) := (List.range n).map fun k => T.map fun r => r.getD k 0
/-- the new bench and the old one tell the same numbers -/
theorem exchange {ins : List Str} {ds : List LineD} {outs I : List Str} {e e' : RowE} (G : Good ins ds outs) (E : Env ins ds e) (hI : I.length = outs.length)
    (s1 : ∀ q x, I[q]? = some x → ∀ o, o < I.length → valE e' o x = if o = q then 1 else 0)
    (s2 : ∀ n ∈ turnN ins ds, ∀ o, o < I.length → valE e' o n = (((usesB I ds outs).filter fun q => decide (q.2.2 = n)).map fun q => q.2.1 * valE e' o q.1).sum)
    {i o : Nat} {x y : Str} (hi : ins[i]? = some x) (ho : outs[o]? = some y) : valE e' o x = valE e i y := by
  have li := (List.getElem?_eq_some_iff.mp hi).1
  have lo := (List.getElem?_eq_some_iff.mp ho).1
  -- the sum over all names, by users
  have known : ∀ q ∈ usesB I ds outs, q.2.2 ∈ turnN ins ds := fun q hq => by
    rcases List.mem_append.mp hq with h | h
    · obtain ⟨p, hp, rfl⟩ := List.mem_map.mp h
      exact G.ok _ (List.of_mem_zip hp).2
    · obtain ⟨d, hd, h⟩ := List.mem_flatMap.mp h
      obtain ⟨p, hp, rfl⟩ := List.mem_map.mp h
      obtain ⟨k, lk, ek⟩ := List.mem_iff_getElem.mp hd
      have := G.told k d (by rw [List.getElem?_eq_getElem lk, ek]) p hp
      obtain ⟨i, _, hi⟩ := take_at this
      exact List.mem_of_getElem? hi
  have A : ((turnN ins ds).map fun n => valE e i n * valE e' o n).sum = ((usesB I ds outs).map fun q => valE e i q.2.2 * (q.2.1 * valE e' o q.1)).sum := by
    rw [← sum_fibre G.nd (fun q : Use => q.2.2) (fun n q => valE e i n * (q.2.1 * valE e' o q.1)) known]
    refine sum_cong fun n hn => ?_
    rw [s2 n hn o (by omega), sum_mul]
  have B : ((usesB I ds outs).map fun q => valE e i q.2.2 * (q.2.1 * valE e' o q.1)).sum = valE e i y + (ds.map fun d => valE e i (nameL d) * valE e' o (nameL d)).sum := by
    unfold usesB
    rw [List.map_append, List.sum_append]
    congr 1
    · unfold usesO
      rw [List.map_map]
      have z : ∀ (k : Nat) (I outs : List Str), (∀ q x, I[q]? = some x → valE e' o x = if o = k + q then 1 else 0) → I.length = outs.length → ((I.zip outs).map ((fun q : Use => valE e i q.2.2 * (q.2.1 * valE e' o q.1)) ∘ fun p => ((p.1, 1, p.2) : Use))).sum = if k ≤ o then valE e i (outs.getD (o - k) x) * (if o < k + outs.length then 1 else 0) else 0 := by
        intro k I
        induction I generalizing k with
        | nil =>
          intro outs _ h
          have : outs = [] := List.length_eq_zero_iff.mp h.symm
          subst this
          simp
          intro h1
          rw [if_neg (by omega), Int.mul_zero]
        | cons a I ih =>
          intro outs h l
          match outs, l with
          | b :: outs, l =>
            have h0 := h 0 a rfl
            have ih := ih (k + 1) outs (fun q x hq => by rw [h (q + 1) x (by simpa using hq)]; congr 2; omega) (by simpa using l)
            simp only [List.zip_cons_cons, List.map_cons, List.sum_cons, Function.comp, Int.one_mul] at ih ⊢
            rw [ih, h0]
            by_cases c : o = k
            · subst c
              simp
              omega
            · simp only [Nat.add_zero, c, if_false, Int.mul_zero, Int.zero_add]
              by_cases c2 : k ≤ o
              · have : k + 1 ≤ o := by omega
                obtain ⟨m, rfl⟩ : ∃ m, o = k + 1 + m := ⟨o - (k + 1), by omega⟩
                rw [if_pos this, if_pos c2, show k + 1 + m - (k + 1) = m by omega, show k + 1 + m - k = m + 1 by omega]
                simp only [List.getD_cons_succ, List.length_cons]
                congr 1
                by_cases c3 : k + 1 + m < k + 1 + outs.length
                · rw [if_pos c3, if_pos (by omega)]
                · rw [if_neg c3, if_neg (by omega)]
              · rw [if_neg c2, if_neg (by omega)]
      rw [z 0 I outs (fun q x h => by rw [Nat.zero_add]; exact s1 q x h o (by omega)) hI, if_pos (Nat.zero_le _), if_pos (by omega), Int.mul_one]
      simp [List.getD, ho]
    · rw [sum_flat]
      refine sum_cong fun d hd => ?_
      rw [val_line E hd (G.nums d hd) li, Int.mul_comm, ← sum_mul]
      unfold usesD
      rw [List.map_map]
      refine sum_cong fun p _ => ?_
      simp only [Function.comp]
      grind
  have C : ((turnN ins ds).map fun n => valE e i n * valE e' o n).sum = valE e' o x + (ds.map fun d => valE e i (nameL d) * valE e' o (nameL d)).sum := by
    unfold turnN
    rw [List.map_append, List.sum_append, List.map_map]
    congr 1
    have ndI : ins.Nodup := (List.nodup_append.mp G.nd).1
    rw [← sum_one (x := x) (fun n => valE e' o n) ndI (List.mem_of_getElem? hi)]
    refine sum_cong fun n hn => ?_
    obtain ⟨j, lj, ej⟩ := List.mem_iff_getElem.mp hn
    have hj : ins[j]? = some n := by rw [List.getElem?_eq_getElem lj, ej]
    rw [val_in E hj li]
    by_cases c : x = n
    · subst c
      rw [if_pos (nodup_at ndI hi hj), if_pos rfl, Int.one_mul]
    · rw [if_neg c, if_neg (fun z => c (by subst z; rw [hi] at hj; exact Option.some.inj hj)), Int.zero_mul]
  omega
end My
/-! a good bench turned is good -/
namespace My
open PySem PySem.Spec PyProof.Rows L2
theorem nd_rev {α : Type} {l : List α} (h : l.Nodup) : l.reverse.Nodup := List.pairwise_reverse.mpr (h.imp fun a b => a b.symm)
structure Fresh (I : List Str) (ins : List Str) (ds : List LineD) (outs : List Str) : Prop where
  len : I.length = outs.length
  nd : I.Nodup
  nm : ∀ x ∈ I, nameB x = true
  far : ∀ x ∈ I, x ∉ turnN ins ds
abbrev fib (n : Str) (l : List Use) : List Use := l.filter fun q => decide (q.2.2 = n)
theorem mem_fib {n : Str} {l : List Use} {q : Use} : q ∈ fib n l ↔ q ∈ l ∧ q.2.2 = n := by
  unfold fib
  rw [List.mem_filter, decide_eq_true_iff]
theorem turn_nums {ins : List Str} {ds : List LineD} {outs : List Str} (h : ∀ d ∈ ds, ∃ (x : Str) (fs : List (Int × Str)), d = .line x (fs.map numP)) (n : Str) : turnU ins ds outs n = ((fib n (usesB (turnI ins ds outs) ds outs)).map fun q => (q.2.1, q.1)).map numP := by
  rw [turnU_eq h, List.map_map]
  rfl
theorem facs_turn {ins : List Str} {ds : List LineD} {outs : List Str} (h : ∀ d ∈ ds, ∃ (x : Str) (fs : List (Int × Str)), d = .line x (fs.map numP)) (n : Str) : facs (.line n (turnU ins ds outs n)) = (fib n (usesB (turnI ins ds outs) ds outs)).map fun q => (q.2.1, q.1) := by
  rw [turn_nums h, facs_line]
theorem turn_names {ins : List Str} {ds : List LineD} {outs : List Str} : (turnD ins ds outs).map nameL = (turnN ins ds).reverse := by
  unfold turnD
  rw [List.map_map]
  exact List.map_id _
theorem one_use (x n : Str) : ∀ {fs : List (Int × Str)}, (fs.map (·.2)).Nodup → List.Sublist ((fib n (fs.map fun p => ((x, p.1, p.2) : Use))).map (·.1)) [x]
  | [], _ => List.nil_sublist _
  | p :: fs, h => by
    rw [List.map_cons, List.nodup_cons] at h
    have ih := one_use x n h.2
    unfold fib at ih ⊢
    rw [List.map_cons, List.filter_cons]
    by_cases e : p.2 = n
    · rw [if_pos (by rw [decide_eq_true e])]
      have : (fs.map fun p => ((x, p.1, p.2) : Use)).filter (fun q => decide (q.2.2 = n)) = [] := by
        refine List.filter_eq_nil_iff.mpr fun q hq => ?_
        obtain ⟨r, hr, rfl⟩ := List.mem_map.mp hq
        have : ¬ r.2 = n := fun z => h.1 (List.mem_map.mpr ⟨r, hr, z.trans e.symm⟩)
        simpa using this
      rw [this]
      exact List.Sublist.refl _
    · rw [if_neg (by rw [decide_eq_false e]; decide)]
      exact ih
theorem line_users (n : Str) : ∀ {ds : List LineD}, (∀ d ∈ ds, ((facs d).map (·.2)).Nodup) → List.Sublist ((fib n (ds.flatMap usesD)).map (·.1)) (ds.map nameL)
  | [], _ => List.nil_sublist _
  | d :: ds, h => by
    have ih := line_users n (ds := ds) fun e he => h e (List.mem_cons_of_mem _ he)
    have h1 := one_use (nameL d) n (h d List.mem_cons_self)
    unfold fib at ih h1 ⊢
    rw [List.flatMap_cons, List.filter_append, List.map_append]
    exact List.Sublist.append h1 ih
theorem out_users (n : Str) {I outs : List Str} (h : I.length = outs.length) : List.Sublist ((fib n (usesO I outs)).map (·.1)) I := by
  have : (usesO I outs).map (·.1) = I := by
    unfold usesO
    rw [List.map_map]
    exact List.map_fst_zip (by omega)
  have s : List.Sublist ((fib n (usesO I outs)).map (·.1)) ((usesO I outs).map (·.1)) := List.Sublist.map _ List.filter_sublist
  rwa [this] at s
theorem users {ins : List Str} {ds : List LineD} {outs I : List Str} (G : Good ins ds outs) (F : Fresh I ins ds outs) (n : Str) : List.Sublist ((fib n (usesB I ds outs)).map (·.1)) (I ++ ds.map nameL) := by
  unfold usesB fib
  rw [List.filter_append, List.map_append]
  exact List.Sublist.append (out_users n F.len) (line_users n G.pn)
theorem users_nd {ins : List Str} {ds : List LineD} {outs I : List Str} (G : Good ins ds outs) (F : Fresh I ins ds outs) : (I ++ ds.map nameL).Nodup := by
  have h := List.nodup_append.mp G.nd
  exact List.nodup_append.mpr ⟨F.nd, h.2.1, fun a ha b hb e => F.far a ha (List.mem_append.mpr (.inr (by rw [e]; exact hb)))⟩
theorem users_len {ins : List Str} {ds : List LineD} {outs I : List Str} (G : Good ins ds outs) (F : Fresh I ins ds outs) (n : Str) : (fib n (usesB I ds outs)).length ≤ outs.length + ds.length := by
  have := (users G F n).length_le
  rw [List.length_map, List.length_append, List.length_map, F.len] at this
  exact this
theorem turn_len {ins : List Str} {ds : List LineD} {outs : List Str} (G : Good ins ds outs) (F : Fresh (turnI ins ds outs) ins ds outs) (n : Str) : (turnU ins ds outs n).length ≤ 48 := by
  rw [turnU_eq G.nums, List.length_map]
  have := users_len G F n
  have := G.ld
  have := G.lo
  unfold fib at *
  omega
theorem turn_mem {ins : List Str} {ds : List LineD} {outs : List Str} {d : LineD} (h : d ∈ turnD ins ds outs) : ∃ n ∈ turnN ins ds, d = .line n (turnU ins ds outs n) := by
  obtain ⟨n, hn, rfl⟩ := List.mem_map.mp h
  exact ⟨n, List.mem_reverse.mp hn, rfl⟩
theorem turn_N {ins : List Str} {ds : List LineD} {outs I : List Str} : turnN I (turnD ins ds outs) = I ++ (turnN ins ds).reverse := by
  show I ++ (turnD ins ds outs).map nameL = _
  rw [turn_names]
theorem good_turn {ins : List Str} {ds : List LineD} {outs : List Str} (G : Good ins ds outs) (F : Fresh (turnI ins ds outs) ins ds outs) (l40 : (turnN ins ds).length ≤ 40) : Good (turnI ins ds outs) (turnD ins ds outs) ins := by
  obtain ⟨I, hI⟩ : ∃ I, I = turnI ins ds outs := ⟨_, rfl⟩
  have fc := facs_turn (ins := ins) (outs := outs) G.nums
  have un := users G F
  have und := users_nd G F
  have tl := users_len G F
  rw [← hI] at F fc un und tl ⊢
  have uses : ∀ x ∈ turnN ins ds, ∃ q ∈ usesB I ds outs, q.2.2 = x := fun x hx => by
    rcases G.used x hx with h | ⟨d, hd, p, hp, e⟩
    · obtain ⟨k, lk, ek⟩ := List.mem_iff_getElem.mp h
      refine ⟨(I[k]'(by rw [F.len]; exact lk), 1, x), List.mem_append.mpr (.inl (List.mem_map.mpr ⟨(I[k]'(by rw [F.len]; exact lk), x), ?_, rfl⟩)), rfl⟩
      rw [List.mem_iff_getElem]
      refine ⟨k, by rw [List.length_zip, F.len]; omega, ?_⟩
      rw [List.getElem_zip, ek]
    · exact ⟨(nameL d, p.1, p.2), List.mem_append.mpr (.inr (List.mem_flatMap.mpr ⟨d, hd, List.mem_map.mpr ⟨p, hp, rfl⟩⟩)), e⟩
  have ok : ∀ q ∈ usesB I ds outs, q.2.1 ≠ 0 ∧ q.2.2 ∈ turnN ins ds := fun q hq => by
    rcases List.mem_append.mp hq with h | h
    · obtain ⟨p, hp, rfl⟩ := List.mem_map.mp h
      exact ⟨(by show (1 : Int) ≠ 0; decide), G.ok _ (List.of_mem_zip hp).2⟩
    · obtain ⟨d, hd, h⟩ := List.mem_flatMap.mp h
      obtain ⟨p, hp, rfl⟩ := List.mem_map.mp h
      refine ⟨G.nz d hd p hp, ?_⟩
      obtain ⟨k, lk, ek⟩ := List.mem_iff_getElem.mp hd
      obtain ⟨i, _, hi⟩ := take_at (G.told k d (by rw [List.getElem?_eq_getElem lk, ek]) p hp)
      exact List.mem_of_getElem? hi
  refine ⟨fun d hd => ?_, ?_, ?_, ?_, ?_, ?_, ?_, ?_, ?_, ?_, ?_, ?_⟩
  · obtain ⟨n, _, rfl⟩ := turn_mem hd
    exact ⟨n, _, by rw [turn_nums G.nums]⟩
  · rw [turn_N]
    exact List.nodup_append.mpr ⟨F.nd, nd_rev G.nd, fun a ha b hb e => F.far a ha (by rw [e]; exact List.mem_reverse.mp hb)⟩
  · rw [turn_N]
    intro x hx
    rcases List.mem_append.mp hx with h | h
    · exact F.nm x h
    · exact G.nm x (List.mem_reverse.mp h)
  · rw [F.len]
    exact G.lo
  · unfold turnD
    rw [List.length_map, List.length_reverse]
    exact l40
  · intro d hd
    obtain ⟨n, hn, rfl⟩ := turn_mem hd
    rw [fc, List.length_map]
    refine ⟨?_, ?_⟩
    · obtain ⟨q, hq, e⟩ := uses n hn
      exact List.length_pos_of_mem (mem_fib.mpr ⟨hq, e⟩)
    · have := tl n
      have := G.ld
      have := G.lo
      omega
  · intro d hd p hp
    obtain ⟨n, hn, rfl⟩ := turn_mem hd
    rw [fc] at hp
    obtain ⟨q, hq, rfl⟩ := List.mem_map.mp hp
    exact (ok q (mem_fib.mp hq).1).1
  · intro d hd
    obtain ⟨n, hn, rfl⟩ := turn_mem hd
    rw [fc, List.map_map]
    exact (un n).nodup und
  · intro i d hd p hp
    have hm := List.mem_of_getElem? hd
    obtain ⟨n, hn, rfl⟩ := turn_mem hm
    have hni : (turnN ins ds).reverse[i]? = some n := by
      have := congrArg (Option.map nameL) hd
      rw [← List.getElem?_map, turn_names] at this
      exact this
    rw [fc] at hp
    obtain ⟨q, hq, rfl⟩ := List.mem_map.mp hp
    obtain ⟨hq, e⟩ := mem_fib.mp hq
    unfold turnN
    rcases List.mem_append.mp hq with h | h
    · obtain ⟨p2, hp2, rfl⟩ := List.mem_map.mp h
      exact List.mem_append.mpr (.inl (List.of_mem_zip hp2).1)
    · obtain ⟨d, hd, h⟩ := List.mem_flatMap.mp h
      obtain ⟨p2, hp2, rfl⟩ := List.mem_map.mp h
      refine List.mem_append.mpr (.inr ?_)
      rw [List.map_take, turn_names]
      obtain ⟨k, lk, ek⟩ := List.mem_iff_getElem.mp hd
      have hk : ds[k]? = some d := by rw [List.getElem?_eq_getElem lk, ek]
      obtain ⟨j, lj, hj⟩ := take_at (G.told k d hk p2 hp2)
      have e : p2.2 = n := e
      rw [e] at hj
      have nx := name_at (ins := ins) hk
      have li : i < (turnN ins ds).length := by
        have := (List.getElem?_eq_some_iff.mp hni).1
        rwa [List.length_reverse] at this
      rw [List.getElem?_reverse li] at hni
      have ej := nodup_at G.nd hni hj
      have lx := (List.getElem?_eq_some_iff.mp nx).1
      have hx : (turnN ins ds).reverse[(turnN ins ds).length - 1 - (ins.length + k)]? = some (nameL d) := by
        rw [List.getElem?_reverse (by omega), show (turnN ins ds).length - 1 - ((turnN ins ds).length - 1 - (ins.length + k)) = ins.length + k by omega]
        exact nx
      refine List.mem_of_getElem? (i := (turnN ins ds).length - 1 - (ins.length + k)) ?_
      rw [List.getElem?_take_of_lt (by omega)]
      exact hx
  · exact G.li
  · rw [turn_N]
    exact fun x hx => List.mem_append.mpr (.inr (List.mem_reverse.mpr (List.mem_append.mpr (.inl hx))))
  · rw [turn_N]
    intro x hx
    have line : ∀ q ∈ usesB I ds outs, q.1 = x → ∃ d ∈ turnD ins ds outs, ∃ p ∈ facs d, p.2 = x := fun q hq e =>
      ⟨_, List.mem_map.mpr ⟨q.2.2, List.mem_reverse.mpr (ok q hq).2, rfl⟩, (q.2.1, q.1), by rw [fc]; exact List.mem_map.mpr ⟨q, mem_fib.mpr ⟨hq, rfl⟩, rfl⟩, e⟩
    rcases List.mem_append.mp hx with h | h
    · obtain ⟨k, lk, ek⟩ := List.mem_iff_getElem.mp h
      refine .inr (line (x, 1, outs[k]'(by rw [← F.len]; exact lk)) (List.mem_append.mpr (.inl (List.mem_map.mpr ⟨(x, outs[k]'(by rw [← F.len]; exact lk)), ?_, rfl⟩))) rfl)
      rw [List.mem_iff_getElem]
      refine ⟨k, by rw [List.length_zip, F.len]; rw [F.len] at lk; omega, ?_⟩
      rw [List.getElem_zip, ek]
    · rcases List.mem_append.mp (List.mem_reverse.mp h) with h | h
      · exact .inl h
      · obtain ⟨d, hd, rfl⟩ := List.mem_map.mp h
        obtain ⟨p, hp⟩ := List.exists_mem_of_length_pos (G.lp d hd).1
        exact .inr (line (nameL d, p.1, p.2) (List.mem_append.mpr (.inr (List.mem_flatMap.mpr ⟨d, hd, List.mem_map.mpr ⟨p, hp, rfl⟩⟩))) rfl)
/-- its table -/
theorem table_turn {ins : List Str} {ds : List LineD} {outs : List Str} (G : Good ins ds outs) (F : Fresh (turnI ins ds outs) ins ds outs) (l40 : (turnN ins ds).length ≤ 40) : tableF (turnI ins ds outs) (turnD ins ds outs) ins = dueF (tableF ins ds outs) ins.length := by
  have G' := good_turn G F l40
  have E := env_of G
  have E' := env_of G'
  have fc := facs_turn (ins := ins) (outs := outs) G.nums
  rw [table_of, table_of]
  generalize envB ins ds = e at E
  generalize envB (turnI ins ds outs) (turnD ins ds outs) = e' at E'
  have key : ∀ {i o : Nat} {x y : Str}, ins[i]? = some x → outs[o]? = some y → valE e' o x = valE e i y := fun hi ho =>
    exchange G E F.len (fun q x hq o lo => val_in E' hq lo) (fun n hn o lo => by
      have := val_line E' (d := .line n (turnU ins ds outs n)) (List.mem_map.mpr ⟨n, List.mem_reverse.mpr hn, rfl⟩) ⟨n, _, by rw [turn_nums G.nums]⟩ lo
      rw [fc, List.map_map] at this
      exact this) hi ho
  refine List.ext_getElem (by simp [dueF]) fun i h1 h2 => ?_
  have li : i < ins.length := by simpa using h1
  simp only [dueF, List.getElem_map, List.getElem_range, List.map_map]
  have lx := val_len E' (x := ins[i]) (by rw [turn_N]; exact List.mem_append.mpr (.inr (List.mem_reverse.mpr (List.mem_append.mpr (.inl (List.getElem_mem _))))))
  refine List.ext_getElem (by rw [lx, F.len, List.length_map]) fun o h3 h4 => ?_
  have lo : o < outs.length := by rw [lx, F.len] at h3; exact h3
  rw [List.getElem_map]
  have := key (i := i) (o := o) (List.getElem?_eq_getElem li) (List.getElem?_eq_getElem lo)
  unfold valE at this
  show _ = ((e outs[o]).getD []).getD i 0
  rw [← this]
  simp [List.getD, h3]
theorem flat_len : ∀ ds : List LineD, ((ds.flatMap usesD).length : Int) = (ds.map fun d => ((facs d).length : Int)).sum
  | [] => rfl
  | d :: ds => by
    rw [List.flatMap_cons, List.length_append, List.map_cons, List.sum_cons, ← flat_len ds]
    unfold usesD
    rw [List.length_map]
    omega
theorem adds_facs {ds : List LineD} (h : ∀ d ∈ ds, ∃ (x : Str) (fs : List (Int × Str)), d = .line x (fs.map numP)) : addsD ds = (ds.map fun d => ((facs d).length : Int)).sum - ds.length := by
  unfold addsD
  rw [len_sum ds]
  have : (ds.map fun d => ((partsD d).length : Int) - 1).sum = (ds.map fun d => ((facs d).length : Int) + (-1) * (1 : Int)).sum := sum_cong fun d hd => by
    obtain ⟨x, fs, rfl⟩ := h d hd
    rw [facs_line]
    simp [partsD]
    omega
  rw [this, sum_add, sum_mul]
  omega
theorem adds_turn {ins : List Str} {ds : List LineD} {outs : List Str} (G : Good ins ds outs) (F : Fresh (turnI ins ds outs) ins ds outs) (l40 : (turnN ins ds).length ≤ 40) : addsD (turnD ins ds outs) = addsD ds + outs.length - ins.length := by
  have G' := good_turn G F l40
  have fc := facs_turn (ins := ins) (outs := outs) G.nums
  rw [adds_facs G'.nums, adds_facs G.nums, ← flat_len ds]
  have known : ∀ q ∈ usesB (turnI ins ds outs) ds outs, q.2.2 ∈ (turnN ins ds).reverse := fun q hq => by
    rw [List.mem_reverse]
    rcases List.mem_append.mp hq with h | h
    · obtain ⟨p, hp, rfl⟩ := List.mem_map.mp h
      exact G.ok _ (List.of_mem_zip hp).2
    · obtain ⟨d, hd, h⟩ := List.mem_flatMap.mp h
      obtain ⟨p, hp, rfl⟩ := List.mem_map.mp h
      obtain ⟨k, lk, ek⟩ := List.mem_iff_getElem.mp hd
      obtain ⟨i, _, hi⟩ := take_at (G.told k d (by rw [List.getElem?_eq_getElem lk, ek]) p hp)
      exact List.mem_of_getElem? hi
  have A : ((turnD ins ds outs).map fun d => ((facs d).length : Int)).sum = ((usesB (turnI ins ds outs) ds outs).length : Int) := by
    rw [len_sum (usesB _ _ _), ← sum_fibre (nd_rev G.nd) (fun q : Use => q.2.2) (fun _ _ => (1 : Int)) known]
    unfold turnD
    rw [List.map_map]
    refine sum_cong fun n _ => ?_
    show ((facs (.line n (turnU ins ds outs n))).length : Int) = _
    rw [fc, List.length_map, len_sum]
  rw [A]
  have l1 : (turnD ins ds outs).length = ins.length + ds.length := by
    unfold turnD
    rw [List.length_map, List.length_reverse]
    unfold turnN
    rw [List.length_append, List.length_map]
  have l2 : (usesB (turnI ins ds outs) ds outs).length = outs.length + (ds.flatMap usesD).length := by
    unfold usesB usesO
    rw [List.length_append, List.length_map, List.length_zip, F.len, Nat.min_self]
  rw [l1, l2]
  omega
/-- rows and columns exchanged twice -/
theorem due_due {T : List (List Int)} {n : Nat} (h : ∀ r ∈ T, r.length = n) : dueF (dueF T n) T.length = T := by
  refine List.ext_getElem (by simp [dueF]) fun i h1 h2 => ?_
  simp only [dueF, List.getElem_map, List.getElem_range, List.map_map]
  refine List.ext_getElem (by simp [h _ (List.getElem_mem _)]) fun j h3 h4 => ?_
  rw [List.getElem_map]
  simp [List.getD, h2, h4]
theorem table_rows {ins : List Str} {ds : List LineD} {outs : List Str} (G : Good ins ds outs) : ∀ r ∈ tableF ins ds outs, r.length = ins.length := fun r hr => by
  rw [table_of] at hr
  obtain ⟨o, ho, rfl⟩ := List.mem_map.mp hr
  exact val_len (env_of G) (G.ok o ho)
end My
/-! a good bench is made -/
namespace My
open PySem PySem.Spec PyProof.Rows L2
theorem num_nodup {xs : List Str} (nd : xs.Nodup) : ∀ i, i ≤ xs.length → SetN.num xs i = i
  | 0, _ => rfl
  | i + 1, h => by
    have hi : xs[i]? = some xs[i] := List.getElem?_eq_getElem (by omega)
    show (if xs.getD i Str.empty ∈ xs.take i then SetN.num xs i else SetN.num xs i + 1) = i + 1
    rw [num_nodup nd i (by omega), if_neg]
    intro hm
    obtain ⟨j, lj, ej⟩ := List.mem_iff_getElem.mp hm
    have lj' : j < min i xs.length := by simpa using lj
    have e0 : xs.getD i Str.empty = xs[i] := by simp [List.getD, show i < xs.length by omega]
    have hj : xs[j]? = some xs[i] := by
      rw [← List.getElem?_take_of_lt (show j < i by omega), List.getElem?_eq_getElem lj, ej, e0]
    have := nodup_at nd hi hj
    omega
theorem names_fs (fs : List (Int × Str)) : (fs.map numP).map nameP = fs.map (·.2) := by
  rw [List.map_map]
  rfl
theorem line_ok {S : Str → Bool} {x : Str} {fs : List (Int × Str)} (hx : nameB x = true) (nS : S x = false) (l : 1 ≤ fs.length ∧ fs.length ≤ 48) (h : ∀ p ∈ fs, p.1 ≠ 0 ∧ nameB p.2 = true ∧ S p.2 = true) (nd : (fs.map (·.2)).Nodup) : lineB S (.line x (fs.map numP)) = true := by
  show (if (nameB x && !S x) = true ∧ 1 ≤ (fs.map numP).length ∧ (fs.map numP).length ≤ 48 then ((fs.map numP).map (partB S)).all id && decide (SetN.num ((fs.map numP).map nameP) ((fs.map numP).map nameP).length = ((fs.map numP).map nameP).length) else false) = true
  rw [if_pos ⟨by rw [hx, nS]; rfl, by rw [List.length_map]; exact l⟩, names_fs, num_nodup nd _ (Nat.le_refl _), decide_eq_true rfl, Bool.and_true, List.all_map, List.all_map, List.all_eq_true]
  intro p hp
  obtain ⟨a, b, c⟩ := h p hp
  show (decide (p.1 ≠ 0) && (nameB p.2 && S p.2)) = true
  rw [decide_eq_true a, b, c]
  rfl
theorem turnN_take {ins : List Str} {ds : List LineD} {k : Nat} {d : LineD} (h : ds[k]? = some d) : turnN ins (ds.take (k + 1)) = turnN ins (ds.take k) ++ [nameL d] := by
  unfold turnN
  rw [take_snoc h, List.map_append, List.append_assoc]
  rfl
theorem wrong_good {ins : List Str} {ds : List LineD} {outs : List Str} (G : Good ins ds outs) : ∀ (m k : Nat) (S : Str → Bool), k + m = ds.length → (∀ x, S x = decide (x ∈ turnN ins (ds.take k))) → wrongF k S (ds.drop k) = none
  | 0, k, S, e, _ => by
    rw [List.drop_of_length_le (by omega)]
    rfl
  | m + 1, k, S, e, hS => by
    have lk : k < ds.length := by omega
    have hk : ds[k]? = some ds[k] := List.getElem?_eq_getElem lk
    rw [List.drop_eq_getElem_cons lk]
    generalize ds[k] = d at hk
    have md := List.mem_of_getElem? hk
    have nx := name_at (ins := ins) hk
    show (if k = 40 then some k else if lineB S d = true then wrongF (k + 1) (putS S (nameL d)) (ds.drop (k + 1)) else some k) = none
    have := G.ld
    rw [if_neg (by omega)]
    have hl : lineB S d = true := by
      obtain ⟨x, fs, rfl⟩ := G.nums d md
      have told := G.told k _ hk
      have nz := G.nz _ md
      have pn := G.pn _ md
      have lp := G.lp _ md
      rw [facs_line] at told nz pn lp
      refine line_ok (G.nm x (List.mem_of_getElem? nx)) ?_ lp (fun p hp => ⟨nz p hp, ?_, ?_⟩) pn
      · rw [hS]
        refine decide_eq_false fun hm => ?_
        obtain ⟨i, li, hi⟩ := take_at (ds := ds) hm
        have := nodup_at G.nd hi nx
        omega
      · obtain ⟨i, li, hi⟩ := take_at (told p hp)
        exact G.nm _ (List.mem_of_getElem? hi)
      · rw [hS]
        exact decide_eq_true (told p hp)
    rw [if_pos hl]
    refine wrong_good G m (k + 1) _ (by omega) fun x => ?_
    show (decide (x = nameL d) || S x) = _
    rw [hS, turnN_take hk]
    by_cases a : x = nameL d <;> by_cases b : x ∈ turnN ins (ds.take k) <;> simp [a, b]
theorem mem_namesP {d : LineD} {p : Int × Str} (h : p ∈ facs d) : p.2 ∈ namesP d := by
  obtain ⟨q, hq, e⟩ := List.mem_filterMap.mp h
  match d, hq with
  | .line x ps, hq =>
    match q, e with
    | .num f y, e =>
      cases e
      exact List.mem_map.mpr ⟨_, hq, rfl⟩
theorem tell_ok {ins : List Str} {ds : List LineD} {outs : List Str} (G : Good ins ds outs) : tellF ins ds outs = .ok := by
  have ndI : ins.Nodup := (List.nodup_append.mp G.nd).1
  have e1 : namesB ins = true := by
    unfold namesB
    rw [if_pos G.li, num_nodup ndI _ (Nat.le_refl _), decide_eq_true rfl, Bool.and_true, List.all_map, List.all_eq_true]
    exact fun x hx => G.nm x (List.mem_append.mpr (.inl hx))
  have e2 : wrongF 0 (inS ins) ds = none := wrong_good G ds.length 0 (inS ins) (by omega) fun x => by
    unfold turnN
    rw [List.take_zero, List.map_nil, List.append_nil]
    rfl
  have e3 : knownB (inS (ins ++ ds.map nameL)) outs = true := by
    unfold knownB
    rw [if_pos G.lo, List.all_map, List.all_eq_true]
    intro x hx
    have := G.ok x hx
    show (nameB x && decide (x ∈ ins ++ ds.map nameL)) = true
    rw [G.nm x this, decide_eq_true (show x ∈ ins ++ ds.map nameL from this)]
    rfl
  have e4 : (ins ++ ds.map nameL).find? (fun x => !decide (x ∈ outs ++ ds.flatMap namesP)) = none := by
    rw [List.find?_eq_none]
    intro x hx
    have : x ∈ outs ++ ds.flatMap namesP := by
      rcases G.used x hx with h | ⟨d, hd, p, hp, e⟩
      · exact List.mem_append.mpr (.inl h)
      · exact List.mem_append.mpr (.inr (List.mem_flatMap.mpr ⟨d, hd, by rw [← e]; exact mem_namesP hp⟩))
    simp only [decide_eq_true this]
    decide
  unfold tellF
  rw [e1, e2, e3, e4]
  rfl
theorem good_told {ins : List Str} {ds : List LineD} {outs : List Str} (G : Good ins ds outs) : Told ins ds := fun i d hd p hp => by
  obtain ⟨x, fs, rfl⟩ := G.nums d (List.mem_of_getElem? hd)
  obtain ⟨q, hq, rfl⟩ := List.mem_map.mp hp
  have := G.told i _ hd q (by rw [facs_line]; exact hq)
  exact List.mem_append.mp this
/-- the new names are enough -/
theorem new_fresh {ins : List Str} {ds : List LineD} {outs : List Str} (h : (newF outs.length (turnN ins ds)).length = outs.length) (nd : (newF outs.length (turnN ins ds)).Nodup) : Fresh (turnI ins ds outs) ins ds outs :=
  ⟨h, nd, fun x hx => by
    have := (List.mem_filter.mp (List.mem_of_mem_take hx)).2
    rw [Bool.and_eq_true] at this
    exact this.1, fun x hx hm => by
    have := (List.mem_filter.mp (List.mem_of_mem_take hx)).2
    rw [Bool.and_eq_true, decide_eq_true hm] at this
    exact absurd this.2 (by decide)⟩
theorem filter_not_len : ∀ {l t : List Str}, l.Nodup → l.length ≤ (l.filter fun x => !decide (x ∈ t)).length + t.length
  | l, [], _ => by
    have : l.filter (fun x => !decide (x ∈ ([] : List Str))) = l := List.filter_eq_self.mpr fun x _ => by simp
    rw [this]
    exact Nat.le_add_right _ _
  | l, a :: t, nd => by
    have h1 := filter_not_len (l := l.filter fun x => decide (x ≠ a)) (t := t) (nd.filter _)
    have h2 : l.length ≤ (l.filter fun x => decide (x ≠ a)).length + 1 := by
      clear h1
      induction l with
      | nil => simp
      | cons b l ih =>
        have nd' := List.nodup_cons.mp nd
        rw [List.filter_cons]
        by_cases e : b = a
        · subst e
          have : l.filter (fun x => decide (x ≠ b)) = l := List.filter_eq_self.mpr fun x hx => decide_eq_true fun z => nd'.1 (by rw [← z]; exact hx)
          rw [if_neg (by simp), this, List.length_cons]
          exact Nat.le_refl _
        · have := ih nd'.2
          rw [if_pos (decide_eq_true e), List.length_cons, List.length_cons]
          omega
    have h3 : (l.filter fun x => decide (x ≠ a)).filter (fun x => !decide (x ∈ t)) = l.filter fun x => !decide (x ∈ a :: t) := by
      rw [List.filter_filter]
      refine List.filter_congr fun x _ => ?_
      by_cases e : x = a <;> by_cases f : x ∈ t <;> simp [e, f]
    rw [h3] at h1
    rw [List.length_cons]
    omega
theorem signs_nd : signs.Nodup := by decide +kernel
theorem signs_name : ∀ x ∈ signs, nameB x = true := by decide +kernel
theorem new_few {k : Nat} {t : List Str} (h : k + t.length ≤ 26) : (newF k t).length = k ∧ (newF k t).Nodup := by
  have l26 : signs.length = 26 := rfl
  have e : newF k t = (signs.filter fun x => !decide (x ∈ t)).take k := by
    have h1 := filter_not_len (l := signs) (t := t) signs_nd
    have h2 : signs.filter (fun x => nameB x && !decide (x ∈ t)) = signs.filter fun x => !decide (x ∈ t) := List.filter_congr fun x hx => by rw [signs_name x hx, Bool.true_and]
    unfold newF optsF
    rw [List.filter_append, h2, List.take_append_of_le_length (by omega)]
  have h1 := filter_not_len (l := signs) (t := t) signs_nd
  rw [e]
  exact ⟨by rw [List.length_take]; omega, (signs_nd.filter _).sublist (List.take_sublist _ _)⟩
theorem fresh_few {ins : List Str} {ds : List LineD} {outs : List Str} (h : outs.length + (turnN ins ds).length ≤ 26) : Fresh (turnI ins ds outs) ins ds outs :=
  new_fresh (new_few h).1 (new_few h).2
end My
/-! a text times 0 or 1, and the letters of a text -/
namespace My
open PySem PySem.Spec PyProof.Rows L2
def rMul01 : R2 := fun x y H Q => ∃ z k, x = .str z ∧ y = .int k ∧ (k = 0 ∨ k = 1) ∧ Q (.str (if k = 1 then z else Str.empty)) H
theorem op_mul01 {X : Cx} : OpR X (binaryOp .Mult) rMul01 := by
  intro pins s σ H x y v u Q I rx ry h
  obtain ⟨z, k, rfl, rfl, hk, q⟩ := h
  obtain ⟨t, rfl⟩ := rx
  obtain ⟨t', rfl⟩ := ry
  rcases hk with rfl | rfl
  · exact PySem.P.mul_str_none (by decide) (by decide) ⟨.str Str.empty, H, I.tok _, ⟨_, rfl⟩, q⟩
  · refine PySem.P.mul_str (by decide) (fun _ h => by simp at h) (fun _ h => by simp at h) ?_
    rw [if_neg (by decide), if_pos (by rfl)]
    exact ⟨.str z, H, I, ⟨t, rfl⟩, q⟩
theorem app_l (a y : Str) : (a ++ y).cps.toList = a.cps.toList ++ y.cps.toList := by
  show (a.cps ++ y.cps).toList = _
  exact Array.toList_append
theorem join1 : ∀ cs : List Nat, (Txt.join "" (cs.map fun c => (⟨#[c]⟩ : Str))).cps.toList = cs
  | [] => rfl
  | [c] => rfl
  | c :: d :: r => by
    have h := join1 (d :: r)
    unfold Txt.join at h ⊢
    rw [StrLaws.glued_eq_join] at h ⊢
    show ((⟨#[c]⟩ : Str) ++ ("" : Str) ++ Str.join "" ((d :: r).map fun c => (⟨#[c]⟩ : Str))).cps.toList = c :: d :: r
    rw [app_l, app_l, h]
    rfl
theorem str_len (z : Str) : z.length = z.cps.toList.length := (Array.length_toList).symm
/-- a text of letters is a name if it has the length and is none of the four -/
theorem word_name {z : Str} (h : ∀ c ∈ z.cps.toList, c ∈ letters.cps.toList) : nameB z = if 1 ≤ z.length ∧ z.length ≤ 6 then !inV (.str z) kept else false := by
  unfold nameB
  have e : (z.cps.toList.map fun c => decide (c ∈ letters.cps.toList)).all id = true := by
    rw [List.all_eq_true]
    intro b hb
    obtain ⟨c, hc, rfl⟩ := List.mem_map.mp hb
    exact decide_eq_true (h c hc)
  rw [e, Bool.and_true]
theorem ones_sum : ∀ cs : List Nat, ((cs.map fun c => (⟨#[c]⟩ : Str)).map (·.length)).sum = cs.length
  | [] => rfl
  | c :: cs => by
    rw [List.map_cons, List.map_cons, List.sum_cons, ones_sum cs, List.length_cons]
    show 1 + _ = _
    omega
end My
/-! the law's names -/
namespace My
open PySem PySem.Spec PyProof.Rows L2
theorem kp_push {b D : Addr} {H Hn : Hp} {o : HO} (k : Kp b H Hn) (hD : H D = none) : Kp b H (upd Hn D o) := fun x u nx hx => by
  rw [upd_ne (ne_of_none hx hD)]
  exact k x u nx hx
theorem Kp.free {b D : Addr} {H H' : Hp} (k : Kp b H H') (n : D ≠ b) (h : H' D = none) : H D = none := by
  cases e : H D with
  | none => rfl
  | some o =>
    rw [k D o n e] at h
    cases h
def sgn (base step : Int) (k : Nat) : Nat := letters.cps.toList.getD ((base + step * k) % 26).toNat 0
def moreS (more : Str) (k : Nat) : Str := if k % 2 = 1 then more else Str.empty
def word0 (stem : Str) (sp base step : Int) (more : Str) (k : Nat) : Str := cutS stem none (some sp) ++ (⟨#[sgn base step k]⟩ : Str) ++ cutS stem (some sp) none ++ moreS more k
def wordF (stem : Str) (sp base step : Int) (more : Str) (k : Nat) : Str := if inV (.str (word0 stem sp base step more k)) kept = true then word0 stem sp base step more k ++ ("q" : Str) else word0 stem sp base step more k
structure NameP (stem : Str) (sp base step : Int) (more : Str) : Prop where
  l4 : stem.length ≤ 4
  lets : ∀ c ∈ stem.cps.toList, c ∈ letters.cps.toList
  b0 : 0 ≤ base
  b9 : base < 26
  st : step = 1 ∨ step = 3 ∨ step = 5 ∨ step = 7
  mo : more = "" ∨ more = "a" ∨ more = "z"
theorem letters_inj : ∀ a < 26, ∀ b < 26, letters.cps.toList.getD a 0 = letters.cps.toList.getD b 0 → a = b := by decide +kernel
theorem letters_mem : ∀ a < 26, letters.cps.toList.getD a 0 ∈ letters.cps.toList := by decide +kernel
theorem sgn_inj {stem : Str} {sp base step : Int} {more : Str} (N : NameP stem sp base step more) {j k : Nat} (hj : j < 20) (hk : k < 20) (e : sgn base step j = sgn base step k) : j = k := by
  have h := letters_inj ((base + step * j) % 26).toNat (by omega) ((base + step * k) % 26).toNat (by omega) e
  have := N.b0
  have := N.b9
  rcases N.st with rfl | rfl | rfl | rfl <;> omega
theorem cut_lets {stem : Str} {lo hi : Option Int} (h : ∀ c ∈ stem.cps.toList, c ∈ letters.cps.toList) : ∀ c ∈ (cutS stem lo hi).cps.toList, c ∈ letters.cps.toList := fun c hc => by
  unfold cutS at hc
  exact h c (List.mem_of_mem_drop (List.mem_of_mem_take (by simpa using hc)))
theorem cut_parts (z : Str) {sp : Int} (h0 : 0 ≤ sp) (h1 : sp ≤ z.length) : (cutS z none (some sp)).length + (cutS z (some sp) none).length = z.length := by
  obtain ⟨n, rfl⟩ : ∃ n : Nat, sp = n := ⟨sp.toNat, by omega⟩
  rw [str_len, str_len]
  unfold cutS
  have hz := str_len z
  simp only [HT.sIx_none, HT.sIx_nat, List.length_take, List.length_drop, Nat.sub_zero]
  omega
theorem mem_app {a y : Str} {c : Nat} : c ∈ (a ++ y).cps.toList ↔ c ∈ a.cps.toList ∨ c ∈ y.cps.toList := by
  rw [app_l, List.mem_append]
theorem word_shape (stem : Str) (sp base step : Int) (more : Str) (k : Nat) : ∃ r, (wordF stem sp base step more k).cps.toList = (cutS stem none (some sp)).cps.toList ++ sgn base step k :: r := by
  have h0 : (word0 stem sp base step more k).cps.toList = (cutS stem none (some sp)).cps.toList ++ sgn base step k :: ((cutS stem (some sp) none).cps.toList ++ (moreS more k).cps.toList) := by
    unfold word0
    rw [app_l, app_l, app_l]
    show ((_ ++ [sgn base step k]) ++ _) ++ _ = _
    simp
  unfold wordF
  split
  · exact ⟨_, by rw [app_l, h0, List.append_assoc, List.cons_append]⟩
  · exact ⟨_, h0⟩
theorem word_inj {stem : Str} {sp base step : Int} {more : Str} (N : NameP stem sp base step more) {j k : Nat} (hj : j < 20) (hk : k < 20) (e : wordF stem sp base step more j = wordF stem sp base step more k) : j = k := by
  obtain ⟨r, hr⟩ := word_shape stem sp base step more j
  obtain ⟨t, ht⟩ := word_shape stem sp base step more k
  rw [e, ht] at hr
  have := List.append_cancel_left hr
  injection this with h _
  exact (sgn_inj N hk hj h).symm
theorem word0_len {stem : Str} {sp base step : Int} {more : Str} (N : NameP stem sp base step more) (h0 : 0 ≤ sp) (h1 : sp ≤ stem.length) (k : Nat) : 1 ≤ (word0 stem sp base step more k).length ∧ (word0 stem sp base step more k).length ≤ 6 := by
  have := cut_parts stem h0 h1
  have l4 := N.l4
  have lm : (moreS more k).length ≤ 1 := by
    unfold moreS
    split
    · rcases N.mo with rfl | rfl | rfl <;> decide
    · decide
  have e : (word0 stem sp base step more k).length = (cutS stem none (some sp)).length + 1 + (cutS stem (some sp) none).length + (moreS more k).length := by
    unfold word0
    rw [Str.length_append, Str.length_append, Str.length_append]
    rfl
  omega
theorem word0_lets {stem : Str} {sp base step : Int} {more : Str} (N : NameP stem sp base step more) (k : Nat) : ∀ c ∈ (word0 stem sp base step more k).cps.toList, c ∈ letters.cps.toList := fun c hc => by
  unfold word0 at hc
  rcases mem_app.mp hc with hc | hc
  · rcases mem_app.mp hc with hc | hc
    · rcases mem_app.mp hc with hc | hc
      · exact cut_lets N.lets c hc
      · rw [List.mem_singleton.mp (show c ∈ [sgn base step k] from hc)]
        exact letters_mem _ (by omega)
    · exact cut_lets N.lets c hc
  · have : ∀ m : Str, (m = "" ∨ m = "a" ∨ m = "z") → ∀ c ∈ m.cps.toList, c ∈ letters.cps.toList := fun m h => by
      rcases h with rfl | rfl | rfl <;> decide +kernel
    unfold moreS at hc
    split at hc
    · exact this more N.mo c hc
    · exact this "" (.inl rfl) c hc
theorem word_ok {stem : Str} {sp base step : Int} {more : Str} (N : NameP stem sp base step more) (h0 : 0 ≤ sp) (h1 : sp ≤ stem.length) (k : Nat) : nameB (wordF stem sp base step more k) = true := by
  have l := word0_len N h0 h1 k
  have w := word_name (word0_lets N k)
  unfold wordF
  by_cases h : inV (.str (word0 stem sp base step more k)) kept = true
  · rw [if_pos h]
    generalize word0 stem sp base step more k = z at h
    have e : inV (.str z) ((["in", "out", "proc", "give"] : List Str).map V.str) = true := h
    rw [inV_names] at e
    have m := of_decide_eq_true e
    simp only [List.mem_cons, List.not_mem_nil, or_false] at m
    rcases m with rfl | rfl | rfl | rfl <;> decide +kernel
  · rw [if_neg h, w, if_pos l]
    simpa using h
/-- twenty names -/
def spNames20 : Sp := fun vs H Q _ => ∃ b c : Addr, vs = [V.ref b, .int 20] ∧ Bg H b c ∧ ∀ (H' : Hp) (D : Addr) (ws : List Str), Kp b H H' → Bg H' b c → H D = none → D ≠ b → H' D = some (.lst (ws.map V.str)) → ws.length = 20 → ws.Nodup → (∀ x ∈ ws, nameB x = true) → Q (.ref D) H'
section
variable {P : Program} {w : World} {K : PySem.W.Frag} {mg : Str → Option Value} {base : Heap}
theorem ok_l_names (F : Fn K mg "_law_names" s_l_names ["_law_bag_here", "_law_many"]) (B : Blt mg) (G_l_draw : Has P w K mg base 1 "_law_draw" ["_law_bag_here", "_law_many"] spDraw) (G_l_pick : Has P w K mg base 2 "_law_pick" ["_law_bag_here", "_law_some"] (spPick K)) (G_l_letters : Has P w K mg base 1 "_law_letters" [] (fun vs H Q _ => vs = [] ∧ Q (.str letters) H)) : Has P w K mg base 3 "_law_names" ["_law_bag_here", "_law_many"] spNames20 := by
  refine F.has sc_l_names (fun vs H Q E h => ?_) (fun f cdv A outer s H vs Q E hr h => ?_)
  · obtain ⟨a, _, rfl, _⟩ := h
    rfl
  obtain ⟨b, cc, rfl, B0, q⟩ := h
  refine ⟨_, (pss_cons (ps_set (i := 2) sc_l_names.nd rfl (Or.inl rfl) (pe_join pe_str (pe_lc (own := [("_law_k", 3)]) (g := gName 3) (tt := tYes) (by rfl) sc_l_names.nd (pi_range1 (by rfl) B.range (pa_cons (pe_own G_l_draw (hr.mono (by decide)) (by rfl) (pa_cons (pv 0) (pa_cons pe_int pa_nil))) pa_nil)) (blkOk_by (own := [("_law_k", 3)]) (N := N_l_names) (sc := defScope s_l_names) (by decide +kernel)) (fun _ _ _ _ _ => (pg_name (i := 3) sc_l_names.nd rfl (Or.inl rfl))) (fun _ _ _ _ _ => pts_nil) (fun _ _ _ _ _ => (pe_own G_l_pick (hr.mono (by decide)) (by rfl) (pa_cons (pv 0) (pa_cons (pe_own0 G_l_letters (hr.mono (by decide)) (by rfl)) pa_nil)))))))
      (pss_cons (ps_par3 (i := 4) (j := 5) (l := 6) rfl sc_l_names.nd rfl rfl rfl (by decide) (by decide) (by decide) rfl rfl rfl (pa_cons (pe_own G_l_draw (hr.mono (by decide)) (by rfl) (pa_cons (pv 0) (pa_cons (pe_op op_add (pe_callB call_len (by rfl) B.len bb_len (pa_cons (pv 2) pa_nil)) pe_int) pa_nil))) (pa_cons (pe_own G_l_draw (hr.mono (by decide)) (by rfl) (pa_cons (pv 0) (pa_cons pe_int pa_nil))) (pa_cons (pe_own G_l_pick (hr.mono (by decide)) (by rfl) (pa_cons (pv 0) (pa_cons (pe_lst (pa_cons pe_int (pa_cons pe_int (pa_cons pe_int (pa_cons pe_int pa_nil))))) pa_nil))) pa_nil))) rfl)
      (pss_cons (ps_set (i := 7) sc_l_names.nd rfl (Or.inl rfl) (pe_own G_l_pick (hr.mono (by decide)) (by rfl) (pa_cons (pv 0) (pa_cons (pe_lst (pa_cons pe_str (pa_cons pe_str (pa_cons pe_str (pa_cons pe_str pa_nil))))) pa_nil))))
      (pss_cons (ps_set (i := 8) sc_l_names.nd rfl (Or.inl rfl) (pe_lst pa_nil))
      (pss_cons (ps_for PassesOwn.never rfl (pi_range1 (by rfl) B.range (pa_cons (pv 1) pa_nil)) (pg_name (i := 3) sc_l_names.nd rfl (Or.inl rfl))
        (pss_cons (ps_set (i := 9) sc_l_names.nd rfl (Or.inl rfl) (pe_ix ix_str (pe_own0 G_l_letters (hr.mono (by decide)) (by rfl)) (pe_op op_mod (pe_callTy call_int1 (by rfl) B.int bb_int (pa_cons (pe_op op_add (pv 5) (pe_op op_mul (pv 6) (pv 3))) pa_nil)) pe_int) (fun _ _ => rfl)))
      (pss_cons (ps_set (i := 10) sc_l_names.nd rfl (Or.inl rfl) (pe_op op_add_str (pe_op op_add_str (pe_op op_add_str (pe_slice sl_str (pv 2) po_none (po_some (pv 4))) (pv 9)) (pe_slice sl_str (pv 2) (po_some (pv 4)) po_none)) (pe_op op_mul01 (pv 7) (pe_callTy call_int1 (by rfl) B.int bb_int (pa_cons (pe_cmpR op_eq (pe_op op_mod (pv 3) pe_int) pe_int (nomark _)) pa_nil)))))
      (pss_one (ps_expr (pe_bm PySem.F.plainAttrs_list PySem.F.slot_list_append PySem.F.type_list_append mt_append (pv 8) (pa_cons (pe_ifExp (pt_cmpR op_in_seq (pv 10) (pe_lst (pa_cons pe_str (pa_cons pe_str (pa_cons pe_str (pa_cons pe_str pa_nil))))) rfl) (pe_op op_add_str (pv 10) pe_str) (pv 10)) pa_nil)))))))
      (pss_one (ps_ret (pv 8)))))))), ?_⟩
  refine ⟨⟨"", rfl⟩, ?_⟩
  refine ⟨_, rfl, b, cc, _, rfl, B0, by decide, by decide, fun n H5 n0 n9 k5 B5 => ?_⟩
  refine ⟨n, rfl, by omega, by omega, fun D hD => lc_it walk_range (fun i H' => ∃ cs : List Nat, cs.length = i ∧ (∀ c ∈ cs, c ∈ letters.cps.toList) ∧ Kp b H5 H' ∧ Bg H' b cc ∧ H' D = some (.lst (cs.map fun c => V.str ⟨#[c]⟩)))
    ⟨[], rfl, by simp, Kp.of (same_upd hD), B5.same (same_upd hD), upd_same⟩ (fun _ _ _ _ => True.intro) ?_ ?_⟩
  · rintro j v Ha Hb hj ⟨cs, rfl, hcs, ka, Ba, ea⟩ ⟨rfl, rfl⟩
    refine ⟨rfl, tYes_ok ?_⟩
    refine ⟨_, rfl, rfl, b, cc, .str letters, rfl, Ba, .inr ⟨letters, rfl, by decide +kernel, by decide +kernel, fun c Hc hc kc Bc => ?_⟩⟩
    have hDb : D ≠ b := B5.ne_new hD
    have ec := kc _ _ hDb ea
    have kd : Kp D Hc (upd Hc D (.lst (cs.map (fun c => V.str ⟨#[c]⟩) ++ [.str ⟨#[c]⟩]))) := Kp.upd
    refine ⟨_, ec, by rw [List.length_map]; exact small1000 (by omega), cs ++ [c], by rw [List.length_append]; rfl, ?_, ?_, ?_, ?_⟩
    · intro d hd
      rcases List.mem_append.mp hd with h | h
      · exact hcs d h
      · rw [List.mem_singleton.mp h]
        exact hc
    · intro x o hx ho
      have hxD : x ≠ D := ne_of_none ho hD
      rw [upd_ne hxD]
      exact kc _ _ hx (ka _ _ hx ho)
    · exact Bc.kp hDb (B5.ne_new2 hD) kd
    · rw [upd_same, List.map_append]
      rfl
  rintro H6 ⟨cs, hcl, hcs, k6, B6, e6⟩
  have k06 := k5.trans k6
  have eys : cs.map (fun c => V.str ⟨#[c]⟩) = (cs.map fun c => (⟨#[c]⟩ : Str)).map V.str := by rw [List.map_map]; rfl
  refine ⟨"", D, cs.map fun c => (⟨#[c]⟩ : Str), rfl, rfl, .inl (SqL.of (by rw [e6, eys])), ?_, ?_⟩
  · rw [ones_sum, List.length_map]
    show cs.length + cs.length * 0 ≤ 16777216
    omega
  obtain ⟨z, hz⟩ : ∃ z : Str, z = Txt.join "" (cs.map fun c => (⟨#[c]⟩ : Str)) := ⟨_, rfl⟩
  have zl : z.cps.toList = cs := by rw [hz, join1]
  rw [← hz]
  have zlen : z.length ≤ 4 := by
    rw [str_len, zl, hcl]
    omega
  have zlet : ∀ c ∈ z.cps.toList, c ∈ letters.cps.toList := by rw [zl]; exact hcs
  have zs : z.length ≤ sizeLine := Nat.le_of_lt (small1000 (by omega))
  refine ⟨_, rfl, _, rfl, .str z, z.length, rfl, ⟨zs, rfl⟩, _, _, rfl, rfl, b, cc, _, rfl, B6, by omega, by omega, fun sp H7 p0 p9 k7 B7 => ?_⟩
  refine ⟨_, rfl, b, cc, _, rfl, B7, by decide, by decide, fun ba H8 b0 b9 k8 B8 => ?_⟩
  refine ⟨_, rfl, (by show 4 ≤ sizeLine; decide), fun l3 n3 => ?_⟩
  refine ⟨b, cc, .ref l3, rfl, B8.same (same_upd n3), .inl ⟨l3, _, rfl, B8.ne_new n3, upd_same, by simp, (by show 4 ≤ 1000; decide), fun v H9 hv k9 B9 => ?_⟩⟩
  obtain ⟨st, rfl, hst⟩ : ∃ st : Int, v = .int st ∧ (st = 1 ∨ st = 3 ∨ st = 5 ∨ st = 7) := by
    simp only [List.mem_cons, List.not_mem_nil, or_false] at hv
    rcases hv with rfl | rfl | rfl | rfl
    · exact ⟨_, rfl, .inl rfl⟩
    · exact ⟨_, rfl, .inr (.inl rfl)⟩
    · exact ⟨_, rfl, .inr (.inr (.inl rfl))⟩
    · exact ⟨_, rfl, .inr (.inr (.inr rfl))⟩
  refine ⟨_, _, _, rfl, ?_⟩
  refine ⟨_, rfl, (by show 4 ≤ sizeLine; decide), fun l4 n4 => ?_⟩
  refine ⟨b, cc, .ref l4, rfl, B9.same (same_upd n4), .inl ⟨l4, _, rfl, B9.ne_new n4, upd_same, by simp, (by show 4 ≤ 1000; decide), fun v Ha hv ka Ba => ?_⟩⟩
  obtain ⟨mo, rfl, hmo⟩ : ∃ mo : Str, v = .str mo ∧ (mo = "" ∨ mo = "a" ∨ mo = "z") := by
    simp only [List.mem_cons, List.not_mem_nil, or_false] at hv
    rcases hv with rfl | rfl | rfl | rfl
    · exact ⟨_, rfl, .inl rfl⟩
    · exact ⟨_, rfl, .inl rfl⟩
    · exact ⟨_, rfl, .inr (.inl rfl)⟩
    · exact ⟨_, rfl, .inr (.inr rfl)⟩
  have N : NameP z sp ba st mo := ⟨zlen, zlet, b0, b9, hst, hmo⟩
  have k0a : Kp b H Ha := k06.trans (k7.trans (k8.trans ((Kp.of (same_upd n3)).trans (k9.trans ((Kp.of (same_upd n4)).trans ka)))))
  refine ⟨by show 0 ≤ sizeLine; decide, fun D hD2 => ?_⟩
  have nDb := Ba.ne_new hD2
  have nDc := Ba.ne_new2 hD2
  refine ⟨_, rfl, 20, rfl, by decide, by decide, for_range (n := 20) (fun i σ H' => ∃ y3 y9 y10, σ = [some (.ref b), some (.int 20), some (.str z), y3, some (.int sp), some (.int ba), some (.int st), some (.str mo), some (.ref D), y9, y10] ∧ Kp b H H' ∧ Bg H' b cc ∧ H' D = some (.lst (((List.range i).map (wordF z sp ba st mo)).map V.str)))
    ⟨_, _, _, rfl, k0a.trans (Kp.of (same_upd hD2)), Ba.same (same_upd hD2), upd_same⟩ ?_ ?_⟩
  · rintro i σ H' hi ⟨y3, y9, y10, rfl, kk, Bk, ek⟩
    have hin : (0 + (i : Int)) = (i : Int) := by omega
    refine ⟨rfl, _, rfl, _, rfl, _, rfl, _, _, rfl, rfl, by unfold CMul; constructor <;> omega, _, _, rfl, rfl, .inl ⟨_, rfl, _, _, rfl, rfl, (by show (0 : Int) < 26; decide), ?_⟩⟩
    have sg : atI letters.cps.toList ((ba + st * (0 + (i : Int))) % 26) = some (sgn ba st i) := by
      unfold sgn
      rw [hin]
      have lt : ((ba + st * (i : Int)) % 26).toNat < 26 := by omega
      have l26 : letters.cps.toList.length = 26 := rfl
      refine at_ofG (j := ((ba + st * (i : Int)) % 26).toNat) (by omega) ?_
      rw [List.getElem?_eq_getElem (by omega)]
      simp [List.getD, lt, l26]
    refine ⟨letters, _, _, rfl, rfl, by decide, sg, ?_⟩
    have c0 := cut_parts z p0 (by omega)
    have lm : ∀ k : Nat, (moreS mo k).length ≤ 1 := fun k => by
      unfold moreS
      split
      · rcases hmo with rfl | rfl | rfl <;> decide
      · decide
    refine ⟨_, rfl, _, rfl, _, rfl, z, rfl, zs, ?_⟩
    have l1 : (cutS z none (some sp) ++ (⟨#[sgn ba st i]⟩ : Str)).length = (cutS z none (some sp)).length + 1 := by rw [Str.length_append]; rfl
    refine ⟨_, rfl, _, _, rfl, rfl, Nat.le_of_lt (small1000 (by show (cutS z none (some sp)).length + 1 ≤ 1000; omega)), ?_⟩
    refine ⟨_, rfl, _, rfl, _, rfl, z, rfl, zs, ?_⟩
    refine ⟨_, _, rfl, rfl, Nat.le_of_lt (small1000 (by rw [l1]; omega)), ?_⟩
    refine ⟨_, rfl, _, rfl, _, _, rfl, rfl, (by show (0 : Int) < 2; decide), rfl, .inr ⟨_, rfl, mo, _, rfl, rfl, ?_, ?_⟩⟩
    · split
      · exact .inr rfl
      · exact .inl rfl
    have em : (if (if decide (V.int ((0 + (i : Int)) % 2) = V.int 1) = true then (1 : Int) else 0) = 1 then mo else Str.empty) = moreS mo i := by
      unfold moreS
      by_cases c : i % 2 = 1
      · rw [if_pos c, if_pos]
        rw [if_pos]
        refine decide_eq_true ?_
        rw [show (0 + (i : Int)) % 2 = 1 by omega]
      · rw [if_neg c, if_neg]
        rw [if_neg]
        · decide
        · refine fun z => c ?_
          have := V.int.inj (of_decide_eq_true z)
          omega
    rw [em]
    have l2 : (cutS z none (some sp) ++ (⟨#[sgn ba st i]⟩ : Str) ++ cutS z (some sp) none).length ≤ 10 := by
      rw [Str.length_append, l1]
      omega
    have lmi := lm i
    refine ⟨_, _, rfl, rfl, Nat.le_of_lt (small1000 (by omega)), ?_⟩
    have e0 : cutS z none (some sp) ++ (⟨#[sgn ba st i]⟩ : Str) ++ cutS z (some sp) none ++ moreS mo i = word0 z sp ba st mo i := rfl
    rw [e0]
    have l0 := word0_len N p0 (by omega) i
    have fin : ∀ (Hn : Hp) (x : Str), Same H' Hn → x = wordF z sp ba st mo i → Kp b H (upd Hn D (.lst (((List.range i).map (wordF z sp ba st mo)).map V.str ++ [.str x]))) ∧ Bg (upd Hn D (.lst (((List.range i).map (wordF z sp ba st mo)).map V.str ++ [.str x]))) b cc ∧
        (upd Hn D (.lst (((List.range i).map (wordF z sp ba st mo)).map V.str ++ [.str x]))) D = some (.lst (((List.range (i + 1)).map (wordF z sp ba st mo)).map V.str)) := fun Hn x sn ex => by
      subst ex
      refine ⟨kp_push (kk.trans (Kp.of sn)) (k0a.free nDb hD2), (Bk.same sn).kp nDb nDc Kp.upd, ?_⟩
      rw [upd_same, List.range_succ, List.map_append, List.map_append]
      rfl
    refine ⟨_, rfl, .inl ⟨rfl, _, SqL.of ek⟩, _, rfl, (by show 4 ≤ sizeLine; decide), fun l5 n5 => ?_⟩
    have s5 := same_upd (o := .lst kept) n5
    refine ⟨l5, kept, rfl, .inl (SqL.of upd_same), rfl, rfl, ?_⟩
    by_cases c : inV (.str (word0 z sp ba st mo i)) kept = true
    · have ew : wordF z sp ba st mo i = word0 z sp ba st mo i ++ ("q" : Str) := if_pos c
      refine ⟨_, rfl, ite_of c ⟨_, rfl, _, _, rfl, rfl, Nat.le_of_lt (small1000 (by show _ + 1 ≤ 1000; omega)), D, _, _, rfl, rfl, s5 _ _ ek, small1000 (by simp; omega), ?_⟩⟩
      obtain ⟨f1, f2, f3⟩ := fin _ _ s5 ew.symm
      exact ⟨_, _, _, rfl, f1, f2, f3⟩
    · have ew : wordF z sp ba st mo i = word0 z sp ba st mo i := if_neg c
      refine ⟨_, rfl, ite_no c ⟨_, rfl, D, _, _, rfl, rfl, s5 _ _ ek, small1000 (by simp; omega), ?_⟩⟩
      obtain ⟨f1, f2, f3⟩ := fin _ _ s5 ew.symm
      exact ⟨_, _, _, rfl, f1, f2, f3⟩
  · rintro σ H' ⟨y3, y9, y10, rfl, kk, Bk, ek⟩
    refine ⟨_, rfl, q H' D _ kk Bk (k0a.free nDb hD2) nDb ek (by simp) ?_ ?_⟩
    · refine List.pairwise_map.mpr ((List.nodup_range (n := 20)).imp_of_mem fun {a b} ha hb ne e => ne (word_inj N (List.mem_range.mp ha) (List.mem_range.mp hb) e))
    · intro x hx
      obtain ⟨k, hk, rfl⟩ := List.mem_map.mp hx
      exact word_ok N p0 (by omega) k
end
end My
/-! the law's bench is good -/
namespace My
open PySem PySem.Spec PyProof.Rows L2
/-- lines as the law makes them -/
structure Drawn (ins : List Str) (ds : List LineD) : Prop where
  nums : ∀ d ∈ ds, ∃ (x : Str) (fs : List (Int × Str)), d = .line x (fs.map numP)
  lp : ∀ d ∈ ds, 1 ≤ (facs d).length ∧ (facs d).length ≤ 48
  nz : ∀ d ∈ ds, ∀ p ∈ facs d, p.1 ≠ 0 ∧ -(2 ^ 64) < p.1 ∧ p.1 < 2 ^ 64
  pn : ∀ d ∈ ds, ((facs d).map (·.2)).Nodup
  told : ∀ i d, ds[i]? = some d → ∀ p ∈ facs d, p.2 ∈ turnN ins (ds.take i)
theorem Drawn.nil (ins : List Str) : Drawn ins [] := ⟨fun d h => (by cases h), fun d h => (by cases h), fun d h => (by cases h), fun d h => (by cases h), fun i d h => by simp at h⟩
theorem Drawn.snoc {ins : List Str} {ds : List LineD} {x : Str} {fs : List (Int × Str)} (D : Drawn ins ds) (l : 1 ≤ fs.length ∧ fs.length ≤ 48) (nz : ∀ p ∈ fs, p.1 ≠ 0 ∧ -(2 ^ 64) < p.1 ∧ p.1 < 2 ^ 64) (pn : (fs.map (·.2)).Nodup) (told : ∀ p ∈ fs, p.2 ∈ turnN ins ds) : Drawn ins (ds ++ [.line x (fs.map numP)]) := by
  have mem : ∀ {Pr : LineD → Prop}, (∀ d ∈ ds, Pr d) → Pr (.line x (fs.map numP)) → ∀ d ∈ ds ++ [.line x (fs.map numP)], Pr d := fun h1 h2 d hd => by
    rcases List.mem_append.mp hd with h | h
    · exact h1 d h
    · rw [List.mem_singleton.mp h]
      exact h2
  refine ⟨mem D.nums ⟨x, fs, rfl⟩, mem D.lp (by rw [facs_line]; exact l), mem D.nz (by rw [facs_line]; exact nz), mem D.pn (by rw [facs_line]; exact pn), fun i d h p hp => ?_⟩
  by_cases c : i < ds.length
  · rw [List.getElem?_append_left c] at h
    rw [List.take_append_of_le_length (Nat.le_of_lt c)]
    exact D.told i d h p hp
  · rw [List.getElem?_append_right (by omega)] at h
    have : i = ds.length := by
      have := (List.getElem?_eq_some_iff.mp h).1
      simp at this
      omega
    subst this
    rw [Nat.sub_self] at h
    have : LineD.line x (fs.map numP) = d := by simpa using h
    subst this
    rw [facs_line] at hp
    rw [List.take_left' rfl]
    exact told p hp
def usedF (ds : List LineD) : List Str := ds.flatMap fun d => (facs d).map (·.2)
def lostF (ins : List Str) (ds : List LineD) : List Str := (turnN ins ds).filter fun x => !decide (x ∈ usedF ds)
theorem mem_used {ds : List LineD} {x : Str} : x ∈ usedF ds ↔ ∃ d ∈ ds, ∃ p ∈ facs d, p.2 = x := by
  unfold usedF
  rw [List.mem_flatMap]
  constructor
  · rintro ⟨d, hd, h⟩
    obtain ⟨p, hp, e⟩ := List.mem_map.mp h
    exact ⟨d, hd, p, hp, e⟩
  · rintro ⟨d, hd, p, hp, e⟩
    exact ⟨d, hd, List.mem_map.mpr ⟨p, hp, e⟩⟩
theorem lost_pos {ins : List Str} {ds : List LineD} (D : Drawn ins ds) (nd : (turnN ins ds).Nodup) (li : 1 ≤ ins.length) : 1 ≤ (lostF ins ds).length := by
  -- the last of all is not used
  have ln : (turnN ins ds).length = ins.length + ds.length := by simp [turnN]
  have lt : (turnN ins ds).length - 1 < (turnN ins ds).length := by omega
  refine List.length_pos_of_mem (a := (turnN ins ds)[(turnN ins ds).length - 1]) (List.mem_filter.mpr ⟨List.getElem_mem _, ?_⟩)
  rw [decide_eq_false]
  · rfl
  intro h
  obtain ⟨d, hd, p, hp, e⟩ := mem_used.mp h
  obtain ⟨k, lk, ek⟩ := List.mem_iff_getElem.mp hd
  obtain ⟨i, hi, ei⟩ := take_at (D.told k d (by rw [List.getElem?_eq_getElem lk, ek]) p hp)
  have := nodup_at nd ei (j := (turnN ins ds).length - 1) (by rw [e, List.getElem?_eq_getElem lt])
  omega
theorem lost_few {ins : List Str} {ds : List LineD} (D : Drawn ins ds) (li : ins.length ≤ 4) (ld : ds.length ≤ 5) : (lostF ins ds).length ≤ 8 := by
  have ln : (turnN ins ds).length = ins.length + ds.length := by simp [turnN]
  have le : (lostF ins ds).length ≤ (turnN ins ds).length := List.length_filter_le _ _
  by_cases c : (turnN ins ds).length ≤ 8
  · omega
  have hd : ds[0]? = some (ds[0]'(by omega)) := List.getElem?_eq_getElem (by omega)
  obtain ⟨p, hp⟩ := List.exists_mem_of_length_pos (D.lp _ (List.mem_of_getElem? hd)).1
  obtain ⟨i, _, ei⟩ := take_at (ds := ds) (D.told 0 _ hd p hp)
  have : (lostF ins ds).length < (turnN ins ds).length := by
    unfold lostF
    refine Nat.lt_of_le_of_ne (List.length_filter_le _ _) fun z => ?_
    have := List.filter_eq_self.mp (List.length_filter_eq_length_iff.mp z |> fun h => List.filter_eq_self.mpr h) p.2 (List.mem_of_getElem? ei)
    rw [decide_eq_true (mem_used.mpr ⟨_, List.mem_of_getElem? hd, p, hp, rfl⟩)] at this
    cases this
  omega
theorem good_drawn {ins : List Str} {ds : List LineD} {ex : List Str} (D : Drawn ins ds) (nd : (turnN ins ds).Nodup) (nm : ∀ x ∈ turnN ins ds, nameB x = true) (li : 1 ≤ ins.length ∧ ins.length ≤ 4) (ld : ds.length ≤ 5) (hex : ∀ x ∈ ex, x ∈ turnN ins ds) (lex : (lostF ins ds).length + ex.length ≤ 8) : Good ins ds (lostF ins ds ++ ex) := by
  have lp := lost_pos D nd li.1
  refine ⟨D.nums, nd, nm, ⟨li.1, by omega⟩, by omega, D.lp, fun d hd p hp => (D.nz d hd p hp).1, D.pn, D.told, ⟨by rw [List.length_append]; omega, by rw [List.length_append]; omega⟩, fun x hx => ?_, fun x hx => ?_⟩
  · rcases List.mem_append.mp hx with h | h
    · exact (List.mem_filter.mp h).1
    · exact hex x h
  · by_cases c : x ∈ usedF ds
    · exact .inr (mem_used.mp c)
    · refine .inl (List.mem_append.mpr (.inl (List.mem_filter.mpr ⟨hx, ?_⟩)))
      rw [decide_eq_false c]
      rfl
def SlimF (ds : List LineD) : Prop := ∀ d ∈ ds, ∀ p ∈ facs d, -(2 ^ 64) < p.1 ∧ p.1 < 2 ^ 64
theorem slim_of {ds : List LineD} (nums : ∀ d ∈ ds, ∃ (x : Str) (fs : List (Int × Str)), d = .line x (fs.map numP)) (h : SlimF ds) : Slim ds := fun d hd f y hp => by
  obtain ⟨x, fs, rfl⟩ := nums d hd
  obtain ⟨q, hq, e⟩ := List.mem_map.mp hp
  cases e
  exact h _ hd q (by rw [facs_line]; exact hq)
theorem slim_turn {ins : List Str} {ds : List LineD} {outs : List Str} (nums : ∀ d ∈ ds, ∃ (x : Str) (fs : List (Int × Str)), d = .line x (fs.map numP)) (h : SlimF ds) : SlimF (turnD ins ds outs) := fun d hd p hp => by
  obtain ⟨n, _, rfl⟩ := turn_mem hd
  rw [facs_turn nums] at hp
  obtain ⟨q, hq, rfl⟩ := List.mem_map.mp hp
  rcases List.mem_append.mp (mem_fib.mp hq).1 with h1 | h1
  · obtain ⟨r, _, rfl⟩ := List.mem_map.mp h1
    exact ⟨by show -(2 ^ 64) < (1 : Int); decide, by show (1 : Int) < 2 ^ 64; decide⟩
  · obtain ⟨d, hd, h1⟩ := List.mem_flatMap.mp h1
    obtain ⟨r, hr, rfl⟩ := List.mem_map.mp h1
    exact h d hd r hr
theorem drawn_nd {ws : List Str} {s m : Nat} (nd : ws.Nodup) (hs : s ≤ 6) : (ws.take s ++ (ws.drop 6).take m).Nodup := by
  have h : List.Sublist (ws.take s ++ (ws.drop 6).take m) (ws.take 6 ++ ws.drop 6) := List.Sublist.append (List.take_sublist_take_left hs) (List.take_sublist _ _)
  rw [List.take_append_drop] at h
  exact nd.sublist h
def unV : V → Str
  | .str x => x
  | _ => Str.empty
/-- an order of names, as values -/
theorem mixed_names {ys : List V} {ns : List Str} (h : ys ∈ mixF (ns.map V.str)) : ∃ zs : List Str, ys = zs.map V.str ∧ zs.Perm ns := by
  have p := mixF_perm _ _ _ rfl h
  have e : (ys.map unV).map V.str = ys := by
    rw [List.map_map]
    have : ∀ l : List V, (∀ v ∈ l, v ∈ ns.map V.str) → l.map (V.str ∘ unV) = l := fun l => by
      induction l with
      | nil => intro _; rfl
      | cons a l ih =>
        intro h
        obtain ⟨x, _, rfl⟩ := List.mem_map.mp (h a List.mem_cons_self)
        rw [List.map_cons, ih fun v hv => h v (List.mem_cons_of_mem _ hv)]
        rfl
    exact this ys fun v hv => p.mem_iff.mp hv
  refine ⟨ys.map unV, e.symm, ?_⟩
  have := p.map unV
  rw [List.map_map] at this
  have e2 : ns.map (unV ∘ V.str) = ns := List.map_id _
  rwa [e2] at this
end My
/-! the law's bench -/
namespace My
open PySem PySem.Spec PyProof.Rows L2
/-- all but what stands at X stays -/
def KX (X : Addr → Prop) (H H' : Hp) : Prop := ∀ a o, ¬ X a → H a = some o → H' a = some o
theorem KX.refl {X : Addr → Prop} {H : Hp} : KX X H H := fun _ _ _ h => h
theorem KX.trans {X : Addr → Prop} {H H1 H2 : Hp} (x : KX X H H1) (y : KX X H1 H2) : KX X H H2 := fun a o n h => y a o n (x a o n h)
theorem KX.same {X : Addr → Prop} {H H' : Hp} (s : Same H H') : KX X H H' := fun a o _ h => s a o h
theorem KX.kp {X : Addr → Prop} {b : Addr} {H H' : Hp} (hb : X b) (k : Kp b H H') : KX X H H' := fun a o n h => k a o (fun z => n (by rw [z]; exact hb)) h
theorem KX.upd {X : Addr → Prop} {b : Addr} {H : Hp} {o : HO} (hb : X b) : KX X H (upd H b o) := KX.kp hb Kp.upd
/-- a line, apart from X -/
def LnAt (X : Addr → Prop) (H : Hp) (v : V) : LineD → Prop
  | .line x ps => ∃ a p cs, v = .ref a ∧ ¬ X a ∧ ¬ X p ∧ H a = some (.tup [.str x, .ref p]) ∧ H p = some (.lst (cs.map V.ref)) ∧ Paired (fun c q => ¬ X c ∧ PartAt H (.ref c) q) cs ps ∧ x.length ≤ 1000 ∧ ps.length ≤ 100 ∧ ∀ q ∈ ps, ∃ n y, q = .num n y
  | _ => False
theorem pnum_kx {X : Addr → Prop} {H H' : Hp} (k : KX X H H') : ∀ {cs : List Addr} {ps : List PartD}, Paired (fun c q => ¬ X c ∧ PartAt H (.ref c) q) cs ps → (∀ q ∈ ps, ∃ n y, q = .num n y) → Paired (fun c q => ¬ X c ∧ PartAt H' (.ref c) q) cs ps
  | _, _, .nil, _ => .nil
  | _, _, .cons (b := q) h t, nm => by
    obtain ⟨n, y, rfl⟩ := nm q List.mem_cons_self
    obtain ⟨hx, a, e, h1, l⟩ := h
    cases e
    exact .cons ⟨hx, _, rfl, k _ _ hx h1, l⟩ (pnum_kx k t (fun q hq => nm q (List.mem_cons_of_mem _ hq)))
theorem LnAt.kx {X : Addr → Prop} {H H' : Hp} {v : V} (k : KX X H H') : ∀ {d : LineD}, LnAt X H v d → LnAt X H' v d
  | .line x ps, ⟨a, p, cs, e, xa, xp, h1, h2, pr, l, m, nm⟩ => ⟨a, p, cs, e, xa, xp, k _ _ xa h1, k _ _ xp h2, pnum_kx k pr nm, l, m, nm⟩
theorem refs_pair {X : Addr → Prop} {H : Hp} : ∀ {cs : List Addr} {ps : List PartD}, Paired (fun c q => ¬ X c ∧ PartAt H (.ref c) q) cs ps → Paired (PartAt H) (cs.map V.ref) ps
  | _, _, .nil => .nil
  | _, _, .cons h t => .cons h.2 (refs_pair t)
theorem LnAt.line {X : Addr → Prop} {H : Hp} {v : V} : ∀ {d : LineD}, LnAt X H v d → LineAt H v d
  | .line x ps, ⟨a, p, cs, e, xa, xp, h1, h2, pr, l, m, nm⟩ => ⟨a, p, cs.map V.ref, e, h1, h2, refs_pair pr, l, m⟩
theorem pmapR {α β γ : Type} {F : α → β → Prop} {G : α → γ → Prop} {f : β → γ} (h : ∀ x y, F x y → G x (f y)) : ∀ {xs : List α} {ys : List β}, Paired F xs ys → Paired G xs (ys.map f)
  | _, _, .nil => .nil
  | _, _, .cons a t => .cons (h _ _ a) (pmapR h t)
theorem LnAt.weak {X Y : Addr → Prop} (h : ∀ a, Y a → X a) {H : Hp} {v : V} : ∀ {d : LineD}, LnAt X H v d → LnAt Y H v d
  | .line x ps, ⟨a, p, cs, e, xa, xp, h1, h2, pr, l, m, nm⟩ => ⟨a, p, cs, e, fun z => xa (h _ z), fun z => xp (h _ z), h1, h2, pmono (fun c q w => ⟨fun z => w.1 (h _ z), w.2⟩) pr, l, m, nm⟩
theorem name_short {x : Str} (h : nameB x = true) : x.length ≤ 6 := by
  unfold nameB at h
  by_cases c : 1 ≤ x.length ∧ x.length ≤ 6
  · exact c.2
  · rw [if_neg c] at h
    cases h
def spBench : Sp := fun vs H Q _ => ∃ b c : Addr, vs = [V.ref b] ∧ Bg H b c ∧ ∀ (H' : Hp) (T S L O : Addr) (ins outs : List Str) (ls : List V) (ds : List LineD), Kp b H H' → Bg H' b c → H' T = some (.tup [.ref S, .ref L, .ref O]) → H' S = some (.lst (ins.map V.str)) → S ≠ b →
  H' L = some (.lst ls) → L ≠ b → Paired (LnAt (fun a => a = b) H') ls ds → H' O = some (.lst (outs.map V.str)) → O ≠ b → Good ins ds outs → SlimF ds → ins.length ≤ 4 → ds.length ≤ 5 → Q (.ref T) H'
theorem cut_mid {xs : List V} {m : Nat} (h : xs.length = 20) (hm : m ≤ 5) : cutV xs (some 6) (some ((6 + m : Nat) : Int)) = (xs.drop 6).take m := by
  unfold cutV
  rw [show (some (6 : Int)) = some ((6 : Nat) : Int) from rfl, HT.sIx_nat, HT.sIx_nat, h, show min 6 20 = 6 from rfl, show min (6 + m) 20 - 6 = m by omega]
section
variable {P : Program} {w : World} {K : PySem.W.Frag} {mg : Str → Option Value} {base : Heap}
theorem ok_l_bench (F : Fn K mg "_law_bench" s_l_bench ["_law_bag_here"]) (B : Blt mg) (G_l_draw : Has P w K mg base 1 "_law_draw" ["_law_bag_here", "_law_many"] spDraw) (G_l_pick : Has P w K mg base 2 "_law_pick" ["_law_bag_here", "_law_some"] (spPick K)) (G_l_mixed : Has P w K mg base 2 "_law_mixed" ["_law_bag_here", "_law_some"] (spMixed K)) (G_l_names : Has P w K mg base 3 "_law_names" ["_law_bag_here", "_law_many"] spNames20) : Has P w K mg base 4 "_law_bench" ["_law_bag_here"] spBench := by
  refine F.has sc_l_bench (fun vs H Q E h => ?_) (fun f cdv A outer s H vs Q E hr h => ?_)
  · obtain ⟨a, _, rfl, _⟩ := h
    rfl
  obtain ⟨b, cc, rfl, B0, q⟩ := h
  refine ⟨_, (pss_cons (ps_set (i := 1) sc_l_bench.nd rfl (Or.inl rfl) (pe_own G_l_names (hr.mono (by decide)) (by rfl) (pa_cons (pv 0) (pa_cons pe_int pa_nil))))
      (pss_cons (ps_par3 (i := 2) (j := 3) (l := 4) rfl sc_l_bench.nd rfl rfl rfl (by decide) (by decide) (by decide) rfl rfl rfl (pa_cons (pe_slice sl_list (pv 1) po_none (po_some (pe_op op_add pe_int (pe_own G_l_draw (hr.mono (by decide)) (by rfl) (pa_cons (pv 0) (pa_cons pe_int pa_nil)))))) (pa_cons (pe_lst pa_nil) (pa_cons (pe_lst pa_nil) pa_nil))) rfl)
      (pss_cons (ps_set (i := 4) sc_l_bench.nd rfl (Or.inl rfl) (pe_callTy call_list_of (by rfl) B.list bb_list (pa_cons (pv 2) pa_nil)))
      (pss_cons (ps_for PassesOwn.never rfl (pi_list (pe_slice sl_list (pv 1) (po_some pe_int) (po_some (pe_op op_add pe_int (pe_own G_l_draw (hr.mono (by decide)) (by rfl) (pa_cons (pv 0) (pa_cons pe_int pa_nil))))))) (pg_name (i := 5) sc_l_bench.nd rfl (Or.inl rfl))
        (pss_cons (ps_set (i := 6) sc_l_bench.nd rfl (Or.inl rfl) (pe_slice sl_list (pe_own G_l_mixed (hr.mono (by decide)) (by rfl) (pa_cons (pv 0) (pa_cons (pv 4) pa_nil))) po_none (po_some (pe_op op_add pe_int (pe_own G_l_draw (hr.mono (by decide)) (by rfl) (pa_cons (pv 0) (pa_cons (pe_callB (call_min2 rfl) (by rfl) B.min bb_min (pa_cons pe_int (pa_cons (pe_callB call_len (by rfl) B.len bb_len (pa_cons (pv 4) pa_nil)) pa_nil))) pa_nil)))))))
      (pss_cons (ps_expr (pe_bm PySem.F.plainAttrs_list PySem.F.slot_list_append PySem.F.type_list_append mt_append (pv 3) (pa_cons (pe_tup (pa_cons (pv 5) (pa_cons (pe_lc (own := [("_law_part", 7)]) (g := gName 7) (tt := tYes) (by rfl) sc_l_bench.nd (pi_list (pv 6)) (blkOk_by (own := [("_law_part", 7)]) (N := N_l_bench) (sc := defScope s_l_bench) (by decide +kernel)) (fun _ _ _ _ _ => (pg_name (i := 7) sc_l_bench.nd rfl (Or.inl rfl))) (fun _ _ _ _ _ => pts_nil) (fun _ _ _ _ _ => (pe_tup (pa_cons (pe_own G_l_pick (hr.mono (by decide)) (by rfl) (pa_cons (pv 0) (pa_cons (pe_lst (pa_cons pe_int (pa_cons pe_int (pa_cons (pe_un un_neg pe_int) (pa_cons pe_int (pa_cons (pe_un un_neg pe_int) (pa_cons (pe_op op_add pe_int (pe_own G_l_draw (hr.mono (by decide)) (by rfl) (pa_cons (pv 0) (pa_cons pe_int pa_nil)))) pa_nil))))))) pa_nil))) (pa_cons (pv 7) pa_nil))))) pa_nil))) pa_nil)))
      (pss_one (ps_expr (pe_bm PySem.F.plainAttrs_list PySem.F.slot_list_append PySem.F.type_list_append mt_append (pv 4) (pa_cons (pv 5) pa_nil)))))))
      (pss_cons (ps_set (i := 8) sc_l_bench.nd rfl (Or.inr rfl) (pe_lst pa_nil))
      (pss_cons (ps_for PassesOwn.never rfl (pi_list (pv 3)) (pg_name (i := 9) sc_l_bench.nd rfl (Or.inl rfl))
        (pss_one (ps_set (i := 8) sc_l_bench.nd rfl (Or.inr rfl) (pe_op op_cat (pv 8) (pe_lc (own := [("_law_factor", 10), ("_law_part", 7)]) (g := gTup K 2 (gCons (gName 10) (gCons (gName 7) gNil))) (tt := tYes) (by rfl) sc_l_bench.nd (pi_list (pe_ix ix_tup (pv 9) pe_int (fun _ _ => rfl))) (blkOk_by (own := [("_law_factor", 10), ("_law_part", 7)]) (N := N_l_bench) (sc := defScope s_l_bench) (by decide +kernel)) (fun _ _ _ _ _ => (pg_tup rfl (pgs_cons (pg_name (i := 10) sc_l_bench.nd rfl (Or.inl rfl)) (pgs_cons (pg_name (i := 7) sc_l_bench.nd rfl (Or.inl rfl)) pgs_nil)))) (fun _ _ _ _ _ => pts_nil) (fun _ _ _ _ _ => (pv 7)))))))
      (pss_cons (ps_setLc (i := 11) (own := [("_law_name", 5)]) (g := gName 5) (by rfl) sc_l_bench.nd rfl rfl (sw_true rfl rfl rfl (by decide +kernel)) (pi_list (pv 4)) (blkOk_by (own := [("_law_name", 5)]) (N := N_l_bench) (sc := defScope s_l_bench) (by decide +kernel)) (fun _ _ _ _ _ => (pg_name (i := 5) sc_l_bench.nd rfl (Or.inl rfl))) (fun _ _ _ _ _ => (pts_one (pt_cmpR (notIn_seqK K rfl) (pv 5) (pv 8) rfl))) (fun _ _ _ _ _ => (pv 5)))
      (pss_one (ps_ret (pe_tup (pa_cons (pv 2) (pa_cons (pv 3) (pa_cons (pe_op op_cat (pv 11) (pe_op op_rep (pe_lst (pa_cons (pe_own G_l_pick (hr.mono (by decide)) (by rfl) (pa_cons (pv 0) (pa_cons (pv 4) pa_nil))) pa_nil)) (pe_callTy call_int1 (by rfl) B.int bb_int (pa_cons (pe_and (pe_cmpR op_lt (pe_callB call_len (by rfl) B.len bb_len (pa_cons (pv 11) pa_nil)) pe_int (nomark _)) (pe_one (pe_cmpR op_eq (pe_own G_l_draw (hr.mono (by decide)) (by rfl) (pa_cons (pv 0) (pa_cons pe_int pa_nil))) pe_int (nomark _)))) pa_nil)))) pa_nil))))))))))))), ?_⟩
  refine ⟨_, rfl, b, cc, rfl, B0, fun H1 W ws k1 B1 nW nWb eW l20 ndW nmW => ?_⟩
  refine ⟨_, rfl, _, rfl, b, cc, _, rfl, B1, by decide, by decide, fun v2 H2 v20 v29 k2 B2 => ?_⟩
  have eW2 := k2 _ _ nWb eW
  refine ⟨_, _, rfl, rfl, _, rfl, W, _, rfl, SqL.of eW2, fun S nS => ?_⟩
  have e2 : cutV (ws.map V.str) none (some (1 + v2)) = (ws.take (1 + v2.toNat)).map V.str := by
    rw [show (1 + v2 : Int) = ((1 + v2.toNat : Nat) : Int) by omega, cut_any, ← List.map_take]
  rw [e2]
  obtain ⟨ins, hins⟩ : ∃ ins, ins = ws.take (1 + v2.toNat) := ⟨_, rfl⟩
  have lins : ins.length = 1 + v2.toNat := by
    rw [hins, List.length_take]
    omega
  rw [← hins]
  have c3 := same_upd (o := .lst (ins.map V.str)) nS
  have eS3 : upd H2 S (.lst (ins.map V.str)) S = some (.lst (ins.map V.str)) := upd_same
  generalize upd H2 S (.lst (ins.map V.str)) = H3 at c3 eS3 ⊢
  have eW3 := c3 _ _ eW2
  have B3 := B2.same c3
  have nSb : S ≠ b := B2.ne_new nS
  refine ⟨by show 0 ≤ sizeLine; decide, fun DL nDL => ?_⟩
  have c4 := same_upd (o := .lst []) nDL
  have eL4 : upd H3 DL (.lst []) DL = some (.lst []) := upd_same
  generalize upd H3 DL (.lst []) = H4 at c4 eL4 ⊢
  have B4 := B3.same c4
  have nLb : DL ≠ b := B3.ne_new nDL
  have nLc : DL ≠ cc := B3.ne_new2 nDL
  refine ⟨by show 0 ≤ sizeLine; decide, fun D0 nD0 => ?_⟩
  have c5 := same_upd (o := .lst []) nD0
  generalize upd H4 D0 (.lst []) = H5 at c5 ⊢
  have c35 := c4.trans c5
  refine ⟨_, _, _, rfl, ?_⟩
  refine ⟨_, rfl, S, _, rfl, .inl (SqL.of (c35 _ _ eS3)), fun DK nDK => ?_⟩
  have c6 := same_upd (o := .lst (ins.map V.str)) nDK
  have eK6 : upd H5 DK (.lst (ins.map V.str)) DK = some (.lst (ins.map V.str)) := upd_same
  have B5 := B4.same c5
  have nKb : DK ≠ b := B5.ne_new nDK
  have nKc : DK ≠ cc := B5.ne_new2 nDK
  generalize upd H5 DK (.lst (ins.map V.str)) = H6 at c6 eK6 ⊢
  have c36 := c35.trans c6
  have kH3 : Kp b H H3 := k1.trans (k2.trans (Kp.of c3))
  have fDL : H DL = none := kH3.free nLb nDL
  have fDK : H DK = none := (kH3.trans (Kp.of c35)).free nKb nDK
  have B6 := B5.same c6
  have eL6 := c6 _ _ (c5 _ _ eL4)
  have eS6 := c36 _ _ eS3
  have nSK : S ≠ DK := ne_of_none (c35 _ _ eS3) nDK
  have nSL : S ≠ DL := ne_of_none eS3 nDL
  have nLK : DL ≠ DK := ne_of_none (c5 _ _ eL4) nDK
  refine ⟨_, rfl, _, rfl, _, rfl, b, cc, _, rfl, B6, by decide, by decide, fun v7 H7 v70 v79 k7 B7 => ?_⟩
  refine ⟨_, _, rfl, rfl, _, rfl, W, _, rfl, SqL.of (k7 _ _ nWb (c36 _ _ eW3)), fun N nN => ?_⟩
  have em : cutV (ws.map V.str) (some 6) (some (6 + v7)) = ((ws.drop 6).take v7.toNat).map V.str := by
    rw [show (6 + v7 : Int) = ((6 + v7.toNat : Nat) : Int) by omega, cut_mid (by rw [List.length_map, l20]) (by omega), ← List.map_drop, ← List.map_take]
  rw [em]
  obtain ⟨mid, hmid⟩ : ∃ mid, mid = (ws.drop 6).take v7.toNat := ⟨_, rfl⟩
  rw [← hmid]
  have lmid : mid.length ≤ 5 := by
    rw [hmid, List.length_take]
    omega
  have ndN : (ins ++ mid).Nodup := by
    rw [hins, hmid]
    exact drawn_nd ndW (by omega)
  have nmN : ∀ x ∈ ins ++ mid, nameB x = true := fun x hx => by
    rcases List.mem_append.mp hx with h | h
    · rw [hins] at h
      exact nmW x (List.mem_of_mem_take h)
    · rw [hmid] at h
      exact nmW x (List.mem_of_mem_drop (List.mem_of_mem_take h))
  have c8 := same_upd (o := .lst (mid.map V.str)) nN
  have eN8 : upd H7 N (.lst (mid.map V.str)) N = some (.lst (mid.map V.str)) := upd_same
  have eS7 := k7 _ _ nSb eS6
  have eL7 := k7 _ _ nLb eL6
  have eK7 := k7 _ _ nKb eK6
  generalize upd H7 N (.lst (mid.map V.str)) = H8 at c8 eN8 ⊢
  have B8 := B7.same c8
  have eS8 := c8 _ _ eS7
  have eL8 := c8 _ _ eL7
  have eK8 := c8 _ _ eK7
  have nNb : N ≠ b := B7.ne_new nN
  have nNL : N ≠ DL := (ne_of_none eL7 nN).symm
  have nNK : N ≠ DK := (ne_of_none eK7 nN).symm
  have k08 : Kp b H H8 := k1.trans (k2.trans ((Kp.of c3).trans ((Kp.of c36).trans (k7.trans (Kp.of c8)))))
  obtain ⟨X, hX⟩ : ∃ X : Addr → Prop, X = fun a => a = b ∨ a = DL ∨ a = DK := ⟨_, rfl⟩
  have Xb : X b := by rw [hX]; exact .inl rfl
  have XL : X DL := by rw [hX]; exact .inr (.inl rfl)
  have XK : X DK := by rw [hX]; exact .inr (.inr rfl)
  have nX : ∀ {a : Addr}, a ≠ b → a ≠ DL → a ≠ DK → ¬ X a := fun h1 h2 h3 => by
    rw [hX]
    exact fun h => h.elim h1 fun h => h.elim h2 h3
  have xS := nX nSb nSL nSK
  have xN := nX nNb nNL nNK
  refine ⟨N, rfl, ⟨_, SqL.of eN8⟩, for_list (xs := mid.map V.str) (fun i σ H' => ∃ y5 y6 ds ls, σ = [some (.ref b), some (.ref W), some (.ref S), some (.ref DL), some (.ref DK), y5, y6, none, none, none, none, none] ∧ KX X H8 H' ∧ Bg H' b cc ∧ H' DL = some (.lst ls) ∧ H' DK = some (.lst ((ins ++ mid.take i).map V.str)) ∧ Paired (LnAt X H') ls ds ∧ Drawn ins ds ∧ ds.map nameL = mid.take i)
    ⟨_, _, [], [], rfl, KX.refl, B8, eL8, by simpa using eK8, .nil, Drawn.nil ins, rfl⟩ (fun i σ H' _ e => by obtain ⟨_, _, _, _, _, k, _⟩ := e; exact SqL.of (k _ _ xN eN8)) ?_ ?_⟩
  · rintro i v σ H' hv ⟨y5, y6, ds, ls, rfl, kx, Bx, eL, eK, pr, D, en⟩
    obtain ⟨x, hx, rfl⟩ := at_map hv
    have hi := (List.getElem?_eq_some_iff.mp hx).1
    refine ⟨_, rfl, _, rfl, b, cc, DK, _, rfl, Bx, eK, nKb, by simp; omega, fun H9 M ys k9 B9 nM nMb eM hys => ?_⟩
    obtain ⟨zs, rfl, pz⟩ := mixed_names hys
    have lk : (ins ++ mid.take i).length = ins.length + i := by
      rw [List.length_append, List.length_take]
      omega
    have eK9 := k9 _ _ nKb eK
    have kx9 : KX X H8 H9 := kx.trans (KX.kp Xb k9)
    refine ⟨_, rfl, _, rfl, .ref DK, (ins ++ mid.take i).length, rfl, .inl ⟨_, SqL.of eK9, by rw [List.length_map]⟩, _, _, rfl, b, cc, _, rfl, B9, ?_, ?_, fun v10 H10 v100 v109 k10 B10 => ?_⟩
    · rw [lk]
      split <;> omega
    · rw [lk]
      split <;> omega
    have v4 : v10 < 4 ∧ v10 < (ins ++ mid.take i).length := by
      split at v109 <;> omega
    have eM10 := k10 _ _ nMb eM
    refine ⟨_, _, rfl, rfl, _, rfl, M, _, rfl, SqL.of eM10, fun N2 nN2 => ?_⟩
    have e11 : cutV (zs.map V.str) none (some (1 + v10)) = (zs.take (1 + v10.toNat)).map V.str := by
      rw [show (1 + v10 : Int) = ((1 + v10.toNat : Nat) : Int) by omega, cut_any, ← List.map_take]
    rw [e11]
    obtain ⟨us, hus⟩ : ∃ us, us = zs.take (1 + v10.toNat) := ⟨_, rfl⟩
    have lz := pz.length_eq
    have lus : us.length = 1 + v10.toNat := by
      rw [hus, List.length_take]
      omega
    have ndK : (ins ++ mid.take i).Nodup := ndN.sublist (List.Sublist.append (List.Sublist.refl _) (List.take_sublist _ _))
    have ndu : us.Nodup := by
      rw [hus]
      exact (pz.nodup_iff.mpr ndK).sublist (List.take_sublist _ _)
    have inu : ∀ y ∈ us, y ∈ turnN ins ds := fun y hy => by
      unfold turnN
      rw [en]
      rw [hus] at hy
      exact pz.mem_iff.mp (List.mem_of_mem_take hy)
    rw [← hus]
    have c11 := same_upd (o := .lst (us.map V.str)) nN2
    have eN2 : upd H10 N2 (.lst (us.map V.str)) N2 = some (.lst (us.map V.str)) := upd_same
    have B11 := B10.same c11
    have nb2 : N2 ≠ b := B10.ne_new nN2
    generalize upd H10 N2 (.lst (us.map V.str)) = H11 at c11 eN2 B11 ⊢
    have kx11 : KX X H' H11 := (KX.kp Xb k9).trans ((KX.kp Xb k10).trans (KX.same c11))
    have eL11 := c11 _ _ (k10 _ _ nLb (k9 _ _ nLb eL))
    have eK11 := c11 _ _ (k10 _ _ nKb eK9)
    have n2L : N2 ≠ DL := (ne_of_none (k10 _ _ nLb (k9 _ _ nLb eL)) nN2).symm
    have n2K : N2 ≠ DK := (ne_of_none (k10 _ _ nKb eK9) nN2).symm
    have x2 := nX nb2 n2L n2K
    refine ⟨_, rfl, .inl ⟨rfl, _, SqL.of eL11⟩, _, rfl, _, rfl, N2, rfl, ⟨_, SqL.of eN2⟩, fun DP nDP => ?_⟩
    have nPb : DP ≠ b := B11.ne_new nDP
    have nPc : DP ≠ cc := B11.ne_new2 nDP
    have nPL : DP ≠ DL := (ne_of_none eL11 nDP).symm
    have nPK : DP ≠ DK := (ne_of_none eK11 nDP).symm
    have xP := nX nPb nPL nPK
    refine lc_it (walk_list (xs := us.map V.str)) (fun j Hj => ∃ (cs : List Addr) (fs : List (Int × Str)), Hj DP = some (.lst (cs.map V.ref)) ∧ Paired (fun c p => c ≠ DP ∧ ¬ X c ∧ Hj c = some (.tup [.int p.1, .str p.2]) ∧ p.2.length ≤ 1000) cs fs ∧ fs.map (·.2) = us.take j ∧ (∀ p ∈ fs, p.1 ≠ 0 ∧ -(2 ^ 64) < p.1 ∧ p.1 < 2 ^ 64) ∧ Kp b H11 Hj ∧ Bg Hj b cc)
      ⟨[], [], upd_same, .nil, rfl, fun p hp => (by cases hp), Kp.of (same_upd nDP), B11.same (same_upd nDP)⟩ (fun j Hj _ e => by obtain ⟨_, _, _, _, _, _, k, _⟩ := e; exact SqL.of (k _ _ nb2 eN2)) ?_ ?_
    · rintro j v Ha Hb hj ⟨cs, fs, eP, pp, ef, nz, kp, Ba⟩ ⟨rfl, hv⟩
      obtain ⟨y, hy, rfl⟩ := at_map hv
      have ly : y.length ≤ 1000 := by
        have h1 := inu y (List.mem_of_getElem? hy)
        unfold turnN at h1
        rw [en] at h1
        have := name_short (nmN y ((List.Sublist.append (List.Sublist.refl ins) (List.take_sublist i mid)).subset h1))
        omega
      refine ⟨rfl, tYes_ok ?_⟩
      refine ⟨_, rfl, _, rfl, _, rfl, _, rfl, b, cc, _, rfl, Ba, by decide, by decide, fun v12 H12 v120 v129 k12 B12 => ?_⟩
      refine ⟨_, _, rfl, rfl, (by show 6 ≤ sizeLine; decide), fun l3 n3 => ?_⟩
      refine ⟨b, cc, .ref l3, rfl, B12.same (same_upd n3), .inl ⟨l3, _, rfl, B12.ne_new n3, upd_same, by simp, (by show 6 ≤ 1000; decide), fun v H13 hv k13 B13 => ?_⟩⟩
      obtain ⟨f0, rfl, hf⟩ : ∃ f0 : Int, v = .int f0 ∧ (f0 ≠ 0 ∧ -(2 ^ 64) < f0 ∧ f0 < 2 ^ 64) := by
        simp only [List.mem_cons, List.not_mem_nil, or_false] at hv
        rcases hv with rfl | rfl | rfl | rfl | rfl | rfl
        · exact ⟨_, rfl, by omega⟩
        · exact ⟨_, rfl, by omega⟩
        · exact ⟨_, rfl, by omega⟩
        · exact ⟨_, rfl, by omega⟩
        · exact ⟨_, rfl, by omega⟩
        · exact ⟨_, rfl, by omega⟩
      have k1a : Kp b Hb H13 := k12.trans ((Kp.of (same_upd n3)).trans k13)
      refine ⟨_, rfl, (by show 2 ≤ sizeLine; decide), fun t nt => ?_⟩
      have st := same_upd (o := .tup [.int f0, .str y]) nt
      have k1b : Kp b Hb (upd H13 t (.tup [.int f0, .str y])) := k1a.trans (Kp.of st)
      have et : upd H13 t (.tup [.int f0, .str y]) t = some (.tup [.int f0, .str y]) := upd_same
      have ntb : t ≠ b := B13.ne_new nt
      have B14 := B13.same st
      have ntP : t ≠ DP := (ne_of_none (k1a _ _ nPb eP) nt).symm
      have ntL : t ≠ DL := (ne_of_none (k1a _ _ nLb (kp _ _ nLb eL11)) nt).symm
      have ntK : t ≠ DK := (ne_of_none (k1a _ _ nKb (kp _ _ nKb eK11)) nt).symm
      generalize upd H13 t (.tup [.int f0, .str y]) = H14 at st k1b et B14 ⊢
      have lc := plen pp
      have lf := congrArg List.length ef
      rw [List.length_map, List.length_take] at lf
      refine ⟨_, k1b _ _ nPb eP, small1000 (by rw [List.length_map]; omega), cs ++ [t], fs ++ [(f0, y)], ?_, ?_, ?_, ?_, ?_, ?_⟩
      · rw [upd_same, List.map_append]
        rfl
      · refine (pmono (fun c p h => ⟨h.1, h.2.1, ?_, h.2.2.2⟩) pp).snoc ⟨ntP, nX ntb ntL ntK, ?_, ly⟩
        · rw [upd_ne ntP]
          exact et
        · rw [upd_ne h.1]
          exact k1b _ _ (fun z => h.2.1 (by rw [z]; exact Xb)) h.2.2.1
      · rw [List.map_append, ef, take_snoc hy]
        rfl
      · intro p hp
        rcases List.mem_append.mp hp with h | h
        · exact nz p h
        · rw [List.mem_singleton.mp h]
          exact hf
      · exact kp_push (kp.trans k1b) nDP
      · exact B14.kp nPb nPc Kp.upd
    rintro H15 ⟨cs, fs, eP, pp, ef, nz, kp, B15⟩
    rw [List.length_map, List.take_length] at ef
    refine ⟨(by show 2 ≤ sizeLine; decide), fun t nt => ?_⟩
    have st := same_upd (o := .tup [.str x, .ref DP]) nt
    have et : upd H15 t (.tup [.str x, .ref DP]) t = some (.tup [.str x, .ref DP]) := upd_same
    have ntb : t ≠ b := B15.ne_new nt
    have eL15 := kp _ _ nLb eL11
    have eK15 := kp _ _ nKb eK11
    have xt := nX ntb (ne_of_none eL15 nt).symm (ne_of_none eK15 nt).symm
    have B16 := B15.same st
    have eL16 := st _ _ eL15
    have eK16 := st _ _ eK15
    have eP16 := st _ _ eP
    have kx16 : KX X H' (upd H15 t (.tup [.str x, .ref DP])) := kx11.trans ((KX.kp Xb kp).trans (KX.same st))
    have pp16 := pmono (fun c (p : Int × Str) h => (⟨h.1, h.2.1, st _ _ h.2.2.1, h.2.2.2⟩ : c ≠ DP ∧ ¬ X c ∧ (upd H15 t (.tup [.str x, .ref DP])) c = some (.tup [.int p.1, .str p.2]) ∧ p.2.length ≤ 1000)) pp
    generalize upd H15 t (.tup [.str x, .ref DP]) = H16 at st et B16 eL16 eK16 eP16 kx16 pp16 ⊢
    have lls : ls.length = ds.length := plen pr
    have lds : ds.length = i := by
      have := congrArg List.length en
      rw [List.length_map, List.length_take] at this
      omega
    have lfs : fs.length = us.length := by rw [← ef, List.length_map]
    refine ⟨DL, _, _, rfl, rfl, eL16, small1000 (by omega), ?_⟩
    have eK17 : (upd H16 DL (.lst (ls ++ [.ref t]))) DK = some (.lst ((ins ++ mid.take i).map V.str)) := by
      rw [upd_ne (fun z => nLK z.symm)]
      exact eK16
    refine ⟨_, rfl, .inl ⟨rfl, _, SqL.of eK17⟩, _, rfl, DK, _, _, rfl, rfl, eK17, small1000 (by rw [List.length_map, lk]; omega), ?_⟩
    have kf : KX X H16 (upd (upd H16 DL (.lst (ls ++ [.ref t]))) DK (.lst ((ins ++ mid.take i).map V.str ++ [.str x]))) := (KX.upd XL).trans (KX.upd XK)
    have Bf : Bg (upd (upd H16 DL (.lst (ls ++ [.ref t]))) DK (.lst ((ins ++ mid.take i).map V.str ++ [.str x]))) b cc := (B16.kp nLb nLc Kp.upd).kp nKb nKc Kp.upd
    have eLf : (upd (upd H16 DL (.lst (ls ++ [.ref t]))) DK (.lst ((ins ++ mid.take i).map V.str ++ [.str x]))) DL = some (.lst (ls ++ [.ref t])) := by
      rw [upd_ne nLK, upd_same]
    have eKf : (upd (upd H16 DL (.lst (ls ++ [.ref t]))) DK (.lst ((ins ++ mid.take i).map V.str ++ [.str x]))) DK = some (.lst ((ins ++ mid.take (i + 1)).map V.str)) := by
      rw [upd_same, take_snoc hx, ← List.append_assoc, List.map_append (l₁ := ins ++ mid.take i)]
      rfl
    generalize upd (upd H16 DL (.lst (ls ++ [.ref t]))) DK (.lst ((ins ++ mid.take i).map V.str ++ [.str x])) = Hf at kf Bf eLf eKf ⊢
    have kt : KX X H' Hf := kx16.trans kf
    refine ⟨_, _, ds ++ [.line x (fs.map numP)], ls ++ [.ref t], rfl, kx.trans kt, Bf, eLf, eKf, (pmono (fun v d h => h.kx kt) pr).snoc ?_, D.snoc (by omega) nz (by rw [ef]; exact ndu) (fun p hp => inu _ (by rw [← ef]; exact List.mem_map.mpr ⟨p, hp, rfl⟩)), ?_⟩
    · refine ⟨t, DP, cs, rfl, xt, xP, kf _ _ xt et, kf _ _ xP eP16, pmapR (fun c p h => ⟨h.2.1, c, rfl, kf _ _ h.2.1 h.2.2.1, h.2.2.2⟩) pp16, ?_, by rw [List.length_map]; omega, fun q hq => ?_⟩
      · have := name_short (nmN x (List.mem_append.mpr (.inr (List.mem_of_getElem? hx))))
        omega
      · obtain ⟨p, _, rfl⟩ := List.mem_map.mp hq
        exact ⟨_, _, rfl⟩
    · rw [List.map_append, en, take_snoc hx]
      rfl
  · rintro σ H1 ⟨y5, y6, ds, ls, rfl, kx, Bx, eL, eK, pr, D, en⟩
    rw [List.length_map, List.take_length] at en eK
    have eN : ins ++ mid = turnN ins ds := by
      unfold turnN
      rw [en]
    rw [eN] at eK ndN nmN
    have lds : ds.length = mid.length := by rw [← en, List.length_map]
    have lls : ls.length = ds.length := plen pr
    refine ⟨by show 0 ≤ sizeLine; decide, fun D8 n8 => ?_⟩
    have c1 := same_upd (o := .lst []) n8
    have e8 : upd H1 D8 (.lst []) D8 = some (.lst (([] : List Str).map V.str)) := upd_same
    generalize upd H1 D8 (.lst []) = H2 at c1 e8 ⊢
    have B2 := Bx.same c1
    have eL2 := c1 _ _ eL
    have eK2 := c1 _ _ eK
    have pr2 := pmono (fun v d h => LnAt.kx (KX.same c1) h) pr
    have lfl : ∀ i, (usedF (ds.take i)).length ≤ 5 * 48 := fun i => by
      have h : ∀ l : List LineD, (∀ d ∈ l, (facs d).length ≤ 48) → (usedF l).length ≤ l.length * 48 := fun l => by
        induction l with
        | nil => intro _; decide
        | cons d l ih =>
          intro hl
          have h1 := ih fun e he => hl e (List.mem_cons_of_mem _ he)
          have h2 := hl d List.mem_cons_self
          unfold usedF at h1 ⊢
          rw [List.flatMap_cons, List.length_append, List.length_map, List.length_cons]
          omega
      have h1 := h (ds.take i) fun d hd => (D.lp d (List.mem_of_mem_take hd)).2
      have h2 : (ds.take i).length ≤ 5 := by
        rw [List.length_take]
        omega
      omega
    refine ⟨_, rfl, DL, rfl, ⟨_, SqL.of eL2⟩, for_list (xs := ls) (fun i σ H' => ∃ y9 l8, σ = [some (.ref b), some (.ref W), some (.ref S), some (.ref DL), some (.ref DK), y5, y6, none, some (.ref l8), y9, none, none] ∧ Same H2 H' ∧ H' l8 = some (.lst ((usedF (ds.take i)).map V.str)))
      ⟨_, _, rfl, Same.refl _, e8⟩ (fun i σ H' _ e => by obtain ⟨_, _, _, k, _⟩ := e; exact SqL.of (k _ _ eL2)) ?_ ?_⟩
    · rintro i v σ Ha hv ⟨y9, l8, rfl, sa, ea⟩
      have hi := (List.getElem?_eq_some_iff.mp hv).1
      obtain ⟨v', d, hv', hd, hp⟩ := pat pr2 (by omega : i < ds.length)
      rw [hv] at hv'
      cases hv'
      obtain ⟨x, fs, rfl⟩ := D.nums d (List.mem_of_getElem? hd)
      obtain ⟨t, p0, cs, rfl, xt, xp, h1, h2, pp, lx, lps, num⟩ := hp
      rw [List.length_map] at lps
      refine ⟨_, rfl, _, rfl, t, _, _, _, rfl, rfl, SqT.of (sa _ _ h1), atI_nat (j := 1) rfl, p0, rfl, ⟨_, SqL.of (sa _ _ h2)⟩, fun D9 n9 => ?_⟩
      refine lc_it (walk_list (xs := cs.map V.ref)) (fun j H' => Same Ha H' ∧ H' D9 = some (.lst (((fs.take j).map (·.2)).map V.str))) ⟨same_upd n9, upd_same⟩ (fun j H' _ e => SqL.of (e.1 _ _ (sa _ _ h2))) ?_ ?_
      · rintro j v Hb Hc hj ⟨sb, eb⟩ ⟨rfl, hv⟩
        obtain ⟨c, hc, rfl⟩ := at_map hv
        have lc := plen pp
        rw [List.length_map] at lc
        have hj' := (List.getElem?_eq_some_iff.mp hc).1
        obtain ⟨c', q0, hc', hq, hx⟩ := pat pp (by rw [List.length_map]; omega : j < (fs.map numP).length)
        rw [hc] at hc'
        cases hc'
        have hf : fs[j]? = some (fs[j]'(by omega)) := List.getElem?_eq_getElem (by omega)
        rw [List.getElem?_map, hf] at hq
        cases hq
        obtain ⟨_, a, ea', hx, _⟩ := hx
        cases ea'
        refine ⟨c, _, rfl, SqT.of (sb _ _ (sa _ _ hx)), rfl, _, _, rfl, _, _, rfl, rfl, rfl, tYes_ok ⟨_, rfl, _, eb, small1000 ?_, fun z o hz => ?_, ?_⟩⟩
        · rw [List.length_map, List.length_map, List.length_take]
          omega
        · rw [upd_ne (ne_of_none hz n9)]
          exact sb _ _ hz
        · rw [upd_same, take_snoc hf, List.map_append, List.map_append]
          rfl
      · rintro Hb ⟨sb, eb⟩
        have lc := plen pp
        rw [List.length_map] at lc
        rw [List.length_map, List.take_of_length_le (by omega)] at eb
        have lf := lfl i
        refine ⟨l8, D9, _, _, rfl, rfl, sb _ _ ea, eb, ?_, fun l2 n2 => ?_⟩
        · rw [List.length_map, List.length_map, List.length_map]
          exact Nat.le_of_lt (small1000 (by omega))
        refine ⟨_, l2, rfl, sa.trans (sb.trans (same_upd n2)), ?_⟩
        rw [upd_same, take_snoc hd, ← List.map_append]
        unfold usedF
        rw [List.flatMap_append, List.flatMap_cons, List.flatMap_nil, List.append_nil, facs_line]
    · rintro σ H3 ⟨y9, l8, rfl, s3, e3⟩
      rw [lls, List.take_length] at e3
      have lu := lfl ds.length
      rw [List.take_length] at lu
      have B3 := B2.same s3
      have eK3 := s3 _ _ eK2
      have lN : (turnN ins ds).length ≤ 9 := by
        unfold turnN
        rw [List.length_append, List.length_map]
        omega
      refine ⟨_, rfl, DK, rfl, ⟨_, SqL.of eK3⟩, fun D9 n9 => ?_⟩
      refine lc_it (walk_list (xs := (turnN ins ds).map V.str)) (fun j H' => Same H3 H' ∧ H' D9 = some (.lst ((((turnN ins ds).take j).filter fun x => !decide (x ∈ usedF ds)).map V.str))) ⟨same_upd n9, upd_same⟩ (fun j H' _ e => SqL.of (e.1 _ _ eK3)) ?_ ?_
      · rintro j v Ha Hb hj ⟨sa, ea⟩ ⟨rfl, hv⟩
        obtain ⟨x, hx, rfl⟩ := at_map hv
        refine ⟨rfl, ?_⟩
        refine ⟨_, rfl, _, rfl, l8, _, rfl, .inl (SqL.of (sa _ _ e3)), rfl, flat_names _, !inV (.str x) ((usedF ds).map V.str), rfl, ?_⟩
        rw [inV_names, take_snoc hx, List.filter_append]
        by_cases hm : x ∈ usedF ds
        · rw [decide_eq_true hm, List.filter_cons_of_neg (by simp [hm]), List.filter_nil, List.append_nil]
          exact iteF ⟨sa, ea⟩
        · rw [decide_eq_false hm, List.filter_cons_of_pos (by simp [hm]), List.filter_nil]
          refine iteT ⟨_, rfl, _, ea, small1000 ?_, fun z o hz => ?_, ?_⟩
          · rw [List.length_map]
            have h1 := List.length_filter_le (fun x => !decide (x ∈ usedF ds)) ((turnN ins ds).take j)
            rw [List.length_take] at h1
            omega
          · rw [upd_ne (ne_of_none hz n9)]
            exact sa _ _ hz
          · rw [upd_same, List.map_append]
            rfl
      rintro H4 ⟨s4, e4⟩
      rw [List.length_map, List.take_length] at e4
      have e4 : H4 D9 = some (.lst ((lostF ins ds).map V.str)) := e4
      have B4 := B3.same s4
      have eK4 := s4 _ _ eK3
      have lp := lost_pos D ndN (by omega)
      have lw := lost_few D (by omega) (by omega)
      have n9K : D9 ≠ DK := (ne_of_none eK3 n9).symm
      have n9b : D9 ≠ b := B3.ne_new n9
      have neN : (turnN ins ds).map V.str ≠ [] := fun z => by
        have := congrArg List.length z
        have l2 : (turnN ins ds).length = ins.length + ds.length := by
          unfold turnN
          rw [List.length_append, List.length_map]
        rw [List.length_map, l2, List.length_nil] at this
        omega
      refine ⟨_, rfl, _, rfl, _, rfl, _, rfl, _, rfl, b, cc, .ref DK, rfl, B4, .inl ⟨DK, _, rfl, nKb, eK4, neN, by rw [List.length_map]; omega, fun v H5 hv k5 B5 => ?_⟩⟩
      obtain ⟨ex, hex, rfl⟩ := List.mem_map.mp hv
      refine ⟨(by show 1 ≤ sizeLine; decide), fun l5 n5 => ?_⟩
      have c5 := same_upd (o := .lst [.str ex]) n5
      have e5 : upd H5 l5 (.lst [.str ex]) l5 = some (.lst [.str ex]) := upd_same
      have B6 := B5.same c5
      have e9 := c5 _ _ (k5 _ _ n9b e4)
      have n5b : l5 ≠ b := B5.ne_new n5
      have k46 : Kp b H4 (upd H5 l5 (.lst [.str ex])) := k5.trans (Kp.of c5)
      generalize upd H5 l5 (.lst [.str ex]) = H6 at c5 e5 B6 e9 k46 ⊢
      refine ⟨_, rfl, .ref D9, (lostF ins ds).length, rfl, .inl ⟨_, SqL.of e9, by rw [List.length_map]⟩, _, _, rfl, rfl, _, rfl, ?_⟩
      have kH1 : Kp b H H1 := fun a o na ha => kx a o (nX na (fun z => by rw [z, fDL] at ha; cases ha) (fun z => by rw [z, fDK] at ha; cases ha)) (k08 a o na ha)
      have k16 : Kp b H1 H6 := (Kp.of c1).trans ((Kp.of s3).trans ((Kp.of s4).trans k46))
      have pr6 := pmono (fun v d h => LnAt.kx (KX.kp (X := fun a => a = b) rfl k16) (LnAt.weak (fun a z => (by rw [z]; exact Xb)) h)) pr
      have eS6' := k16 _ _ nSb (kx _ _ xS eS8)
      have eL6' := k16 _ _ nLb eL
      have slim : SlimF ds := fun d hd p hp => (D.nz d hd p hp).2
      have fin : ∀ (H7 : Hp) (k : Int), Kp b H6 H7 → Bg H7 b cc → (k = 0 ∨ (k = 1 ∧ (lostF ins ds).length < 8)) → rRep (V.ref l5) (V.int k) H7 fun y H2 => rCat (V.ref D9) y H2 fun x H1 => [V.ref S, V.ref DL, x].length ≤ sizeLine ∧ ∀ p, H1 p = none → Q (.ref p) (upd H1 p (.tup [.ref S, .ref DL, x])) := fun H7 k k7 B7 hk => by
        refine ⟨l5, k, _, rfl, rfl, k7 _ _ n5b e5, by omega, by omega, ?_, fun p np => ?_⟩
        · show 1 * k.toNat ≤ sizeLine
          exact Nat.le_of_lt (small1000 (by omega))
        obtain ⟨xx, hxx, lxx, mxx⟩ : ∃ xx : List Str, (List.replicate k.toNat [V.str ex]).flatten = xx.map V.str ∧ (lostF ins ds).length + xx.length ≤ 8 ∧ ∀ x ∈ xx, x ∈ turnN ins ds := by
          rcases hk with rfl | ⟨rfl, h8⟩
          · exact ⟨[], rfl, lw, fun x h => by cases h⟩
          · exact ⟨[ex], rfl, by show _ + 1 ≤ 8; omega, fun x h => by rw [List.mem_singleton.mp h]; exact hex⟩
        rw [hxx]
        have cp := same_upd (o := .lst (xx.map V.str)) np
        refine ⟨D9, p, _, _, rfl, rfl, cp _ _ (k7 _ _ n9b e9), upd_same, ?_, fun O nO => ?_⟩
        · rw [List.length_map, List.length_map]
          exact Nat.le_of_lt (small1000 (by omega))
        rw [← List.map_append]
        have cO := same_upd (o := .lst ((lostF ins ds ++ xx).map V.str)) nO
        have eO : (upd (upd H7 p (.lst (xx.map V.str))) O (.lst ((lostF ins ds ++ xx).map V.str))) O = some (.lst ((lostF ins ds ++ xx).map V.str)) := upd_same
        have BO := (B7.same cp).same cO
        have nOb : O ≠ b := (B7.same cp).ne_new nO
        have k6O : Kp b H6 (upd (upd H7 p (.lst (xx.map V.str))) O (.lst ((lostF ins ds ++ xx).map V.str))) := k7.trans (Kp.of (cp.trans cO))
        generalize upd (upd H7 p (.lst (xx.map V.str))) O (.lst ((lostF ins ds ++ xx).map V.str)) = H9 at cO eO BO k6O ⊢
        refine ⟨by show 3 ≤ sizeLine; decide, fun T nT => ?_⟩
        have cT := same_upd (o := .tup [.ref S, .ref DL, .ref O]) nT
        have kT := k6O.trans (Kp.of cT)
        exact q _ T S DL O ins (lostF ins ds ++ xx) ls ds (kH1.trans (k16.trans kT)) (BO.same cT) upd_same (kT _ _ nSb eS6') nSb (kT _ _ nLb eL6') nLb
          (pmono (fun v d h => LnAt.kx (KX.kp (X := fun a => a = b) rfl kT) h) pr6) (cT _ _ eO) nOb (good_drawn D ndN nmN ⟨by omega, by omega⟩ (by omega) mxx lxx) slim (by omega) (by omega)
      by_cases c8 : ((lostF ins ds).length : Int) < 8
      · refine ite_of (decide_eq_true c8) ⟨_, rfl, b, cc, _, rfl, B6, by decide, by decide, fun v H7 _ _ k7 B7 => ⟨rfl, .inr ⟨_, rfl, ?_⟩⟩⟩
        refine fin H7 _ k7 B7 ?_
        split
        · exact .inr ⟨rfl, by omega⟩
        · exact .inl rfl
      · refine ite_no (by rw [decide_eq_false c8]; decide) (.inr ⟨_, rfl, ?_⟩)
        exact fin H6 _ (Kp.refl _ _) B6 (.inl rfl)
end
end My
/-! what is wished of good benches -/
namespace My
open PySem PySem.Spec PyProof.Rows L2
/-- a table in lists -/
def TabV (H : Hp) (l : Addr) (T : List (List Int)) : Prop := ∃ rs : List Addr, H l = some (.lst (rs.map V.ref)) ∧ Paired (fun r (xs : List Int) => H r = some (.lst (xs.map V.int))) rs T
theorem TabV.same {H H' : Hp} {l : Addr} {T : List (List Int)} (h : TabV H l T) (s : Same H H') : TabV H' l T := by
  obtain ⟨rs, h1, h2⟩ := h
  exact ⟨rs, s _ _ h1, pmono (fun r xs h => s _ _ h) h2⟩
theorem ints_eqd {H : Hp} : ∀ xs : List Int, Paired (Eqd H 1) (xs.map V.int) (xs.map V.int)
  | [] => .nil
  | x :: xs => .cons (Eqd.leaf True.intro) (ints_eqd xs)
theorem TabV.eqd {H : Hp} {l m : Addr} {T : List (List Int)} (h : TabV H l T) (g : TabV H m T) (lT : T.length ≤ 1000) (lr : ∀ r ∈ T, r.length ≤ 1000) : Eqd H 3 (.ref l) (.ref m) := by
  obtain ⟨rs, h1, h2⟩ := h
  obtain ⟨qs, g1, g2⟩ := g
  have key : ∀ {T : List (List Int)} {rs qs : List Addr}, (∀ r ∈ T, r.length ≤ 1000) → Paired (fun r (xs : List Int) => H r = some (.lst (xs.map V.int))) rs T → Paired (fun r (xs : List Int) => H r = some (.lst (xs.map V.int))) qs T → Paired (Eqd H 2) (rs.map V.ref) (qs.map V.ref) := by
    intro T
    induction T with
    | nil =>
      intro rs qs _ a b
      cases a
      cases b
      exact .nil
    | cons x T ih =>
      intro rs qs lr a b
      cases a with
      | cons a1 a2 =>
        cases b with
        | cons b1 b2 => exact .cons (Eqd.lst a1 b1 (by rw [List.length_map]; exact lr x List.mem_cons_self) (ints_eqd x)) (ih (fun r hr => lr r (List.mem_cons_of_mem _ hr)) a2 b2)
  exact Eqd.lst h1 g1 (by rw [List.length_map, plen h2]; exact lT) (key lr h2 g2)
theorem Eqd.up2 {H : Hp} {x y : V} {n : Nat} (h : Eqd H n x y) : Eqd H (n + 2) x y := Eqd.up (Eqd.up h)
theorem leaf_eq {H : Hp} {n : Nat} {i j : Int} (h : i = j) : Eqd H (n + 1) (.int i) (.int j) := by
  rw [h]
  exact Eqd.leaf True.intro
theorem due_len {T : List (List Int)} {n : Nat} : (dueF T n).length = n ∧ ∀ r ∈ dueF T n, r.length = T.length := ⟨by simp [dueF], fun r hr => by
  obtain ⟨k, _, rfl⟩ := List.mem_map.mp hr
  exact List.length_map _⟩
theorem part_refs {H : Hp} : ∀ {vs : List V} {ps : List PartD}, Paired (PartAt H) vs ps → (∀ q ∈ ps, ∃ n y, q = .num n y) → ∃ cs : List Addr, vs = cs.map V.ref ∧ Paired (fun c q => PartAt H (.ref c) q) cs ps
  | _, _, .nil, _ => ⟨[], rfl, .nil⟩
  | _, _, .cons (b := q) h t, nm => by
    obtain ⟨n, y, rfl⟩ := nm q List.mem_cons_self
    obtain ⟨cs, rfl, pr⟩ := part_refs t fun q hq => nm q (List.mem_cons_of_mem _ hq)
    obtain ⟨a, rfl, h1⟩ := h
    exact ⟨a :: cs, rfl, .cons ⟨a, rfl, h1⟩ pr⟩
theorem part_far {H : Hp} {D : Addr} {xs : List V} (e : H D = some (.lst xs)) : ∀ {cs : List Addr} {ps : List PartD}, Paired (fun c q => PartAt H (.ref c) q) cs ps → (∀ q ∈ ps, ∃ n y, q = .num n y) → Paired (fun c q => ¬ (c = D) ∧ PartAt H (.ref c) q) cs ps
  | _, _, .nil, _ => .nil
  | _, _, .cons (b := q) h t, nm => by
    obtain ⟨n, y, rfl⟩ := nm q List.mem_cons_self
    obtain ⟨a, ea, h1, h2⟩ := h
    cases ea
    exact .cons ⟨ne_of h1 e (by intro z; cases z), _, rfl, h1, h2⟩ (part_far e t fun q hq => nm q (List.mem_cons_of_mem _ hq))
theorem good_lens {ins : List Str} {ds : List LineD} {outs : List Str} (G : Good ins ds outs) : (∀ x ∈ ins, x.length ≤ 1000) ∧ (∀ x ∈ turnN ins ds, x.length ≤ 1000) ∧ ∀ x ∈ outs, x.length ≤ 1000 := by
  have h : ∀ x ∈ turnN ins ds, x.length ≤ 1000 := fun x hx => by
    have := name_short (G.nm x hx)
    omega
  exact ⟨fun x hx => h x (List.mem_append.mpr (.inl hx)), h, fun x hx => h x (G.ok x hx)⟩
theorem sp_init {C CH CL CU x dx S L O : Addr} {H : Hp} {ins outs : List Str} {ls : List V} {ds : List LineD} {Q : VK} {E : XK} (hS : H S = some (.lst (ins.map V.str))) (hL : H L = some (.lst ls)) (pr : Paired (LineAt H) ls ds) (hO : OutAt H O outs) (nx : H x = none) (ndx : H dx = none) (G : Good ins ds outs)
    (q : ∀ H', Same H H' → BenchG C H' x ins ds outs → Q .non H') : spInitG C CH CL CU [.ref x, .ref S, .ref L, .ref O] (upd (upd H dx (.own x)) x (.ins C dx [])) Q E := by
  have ms := made_same (C := C) nx ndx
  obtain ⟨l1, l2, l3⟩ := good_lens G
  refine ⟨x, dx, S, L, O, ins, outs, ls, ds, rfl, upd_same, ms _ _ hS, by have := G.li; omega, l1, ms _ _ hL, pmono (fun v d h => h.same ms) pr, by have := G.ld; omega, hO.same ms, by have := G.lo; omega, l3, ?_⟩
  unfold SayG
  rw [tell_ok G]
  exact fun H' k bg => q H' (fun c o e => k c o (ne_of_none e nx) (ms _ _ e)) bg
theorem sp_turned {C CT a : Addr} {H : Hp} {ins outs : List Str} {ds : List LineD} {Q : VK} {E : XK} (bg : BenchG C H a ins ds outs) (G : Good ins ds outs) (F : Fresh (turnI ins ds outs) ins ds outs) (l40 : (turnN ins ds).length ≤ 40)
    (q : ∀ (H' : Hp) (l : Addr), Same H H' → H l = none → BenchG C H' l (turnI ins ds outs) (turnD ins ds outs) ins → Q (.ref l) H') : spTurnedB C CT [.ref a] H Q E := by
  obtain ⟨l1, l2, l3⟩ := good_lens G
  exact ⟨a, ins, outs, ds, rfl, bg, by have := G.li; omega, by have := G.ld; omega, by have := G.lo; omega, l1, l2, good_told G, G.ok, .inr ⟨l40, fun n => by have := turn_len G F n; omega, tell_ok (good_turn G F l40), q⟩⟩
theorem sp_many {C CT a : Addr} {H : Hp} {ins outs : List Str} {ds : List LineD} {Q : VK} {E : XK} (bg : BenchG C H a ins ds outs) (G : Good ins ds outs) (m : 40 < (turnN ins ds).length)
    (q : ∀ H' d, Same H H' → H' d = none → E (.ref CT) (some d) (upd H' d (.xd (errD "most" "TooMany" (.int 40))))) : spTurnedB C CT [.ref a] H Q E := by
  obtain ⟨l1, l2, l3⟩ := good_lens G
  exact ⟨a, ins, outs, ds, rfl, bg, by have := G.li; omega, by have := G.ld; omega, by have := G.lo; omega, l1, l2, good_told G, G.ok, .inl ⟨m, q⟩⟩
theorem sp_table {C a : Addr} {H : Hp} {ins outs : List Str} {ds : List LineD} {Q : VK} {E : XK} (bg : BenchG C H a ins ds outs) (G : Good ins ds outs) (sl : SlimF ds)
    (q : ∀ (H' : Hp) (l : Addr), Same H H' → H l = none → TabV H' l (tableF ins ds outs) → Q (.ref l) H') : spTableB C [.ref a] H Q E :=
  ⟨a, ins, outs, ds, rfl, bg, by have := G.li; omega, by have := G.ld; omega, by have := G.lo; omega, good_told G, slim_of G.nums sl, fun o ho => List.mem_append.mp (G.ok o ho), fun H' l rs s n e p => q H' l s n ⟨rs, e, p⟩⟩
theorem sp_btab {b S L O : Addr} {H : Hp} {ins outs : List Str} {ls : List V} {ds : List LineD} {Q : VK} {E : XK} (hb : H b = some (.tup [.ref S, .ref L, .ref O])) (hS : H S = some (.lst (ins.map V.str))) (hL : H L = some (.lst ls)) (pr : Paired (LineAt H) ls ds) (hO : H O = some (.lst (outs.map V.str))) (G : Good ins ds outs) (sl : SlimF ds)
    (q : ∀ (H' : Hp) (l : Addr), Same H H' → H l = none → TabV H' l (tableF ins ds outs) → Q (.ref l) H') : spBTab [.ref b] H Q E :=
  ⟨b, S, L, O, ins, outs, ls, ds, rfl, hb, hS, hL, pr, hO, fun d hd => by
    obtain ⟨x, fs, rfl⟩ := G.nums d hd
    refine ⟨x, _, rfl, fun p hp => ?_⟩
    obtain ⟨r, _, rfl⟩ := List.mem_map.mp hp
    exact ⟨_, _, rfl⟩, by have := G.li; omega, by have := G.ld; omega, by have := G.lo; omega, (List.nodup_append.mp G.nd).1, good_told G, slim_of G.nums sl, fun o ho => List.mem_append.mp (G.ok o ho), fun H' l rs s n e p => q H' l s n ⟨rs, e, p⟩⟩
theorem sp_adds {C a : Addr} {H : Hp} {ins outs : List Str} {ds : List LineD} {Q : VK} {E : XK} (bg : BenchG C H a ins ds outs) (G : Good ins ds outs) (q : ∀ H', Same H H' → Q (.int (addsD ds)) H') : spAddsB C [.ref a] H Q E :=
  ⟨a, ins, outs, ds, rfl, bg, by have := G.ld; omega, q⟩
theorem BenchG.at {C a : Addr} {H : Hp} {ins outs : List Str} {ds : List LineD} (h : BenchG C H a ins ds outs) : ∃ dx fs, H a = some (.ins C dx fs) ∧ fs.lookup ("table" : Str) = none ∧ fs.lookup ("turned" : Str) = none := by
  obtain ⟨dx, I, L, O, ts, h, _⟩ := h
  exact ⟨dx, _, h, rfl, rfl⟩
theorem BenchG.same {C a : Addr} {H H' : Hp} {ins outs : List Str} {ds : List LineD} (h : BenchG C H a ins ds outs) (s : Same H H') : BenchG C H' a ins ds outs := by
  obtain ⟨dx, I, L, O, ts, h1, h2, h3, h4, h5⟩ := h
  exact ⟨dx, I, L, O, ts, s _ _ h1, s _ _ h2, s _ _ h3, s _ _ h4, pmono (fun t d h => h.same s) h5⟩
theorem sp_ins {C a : Addr} {H : Hp} {ins outs : List Str} {ds : List LineD} {Q : VK} {E : XK} (bg : BenchG C H a ins ds outs) (q : ∀ I, H I = some (.tup (ins.map V.str)) → Q (.ref I) H) : spInputsB C [.ref a] H Q E := ⟨a, ins, outs, ds, rfl, bg, q⟩
theorem sp_outs {C a : Addr} {H : Hp} {ins outs : List Str} {ds : List LineD} {Q : VK} {E : XK} (bg : BenchG C H a ins ds outs) (q : ∀ I, H I = some (.tup (outs.map V.str)) → Q (.ref I) H) : spOutputsB C [.ref a] H Q E := ⟨a, ins, outs, ds, rfl, bg, q⟩
theorem sp_lines {C a : Addr} {H : Hp} {ins outs : List Str} {ds : List LineD} {Q : VK} {E : XK} (bg : BenchG C H a ins ds outs) (q : ∀ (L : Addr) (ts : List Addr), H L = some (.tup (ts.map V.ref)) → Paired (KeptAt H) ts ds → Q (.ref L) H) : spLinesB C [.ref a] H Q E := ⟨a, ins, outs, ds, rfl, bg, q⟩
theorem KeptAt.ext {H H' : Hp} {t : Addr} : ∀ {d : LineD}, KeptAt H t d → LamX.ExtN H H' → KeptAt H' t d
  | .line x ps, ⟨p, vs, h1, h2, pr, l, m, nm⟩, e => by
    refine ⟨p, vs, e _ _ h1 (fun ps z => by cases z), e _ _ h2 (fun ps z => by cases z), ?_, l, m, nm⟩
    refine pmem pr fun v q hq h => ?_
    obtain ⟨n, y, rfl⟩ := nm q hq
    obtain ⟨c, z, h, l⟩ := h
    exact ⟨c, z, e _ _ h (fun ps z => by cases z), l⟩
theorem BenchG.ext {C a : Addr} {H H' : Hp} {ins outs : List Str} {ds : List LineD} (h : BenchG C H a ins ds outs) (e : LamX.ExtN H H') : BenchG C H' a ins ds outs := by
  obtain ⟨dx, I, L, O, ts, h1, h2, h3, h4, h5⟩ := h
  exact ⟨dx, I, L, O, ts, e _ _ h1 (fun ps z => by cases z), e _ _ h2 (fun ps z => by cases z), e _ _ h3 (fun ps z => by cases z), e _ _ h4 (fun ps z => by cases z), pmono (fun t d h => h.ext e) h5⟩
theorem TabV.ext {H H' : Hp} {l : Addr} {T : List (List Int)} (h : TabV H l T) (e : LamX.ExtN H H') : TabV H' l T := by
  obtain ⟨rs, h1, h2⟩ := h
  exact ⟨rs, e _ _ h1 (fun ps z => by cases z), pmono (fun r xs h => e _ _ h (fun ps z => by cases z)) h2⟩
theorem bg_ext {H H' : Hp} {b c : Addr} (h : Bg H b c) (e : LamX.ExtN H H') : Bg H' b c := by
  obtain ⟨ns, i, r, m, g⟩ := h
  exact ⟨ns, i, r, m, e _ _ g.hb (fun ps z => by cases z), e _ _ g.hc (fun ps z => by cases z), g.len, g.i0, g.r0, g.m0, g.m1⟩
theorem tabs_kp {H H' : Hp} {b P : Addr} {q : Str} {xs : List V} (h : LamX.TabS H P q) (hb : H b = some (.lst xs)) (k : Kp b H H') : LamX.TabS H' P q := by
  obtain ⟨ps, e, t, a⟩ := h
  refine ⟨ps, k _ _ (ne_of e hb fun z => by cases z) e, t, fun pos cv hc => ?_⟩
  obtain ⟨c, ec, hco⟩ := a pos cv hc
  exact ⟨c, ec, k _ _ (ne_of hco hb fun z => by unfold LamX.CodeO at z; cases z) hco⟩
end My
/-! the written benches of k64 -/
namespace My
open PySem PySem.Spec PyProof.Rows L2
abbrev tA : Str := "a"
def rowN (k : Nat) : Str := ("x" : Str) ++ ⟨#[97 + k / 26]⟩ ++ ⟨#[97 + k % 26]⟩
def prevN (k : Nat) : Str := if k = 0 then tA else rowN (k - 1)
def rowK (k : Nat) : LineD := .line (rowN k) ([((1 : Int), prevN k)].map numP)
def rowsK (n : Nat) : List LineD := (List.range n).map rowK
theorem rowsK_take {n : Nat} (h : n ≤ 40) : rowsK n = (rowsK 40).take n := by
  unfold rowsK
  rw [← List.map_take, List.take_range, Nat.min_eq_left h]
theorem facs_row (k : Nat) : facs (rowK k) = [(1, prevN k)] := facs_line _ _
theorem row_at {n i : Nat} {d : LineD} (h : (rowsK n)[i]? = some d) : i < n ∧ d = rowK i := by
  unfold rowsK at h
  rw [List.getElem?_map] at h
  have hi : i < n := by
    by_cases c : i < n
    · exact c
    · rw [List.getElem?_eq_none (by simpa using c)] at h
      cases h
  rw [List.getElem?_range hi] at h
  exact ⟨hi, (Option.some.inj h).symm⟩
theorem row_mem {n : Nat} {d : LineD} (h : d ∈ rowsK n) : ∃ k, k < n ∧ d = rowK k := by
  obtain ⟨k, hk, rfl⟩ := List.mem_map.mp h
  exact ⟨k, List.mem_range.mp hk, rfl⟩
theorem names40 : (turnN [tA] (rowsK 40)).Nodup ∧ ∀ x ∈ turnN [tA] (rowsK 40), nameB x = true := by decide +kernel
theorem names_in {n : Nat} (h : n ≤ 40) : List.Sublist (turnN [tA] (rowsK n)) (turnN [tA] (rowsK 40)) := by
  rw [rowsK_take h]
  unfold turnN
  exact List.Sublist.append (List.Sublist.refl _) ((List.take_sublist _ _).map _)
theorem row_in {n k : Nat} (h : k < n) : rowN k ∈ turnN [tA] (rowsK n) := List.mem_append.mpr (.inr (List.mem_map.mpr ⟨rowK k, List.mem_map.mpr ⟨k, List.mem_range.mpr h, rfl⟩, rfl⟩))
theorem good_rows {n : Nat} (n1 : 1 ≤ n) (h : n ≤ 40) : Good [tA] (rowsK n) [rowN (n - 1)] := by
  have ln : (rowsK n).length = n := by simp [rowsK]
  refine ⟨fun d hd => ?_, names40.1.sublist (names_in h), fun x hx => names40.2 x ((names_in h).subset hx), by decide, by omega, fun d hd => ?_, fun d hd p hp => ?_, fun d hd => ?_, fun i d hd p hp => ?_, ⟨Nat.le_refl 1, by show 1 ≤ 8; decide⟩, fun x hx => ?_, fun x hx => ?_⟩
  · obtain ⟨k, _, rfl⟩ := row_mem hd
    exact ⟨_, _, rfl⟩
  · obtain ⟨k, _, rfl⟩ := row_mem hd
    rw [facs_row]
    exact ⟨Nat.le_refl 1, by show 1 ≤ 48; decide⟩
  · obtain ⟨k, _, rfl⟩ := row_mem hd
    rw [facs_row] at hp
    rw [List.mem_singleton.mp hp]
    show (1 : Int) ≠ 0
    decide
  · obtain ⟨k, _, rfl⟩ := row_mem hd
    rw [facs_row]
    simp
  · obtain ⟨hi, rfl⟩ := row_at hd
    rw [facs_row] at hp
    rw [List.mem_singleton.mp hp]
    show prevN i ∈ _
    unfold prevN
    by_cases c : i = 0
    · rw [if_pos c]
      exact List.mem_append.mpr (.inl (List.mem_singleton.mpr rfl))
    · rw [if_neg c]
      have : (rowsK n).take i = rowsK i := by
        unfold rowsK
        rw [← List.map_take, List.take_range, Nat.min_eq_left (by omega)]
      rw [this]
      exact row_in (by omega)
  · rw [List.mem_singleton.mp hx]
    exact row_in (by omega)
  · have line : ∀ k, k < n → ∃ d ∈ rowsK n, ∃ p ∈ facs d, p.2 = prevN k := fun k hk => ⟨rowK k, List.mem_map.mpr ⟨k, List.mem_range.mpr hk, rfl⟩, (1, prevN k), by rw [facs_row]; exact List.mem_singleton.mpr rfl, rfl⟩
    rcases List.mem_append.mp hx with hx | hx
    · rw [List.mem_singleton.mp hx]
      exact .inr (line 0 (by omega))
    · obtain ⟨d, hd, rfl⟩ := List.mem_map.mp hx
      obtain ⟨k, hk, rfl⟩ := row_mem hd
      by_cases c : k = n - 1
      · subst c
        exact .inl (List.mem_singleton.mpr rfl)
      · have := line (k + 1) (by omega)
        exact .inr this
theorem good_eight : Good [tA] [] (List.replicate 8 tA) := by
  refine ⟨fun d hd => (by cases hd), by decide +kernel, by decide +kernel, by decide, by decide, fun d hd => (by cases hd), fun d hd => (by cases hd), fun d hd => (by cases hd), fun i d hd => (by simp at hd), by decide, by decide +kernel, fun x hx => .inl ?_⟩
  have : x = tA := List.mem_singleton.mp hx
  rw [this]
  decide +kernel
theorem slim_rows (n : Nat) : SlimF (rowsK n) := fun d hd p hp => by
  obtain ⟨k, _, rfl⟩ := row_mem hd
  rw [facs_row] at hp
  rw [List.mem_singleton.mp hp]
  show -(2 ^ 64) < (1 : Int) ∧ (1 : Int) < 2 ^ 64
  decide
theorem nd_one {α : Type} {l : List α} (h : l.length = 1) : l.Nodup := by
  match l, h with
  | [a], _ => simp
theorem fresh39 : Fresh (turnI [tA] (rowsK 39) [rowN 38]) [tA] (rowsK 39) [rowN 38] := by
  have h : (newF 1 (turnN [tA] (rowsK 39))).length = 1 := by kernel_rfl
  exact new_fresh h (nd_one h)
theorem tab39 : tableF (turnI [tA] (rowsK 39) [rowN 38]) (turnD [tA] (rowsK 39) [rowN 38]) [tA] = [[1]] := by
  have t : tableF [tA] (rowsK 39) [rowN 38] = [[1]] := by kernel_rfl
  rw [table_turn (good_rows (n := 39) (by decide) (by decide)) fresh39 (by simp [turnN, rowsK]), t]
  rfl
theorem fresh8 : Fresh (turnI [tA] [] (List.replicate 8 tA)) [tA] [] (List.replicate 8 tA) := fresh_few (by decide)
theorem adds8 : addsD (turnD [tA] [] (List.replicate 8 tA)) = 7 := by
  rw [adds_turn good_eight fresh8 (by decide)]
  rfl
theorem ptake {α β : Type} {R : α → β → Prop} : ∀ (n : Nat) {xs : List α} {ys : List β}, Paired R xs ys → Paired R (xs.take n) (ys.take n)
  | 0, _, _, _ => by simpa using .nil
  | n + 1, _, _, .nil => .nil
  | n + 1, _, _, .cons h t => .cons h (ptake n t)
theorem cut_lo {xs : List V} {k : Nat} (h : k ≤ xs.length) : cutV xs none (some (k : Int)) = xs.take k := by
  unfold cutV
  rw [HT.sIx_none, HT.sIx_nat, List.drop_zero, Nat.sub_zero, Nat.min_eq_left h]
/-- an error that is wished of a lambda -/
theorem err_wish {K : PySem.W.Frag} {cs : List Value} {C : Addr} {f c : Str} {x : V} {Q : VK} {Hb : Hp} (hm : PySem.W.exmAny K (.ref C) cs = some true) (xf : XfC K C) (noC : PySem.W.findIn K (.ref C) "code" = some none) (noF : PySem.W.findIn K (.ref C) f = some none)
    (hf : fieldName c = some f) (l1 : (errD f c x).lookup ("code" : Str) = some (V.str c)) (l2 : (errD f c x).lookup f = some x) (qk : ∀ v H', Same Hb H' → LamL.RT [.str c, x] v H' → Q v H') : ∀ H' d, Same Hb H' → H' d = none → ErrWish K cs Q (.ref C) (some d) (upd H' d (.xd (errD f c x))) := fun H' d s' nd =>
  ⟨hm, c, _, ⟨⟨C, d, _, f, rfl, xf, rfl, upd_same, noC, l1, hf, noF, l2⟩⟩, fun H2 p s2 hp => qk _ _ (s'.trans ((same_upd nd).trans (s2.trans (same_upd hp)))) ⟨p, rfl, upd_same⟩⟩
theorem NoPair.ext {H H' : Hp} {v : V} (h : NoPair H v) (e : LamX.ExtN H H') : NoPair H' v := by
  cases h with
  | non => exact .non
  | str x => exact .str x
  | lst h => exact .lst (e _ _ h fun ps z => by cases z)
  | tup h n l => exact .tup (e _ _ h fun ps z => by cases z) n l
theorem PartAt.ext {H H' : Hp} {v : V} : ∀ {d : PartD}, PartAt H v d → LamX.ExtN H H' → PartAt H' v d
  | .num _ _, ⟨a, q, h, l⟩, e => ⟨a, q, e _ _ h (fun ps z => by cases z), l⟩
  | .yes _ _, ⟨a, q, h, l⟩, e => ⟨a, q, e _ _ h (fun ps z => by cases z), l⟩
  | .odd, h, e => NoPair.ext h e
theorem LineAt.ext {H H' : Hp} {v : V} : ∀ {d : LineD}, LineAt H v d → LamX.ExtN H H' → LineAt H' v d
  | .line _ _, ⟨a, p, vs, q, h, h2, pr, l⟩, e => ⟨a, p, vs, q, e _ _ h (fun ps z => by cases z), e _ _ h2 (fun ps z => by cases z), pmono (fun v d k => k.ext e) pr, l⟩
  | .bare _, ⟨a, q, h, l⟩, e => ⟨a, q, e _ _ h (fun ps z => by cases z), l⟩
  | .odd, h, e => NoPair.ext h e
/-- the tuple (code '', a table) -/
def RTab (T : List (List Int)) : LamL.Res := fun v H => ∃ p l, v = .ref p ∧ H p = some (.tup [.str "", .ref l]) ∧ TabV H l T
theorem RTab.keeps {T : List (List Int)} : LamL.Keeps (RTab T) := fun v H H' ⟨p, l, e, h, t⟩ s => ⟨p, l, e, s _ _ h, t.same s⟩
end My
/-! under way: the law of k64 -/
namespace My
open PySem PySem.Spec PyProof.Rows L2
def spLaw (K : PySem.W.Frag) (P : Addr) : Sp := fun vs H Q _ => ∃ (a : Addr) (ns : List Int), vs = [.ref a] ∧ SqL K H a (ns.map V.int) ∧ ns.length ≤ 63 ∧ H P = some (.tbl #[]) ∧ ∀ H', Q (.bl true) H'
def spLet : Sp := fun vs H Q _ => vs = [] ∧ Q (.str letters) H
theorem sl_listK {X : Cx} (K : PySem.W.Frag) (hK : X.K = K) : SlR X (rSlL K) := by
  subst hK
  exact sl_list
section
variable {P : Program} {w : World} {K : PySem.W.Frag} {mg : Str → Option Value} {base : Heap} {C CH CL CU CT : Addr}
theorem ok_law {f c Pt : Addr} {C1 C2 C3 oc kV doc pm ct : Value} {an od : Option Addr} {osl : Array (Option Value)}
    (lk : K.lookup f = some ⟨oc, od, .func (PySem.W.fnOf "law" "law" (defArgs s_law) (defBody s_law) (defScope s_law) .none kV doc pm an (.ref c) ct), osl⟩) (hcd : PySem.W.codeIn K (.ref c) "law" = true)
    (TB : LamX.TabB base mg c Pt) (m1 : mg "RingError" = some C1) (m2 : mg "Missing" = some C2) (m3 : mg "NothingLeft" = some C3) (G_l_field : HasP P w K mg base 1 "_law_field" ["_law_e"] (spField K)) (F_got : Fn K mg "_law_got" s_l_got ["_law_ask"]) (hmT : PySem.W.exmAny K (.ref CT) [C1, C2, C3] = some true) (xfT : XfC K CT) (noCT : PySem.W.findIn K (.ref CT) "code" = some none) (noFT : PySem.W.findIn K (.ref CT) "most" = some none)
    (B : Blt mg) (R : SCls K C) (MK_Sums : HasCX P w K mg base 6 "Sums" C ["self", "inputs", "lines", "outputs"] (spInitG C CH CL CU)) (PR_adds : HasPr P w K mg base 1 C "adds" (spAddsB C)) (PR_inputs : HasPr P w K mg base 1 C "inputs" (spInputsB C)) (PR_outputs : HasPr P w K mg base 1 C "outputs" (spOutputsB C)) (PR_lines : HasPr P w K mg base 1 C "lines" (spLinesB C)) (M_table : HasM P w K mg base 1 C "table" ["self"] (spTableB C)) (M_turned : HasMX P w K mg base 8 C "turned" ["self"] (spTurnedB C CT)) (G_l_bench : Has P w K mg base 4 "_law_bench" ["_law_bag_here"] spBench) (G_l_bench_table : Has P w K mg base 1 "_law_bench_table" ["_law_bench_here"] spBTab)
    (G_l_bag : Has P w K mg base 1 "_law_bag" ["_law_script"] (spBag K)) (G_l_draw : Has P w K mg base 1 "_law_draw" ["_law_bag_here", "_law_many"] spDraw) (G_l_pick : Has P w K mg base 2 "_law_pick" ["_law_bag_here", "_law_some"] (spPick K)) (G_l_letters : Has P w K mg base 1 "_law_letters" [] spLet)
    (G_l_same : Has P w K mg base 6 "_law_same" ["_law_found", "_law_due"] (spSame 6)) (G_l_all : ∀ B : Heap, Has P w K mg B 11 "_law_all" ["_law_asks"] (LamL.spAllL P w K mg B 9 [C1, C2, C3])) :
    FnOk P w K mg base CX0 12 f (PySem.W.fnOf "law" "law" (defArgs s_law) (defBody s_law) (defScope s_law) .none kV doc pm an (.ref c) ct) ["_law_script"] (spLaw K Pt) := by
  refine fn_of lk hcd sc_law (fun vs H Q E h => ?_) (fun A outer s H vs Q E hr h => ?_)
  · obtain ⟨a, t, rfl, _⟩ := h
    rfl
  obtain ⟨a, ns, rfl, hS, hl, hP, q⟩ := h
  have cl_ := R.cl
  have hcode : (cxOf CX0 P w K mg base N_law "law" (defScope s_law) f (.ref c) A outer s H E).nox.env.code = .ref c := rfl
  have GV : ∀ (q : Str) (g : Addr) (cdv : Value), LamX.GivesTo (cxOf CX0 P w K mg base N_law "law" (defScope s_law) f (.ref c) A outer s H E).nox N_l_got "_law_got" (defScope s_l_got) g cdv (defBody s_l_got) "_law_ask" q (TGot K [C1, C2, C3]) :=
    fun q g cdv => got_gives (k := 3) (hr.mono (by decide)) G_l_field m1 m2 m3
  have main : ∃ t, PSs (cxOf CX0 P w K mg base N_law "law" (defScope s_law) f (.ref c) A outer s H E).nox (defBody s_law) t ∧ t { nx := fun _ H' => Q .non H', rt := Q } (L2.start N_law [.ref a]) H := by
    refine ⟨_, (pss_cons (ps_set (i := 1) sc_law.nd rfl (Or.inl rfl) (pe_own G_l_bag (hr.mono (by decide)) (by rfl) (pa_cons (pv 0) pa_nil)))
      (pss_cons (ps_for PassesOwn.never rfl (pi_range1 (by rfl) B.range (pa_cons pe_int pa_nil)) (pg_name (i := 2) sc_law.nd rfl (Or.inl rfl))
        (pss_cons (ps_asg (pe_own G_l_bench (hr.mono (by decide)) (by rfl) (pa_cons (pv 1) pa_nil)) (pg_tup rfl (pgs_cons (pg_name (i := 3) sc_law.nd rfl (Or.inl rfl)) (pgs_cons (pg_name (i := 4) sc_law.nd rfl (Or.inl rfl)) (pgs_cons (pg_name (i := 5) sc_law.nd rfl (Or.inl rfl)) pgs_nil)))))
      (pss_cons (ps_set (i := 6) sc_law.nd rfl (Or.inl rfl) (pe_mkX MK_Sums (hr.mono (by decide)) (by rfl) (pa_cons (pv 3) (pa_cons (pv 4) (pa_cons (pv 5) pa_nil)))))
      (pss_cons (ps_asg (pe_tup (pa_cons (pe_ownMX0 cl_ M_turned (hr.mono (by decide)) (pv 6)) (pa_cons (pe_own G_l_bench_table (hr.mono (by decide)) (by rfl) (pa_cons (pe_tup (pa_cons (pv 3) (pa_cons (pv 4) (pa_cons (pv 5) pa_nil)))) pa_nil)) pa_nil))) (pg_tup rfl (pgs_cons (pg_name (i := 7) sc_law.nd rfl (Or.inr rfl)) (pgs_cons (pg_name (i := 8) sc_law.nd rfl (Or.inr rfl)) pgs_nil))))
      (pss_cons (ps_setLc (i := 9) (own := [("_law_k", 11)]) (g := gName 11) (tt := tYes) (by rfl) sc_law.nd rfl rfl (sw_true rfl rfl rfl (by decide +kernel)) (pi_range1 (by rfl) B.range (pa_cons (pe_callB call_len (by rfl) B.len bb_len (pa_cons (pv 3) pa_nil)) pa_nil)) (blkOk_by (own := [("_law_k", 11)]) (N := N_law) (sc := defScope s_law) (by decide +kernel)) (fun _ _ _ _ _ => (pg_name (i := 11) sc_law.nd rfl (Or.inr rfl))) (fun _ _ _ _ _ => pts_nil) (fun _ _ _ _ _ => (pe_lc (own := [("_law_row", 10)]) (g := gName 10) (tt := tYes) (by rfl) sc_law.nd (NK.pi_listK K rfl (pv 8)) (blkOk_by (own := [("_law_row", 10)]) (N := N_law) (by rfl)) (fun _ _ _ _ _ => (pg_name (i := 10) sc_law.nd rfl (Or.inl rfl))) (fun _ _ _ _ _ => pts_nil) (fun _ _ _ _ _ => (pe_ix (LcN.ix_listK K rfl) (pv 10) (pv 11) (fun _ _ => rfl))))))
      (pss_cons (ps_if (pt_not (pt_val (pe_own G_l_same (hr.mono (by decide)) (by rfl) (pa_cons (pe_lst (pa_cons (pe_ownM0 cl_ M_table (hr.mono (by decide)) (pv 7)) (pa_cons (pe_pr cl_ PR_adds (hr.mono (by decide)) (pv 7) rfl) (pa_cons (pe_callB call_len (by rfl) B.len bb_len (pa_cons (pe_pr cl_ PR_inputs (hr.mono (by decide)) (pv 7) rfl) pa_nil)) (pa_cons (pe_callB call_len (by rfl) B.len bb_len (pa_cons (pe_pr cl_ PR_outputs (hr.mono (by decide)) (pv 7) rfl) pa_nil)) pa_nil))))) (pa_cons (pe_lst (pa_cons (pv 9) (pa_cons (pe_op op_sub (pe_op op_add (pe_pr cl_ PR_adds (hr.mono (by decide)) (pv 6) rfl) (pe_callB call_len (by rfl) B.len bb_len (pa_cons (pv 5) pa_nil))) (pe_callB call_len (by rfl) B.len bb_len (pa_cons (pv 3) pa_nil))) (pa_cons (pe_callB call_len (by rfl) B.len bb_len (pa_cons (pv 5) pa_nil)) (pa_cons (pe_callB call_len (by rfl) B.len bb_len (pa_cons (pv 3) pa_nil)) pa_nil))))) pa_nil)))))
        (pss_one (ps_ret pe_bl))
        pss_nil)
      (pss_cons (ps_if (pt_not (pt_val (pe_own G_l_same (hr.mono (by decide)) (by rfl) (pa_cons (pe_own G_l_bench_table (hr.mono (by decide)) (by rfl) (pa_cons (pe_tup (pa_cons (pe_callTy call_list_of (by rfl) B.list bb_list (pa_cons (pe_pr cl_ PR_inputs (hr.mono (by decide)) (pv 7) rfl) pa_nil)) (pa_cons (pe_lc (own := [("_law_name", 12), ("_law_parts", 13)]) (g := gTup K 2 (gCons (gName 12) (gCons (gName 13) gNil))) (tt := tYes) (by rfl) sc_law.nd (pi_tup (pe_pr cl_ PR_lines (hr.mono (by decide)) (pv 7) rfl)) (blkOk_by (own := [("_law_name", 12), ("_law_parts", 13)]) (N := N_law) (sc := defScope s_law) (by decide +kernel)) (fun _ _ _ _ _ => (pg_tup rfl (pgs_cons (pg_name (i := 12) sc_law.nd rfl (Or.inl rfl)) (pgs_cons (pg_name (i := 13) sc_law.nd rfl (Or.inl rfl)) pgs_nil)))) (fun _ _ _ _ _ => pts_nil) (fun _ _ _ _ _ => (pe_tup (pa_cons (pv 12) (pa_cons (pe_callTy (NK.call_list_ofK K rfl) (by rfl) B.list bb_list (pa_cons (pv 13) pa_nil)) pa_nil))))) (pa_cons (pe_callTy call_list_of (by rfl) B.list bb_list (pa_cons (pe_pr cl_ PR_outputs (hr.mono (by decide)) (pv 7) rfl) pa_nil)) pa_nil)))) pa_nil)) (pa_cons (pv 9) pa_nil)))))
        (pss_one (ps_ret pe_bl))
        pss_nil)
      (pss_cons (ps_set (i := 14) sc_law.nd rfl (Or.inl rfl) (pe_got (k := 9) F_got (GV _) TB hcode (hr.mono (by decide)) (by rfl) (LamX.lamS_by (by rfl)) (by rfl) (fun _ _ _ _ _ => rfl) (fun A outer s H E f c' hr' => (pe_lst (pa_cons (pe_ownM0 cl_ M_table (hr'.mono (by decide)) (pe_ownME0 cl_ M_turned (takes_of rfl rfl rfl rfl) (hr'.mono (by decide)) (pv 7))) (pa_cons (pe_pr cl_ PR_adds (hr'.mono (by decide)) (pe_ownME0 cl_ M_turned (takes_of rfl rfl rfl rfl) (hr'.mono (by decide)) (pv 7)) rfl) pa_nil))))))
      (pss_cons (ps_set (i := 15) sc_law.nd rfl (Or.inl rfl) (pe_ifExp (pt_cmpR op_gt (pe_op op_add (pe_callB call_len (by rfl) B.len bb_len (pa_cons (pe_pr cl_ PR_inputs (hr.mono (by decide)) (pv 7) rfl) pa_nil)) (pe_callB call_len (by rfl) B.len bb_len (pa_cons (pe_pr cl_ PR_lines (hr.mono (by decide)) (pv 7) rfl) pa_nil))) pe_int (nomark _)) (pe_tup (pa_cons pe_str (pa_cons pe_int pa_nil))) (pe_tup (pa_cons pe_str (pa_cons (pe_lst (pa_cons (pv 8) (pa_cons (pe_pr cl_ PR_adds (hr.mono (by decide)) (pv 6) rfl) pa_nil))) pa_nil)))))
      (pss_one (ps_if (pt_not (pt_val (pe_own G_l_same (hr.mono (by decide)) (by rfl) (pa_cons (pe_lst (pa_cons (pv 14) (pa_cons (pe_ownM0 cl_ M_table (hr.mono (by decide)) (pv 6)) pa_nil))) (pa_cons (pe_lst (pa_cons (pv 15) (pa_cons (pv 8) pa_nil))) pa_nil)))))
        (pss_one (ps_ret pe_bl))
        pss_nil)))))))))))
      (pss_cons (ps_set (i := 16) sc_law.nd rfl (Or.inr rfl) (pe_lc (own := [("_law_k", 11)]) (g := gName 11) (tt := tYes) (by rfl) sc_law.nd (pi_range1 (by rfl) B.range (pa_cons pe_int pa_nil)) (blkOk_by (own := [("_law_k", 11)]) (N := N_law) (sc := defScope s_law) (by decide +kernel)) (fun _ _ _ _ _ => (pg_name (i := 11) sc_law.nd rfl (Or.inl rfl))) (fun _ _ _ _ _ => pts_nil) (fun _ _ _ _ _ => (pe_tup (pa_cons (pe_op op_add_str (pe_op op_add_str pe_str (pe_ix ix_str (pe_own0 G_l_letters (hr.mono (by decide)) (by rfl)) (pe_op op_fdiv (pv 11) pe_int) (fun _ _ => rfl))) (pe_ix ix_str (pe_own0 G_l_letters (hr.mono (by decide)) (by rfl)) (pe_op op_mod (pe_callTy call_int1 (by rfl) B.int bb_int (pa_cons (pv 11) pa_nil)) pe_int) (fun _ _ => rfl))) (pa_cons (pe_lst (pa_cons (pe_tup (pa_cons pe_int (pa_cons (pe_ifExp (pt_cmpR op_eq (pv 11) pe_int (nomark _)) pe_str (pe_op op_add_str (pe_op op_add_str pe_str (pe_ix ix_str (pe_own0 G_l_letters (hr.mono (by decide)) (by rfl)) (pe_op op_fdiv (pe_op op_sub (pv 11) pe_int) pe_int) (fun _ _ => rfl))) (pe_ix ix_str (pe_own0 G_l_letters (hr.mono (by decide)) (by rfl)) (pe_op op_mod (pe_callTy call_int1 (by rfl) B.int bb_int (pa_cons (pe_op op_sub (pv 11) pe_int) pa_nil)) pe_int) (fun _ _ => rfl)))) pa_nil))) pa_nil)) pa_nil))))))
      (pss_cons (ps_set (i := 17) sc_law.nd rfl (Or.inl rfl) (pe_lst (LamL.pal_cons (LamL.pe_mk0 TB hcode List.mem_cons_self (fun p hp _ => by rw [List.mem_singleton.mp hp]) (LamL.lamTxt_at N_law (defScope s_law) (by decide +kernel)) (by rfl))
          (LamL.pal_cons (LamL.pe_mk1 (n := "_law_b") [] TB hcode List.mem_cons_self (fun p hp _ => by rw [List.mem_singleton.mp hp]) (LamL.lamTxt_at N_law (defScope s_law) (by decide +kernel)) rfl rfl pe_int)
          (LamL.pal_cons (LamL.pe_mk1 (n := "_law_c") [] TB hcode List.mem_cons_self (fun p hp _ => by rw [List.mem_singleton.mp hp]) (LamL.lamTxt_at N_law (defScope s_law) (by decide +kernel)) rfl rfl pe_int)
          LamL.pal_nil)))))
      (pss_one (ps_ret (pe_own G_l_same (hr.mono (by decide)) (by rfl) (pa_cons (LamL.pe_allL G_l_all (hr.mono (by decide)) (fun _ => rfl) (by rfl) (pv 17)) (pa_cons (pe_lst (pa_cons (pe_tup (pa_cons pe_str (pa_cons pe_int pa_nil))) (pa_cons (pe_tup (pa_cons pe_str (pa_cons (pe_lst (pa_cons (pe_lst (pa_cons pe_int pa_nil)) pa_nil)) pa_nil))) (pa_cons (pe_tup (pa_cons pe_str (pa_cons pe_int pa_nil))) pa_nil)))) pa_nil))))))))), ?_⟩
    refine ⟨_, rfl, a, ns, rfl, hS, hl, fun b cc H0 s0 nb B0 => ?_⟩
    obtain ⟨lq, hlq⟩ : ∃ lq : Str, lq = (cxOf CX0 P w K mg base N_law "law" (defScope s_law) f (.ref c) A outer s H E).nox.env.qual ++ "<lambda>" := ⟨_, rfl⟩
    have T0 : LamX.TabS H0 Pt lq := (LamX.TabS.nil hP).ext s0
    refine ⟨4, rfl, by decide, by decide, for_range (n := 4) (fun i σ H' => ∃ y2 y3 y4 y5 y6 y7 y8 y9 y14 y15, σ = [some (.ref a), some (.ref b), y2, y3, y4, y5, y6, y7, y8, y9, none, none, none, none, y14, y15, none, none] ∧ Bg H' b cc ∧ LamX.TabS H' Pt lq)
      ⟨_, _, _, _, _, _, _, _, _, _, rfl, B0, T0⟩ ?_ ?_⟩
    · rintro i σ H' hi ⟨y2, y3, y4, y5, y6, y7, y8, y9, y14, y15, rfl, Bi, Ti⟩
      refine ⟨_, rfl, b, cc, rfl, Bi, fun H1 T S L O ins outs ls ds k1 B1 eT eS nS eL nL pr eO nO G slim li ld => ?_⟩
      have T1 : LamX.TabS H1 Pt lq := by
        obtain ⟨r, e⟩ := Bi.sel
        exact tabs_kp Ti e k1
      clear Ti Bi k1
      have prL := pmono (fun v d h => LnAt.line h) pr
      refine ⟨T, _, rfl, SqT.of eT, rfl, _, _, rfl, _, _, rfl, _, _, rfl, rfl, ?_⟩
      refine ⟨_, rfl, _, rfl, _, rfl, fun x dx nx ndx nee => ?_⟩
      unfold tNil
      try dsimp only
      refine sp_init eS eL prL (.inl eO) nx ndx G fun H2 s2 bg => ⟨rfl, ?_⟩
      have s02 := s2
      have T2 := T1.ext s2
      have B2 := B1.same s2
      have lN : (turnN ins ds).length = ins.length + ds.length := by
        unfold turnN
        rw [List.length_append, List.length_map]
      have lo := G.lo
      have F : Fresh (turnI ins ds outs) ins ds outs := fresh_few (by omega)
      have l40 : (turnN ins ds).length ≤ 40 := by omega
      obtain ⟨dx1, fs1, hx1, nt1, nu1⟩ := bg.at
      refine ⟨_, rfl, x, dx1, fs1, rfl, hx1, nu1, ?_⟩
      try dsimp only
      refine sp_turned bg G F l40 fun H3 y s3 ny bgT => ?_
      refine ⟨_, rfl, _, rfl, _, rfl, by show 3 ≤ sizeLine; decide, fun tp ntp => ?_⟩
      have c3 := same_upd (o := .tup [.ref S, .ref L, .ref O]) ntp
      have s13 := s2.trans (s3.trans c3)
      refine sp_btab upd_same (s13 _ _ eS) (s13 _ _ eL) (pmono (fun v d h => h.same s13) prL) (s13 _ _ eO) G slim fun H4 l s4 nl tv => ?_
      have s14 := s13.trans s4
      have bg4 := bg.same (s3.trans (c3.trans s4))
      have bgT4 := bgT.same (c3.trans s4)
      refine ⟨by show 2 ≤ sizeLine; decide, fun tq ntq => ⟨tq, _, rfl, SqT.of upd_same, rfl, _, _, rfl, _, _, rfl, rfl, ?_⟩⟩
      have c5 := same_upd (o := .tup [.ref y, .ref l]) ntq
      have s15 := s14.trans c5
      have bg5 := bg4.same c5
      have bgT5 := bgT4.same c5
      have tv5 := tv.same c5
      generalize upd H4 tq (.tup [.ref y, .ref l]) = H5 at c5 s15 bg5 bgT5 tv5 ⊢
      clear c5 c3 s13 s14 bg4 bgT4 bgT tv bg ntq ntp nl ny s3 s4
      have T5 := T1.ext s15
      have B5 := B1.same s15
      obtain ⟨Tb, hTb⟩ : ∃ Tb, Tb = tableF ins ds outs := ⟨_, rfl⟩
      have lT : Tb.length = outs.length := by
        rw [hTb]
        exact List.length_map _
      have rT : ∀ r ∈ Tb, r.length = ins.length := by
        rw [hTb]
        exact table_rows G
      rw [← hTb] at tv5
      obtain ⟨rs, eT5, pT5⟩ := id tv5
      have lrs := plen pT5
      -- the due table
      refine ⟨_, rfl, .ref S, ins.length, rfl, .inl ⟨_, SqL.of (s15 _ _ eS), by rw [List.length_map]⟩, ins.length, rfl, by omega, by omega, fun D9 n9 => ?_⟩
      refine lc_it (walk_range (lo := 0) (n := ins.length)) (fun k H' => Same H5 H' ∧ ∃ us : List Addr, H' D9 = some (.lst (us.map V.ref)) ∧ Paired (fun r (xs : List Int) => H' r = some (.lst (xs.map V.int)) ∧ r ≠ D9) us ((List.range k).map fun k => Tb.map fun r => r.getD k 0)) ⟨same_upd n9, [], upd_same, .nil⟩ (fun _ _ _ _ => True.intro) ?_ ?_
      · rintro k v Ha Hb hk ⟨sa, us, ea, pu⟩ ⟨rfl, rfl⟩
        refine ⟨rfl, tYes_ok ⟨_, rfl, l, rfl, ⟨_, SqL.of (sa _ _ eT5)⟩, fun D2 n2 => ?_⟩⟩
        refine lc_it (walk_list (xs := rs.map V.ref)) (fun j H' => Same Hb H' ∧ H' D2 = some (.lst (((Tb.take j).map fun r => r.getD k 0).map V.int))) ⟨same_upd n2, upd_same⟩ (fun j H' _ z => SqL.of (z.1 _ _ (sa _ _ eT5))) ?_ ?_
        · rintro j v Hc Hd hj ⟨sc, ec⟩ ⟨rfl, hv⟩
          obtain ⟨r0, hr0, rfl⟩ := at_map hv
          have hj' := (List.getElem?_eq_some_iff.mp hr0).1
          obtain ⟨r1, row, hr1, hrow, er⟩ := pat pT5 (by omega : j < Tb.length)
          rw [hr0] at hr1
          cases hr1
          have lr := rT row (List.mem_of_getElem? hrow)
          refine ⟨rfl, tYes_ok ⟨_, rfl, _, rfl, r0, _, _, _, rfl, rfl, SqL.of (sc _ _ (sa _ _ er)), at_of (j := k) (v := .int (row.getD k 0)) (by omega) ?_, _, ec, small1000 ?_, fun c o hc => ?_, ?_⟩⟩
          · rw [List.getElem?_map, List.getElem?_eq_getElem (by omega)]
            simp [List.getD, show k < row.length by omega]
          · rw [List.length_map, List.length_map, List.length_take]
            omega
          · rw [upd_ne (ne_of_none hc n2)]
            exact sc _ _ hc
          · rw [upd_same, take_snoc hrow, List.map_append, List.map_append]
            rfl
        · rintro Hc ⟨sc, ec⟩
          rw [List.length_map, lrs, List.take_length] at ec
          have lu := plen pu
          have eD := sc _ _ ea
          have n29 : D2 ≠ D9 := (ne_of_none ea n2).symm
          refine ⟨_, eD, small1000 ?_, fun c o hc => ?_, us ++ [D2], ?_, ?_⟩
          · rw [List.length_map, lu, List.length_map, List.length_range]
            omega
          · rw [upd_ne (ne_of_none hc n9)]
            exact sc _ _ (sa _ _ hc)
          · rw [upd_same, List.map_append]
            rfl
          · rw [List.range_succ, List.map_append]
            refine (pmono (fun c xs h => ⟨by rw [upd_ne h.2]; exact sc _ _ h.1, h.2⟩) pu).snoc ⟨?_, n29⟩
            rw [upd_ne n29]
            exact ec
      rintro H6 ⟨s6, us, e6, pu⟩
      have tv6 : TabV H6 D9 (dueF Tb ins.length) := ⟨us, e6, pmono (fun c xs h => h.1) pu⟩
      have tu := table_turn G F l40
      have au := adds_turn G F l40
      have G' := good_turn G F l40
      have slim' := slim_turn (ins := ins) (outs := outs) G.nums slim
      rw [← hTb] at tu
      have s16 := s15.trans s6
      have bg6 := bg5.same s6
      have bgT6 := bgT5.same s6
      have tvb6 := tv5.same s6
      clear pu e6 bg5 bgT5 tv5 s6 n9 eT5 pT5
      -- the first test
      obtain ⟨dy6, fy6, hy6, nt6, nu6⟩ := bgT6.at
      refine ⟨_, rfl, y, dy6, fy6, rfl, hy6, nt6, ?_⟩
      try dsimp only
      refine sp_table bgT6 G' slim' fun H7 t7 s7 n7 tv7 => ?_
      rw [tu] at tv7
      have bgT7 := bgT6.same s7
      obtain ⟨dy7, fy7, hy7, nt7, nu7⟩ := bgT7.at
      refine ⟨_, rfl, y, dy7, fy7, rfl, hy7, ?_⟩
      try dsimp only
      refine sp_adds bgT7 G' fun H8 s8 => ?_
      have bgT8 := bgT7.same s8
      obtain ⟨dy8, fy8, hy8, nt8, nu8⟩ := bgT8.at
      refine ⟨_, rfl, y, dy8, fy8, rfl, hy8, ?_⟩
      try dsimp only
      refine sp_ins bgT8 fun I8 eI8 => ?_
      refine ⟨.ref I8, (turnI ins ds outs).length, rfl, .inr ⟨_, SqT.of eI8, by rw [List.length_map]⟩, _, rfl, y, dy8, fy8, rfl, hy8, ?_⟩
      try dsimp only
      refine sp_outs bgT8 fun O8 eO8 => ⟨.ref O8, ins.length, rfl, .inr ⟨_, SqT.of eO8, by rw [List.length_map]⟩, by show 4 ≤ sizeLine; decide, fun p1 np1 => ?_⟩
      have c1 := same_upd (o := .lst [.ref t7, .int (addsD (turnD ins ds outs)), .int (turnI ins ds outs).length, .int ins.length]) np1
      have ep1 : upd H8 p1 (.lst [.ref t7, .int (addsD (turnD ins ds outs)), .int (turnI ins ds outs).length, .int ins.length]) p1 = some (.lst [.ref t7, .int (addsD (turnD ins ds outs)), .int (turnI ins ds outs).length, .int ins.length]) := upd_same
      have s69 := s7.trans (s8.trans c1)
      have tv9 := tv7.same (s8.trans c1)
      generalize upd H8 p1 (.lst [.ref t7, .int (addsD (turnD ins ds outs)), .int (turnI ins ds outs).length, .int ins.length]) = H9 at c1 ep1 s69 tv9 ⊢
      have bg9 := bg6.same s69
      obtain ⟨dx9, fx9, hx9, mt9, mu9⟩ := bg9.at
      refine ⟨_, rfl, _, rfl, x, dx9, fx9, rfl, hx9, ?_⟩
      try dsimp only
      refine sp_adds bg9 G fun H10 s10 => ?_
      have s610 := s69.trans s10
      have s110 := s16.trans s610
      have eO10 := s110 _ _ eO
      have eS10 := s110 _ _ eS
      have lO : LenV K (.ref O) H10 outs.length := .inl ⟨_, SqL.of eO10, by rw [List.length_map]⟩
      have lS : LenV K (.ref S) H10 ins.length := .inl ⟨_, SqL.of eS10, by rw [List.length_map]⟩
      refine ⟨_, rfl, .ref O, outs.length, rfl, lO, _, _, rfl, rfl, _, rfl, .ref S, ins.length, rfl, lS, _, _, rfl, rfl, _, rfl, .ref O, outs.length, rfl, lO, _, rfl, .ref S, ins.length, rfl, lS, by show 4 ≤ sizeLine; decide, fun p2 np2 => ?_⟩
      have c2 := same_upd (o := .lst [.ref D9, .int (addsD ds + outs.length - ins.length), .int outs.length, .int ins.length]) np2
      refine ⟨.ref p1, .ref p2, rfl, Eqd.lst ((s10.trans c2) _ _ ep1) upd_same (by show 4 ≤ 1000; decide) (.cons (Eqd.up2 ((tv9.same (s10.trans c2)).eqd (tv6.same (s610.trans c2)) (by rw [due_len.1]; omega) (fun r hr => by rw [due_len.2 r hr, lT]; omega))) (.cons (leaf_eq au) (.cons (leaf_eq (by rw [F.len])) (.cons (leaf_eq rfl) .nil)))), fun H11 s11 => ?_⟩
      have s611 := s610.trans (c2.trans s11)
      clear tv9 tv7 ep1 bgT8 bgT7 bg9 s69 s610 s110 eO10 eS10 lO lS c2 c1 np1 np2 s10 s11 s7 s8 hy8 hy7 hx9 eI8 eO8 s2
      refine ⟨true, rfl, ?_⟩
      refine ite_no (by decide) ?_
      have bgT11 := bgT6.same s611
      obtain ⟨dy11, fy11, hy11, mt11, mu11⟩ := bgT11.at
      refine ⟨_, rfl, y, dy11, fy11, rfl, hy11, ?_⟩
      try dsimp only
      refine sp_ins bgT11 fun I11 eI11 => ⟨I11, _, rfl, .inr (SqT.of eI11), fun a1 na1 => ?_⟩
      have c12 := same_upd (o := .lst ((turnI ins ds outs).map V.str)) na1
      have ea1 : upd H11 a1 (.lst ((turnI ins ds outs).map V.str)) a1 = some (.lst ((turnI ins ds outs).map V.str)) := upd_same
      generalize upd H11 a1 (.lst ((turnI ins ds outs).map V.str)) = H12 at c12 ea1 ⊢
      have bgT12 := bgT11.same c12
      obtain ⟨dy12, fy12, hy12, mt12, mu12⟩ := bgT12.at
      refine ⟨_, rfl, y, dy12, fy12, rfl, hy12, ?_⟩
      try dsimp only
      refine sp_lines bgT12 fun Lx ts eLx pts => ⟨Lx, rfl, ⟨_, SqT.of eLx⟩, fun D3 n3 => ?_⟩
      have lts := plen pts
      have lD : (turnD ins ds outs).length ≤ 40 := G'.ld
      refine lc_it (walk_tup (xs := ts.map V.ref)) (fun j H' => Same H12 H' ∧ ∃ us : List Addr, H' D3 = some (.lst (us.map V.ref)) ∧ Paired (fun u d => LnAt (fun a => a = D3) H' (.ref u) d) us ((turnD ins ds outs).take j)) ⟨same_upd n3, [], upd_same, .nil⟩ (fun j H' _ e => SqT.of (e.1 _ _ eLx)) ?_ ?_
      · rintro j v Ha Hb hj ⟨sa, us, ea, pu⟩ ⟨rfl, hv⟩
        obtain ⟨t, ht, rfl⟩ := at_map hv
        have hj' := (List.getElem?_eq_some_iff.mp ht).1
        obtain ⟨t', d, ht', hd, hk⟩ := pat pts (by omega : j < (turnD ins ds outs).length)
        rw [ht] at ht'
        cases ht'
        obtain ⟨z, ps, p0, vs, rfl, g1, g2, g3, lz, lps, num⟩ := hk.shape
        refine ⟨t, _, rfl, SqT.of (sa _ _ g1), rfl, _, _, rfl, _, _, rfl, rfl, rfl, tYes_ok ⟨_, rfl, _, rfl, p0, vs, rfl, .inr (SqT.of (sa _ _ g2)), fun pl npl => ⟨by show 2 ≤ sizeLine; decide, fun u nu => ?_⟩⟩⟩
        obtain ⟨cs, rfl, pcs⟩ := part_refs (nums_same g3 sa) num
        have c1 := same_upd (o := .lst (cs.map V.ref)) npl
        have e1 : upd Hb pl (.lst (cs.map V.ref)) pl = some (.lst (cs.map V.ref)) := upd_same
        have c2 := same_upd (o := .tup [.str z, .ref pl]) nu
        have e2 : upd (upd Hb pl (.lst (cs.map V.ref))) u (.tup [.str z, .ref pl]) u = some (.tup [.str z, .ref pl]) := upd_same
        have eD1 := c1 _ _ ea
        have np : pl ≠ D3 := (ne_of_none ea npl).symm
        have nu3 : u ≠ D3 := (ne_of_none eD1 nu).symm
        have c12' := c1.trans c2
        have e1' := c2 _ _ e1
        have eD2 := c2 _ _ eD1
        have pcs2 := pmono (fun c q h => PartAt.same h c12') pcs
        have pu2 := pmono (fun u d h => LnAt.kx (KX.same c12') h) pu
        generalize upd (upd Hb pl (.lst (cs.map V.ref))) u (.tup [.str z, .ref pl]) = Hc at e2 c12' e1' eD2 pcs2 pu2 ⊢
        have lu := plen pu
        refine ⟨_, eD2, small1000 ?_, fun c o hc => ?_, us ++ [u], ?_, ?_⟩
        · rw [List.length_map, lu, List.length_take]
          omega
        · rw [upd_ne (ne_of_none hc n3)]
          exact c12' _ _ (sa _ _ hc)
        · rw [upd_same, List.map_append]
          rfl
        · rw [take_snoc hd]
          have kx : KX (fun a => a = D3) Hc (upd Hc D3 (.lst (us.map V.ref ++ [.ref u]))) := KX.upd rfl
          refine (pmono (fun u d h => LnAt.kx kx h) pu2).snoc ?_
          refine LnAt.kx kx (d := .line z ps) ?_
          exact ⟨u, pl, cs, rfl, nu3, np, e2, e1', part_far eD2 pcs2 num, lz, lps, num⟩
      rintro H13 ⟨s13, us, e3, pu⟩
      rw [List.length_map, lts, List.take_length] at pu
      have bgT13 := bgT12.same s13
      obtain ⟨dy13, fy13, hy13, mt13, mu13⟩ := bgT13.at
      refine ⟨_, rfl, y, dy13, fy13, rfl, hy13, ?_⟩
      try dsimp only
      refine sp_outs bgT13 fun O13 eO13 => ⟨O13, _, rfl, .inr (SqT.of eO13), fun a2 na2 => ⟨by show 3 ≤ sizeLine; decide, fun tr ntr => ?_⟩⟩
      have c14 := same_upd (o := .lst (ins.map V.str)) na2
      have c15 := same_upd (o := .tup [.ref a1, .ref D3, .ref a2]) ntr
      have c45 := c14.trans c15
      have lnr : ∀ {us : List Addr} {ds : List LineD}, Paired (fun u d => LnAt (fun a => a = D3) H13 (.ref u) d) us ds → Paired (LineAt H13) (us.map V.ref) ds := fun {us ds} h => by
        induction h with
        | nil => exact .nil
        | cons a t ih => exact .cons (LnAt.line a) ih
      refine sp_btab upd_same (c45 _ _ (s13 _ _ ea1)) (c45 _ _ e3) (pmono (fun v d h => h.same c45) (lnr pu)) (c15 _ _ upd_same) G' slim' fun H16 t16 s16' n16 tv16 => ?_
      rw [tu] at tv16
      have s616 := s611.trans (c12.trans (s13.trans (c45.trans s16')))
      refine ⟨_, rfl, .ref t16, .ref D9, rfl, Eqd.up (Eqd.up2 (tv16.eqd (tv6.same s616) (by rw [due_len.1]; omega) (fun r hr => by rw [due_len.2 r hr, lT]; omega))), fun H17 s17 => ?_⟩
      have s617 := s616.trans s17
      clear tv16 s616 s16' n16 c45 c15 c14 na2 ntr pu e3 s13 pts eLx c12 ea1 na1 bgT11 bgT12 bgT13 hy11 hy12 hy13 lnr s17 eI11 eO13 n3 s611
      refine ⟨true, rfl, ite_no (by decide) ?_⟩
      have T17 := T1.ext (s16.trans s617)
      refine ⟨fun p hp => by
        have e : p = (Pt, lq) := (List.mem_singleton.mp hp).trans (congrArg (Prod.mk Pt) hlq.symm)
        rw [e]
        exact T17, fun H18 eN T18 => ?_⟩
      have T18' : LamX.TabS H18 Pt lq := by
        rw [hlq]
        exact T18 _ List.mem_cons_self
      clear T18 T17
      have x18 : LamX.ExtN H6 H18 := (LamX.ExtN.of s617).trans eN
      have bg18 := bg6.ext x18
      have bgT18 := bgT6.ext x18
      have tvb18 := tvb6.ext x18
      have B18 : Bg H18 b cc := bg_ext (B1.same s16) x18
      have eO18 : H18 O = some (.lst (outs.map V.str)) := x18 _ _ (s16 _ _ eO) (fun ps z => by cases z)
      clear x18 eN s617 bg6 bgT6 tvb6 tv6 s16 hy6 T5 B5 T2 B2 T1 B1 s02 s15 hx1
      have lN2 : (turnN (turnI ins ds outs) (turnD ins ds outs)).length = outs.length + (turnN ins ds).length := by
        rw [turn_N, List.length_append, F.len, List.length_reverse]
      have F2 : Fresh (turnI (turnI ins ds outs) (turnD ins ds outs) ins) (turnI ins ds outs) (turnD ins ds outs) ins := fresh_few (by omega)
      have l402 : (turnN (turnI ins ds outs) (turnD ins ds outs)).length ≤ 40 := by omega
      have tu2 := table_turn G' F2 l402
      have au2 := adds_turn G' F2 l402
      have G2 := good_turn G' F2 l402
      have slim2 := slim_turn (ins := turnI ins ds outs) (outs := ins) G'.nums slim'
      rw [tu, F.len, ← lT, due_due rT] at tu2
      obtain ⟨dy18, fy18, hy18, mt18, mu18⟩ := bgT18.at
      refine ⟨_, rfl, y, dy18, fy18, rfl, hy18, mu18, ?_⟩
      try dsimp only
      refine sp_turned bgT18 G' F2 l402 fun H19 z s19 nz bgZ => ?_
      obtain ⟨dz, fz, hz, mtz, muz⟩ := bgZ.at
      refine ⟨z, dz, fz, rfl, hz, mtz, ?_⟩
      try dsimp only
      refine sp_table bgZ G2 slim2 fun H20 t20 s20 n20 tv20 => ?_
      have bgT20 := bgT18.same (s19.trans s20)
      obtain ⟨dy20, fy20, hy20, mt20, mu20⟩ := bgT20.at
      refine ⟨_, rfl, y, dy20, fy20, rfl, hy20, mu20, ?_⟩
      try dsimp only
      refine sp_turned bgT20 G' F2 l402 fun H21 z2 s21 nz2 bgZ2 => ?_
      obtain ⟨dz2, fz2, hz2, mtz2, muz2⟩ := bgZ2.at
      refine ⟨z2, dz2, fz2, rfl, hz2, ?_⟩
      try dsimp only
      have ea2 : addsD (turnD (turnI ins ds outs) (turnD ins ds outs) ins) = addsD ds := by
        rw [au2, au, F.len]
        omega
      refine sp_adds bgZ2 G2 fun H22 s22 => ⟨by show 2 ≤ sizeLine; decide, fun l3 n3 => ⟨by show 2 ≤ sizeLine; decide, fun p3 np3 => ?_⟩⟩
      rw [tu2] at tv20
      rw [ea2] at np3 ⊢
      have c3 := same_upd (o := .lst [.ref t20, .int (addsD ds)]) n3
      have c4 := same_upd (o := .tup [.str "", .ref l3]) np3
      have el3 := c4 _ _ (show upd H22 l3 (.lst [.ref t20, .int (addsD ds)]) l3 = some (.lst [.ref t20, .int (addsD ds)]) from upd_same)
      have ep3 : upd (upd H22 l3 (.lst [.ref t20, .int (addsD ds)])) p3 (.tup [.str "", .ref l3]) p3 = some (.tup [.str "", .ref l3]) := upd_same
      have tv23 := tv20.same (s21.trans (s22.trans (c3.trans c4)))
      have s1823 := s19.trans (s20.trans (s21.trans (s22.trans (c3.trans c4))))
      generalize upd (upd H22 l3 (.lst [.ref t20, .int (addsD ds)])) p3 (.tup [.str "", .ref l3]) = H23 at el3 ep3 tv23 s1823 ⊢
      clear c3 c4 n3 np3 s19 s20 s21 s22 tv20 bgZ2 hz2 bgZ hz bgT20 hy20 hy18 n20 nz nz2
      have bg23 := bg18.same s1823
      have bgT23 := bgT18.same s1823
      have tvb23 := tvb18.same s1823
      have T23 := T18'.ext s1823
      have B23 := B18.same s1823
      clear bg18 bgT18 tvb18 T18' B18 s1823
      obtain ⟨dy23, fy23, hy23, mt23, mu23⟩ := bgT23.at
      obtain ⟨dx23, fx23, hx23, lt23, lu23⟩ := bg23.at
      refine ⟨_, rfl, y, dy23, fy23, rfl, hy23, ?_⟩
      try dsimp only
      refine sp_ins bgT23 fun I23 eI23 => ⟨.ref I23, outs.length, rfl, .inr ⟨_, SqT.of eI23, by rw [List.length_map, F.len]⟩, _, rfl, y, dy23, fy23, rfl, hy23, ?_⟩
      try dsimp only
      refine sp_lines bgT23 fun L23 ts eL23 pts => ⟨.ref L23, ts.length, rfl, .inr ⟨_, SqT.of eL23, by rw [List.length_map]⟩, _, _, rfl, rfl, _, _, rfl, rfl, _, rfl, ?_⟩
      have lts2 : ts.length = (turnN ins ds).length := by
        rw [plen pts]
        unfold turnD
        rw [List.length_map, List.length_reverse]
      refine ite_no (by rw [decide_eq_false (by omega)]; decide) ?_
      refine ⟨_, rfl, _, rfl, x, dx23, fx23, rfl, hx23, ?_⟩
      try dsimp only
      refine sp_adds bg23 G fun H24 s24 => ⟨by show 2 ≤ sizeLine; decide, fun l4 n4 => ⟨by show 2 ≤ sizeLine; decide, fun p4 np4 => ?_⟩⟩
      have c5 := same_upd (o := .lst [.ref l, .int (addsD ds)]) n4
      have c6 := same_upd (o := .tup [.str "", .ref l4]) np4
      have el4 := c6 _ _ (show upd H24 l4 (.lst [.ref l, .int (addsD ds)]) l4 = some (.lst [.ref l, .int (addsD ds)]) from upd_same)
      have ep4 : upd (upd H24 l4 (.lst [.ref l, .int (addsD ds)])) p4 (.tup [.str "", .ref l4]) p4 = some (.tup [.str "", .ref l4]) := upd_same
      have s25 := s24.trans (c5.trans c6)
      generalize upd (upd H24 l4 (.lst [.ref l, .int (addsD ds)])) p4 (.tup [.str "", .ref l4]) = H25 at el4 ep4 s25 ⊢
      clear c5 c6 n4 np4 s24
      have bg25 := bg23.same s25
      obtain ⟨dx25, fx25, hx25, lt25, lu25⟩ := bg25.at
      refine ⟨_, rfl, _, rfl, x, dx25, fx25, rfl, hx25, lt25, ?_⟩
      try dsimp only
      refine sp_table bg25 G slim fun H26 t26 s26 n26 tv26 => ⟨by show 2 ≤ sizeLine; decide, fun q1 nq1 => ⟨_, rfl, _, rfl, by show 2 ≤ sizeLine; decide, fun q2 nq2 => ?_⟩⟩
      rw [← hTb] at tv26
      have c7 := same_upd (o := .lst [.ref p3, .ref t26]) nq1
      have c8 := same_upd (o := .lst [.ref p4, .ref l]) nq2
      have c78 := c7.trans c8
      have s2628 := s26.trans c78
      have s2328 := s25.trans s2628
      have row : ∀ r ∈ Tb, r.length ≤ 1000 := fun r hr => by rw [rT r hr]; omega
      have tb28 := tvb23.same s2328
      refine ⟨.ref q1, .ref q2, rfl, Eqd.lst (c8 _ _ upd_same) upd_same (by show 2 ≤ 1000; decide) (.cons (Eqd.tup (s2328 _ _ ep3) (s2628 _ _ ep4) (by show 2 ≤ 1000; decide) (.cons (Eqd.leaf True.intro) (.cons (Eqd.lst (s2328 _ _ el3) (s2628 _ _ el4) (by show 2 ≤ 1000; decide) (.cons ((tv23.same s2328).eqd tb28 (by omega) row) (.cons (leaf_eq rfl) .nil))) .nil))) (.cons (Eqd.up2 ((tv26.same c78).eqd tb28 (by omega) row)) .nil)), fun H27 s27 => ⟨true, rfl, ite_no (by decide) ?_⟩⟩
      exact ⟨_, _, _, _, _, _, _, _, _, _, rfl, B23.same (s2328.trans s27), T23.ext (s2328.trans s27)⟩
    · rintro σ H' ⟨y2, y3, y4, y5, y6, y7, y8, y9, y14, y15, rfl, Bi, Ti⟩
      refine ⟨40, rfl, by decide, by decide, fun D hD => ?_⟩
      refine lc_it (walk_range (lo := 0) (n := 40)) (fun i H2 => Same H' H2 ∧ ∃ rs : List Addr, H2 D = some (.lst (rs.map V.ref)) ∧ Paired (fun r k => LnAt (fun a => a = D) H2 (.ref r) (rowK k)) rs (List.range i)) ⟨same_upd hD, [], upd_same, .nil⟩ (fun _ _ _ _ => True.intro) ?_ ?_
      · rintro i v Ha Hb hi ⟨sa, rs, ea, pr⟩ ⟨rfl, rfl⟩
        have hi : i < 40 := hi
        have g1 : ∀ k : Nat, k < 40 → atI letters.cps.toList ((((0 : Int) + (k : Int)) / 26 : Int)) = some (97 + k / 26) := by decide +kernel
        have g2 : ∀ k : Nat, k < 40 → atI letters.cps.toList ((((0 : Int) + (k : Int)) % 26 : Int)) = some (97 + k % 26) := by decide +kernel
        have fin : ∀ (t p r : Addr), Hb t = none → (upd Hb t (.tup [.int 1, .str (prevN i)])) p = none → (upd (upd Hb t (.tup [.int 1, .str (prevN i)])) p (.lst [.ref t])) r = none → ∃ acc, (upd (upd (upd Hb t (.tup [.int 1, .str (prevN i)])) p (.lst [.ref t])) r (.tup [.str (rowN i), .ref p])) D = some (.lst acc) ∧ acc.length < sizeLine ∧
            Same H' (upd (upd (upd (upd Hb t (.tup [.int 1, .str (prevN i)])) p (.lst [.ref t])) r (.tup [.str (rowN i), .ref p])) D (.lst (acc ++ [.ref r]))) ∧ ∃ rs : List Addr, (upd (upd (upd (upd Hb t (.tup [.int 1, .str (prevN i)])) p (.lst [.ref t])) r (.tup [.str (rowN i), .ref p])) D (.lst (acc ++ [.ref r]))) D = some (.lst (rs.map V.ref)) ∧
              Paired (fun u k => LnAt (fun a => a = D) (upd (upd (upd (upd Hb t (.tup [.int 1, .str (prevN i)])) p (.lst [.ref t])) r (.tup [.str (rowN i), .ref p])) D (.lst (acc ++ [.ref r]))) (.ref u) (rowK k)) rs (List.range (i + 1)) := fun t p r nt np nr => by
          have c1 := same_upd (o := .tup [.int 1, .str (prevN i)]) nt
          have c2 := same_upd (o := .lst [.ref t]) np
          have c3 := same_upd (o := .tup [.str (rowN i), .ref p]) nr
          have c13 := c1.trans (c2.trans c3)
          have et := (c2.trans c3) _ _ (show upd Hb t (.tup [.int 1, .str (prevN i)]) t = some (.tup [.int 1, .str (prevN i)]) from upd_same)
          have ep := c3 _ _ (show upd (upd Hb t (.tup [.int 1, .str (prevN i)])) p (.lst [.ref t]) p = some (.lst [.ref t]) from upd_same)
          have er : upd (upd (upd Hb t (.tup [.int 1, .str (prevN i)])) p (.lst [.ref t])) r (.tup [.str (rowN i), .ref p]) r = some (.tup [.str (rowN i), .ref p]) := upd_same
          have ntD : t ≠ D := (ne_of_none ea nt).symm
          have npD : p ≠ D := (ne_of_none (c1 _ _ ea) np).symm
          have nrD : r ≠ D := (ne_of_none (c2 _ _ (c1 _ _ ea)) nr).symm
          have eD := c13 _ _ ea
          have pr2 := pmono (fun u d h => LnAt.kx (KX.same c13) h) pr
          generalize upd (upd (upd Hb t (.tup [.int 1, .str (prevN i)])) p (.lst [.ref t])) r (.tup [.str (rowN i), .ref p]) = Hc at c13 et ep er eD pr2 ⊢
          have lr := plen pr
          rw [List.length_range] at lr
          refine ⟨_, eD, small1000 (by rw [List.length_map]; omega), fun c o hc => ?_, rs ++ [r], ?_, ?_⟩
          · rw [upd_ne (ne_of_none hc hD)]
            exact c13 _ _ (sa _ _ hc)
          · rw [upd_same, List.map_append]
            rfl
          · rw [List.range_succ]
            have kx : KX (fun a => a = D) Hc (upd Hc D (.lst (rs.map V.ref ++ [.ref r]))) := KX.upd rfl
            refine (pmono (fun u d h => LnAt.kx kx h) pr2).snoc ?_
            refine LnAt.kx kx (d := rowK i) ?_
            have l1 : (rowN i).length ≤ 1000 := by show 3 ≤ 1000; decide
            have l2 : (prevN i).length ≤ 1000 := by
              unfold prevN
              split
              · show 1 ≤ 1000; decide
              · show 3 ≤ 1000; decide
            exact ⟨r, p, [t], rfl, nrD, npD, er, ep, .cons ⟨ntD, t, rfl, et, l2⟩ .nil, l1, by show 1 ≤ 100; decide, fun q hq => by rw [List.mem_singleton.mp hq]; exact ⟨_, _, rfl⟩⟩
        refine ⟨rfl, tYes_ok ?_⟩
        refine ⟨rfl, _, rfl, _, 26, rfl, rfl, ⟨by decide, by decide⟩, letters, _, _, rfl, rfl, by decide, g1 i hi, "x", _, rfl, rfl, by show 1 + 1 ≤ sizeLine; decide, ?_⟩
        refine ⟨rfl, _, rfl, .inl ⟨_, rfl, _, 26, rfl, rfl, by show (0 : Int) < 26; decide, letters, _, _, rfl, rfl, by decide, g2 i hi, _, _, rfl, rfl, by show 2 + 1 ≤ sizeLine; decide, ?_⟩⟩
        refine ⟨_, rfl, rfl, _, rfl, ?_⟩
        match i, hi, fin with
        | 0, hi, fin =>
          refine ite_of (decide_eq_true rfl) ⟨by show 2 ≤ sizeLine; decide, fun t nt => ⟨by show 1 ≤ sizeLine; decide, fun p np => ⟨by show 2 ≤ sizeLine; decide, fun r nr => ?_⟩⟩⟩
          exact fin t p r nt np nr
        | m + 1, hi, fin =>
          have hm : (0 + ((m + 1 : Nat) : Int) - 1) = 0 + (m : Int) := by omega
          refine ite_no (by rw [decide_eq_true_iff]; intro z; have := V.int.inj z; omega) ?_
          refine ⟨rfl, _, rfl, _, _, rfl, rfl, _, 26, rfl, rfl, ⟨by decide, by decide⟩, letters, _, _, rfl, rfl, by decide, by rw [hm]; exact g1 m (by omega), "x", _, rfl, rfl, by show 1 + 1 ≤ sizeLine; decide, ?_⟩
          refine ⟨rfl, _, rfl, _, _, rfl, rfl, .inl ⟨_, rfl, _, 26, rfl, rfl, by show (0 : Int) < 26; decide, letters, _, _, rfl, rfl, by decide, by rw [hm]; exact g2 m (by omega), _, _, rfl, rfl, by show 2 + 1 ≤ sizeLine; decide, ?_⟩⟩
          refine ⟨by show 2 ≤ sizeLine; decide, fun t nt => ⟨by show 1 ≤ sizeLine; decide, fun p np => ⟨by show 2 ≤ sizeLine; decide, fun r nr => ?_⟩⟩⟩
          exact fin t p r nt np nr
      rintro H1 ⟨s1, rs, eR, pr⟩
      have T1 := Ti.ext s1
      have B1 := Bi.same s1
      have lrs := plen pr
      rw [List.length_range] at lrs
      have lnr : ∀ {us : List Addr} {ks : List Nat}, Paired (fun u k => LnAt (fun a => a = D) H1 (.ref u) (rowK k)) us ks → Paired (LineAt H1) (us.map V.ref) (ks.map rowK) := fun {us ds} h => by
        induction h with
        | nil => exact .nil
        | cons a t ih => exact .cons (LnAt.line a) ih
      have prs : Paired (LineAt H1) (rs.map V.ref) (rowsK 40) := lnr pr
      -- the lambdas
      refine ⟨fun p hp => by
        have e : p = (Pt, lq) := (List.mem_singleton.mp hp).trans (congrArg (Prod.mk Pt) hlq.symm)
        rw [e]
        exact T1, fun fs H4 eN T4 L4 => ⟨by rw [List.length_map, L4.len]; show 3 ≤ sizeLine; decide, fun la nla => ?_⟩⟩
      have u5 := same_upd (o := .lst (fs.map V.ref)) nla
      have e4 := eN.trans (LamX.ExtN.of u5)
      have eR5 := e4 _ _ eR (fun ps z => by cases z)
      have prs5 := pmono (fun v d h => LineAt.ext h e4) prs
      refine ⟨_, rfl, la, fs, _, _, [LamL.RT [.str "TooMany", .int 40], RTab [[1]], LamL.RT [.str "", .int 7]], rfl, upd_same, ?_, L4.same u5, (LamL.LamsOk.cons (LamL.lamTxt_at N_law (defScope s_law) (by decide +kernel)) (LamL.bind0 fun _ _ _ _ _ _ => rfl) (fun A outer s H E f c' hr => (pe_ownME0 cl_ M_turned (takes_of rfl rfl rfl rfl) (hr.mono (by decide)) (pe_mkE MK_Sums (takes_of rfl rfl rfl rfl) (hr.mono (by decide)) (by rfl) (pa_cons (pe_lst (pa_cons pe_str pa_nil)) (pa_cons (pv 16) (pa_cons (pe_lst (pa_cons (pe_ix (LcN.ix_tupK K rfl) (pe_ix (LcN.ix_listK K rfl) (pv 16) pe_int (fun _ _ => rfl)) pe_int (fun _ _ => rfl)) pa_nil)) pa_nil))))))
          (LamL.LamsOk.cons (LamL.lamTxt_at N_law (defScope s_law) (by decide +kernel)) (LamL.bind1 fun _ _ _ _ _ _ _ _ => ⟨_, rfl, rfl⟩) (fun A outer s H E f c' hr => (pe_ownM0 cl_ M_table (hr.mono (by decide)) (pe_ownME0 cl_ M_turned (takes_of rfl rfl rfl rfl) (hr.mono (by decide)) (pe_mkE MK_Sums (takes_of rfl rfl rfl rfl) (hr.mono (by decide)) (by rfl) (pa_cons (pe_lst (pa_cons pe_str pa_nil)) (pa_cons (pe_slice (sl_listK K rfl) (pv 16) po_none (po_some pe_int)) (pa_cons (pe_lst (pa_cons (pe_ix (LcN.ix_tupK K rfl) (pe_ix (LcN.ix_listK K rfl) (pv 16) pe_int (fun _ _ => rfl)) pe_int (fun _ _ => rfl)) pa_nil)) pa_nil)))))))
          (LamL.LamsOk.cons (LamL.lamTxt_at N_law (defScope s_law) (by decide +kernel)) (LamL.bind1 fun _ _ _ _ _ _ _ _ => ⟨_, rfl, rfl⟩) (fun A outer s H E f c' hr => (pe_pr cl_ PR_adds (hr.mono (by decide)) (pe_ownME0 cl_ M_turned (takes_of rfl rfl rfl rfl) (hr.mono (by decide)) (pe_mkE MK_Sums (takes_of rfl rfl rfl rfl) (hr.mono (by decide)) (by rfl) (pa_cons (pe_lst (pa_cons pe_str pa_nil)) (pa_cons (pe_lst pa_nil) (pa_cons (pe_op op_rep (pe_lst (pa_cons pe_str pa_nil)) pe_int) pa_nil))))) rfl))
          LamL.LamsOk.nil))), ?_, fun xs l H5 s5 nl el pr => ?_⟩
      · rw [L4.len]
        show 3 ≤ 100
        decide
      · refine ⟨LamL.RT.keeps, fun Hb Q sb qk => ?_, RTab.keeps, fun Hb Q sb qk => ?_, LamL.RT.keeps, fun Hb Q sb qk => ?_, True.intro⟩
        all_goals clear L4 T4
        · have eRb := sb _ _ eR5
          have prsb := pmono (fun v d h => LineAt.same h sb) prs5
          obtain ⟨v39, d39, hv39, hd39, hl39⟩ := pat prsb (i := 39) (by decide)
          obtain ⟨_, rfl⟩ := row_at hd39
          obtain ⟨a39, p39, vs39, rfl, ha39, _⟩ := hl39
          refine ⟨by show 1 ≤ sizeLine; decide, fun p1 m1 => ?_⟩
          have d1 := same_upd (o := .lst [.str "a"]) m1
          refine ⟨_, rfl, _, rfl, D, _, _, _, rfl, rfl, SqL.of (d1 _ _ eRb), atI_nat (j := 39) hv39, a39, _, _, _, rfl, rfl, SqT.of (d1 _ _ ha39), atI_nat (j := 0) rfl, by show 1 ≤ sizeLine; decide, fun p3 m3 => fun sc dx nsc ndx nee => ?_⟩
          have d3 := same_upd (o := .lst [.str (rowN 39)]) m3
          have d13 := d1.trans d3
          refine sp_init (ins := [tA]) (outs := [rowN 39]) (ds := rowsK 40) (d3 _ _ upd_same) (d13 _ _ eRb) (pmono (fun v d h => LineAt.same h d13) prsb) (.inl upd_same) nsc ndx (good_rows (n := 40) (by decide) (by decide)) fun H6 s6 bg => ⟨rfl, ?_⟩
          obtain ⟨dz, fz, hz, mtz, muz⟩ := bg.at
          refine ⟨sc, dz, fz, rfl, hz, muz, ?_⟩
          unfold tNil
          dsimp only
          exact sp_many bg (good_rows (n := 40) (by decide) (by decide)) (by simp [turnN, rowsK]) (fun H7 d s7 nd => err_wish hmT xfT noCT noFT (by decide +kernel) rfl rfl qk H7 d (d13.trans (s6.trans s7)) nd)
        · have eRb := sb _ _ eR5
          have prsb := pmono (fun v d h => LineAt.same h sb) prs5
          obtain ⟨v38, d38, hv38, hd38, hl38⟩ := pat prsb (i := 38) (by decide)
          obtain ⟨_, rfl⟩ := row_at hd38
          obtain ⟨a38, p38, vs38, rfl, ha38, _⟩ := hl38
          refine ⟨by show 1 ≤ sizeLine; decide, fun p1 m1 => ?_⟩
          have d1 := same_upd (o := .lst [.str "a"]) m1
          refine ⟨_, rfl, _, rfl, D, _, rfl, SqL.of (d1 _ _ eRb), fun p2 m2 => ?_⟩
          have d2 := same_upd (o := .lst (cutV (rs.map V.ref) none (some (39 : Int)))) m2
          have d12 := d1.trans d2
          refine ⟨_, rfl, D, _, _, _, rfl, rfl, SqL.of (d12 _ _ eRb), atI_nat (j := 38) hv38, a38, _, _, _, rfl, rfl, SqT.of (d12 _ _ ha38), atI_nat (j := 0) rfl, by show 1 ≤ sizeLine; decide, fun p3 m3 => fun sc dx nsc ndx nee => ?_⟩
          have d3 := same_upd (o := .lst [.str (rowN 38)]) m3
          have d13 := d12.trans d3
          have ct : cutV (rs.map V.ref) none (some (39 : Int)) = (rs.map V.ref).take 39 := cut_lo (by rw [List.length_map, lrs]; decide)
          have G39 := good_rows (n := 39) (by decide) (by decide)
          have pr39 : Paired (LineAt (upd (upd (upd Hb p1 (.lst [.str "a"])) p2 (.lst (cutV (rs.map V.ref) none (some (39 : Int))))) p3 (.lst [.str (rowN 38)]))) ((rs.map V.ref).take 39) (rowsK 39) := by
            rw [rowsK_take (n := 39) (by decide)]
            exact ptake 39 (pmono (fun v d h => LineAt.same h d13) prsb)
          refine sp_init (ins := [tA]) (outs := [rowN 38]) (ds := rowsK 39) ((d2.trans d3) _ _ upd_same) (ls := (rs.map V.ref).take 39) (by rw [← ct]; exact d3 _ _ upd_same) pr39 (.inl upd_same) nsc ndx G39 fun H6 s6 bg => ⟨rfl, ?_⟩
          obtain ⟨dz, fz, hz, mtz, muz⟩ := bg.at
          refine ⟨sc, dz, fz, rfl, hz, muz, ?_⟩
          have l40 : (turnN [tA] (rowsK 39)).length ≤ 40 := by simp [turnN, rowsK]
          unfold tNil
          dsimp only
          refine sp_turned bg G39 fresh39 l40 fun H7 z s7 nz bgZ => ?_
          obtain ⟨dy, fy, hy, mty, muy⟩ := bgZ.at
          refine ⟨z, dy, fy, rfl, hy, mty, ?_⟩
          try dsimp only
          refine sp_table bgZ (good_turn G39 fresh39 l40) (slim_turn G39.nums (slim_rows 39)) fun H8 t8 s8 n8 tv8 => ⟨by show 2 ≤ sizeLine; decide, fun p hp => ?_⟩
          rw [tab39] at tv8
          exact qk _ _ (d13.trans (s6.trans (s7.trans (s8.trans (same_upd hp))))) ⟨p, t8, rfl, upd_same, tv8.same (same_upd hp)⟩
        · refine ⟨by show 1 ≤ sizeLine; decide, fun p1 m1 => ⟨by show 0 ≤ sizeLine; decide, fun p2 m2 => ⟨by show 1 ≤ sizeLine; decide, fun p3 m3 => ⟨p3, 8, _, rfl, rfl, upd_same, by decide, by decide, by show 1 * 8 ≤ sizeLine; decide, fun p4 m4 => fun sc dx nsc ndx nee => ?_⟩⟩⟩⟩
          have d1 := same_upd (o := .lst [.str "a"]) m1
          have d2 := same_upd (o := .lst []) m2
          have d3 := same_upd (o := .lst [.str "a"]) m3
          have d4 := same_upd (o := .lst ((List.replicate 8 tA).map V.str)) m4
          have zz := d1.trans (d2.trans (d3.trans d4))
          refine sp_init (ins := [tA]) (outs := List.replicate 8 tA) (ds := []) (ls := []) ((d2.trans (d3.trans d4)) _ _ upd_same) ((d3.trans d4) _ _ upd_same) .nil (.inl upd_same) nsc ndx good_eight fun H6 s6 bg => ⟨rfl, ?_⟩
          obtain ⟨dz, fz, hz, mtz, muz⟩ := bg.at
          refine ⟨sc, dz, fz, rfl, hz, muz, ?_⟩
          unfold tNil
          dsimp only
          refine sp_turned bg good_eight fresh8 (by decide) fun H7 z s7 nz bgZ => ?_
          obtain ⟨dy, fy, hy, mty, muy⟩ := bgZ.at
          refine ⟨z, dy, fy, rfl, hy, ?_⟩
          try dsimp only
          refine sp_adds bgZ (good_turn good_eight fresh8 (by decide)) fun H8 s8 => ⟨by show 2 ≤ sizeLine; decide, fun p hp => ?_⟩
          rw [adds8]
          exact qk _ _ (zz.trans (s6.trans (s7.trans (s8.trans (same_upd hp))))) ⟨p, rfl, upd_same⟩
      clear L4 T4
      refine ⟨by show 2 ≤ sizeLine; decide, fun q1 n1 => ⟨by show 1 ≤ sizeLine; decide, fun i1 m1 => ⟨by show 1 ≤ sizeLine; decide, fun i2 m2 => ⟨by show 2 ≤ sizeLine; decide, fun q2 n2 => ⟨by show 2 ≤ sizeLine; decide, fun q3 n3 => ⟨by show 3 ≤ sizeLine; decide, fun q4 n4 => ?_⟩⟩⟩⟩⟩⟩
      have x4 := same_upd (o := .lst [.ref q1, .ref q2, .ref q3]) n4
      have x3 := (same_upd (o := .tup [.str "", .int 7]) n3).trans x4
      have x2 := (same_upd (o := .tup [.str "", .ref i2]) n2).trans x3
      have y2 := (same_upd (o := .lst [.ref i1]) m2).trans x2
      have y1 := (same_upd (o := .lst [.int 1]) m1).trans y2
      have x1 := (same_upd (o := .tup [.str "TooMany", .int 40]) n1).trans y1
      obtain ⟨_, xs1, rfl, ⟨a1, rfl, g1⟩, pr1⟩ := LamL.pcons pr
      obtain ⟨_, xs2, rfl, ⟨a2, l2, rfl, g2, tv2⟩, pr2⟩ := LamL.pcons pr1
      obtain ⟨_, xs3, rfl, ⟨a3, rfl, g3⟩, pr3⟩ := LamL.pcons pr2
      obtain rfl := LamL.pnil pr3
      have tvi : TabV (upd (upd (upd (upd (upd (upd H5 q1 (.tup [.str "TooMany", .int 40])) i1 (.lst [.int 1])) i2 (.lst [.ref i1])) q2 (.tup [.str "", .ref i2])) q3 (.tup [.str "", .int 7])) q4 (.lst [.ref q1, .ref q2, .ref q3])) i2 [[1]] := ⟨[i1], x2 _ _ upd_same, .cons (y2 _ _ upd_same) .nil⟩
      refine ⟨.ref l, .ref q4, rfl, Eqd.lst (x1 _ _ el) upd_same (by show 3 ≤ 1000; decide) ?_, fun H6 s6 => q _⟩
      exact .cons (Eqd.tup (x1 _ _ g1) (y1 _ _ upd_same) (by show 2 ≤ 1000; decide) (.cons (Eqd.leaf True.intro) (.cons (Eqd.leaf True.intro) .nil)))
        (.cons (Eqd.tup (x1 _ _ g2) (x3 _ _ upd_same) (by show 2 ≤ 1000; decide) (.cons (Eqd.leaf True.intro) (.cons (Eqd.up ((tv2.same x1).eqd tvi (by decide) (by decide))) .nil)))
        (.cons (Eqd.tup (x1 _ _ g3) (x4 _ _ upd_same) (by show 2 ≤ 1000; decide) (.cons (Eqd.leaf True.intro) (.cons (Eqd.leaf True.intro) .nil))) .nil))
  obtain ⟨t, ht, hq⟩ := main
  exact ⟨t, ht.nox, hq⟩
end
end My
namespace My
open PySem PySem.Spec PyProof.Rows L2
section
variable {P : Program} {w : World} {K : PySem.W.Frag} {mg : Str → Option Value} {base : Heap}
theorem ok_letters (F : Fn K mg "_law_letters" s_l_letters []) : Has P w K mg base 1 "_law_letters" [] (fun vs H Q _ => vs = [] ∧ Q (.str letters) H) := by
  refine F.has sc_l_letters (fun vs H Q E h => ?_) (fun f cdv A outer s H vs Q E hr h => ?_)
  · obtain ⟨rfl, _⟩ := h
    rfl
  obtain ⟨rfl, q⟩ := h
  exact ⟨_, (pss_one (ps_ret pe_str)), q⟩
end
theorem all_mk {l : PySem.W.OpenLaw} {w : World} {K : PySem.W.Frag} {h : Heap} {mg : Str → Option Value} {fa : Addr} (X : K.In h) (G : h.Ns mainGlobals mg) (hfa : mg "law" = some (.ref fa))
    {f1 : Addr} {od1 an1 : Option Addr} {sl1 : Array (Option Value)} {oc1 kV1 dc1 pm1 cd1 ct1 : Value} {f2 : Addr} {od2 an2 : Option Addr} {sl2 : Array (Option Value)} {oc2 kV2 dc2 pm2 cd2 ct2 : Value} {f3 : Addr} {od3 an3 : Option Addr} {sl3 : Array (Option Value)} {oc3 kV3 dc3 pm3 cd3 ct3 : Value} {f4 : Addr} {od4 an4 : Option Addr} {sl4 : Array (Option Value)} {oc4 kV4 dc4 pm4 cd4 ct4 : Value} {f5 : Addr} {od5 an5 : Option Addr} {sl5 : Array (Option Value)} {oc5 kV5 dc5 pm5 cd5 ct5 : Value} {f6 : Addr} {od6 an6 : Option Addr} {sl6 : Array (Option Value)} {oc6 kV6 dc6 pm6 cd6 ct6 : Value} {f7 : Addr} {od7 an7 : Option Addr} {sl7 : Array (Option Value)} {oc7 kV7 dc7 pm7 cd7 ct7 : Value} {f8 : Addr} {od8 an8 : Option Addr} {sl8 : Array (Option Value)} {oc8 kV8 dc8 pm8 cd8 ct8 : Value} {f9 : Addr} {od9 an9 : Option Addr} {sl9 : Array (Option Value)} {oc9 kV9 dc9 pm9 cd9 ct9 : Value} {f10 : Addr} {od10 an10 : Option Addr} {sl10 : Array (Option Value)} {oc10 kV10 dc10 pm10 cd10 ct10 : Value} {f11 : Addr} {od11 an11 : Option Addr} {sl11 : Array (Option Value)} {oc11 kV11 dc11 pm11 cd11 ct11 : Value} {f12 : Addr} {od12 an12 : Option Addr} {sl12 : Array (Option Value)} {oc12 kV12 dc12 pm12 cd12 ct12 : Value} {f13 : Addr} {od13 an13 : Option Addr} {sl13 : Array (Option Value)} {oc13 kV13 dc13 pm13 cd13 ct13 : Value} {f14 : Addr} {od14 an14 : Option Addr} {sl14 : Array (Option Value)} {oc14 kV14 dc14 pm14 cd14 ct14 : Value} {f15 : Addr} {od15 an15 : Option Addr} {sl15 : Array (Option Value)} {oc15 kV15 dc15 pm15 cd15 ct15 : Value} {f16 : Addr} {od16 an16 : Option Addr} {sl16 : Array (Option Value)} {oc16 kV16 dc16 pm16 cd16 ct16 : Value} {f17 : Addr} {od17 an17 : Option Addr} {sl17 : Array (Option Value)} {oc17 kV17 dc17 pm17 cd17 ct17 : Value} {f18 : Addr} {od18 an18 : Option Addr} {sl18 : Array (Option Value)} {oc18 kV18 dc18 pm18 cd18 ct18 : Value} {f19 : Addr} {od19 an19 : Option Addr} {sl19 : Array (Option Value)} {oc19 kV19 dc19 pm19 cd19 ct19 : Value} {f20 : Addr} {od20 an20 : Option Addr} {sl20 : Array (Option Value)} {oc20 kV20 dc20 pm20 cd20 ct20 : Value} {f21 : Addr} {od21 an21 : Option Addr} {sl21 : Array (Option Value)} {oc21 kV21 dc21 pm21 cd21 ct21 : Value} {f22 : Addr} {od22 an22 : Option Addr} {sl22 : Array (Option Value)} {oc22 kV22 dc22 pm22 cd22 ct22 : Value} {u_LETTERS : Tok} {r_KEPT_WORDS : Addr} {od_KEPT_WORDS : Option Addr} {n_KEPT_WORDS : Nat} {sl_KEPT_WORDS : Array (Option Value)} {u0_KEPT_WORDS u1_KEPT_WORDS u2_KEPT_WORDS u3_KEPT_WORDS : Tok} {u_MOST_LETTERS : Tok} {u_MOST_INPUTS : Tok} {u_MOST_OUTPUTS : Tok} {u_MOST_LINES : Tok} {u_MOST_PARTS : Tok} {C_TooMany f_TooMany x_TooMany d_TooMany N_TooMany : Addr} {nm_TooMany qn_TooMany ql_TooMany ms_TooMany fl_TooMany : Str} {bs_TooMany bm_TooMany sub_TooMany : List Value} {sn_TooMany : List Str} {ab_TooMany : Bool} {col_TooMany : Option Bool} {dd_TooMany od_TooMany an_TooMany cdd_TooMany cld_TooMany : Option Addr} {v0_TooMany v1_TooMany v2_TooMany v3_TooMany v5_TooMany : Option Value} {oc_TooMany dc_TooMany pm_TooMany ct_TooMany ccl_TooMany cl_TooMany : Value} {os_TooMany ccs_TooMany csl_TooMany : Array (Option Value)} {vs_TooMany : Array Value} {tf_TooMany : Tok} {n1_TooMany n2_TooMany : Nat} {p1_TooMany p2_TooMany a1_TooMany a2_TooMany a3_TooMany a4_TooMany a5_TooMany a6_TooMany b1_TooMany b2_TooMany b3_TooMany b4_TooMany c1_TooMany c2_TooMany c3_TooMany c4_TooMany : Pos} {C_InvalidHead f_InvalidHead x_InvalidHead d_InvalidHead N_InvalidHead : Addr} {nm_InvalidHead qn_InvalidHead ql_InvalidHead ms_InvalidHead fl_InvalidHead : Str} {bs_InvalidHead bm_InvalidHead sub_InvalidHead : List Value} {sn_InvalidHead : List Str} {ab_InvalidHead : Bool} {col_InvalidHead : Option Bool} {dd_InvalidHead od_InvalidHead an_InvalidHead cdd_InvalidHead cld_InvalidHead : Option Addr} {v0_InvalidHead v1_InvalidHead v2_InvalidHead v3_InvalidHead v5_InvalidHead : Option Value} {oc_InvalidHead dc_InvalidHead pm_InvalidHead ct_InvalidHead ccl_InvalidHead cl_InvalidHead : Value} {os_InvalidHead ccs_InvalidHead csl_InvalidHead : Array (Option Value)} {vs_InvalidHead : Array Value} {tf_InvalidHead : Tok} {n1_InvalidHead n2_InvalidHead : Nat} {p1_InvalidHead p2_InvalidHead a1_InvalidHead a2_InvalidHead a3_InvalidHead a4_InvalidHead a5_InvalidHead a6_InvalidHead b1_InvalidHead b2_InvalidHead b3_InvalidHead b4_InvalidHead c1_InvalidHead c2_InvalidHead c3_InvalidHead c4_InvalidHead : Pos} {C_InvalidLine f_InvalidLine x_InvalidLine d_InvalidLine N_InvalidLine : Addr} {nm_InvalidLine qn_InvalidLine ql_InvalidLine ms_InvalidLine fl_InvalidLine : Str} {bs_InvalidLine bm_InvalidLine sub_InvalidLine : List Value} {sn_InvalidLine : List Str} {ab_InvalidLine : Bool} {col_InvalidLine : Option Bool} {dd_InvalidLine od_InvalidLine an_InvalidLine cdd_InvalidLine cld_InvalidLine : Option Addr} {v0_InvalidLine v1_InvalidLine v2_InvalidLine v3_InvalidLine v5_InvalidLine : Option Value} {oc_InvalidLine dc_InvalidLine pm_InvalidLine ct_InvalidLine ccl_InvalidLine cl_InvalidLine : Value} {os_InvalidLine ccs_InvalidLine csl_InvalidLine : Array (Option Value)} {vs_InvalidLine : Array Value} {tf_InvalidLine : Tok} {n1_InvalidLine n2_InvalidLine : Nat} {p1_InvalidLine p2_InvalidLine a1_InvalidLine a2_InvalidLine a3_InvalidLine a4_InvalidLine a5_InvalidLine a6_InvalidLine b1_InvalidLine b2_InvalidLine b3_InvalidLine b4_InvalidLine c1_InvalidLine c2_InvalidLine c3_InvalidLine c4_InvalidLine : Pos} {C_Unused f_Unused x_Unused d_Unused N_Unused : Addr} {nm_Unused qn_Unused ql_Unused ms_Unused fl_Unused : Str} {bs_Unused bm_Unused sub_Unused : List Value} {sn_Unused : List Str} {ab_Unused : Bool} {col_Unused : Option Bool} {dd_Unused od_Unused an_Unused cdd_Unused cld_Unused : Option Addr} {v0_Unused v1_Unused v2_Unused v3_Unused v5_Unused : Option Value} {oc_Unused dc_Unused pm_Unused ct_Unused ccl_Unused cl_Unused : Value} {os_Unused ccs_Unused csl_Unused : Array (Option Value)} {vs_Unused : Array Value} {tf_Unused : Tok} {n1_Unused n2_Unused : Nat} {p1_Unused p2_Unused a1_Unused a2_Unused a3_Unused a4_Unused a5_Unused a6_Unused b1_Unused b2_Unused b3_Unused b4_Unused c1_Unused c2_Unused c3_Unused c4_Unused : Pos} {C_Sums : Addr} {f_Sums_init : Addr} {od_Sums_init an_Sums_init : Option Addr} {sl_Sums_init : Array (Option Value)} {oc_Sums_init dc_Sums_init pm_Sums_init cd_Sums_init ct_Sums_init : Value} {kV_Sums_init : Value} {f_Sums_inputs : Addr} {od_Sums_inputs an_Sums_inputs : Option Addr} {sl_Sums_inputs : Array (Option Value)} {oc_Sums_inputs dc_Sums_inputs pm_Sums_inputs cd_Sums_inputs ct_Sums_inputs : Value} {kV_Sums_inputs : Value} {p_Sums_inputs : Addr} {rs_Sums_inputs : List Value} {f_Sums_lines : Addr} {od_Sums_lines an_Sums_lines : Option Addr} {sl_Sums_lines : Array (Option Value)} {oc_Sums_lines dc_Sums_lines pm_Sums_lines cd_Sums_lines ct_Sums_lines : Value} {kV_Sums_lines : Value} {p_Sums_lines : Addr} {rs_Sums_lines : List Value} {f_Sums_outputs : Addr} {od_Sums_outputs an_Sums_outputs : Option Addr} {sl_Sums_outputs : Array (Option Value)} {oc_Sums_outputs dc_Sums_outputs pm_Sums_outputs cd_Sums_outputs ct_Sums_outputs : Value} {kV_Sums_outputs : Value} {p_Sums_outputs : Addr} {rs_Sums_outputs : List Value} {f_Sums_adds : Addr} {od_Sums_adds an_Sums_adds : Option Addr} {sl_Sums_adds : Array (Option Value)} {oc_Sums_adds dc_Sums_adds pm_Sums_adds cd_Sums_adds ct_Sums_adds : Value} {kV_Sums_adds : Value} {p_Sums_adds : Addr} {rs_Sums_adds : List Value} {f_Sums_table : Addr} {od_Sums_table an_Sums_table : Option Addr} {sl_Sums_table : Array (Option Value)} {oc_Sums_table dc_Sums_table pm_Sums_table cd_Sums_table ct_Sums_table : Value} {kV_Sums_table : Value} {f_Sums_turned : Addr} {od_Sums_turned an_Sums_turned : Option Addr} {sl_Sums_turned : Array (Option Value)} {oc_Sums_turned dc_Sums_turned pm_Sums_turned cd_Sums_turned ct_Sums_turned : Value} {kV_Sums_turned : Value} {g_RingError : Value} {g_Missing : Value} {g_NothingLeft : Value}
    {cL PL : Addr} {eL : Value} {ddL : Option Addr} {vsL : Array Value} {slL : Array (Option Value)}
    (z_super : PySem.W.nsIn K mainGlobals "super" = some none) (opq : PySem.W.nsIn K PySem.cStatics "thirdparty.any" = some none) (topSuper : (l.prog.main.scope.names.lookup ("super" : Str)).isSome = false)
    (a1 : PySem.W.nsIn K mainGlobals "is_int" = some (some (.ref f1))) (l1 : K.lookup f1 = some ⟨oc1, od1, .func (PySem.W.fnOf "is_int" "is_int" (defArgs s_is_int) (defBody s_is_int) (defScope s_is_int) .none kV1 dc1 pm1 an1 cd1 ct1), sl1⟩) (c1 : PySem.W.codeIn K cd1 "is_int" = true) (k1 : PySem.W.keepIn K (.ref f1) = true)
    (a2 : PySem.W.nsIn K mainGlobals "is_name" = some (some (.ref f2))) (l2 : K.lookup f2 = some ⟨oc2, od2, .func (PySem.W.fnOf "is_name" "is_name" (defArgs s_is_name) (defBody s_is_name) (defScope s_is_name) .none kV2 dc2 pm2 an2 cd2 ct2), sl2⟩) (c2 : PySem.W.codeIn K cd2 "is_name" = true) (k2 : PySem.W.keepIn K (.ref f2) = true)
    (a3 : PySem.W.nsIn K mainGlobals "are_names" = some (some (.ref f3))) (l3 : K.lookup f3 = some ⟨oc3, od3, .func (PySem.W.fnOf "are_names" "are_names" (defArgs s_are_names) (defBody s_are_names) (defScope s_are_names) .none kV3 dc3 pm3 an3 cd3 ct3), sl3⟩) (c3 : PySem.W.codeIn K cd3 "are_names" = true) (k3 : PySem.W.keepIn K (.ref f3) = true)
    (a4 : PySem.W.nsIn K mainGlobals "is_known" = some (some (.ref f4))) (l4 : K.lookup f4 = some ⟨oc4, od4, .func (PySem.W.fnOf "is_known" "is_known" (defArgs s_is_known) (defBody s_is_known) (defScope s_is_known) .none kV4 dc4 pm4 an4 cd4 ct4), sl4⟩) (c4 : PySem.W.codeIn K cd4 "is_known" = true) (k4 : PySem.W.keepIn K (.ref f4) = true)
    (a5 : PySem.W.nsIn K mainGlobals "are_known" = some (some (.ref f5))) (l5 : K.lookup f5 = some ⟨oc5, od5, .func (PySem.W.fnOf "are_known" "are_known" (defArgs s_are_known) (defBody s_are_known) (defScope s_are_known) .none kV5 dc5 pm5 an5 cd5 ct5), sl5⟩) (c5 : PySem.W.codeIn K cd5 "are_known" = true) (k5 : PySem.W.keepIn K (.ref f5) = true)
    (a6 : PySem.W.nsIn K mainGlobals "new_names" = some (some (.ref f6))) (l6 : K.lookup f6 = some ⟨oc6, od6, .func (PySem.W.fnOf "new_names" "new_names" (defArgs s_new_names) (defBody s_new_names) (defScope s_new_names) .none kV6 dc6 pm6 an6 cd6 ct6), sl6⟩) (c6 : PySem.W.codeIn K cd6 "new_names" = true) (k6 : PySem.W.keepIn K (.ref f6) = true)
    (a7 : PySem.W.nsIn K mainGlobals "is_line" = some (some (.ref f7))) (l7 : K.lookup f7 = some ⟨oc7, od7, .func (PySem.W.fnOf "is_line" "is_line" (defArgs s_is_line) (defBody s_is_line) (defScope s_is_line) .none kV7 dc7 pm7 an7 cd7 ct7), sl7⟩) (c7 : PySem.W.codeIn K cd7 "is_line" = true) (k7 : PySem.W.keepIn K (.ref f7) = true)
    (a8 : PySem.W.nsIn K mainGlobals "is_part" = some (some (.ref f8))) (l8 : K.lookup f8 = some ⟨oc8, od8, .func (PySem.W.fnOf "is_part" "is_part" (defArgs s_is_part) (defBody s_is_part) (defScope s_is_part) .none kV8 dc8 pm8 an8 cd8 ct8), sl8⟩) (c8 : PySem.W.codeIn K cd8 "is_part" = true) (k8 : PySem.W.keepIn K (.ref f8) = true)
    (a9 : PySem.W.nsIn K mainGlobals "first_wrong_line" = some (some (.ref f9))) (l9 : K.lookup f9 = some ⟨oc9, od9, .func (PySem.W.fnOf "first_wrong_line" "first_wrong_line" (defArgs s_first_wrong_line) (defBody s_first_wrong_line) (defScope s_first_wrong_line) .none kV9 dc9 pm9 an9 cd9 ct9), sl9⟩) (c9 : PySem.W.codeIn K cd9 "first_wrong_line" = true) (k9 : PySem.W.keepIn K (.ref f9) = true)
    (a10 : PySem.W.nsIn K mainGlobals "_law_bag" = some (some (.ref f10))) (l10 : K.lookup f10 = some ⟨oc10, od10, .func (PySem.W.fnOf "_law_bag" "_law_bag" (defArgs s_l_bag) (defBody s_l_bag) (defScope s_l_bag) .none kV10 dc10 pm10 an10 cd10 ct10), sl10⟩) (c10 : PySem.W.codeIn K cd10 "_law_bag" = true) (k10 : PySem.W.keepIn K (.ref f10) = true)
    (a11 : PySem.W.nsIn K mainGlobals "_law_draw" = some (some (.ref f11))) (l11 : K.lookup f11 = some ⟨oc11, od11, .func (PySem.W.fnOf "_law_draw" "_law_draw" (defArgs s_l_draw) (defBody s_l_draw) (defScope s_l_draw) .none kV11 dc11 pm11 an11 cd11 ct11), sl11⟩) (c11 : PySem.W.codeIn K cd11 "_law_draw" = true) (k11 : PySem.W.keepIn K (.ref f11) = true)
    (a12 : PySem.W.nsIn K mainGlobals "_law_pick" = some (some (.ref f12))) (l12 : K.lookup f12 = some ⟨oc12, od12, .func (PySem.W.fnOf "_law_pick" "_law_pick" (defArgs s_l_pick) (defBody s_l_pick) (defScope s_l_pick) .none kV12 dc12 pm12 an12 cd12 ct12), sl12⟩) (c12 : PySem.W.codeIn K cd12 "_law_pick" = true) (k12 : PySem.W.keepIn K (.ref f12) = true)
    (a13 : PySem.W.nsIn K mainGlobals "_law_mixed" = some (some (.ref f13))) (l13 : K.lookup f13 = some ⟨oc13, od13, .func (PySem.W.fnOf "_law_mixed" "_law_mixed" (defArgs s_l_mixed) (defBody s_l_mixed) (defScope s_l_mixed) .none kV13 dc13 pm13 an13 cd13 ct13), sl13⟩) (c13 : PySem.W.codeIn K cd13 "_law_mixed" = true) (k13 : PySem.W.keepIn K (.ref f13) = true)
    (a14 : PySem.W.nsIn K mainGlobals "_law_letters" = some (some (.ref f14))) (l14 : K.lookup f14 = some ⟨oc14, od14, .func (PySem.W.fnOf "_law_letters" "_law_letters" (defArgs s_l_letters) (defBody s_l_letters) (defScope s_l_letters) .none kV14 dc14 pm14 an14 cd14 ct14), sl14⟩) (c14 : PySem.W.codeIn K cd14 "_law_letters" = true) (k14 : PySem.W.keepIn K (.ref f14) = true)
    (a15 : PySem.W.nsIn K mainGlobals "_law_names" = some (some (.ref f15))) (l15 : K.lookup f15 = some ⟨oc15, od15, .func (PySem.W.fnOf "_law_names" "_law_names" (defArgs s_l_names) (defBody s_l_names) (defScope s_l_names) .none kV15 dc15 pm15 an15 cd15 ct15), sl15⟩) (c15 : PySem.W.codeIn K cd15 "_law_names" = true) (k15 : PySem.W.keepIn K (.ref f15) = true)
    (a16 : PySem.W.nsIn K mainGlobals "_law_same" = some (some (.ref f16))) (l16 : K.lookup f16 = some ⟨oc16, od16, .func (PySem.W.fnOf "_law_same" "_law_same" (defArgs s_l_same) (defBody s_l_same) (defScope s_l_same) .none kV16 dc16 pm16 an16 cd16 ct16), sl16⟩) (c16 : PySem.W.codeIn K cd16 "_law_same" = true) (k16 : PySem.W.keepIn K (.ref f16) = true)
    (a17 : PySem.W.nsIn K mainGlobals "_law_field" = some (some (.ref f17))) (l17 : K.lookup f17 = some ⟨oc17, od17, .func (PySem.W.fnOf "_law_field" "_law_field" (defArgs s_l_field) (defBody s_l_field) (defScope s_l_field) .none kV17 dc17 pm17 an17 cd17 ct17), sl17⟩) (c17 : PySem.W.codeIn K cd17 "_law_field" = true) (k17 : PySem.W.keepIn K (.ref f17) = true)
    (a18 : PySem.W.nsIn K mainGlobals "_law_got" = some (some (.ref f18))) (l18 : K.lookup f18 = some ⟨oc18, od18, .func (PySem.W.fnOf "_law_got" "_law_got" (defArgs s_l_got) (defBody s_l_got) (defScope s_l_got) .none kV18 dc18 pm18 an18 cd18 ct18), sl18⟩) (c18 : PySem.W.codeIn K cd18 "_law_got" = true) (k18 : PySem.W.keepIn K (.ref f18) = true)
    (a19 : PySem.W.nsIn K mainGlobals "_law_all" = some (some (.ref f19))) (l19 : K.lookup f19 = some ⟨oc19, od19, .func (PySem.W.fnOf "_law_all" "_law_all" (defArgs s_l_all) (defBody s_l_all) (defScope s_l_all) .none kV19 dc19 pm19 an19 cd19 ct19), sl19⟩) (c19 : PySem.W.codeIn K cd19 "_law_all" = true) (k19 : PySem.W.keepIn K (.ref f19) = true)
    (a20 : PySem.W.nsIn K mainGlobals "_law_bench" = some (some (.ref f20))) (l20 : K.lookup f20 = some ⟨oc20, od20, .func (PySem.W.fnOf "_law_bench" "_law_bench" (defArgs s_l_bench) (defBody s_l_bench) (defScope s_l_bench) .none kV20 dc20 pm20 an20 cd20 ct20), sl20⟩) (c20 : PySem.W.codeIn K cd20 "_law_bench" = true) (k20 : PySem.W.keepIn K (.ref f20) = true)
    (a21 : PySem.W.nsIn K mainGlobals "_law_bench_table" = some (some (.ref f21))) (l21 : K.lookup f21 = some ⟨oc21, od21, .func (PySem.W.fnOf "_law_bench_table" "_law_bench_table" (defArgs s_l_bench_table) (defBody s_l_bench_table) (defScope s_l_bench_table) .none kV21 dc21 pm21 an21 cd21 ct21), sl21⟩) (c21 : PySem.W.codeIn K cd21 "_law_bench_table" = true) (k21 : PySem.W.keepIn K (.ref f21) = true)
    (a22 : PySem.W.nsIn K mainGlobals "law" = some (some (.ref f22))) (l22 : K.lookup f22 = some ⟨oc22, od22, .func (PySem.W.fnOf "law" "law" (defArgs s_law) (defBody s_law) (defScope s_law) .none kV22 dc22 pm22 an22 cd22 ct22), sl22⟩) (c22 : PySem.W.codeIn K cd22 "law" = true) (k22 : PySem.W.keepIn K (.ref f22) = true)
    (z_IndexError : PySem.W.nsIn K mainGlobals "IndexError" = some none)
    (z_LookupError : PySem.W.nsIn K mainGlobals "LookupError" = some none)
    (z_ValueError : PySem.W.nsIn K mainGlobals "ValueError" = some none)
    (z_abs : PySem.W.nsIn K mainGlobals "abs" = some none)
    (z_all : PySem.W.nsIn K mainGlobals "all" = some none)
    (z_bool : PySem.W.nsIn K mainGlobals "bool" = some none)
    (z_dict : PySem.W.nsIn K mainGlobals "dict" = some none)
    (z_enumerate : PySem.W.nsIn K mainGlobals "enumerate" = some none)
    (z_int : PySem.W.nsIn K mainGlobals "int" = some none)
    (z_isinstance : PySem.W.nsIn K mainGlobals "isinstance" = some none)
    (z_len : PySem.W.nsIn K mainGlobals "len" = some none)
    (z_list : PySem.W.nsIn K mainGlobals "list" = some none)
    (z_min : PySem.W.nsIn K mainGlobals "min" = some none)
    (z_range : PySem.W.nsIn K mainGlobals "range" = some none)
    (z_reversed : PySem.W.nsIn K mainGlobals "reversed" = some none)
    (z_set : PySem.W.nsIn K mainGlobals "set" = some none)
    (z_str : PySem.W.nsIn K mainGlobals "str" = some none)
    (z_sum : PySem.W.nsIn K mainGlobals "sum" = some none)
    (z_tuple : PySem.W.nsIn K mainGlobals "tuple" = some none)
    (z_zip : PySem.W.nsIn K mainGlobals "zip" = some none)
    (m_LETTERS : PySem.W.nsIn K mainGlobals "LETTERS" = some (some (.str "abcdefghijklmnopqrstuvwxyz" u_LETTERS)))
    (m_KEPT_WORDS : PySem.W.nsIn K mainGlobals "KEPT_WORDS" = some (some (.ref r_KEPT_WORDS))) (l_KEPT_WORDS : K.lookup r_KEPT_WORDS = some ⟨.type "tuple", od_KEPT_WORDS, .seq #[.str "in" u0_KEPT_WORDS, .str "out" u1_KEPT_WORDS, .str "proc" u2_KEPT_WORDS, .str "give" u3_KEPT_WORDS] n_KEPT_WORDS, sl_KEPT_WORDS⟩)
    (m_MOST_LETTERS : PySem.W.nsIn K mainGlobals "MOST_LETTERS" = some (some (.int 6 u_MOST_LETTERS)))
    (m_MOST_INPUTS : PySem.W.nsIn K mainGlobals "MOST_INPUTS" = some (some (.int 8 u_MOST_INPUTS)))
    (m_MOST_OUTPUTS : PySem.W.nsIn K mainGlobals "MOST_OUTPUTS" = some (some (.int 8 u_MOST_OUTPUTS)))
    (m_MOST_LINES : PySem.W.nsIn K mainGlobals "MOST_LINES" = some (some (.int 40 u_MOST_LINES)))
    (m_MOST_PARTS : PySem.W.nsIn K mainGlobals "MOST_PARTS" = some (some (.int 48 u_MOST_PARTS)))
    (ea_TooMany : PySem.W.nsIn K mainGlobals "TooMany" = some (some (.ref C_TooMany)))
    (eb_TooMany : K.lookup C_TooMany = some (excClassObj nm_TooMany qn_TooMany C_TooMany N_TooMany bs_TooMany bm_TooMany true sn_TooMany sub_TooMany ab_TooMany col_TooMany dd_TooMany v0_TooMany v1_TooMany v2_TooMany v3_TooMany v5_TooMany "ValueError.__new__"))
    (ec_TooMany : PySem.HandSPX.refsVE bm_TooMany = true)
    (ed_TooMany : PySem.W.alongIn K "__init__" bm_TooMany = some (some (.builtin "ValueError.__init__")))
    (ee_TooMany : PySem.W.findIn K (.ref C_TooMany) "__setattr__" = some (some (.builtin "object.__setattr__")))
    (ef_TooMany : PySem.W.findIn K (.ref C_TooMany) "__getattribute__" = some (some (.builtin "BaseException.__getattribute__")))
    (eg_TooMany : PySem.W.findIn K (.ref C_TooMany) "__getattr__" = some none)
    (eh_TooMany : PySem.W.findIn K (.ref C_TooMany) "most" = some none)
    (ei_TooMany : PySem.W.findIn K (.ref C_TooMany) "code" = some none)
    (ej_TooMany : PySem.W.findIn K (.ref C_TooMany) "__init__" = some (some (.ref f_TooMany)))
    (ek_TooMany : PySem.W.typeIn K (.ref f_TooMany) = some (.type "function"))
    (el_TooMany : PySem.W.keepIn K (.ref C_TooMany) = true)
    (em_TooMany : PySem.W.subIn K (.ref C_TooMany) (.type "BaseException") = some true)
    (en_TooMany : PySem.W.subIn K (.ref C_TooMany) (.type "ValueError") = some true)
    (eo_TooMany : PySem.W.mroIn K C_TooMany (.ref C_TooMany) = some true)
    (ep_TooMany : PySem.W.typeIn K (.ref C_TooMany) = some (.type "type"))
    (eq_TooMany : PySem.W.hasDictIn K C_TooMany = true)
    (er_TooMany : K.lookup f_TooMany = some ⟨oc_TooMany, od_TooMany, .func (PySem.W.ksFn "__init__" ql_TooMany (PySem.ErrX.eArgs "most" p1_TooMany p2_TooMany) (PySem.ErrX.eBody "most" ms_TooMany "TooMany" n1_TooMany n2_TooMany a1_TooMany a2_TooMany a3_TooMany a4_TooMany a5_TooMany a6_TooMany b1_TooMany b2_TooMany b3_TooMany b4_TooMany c1_TooMany c2_TooMany c3_TooMany c4_TooMany) (PySem.ErrX.eScope "most") .none .none dc_TooMany pm_TooMany an_TooMany (.ref d_TooMany) ct_TooMany x_TooMany), os_TooMany⟩)
    (es_TooMany : PySem.W.codeIn K (.ref d_TooMany) ql_TooMany = true)
    (et_TooMany : K.lookup x_TooMany = some ⟨cl_TooMany, cld_TooMany, .cell (some (.ref C_TooMany)), csl_TooMany⟩)
    (eu_TooMany : K.lookup d_TooMany = some ⟨ccl_TooMany, cdd_TooMany, .fields vs_TooMany, ccs_TooMany⟩)
    (ev_TooMany : vs_TooMany[2]? = some (.str fl_TooMany tf_TooMany))
    (ex_TooMany : PySem.ErrX.InitEval ms_TooMany n1_TooMany a1_TooMany a2_TooMany a3_TooMany a4_TooMany a5_TooMany)
    (ew_TooMany : ((l.prog.main.file : Str) == fl_TooMany) = true)
    (ea_InvalidHead : PySem.W.nsIn K mainGlobals "InvalidHead" = some (some (.ref C_InvalidHead)))
    (eb_InvalidHead : K.lookup C_InvalidHead = some (excClassObj nm_InvalidHead qn_InvalidHead C_InvalidHead N_InvalidHead bs_InvalidHead bm_InvalidHead true sn_InvalidHead sub_InvalidHead ab_InvalidHead col_InvalidHead dd_InvalidHead v0_InvalidHead v1_InvalidHead v2_InvalidHead v3_InvalidHead v5_InvalidHead "ValueError.__new__"))
    (ec_InvalidHead : PySem.HandSPX.refsVE bm_InvalidHead = true)
    (ed_InvalidHead : PySem.W.alongIn K "__init__" bm_InvalidHead = some (some (.builtin "ValueError.__init__")))
    (ee_InvalidHead : PySem.W.findIn K (.ref C_InvalidHead) "__setattr__" = some (some (.builtin "object.__setattr__")))
    (ef_InvalidHead : PySem.W.findIn K (.ref C_InvalidHead) "__getattribute__" = some (some (.builtin "BaseException.__getattribute__")))
    (eg_InvalidHead : PySem.W.findIn K (.ref C_InvalidHead) "__getattr__" = some none)
    (eh_InvalidHead : PySem.W.findIn K (.ref C_InvalidHead) "part" = some none)
    (ei_InvalidHead : PySem.W.findIn K (.ref C_InvalidHead) "code" = some none)
    (ej_InvalidHead : PySem.W.findIn K (.ref C_InvalidHead) "__init__" = some (some (.ref f_InvalidHead)))
    (ek_InvalidHead : PySem.W.typeIn K (.ref f_InvalidHead) = some (.type "function"))
    (el_InvalidHead : PySem.W.keepIn K (.ref C_InvalidHead) = true)
    (em_InvalidHead : PySem.W.subIn K (.ref C_InvalidHead) (.type "BaseException") = some true)
    (en_InvalidHead : PySem.W.subIn K (.ref C_InvalidHead) (.type "ValueError") = some true)
    (eo_InvalidHead : PySem.W.mroIn K C_InvalidHead (.ref C_InvalidHead) = some true)
    (ep_InvalidHead : PySem.W.typeIn K (.ref C_InvalidHead) = some (.type "type"))
    (eq_InvalidHead : PySem.W.hasDictIn K C_InvalidHead = true)
    (er_InvalidHead : K.lookup f_InvalidHead = some ⟨oc_InvalidHead, od_InvalidHead, .func (PySem.W.ksFn "__init__" ql_InvalidHead (PySem.ErrX.eArgs "part" p1_InvalidHead p2_InvalidHead) (PySem.ErrX.eBody "part" ms_InvalidHead "InvalidHead" n1_InvalidHead n2_InvalidHead a1_InvalidHead a2_InvalidHead a3_InvalidHead a4_InvalidHead a5_InvalidHead a6_InvalidHead b1_InvalidHead b2_InvalidHead b3_InvalidHead b4_InvalidHead c1_InvalidHead c2_InvalidHead c3_InvalidHead c4_InvalidHead) (PySem.ErrX.eScope "part") .none .none dc_InvalidHead pm_InvalidHead an_InvalidHead (.ref d_InvalidHead) ct_InvalidHead x_InvalidHead), os_InvalidHead⟩)
    (es_InvalidHead : PySem.W.codeIn K (.ref d_InvalidHead) ql_InvalidHead = true)
    (et_InvalidHead : K.lookup x_InvalidHead = some ⟨cl_InvalidHead, cld_InvalidHead, .cell (some (.ref C_InvalidHead)), csl_InvalidHead⟩)
    (eu_InvalidHead : K.lookup d_InvalidHead = some ⟨ccl_InvalidHead, cdd_InvalidHead, .fields vs_InvalidHead, ccs_InvalidHead⟩)
    (ev_InvalidHead : vs_InvalidHead[2]? = some (.str fl_InvalidHead tf_InvalidHead))
    (ex_InvalidHead : PySem.ErrX.InitEval ms_InvalidHead n1_InvalidHead a1_InvalidHead a2_InvalidHead a3_InvalidHead a4_InvalidHead a5_InvalidHead)
    (ew_InvalidHead : ((l.prog.main.file : Str) == fl_InvalidHead) = true)
    (ea_InvalidLine : PySem.W.nsIn K mainGlobals "InvalidLine" = some (some (.ref C_InvalidLine)))
    (eb_InvalidLine : K.lookup C_InvalidLine = some (excClassObj nm_InvalidLine qn_InvalidLine C_InvalidLine N_InvalidLine bs_InvalidLine bm_InvalidLine true sn_InvalidLine sub_InvalidLine ab_InvalidLine col_InvalidLine dd_InvalidLine v0_InvalidLine v1_InvalidLine v2_InvalidLine v3_InvalidLine v5_InvalidLine "ValueError.__new__"))
    (ec_InvalidLine : PySem.HandSPX.refsVE bm_InvalidLine = true)
    (ed_InvalidLine : PySem.W.alongIn K "__init__" bm_InvalidLine = some (some (.builtin "ValueError.__init__")))
    (ee_InvalidLine : PySem.W.findIn K (.ref C_InvalidLine) "__setattr__" = some (some (.builtin "object.__setattr__")))
    (ef_InvalidLine : PySem.W.findIn K (.ref C_InvalidLine) "__getattribute__" = some (some (.builtin "BaseException.__getattribute__")))
    (eg_InvalidLine : PySem.W.findIn K (.ref C_InvalidLine) "__getattr__" = some none)
    (eh_InvalidLine : PySem.W.findIn K (.ref C_InvalidLine) "at" = some none)
    (ei_InvalidLine : PySem.W.findIn K (.ref C_InvalidLine) "code" = some none)
    (ej_InvalidLine : PySem.W.findIn K (.ref C_InvalidLine) "__init__" = some (some (.ref f_InvalidLine)))
    (ek_InvalidLine : PySem.W.typeIn K (.ref f_InvalidLine) = some (.type "function"))
    (el_InvalidLine : PySem.W.keepIn K (.ref C_InvalidLine) = true)
    (em_InvalidLine : PySem.W.subIn K (.ref C_InvalidLine) (.type "BaseException") = some true)
    (en_InvalidLine : PySem.W.subIn K (.ref C_InvalidLine) (.type "ValueError") = some true)
    (eo_InvalidLine : PySem.W.mroIn K C_InvalidLine (.ref C_InvalidLine) = some true)
    (ep_InvalidLine : PySem.W.typeIn K (.ref C_InvalidLine) = some (.type "type"))
    (eq_InvalidLine : PySem.W.hasDictIn K C_InvalidLine = true)
    (er_InvalidLine : K.lookup f_InvalidLine = some ⟨oc_InvalidLine, od_InvalidLine, .func (PySem.W.ksFn "__init__" ql_InvalidLine (PySem.ErrX.eArgs "at" p1_InvalidLine p2_InvalidLine) (PySem.ErrX.eBody "at" ms_InvalidLine "InvalidLine" n1_InvalidLine n2_InvalidLine a1_InvalidLine a2_InvalidLine a3_InvalidLine a4_InvalidLine a5_InvalidLine a6_InvalidLine b1_InvalidLine b2_InvalidLine b3_InvalidLine b4_InvalidLine c1_InvalidLine c2_InvalidLine c3_InvalidLine c4_InvalidLine) (PySem.ErrX.eScope "at") .none .none dc_InvalidLine pm_InvalidLine an_InvalidLine (.ref d_InvalidLine) ct_InvalidLine x_InvalidLine), os_InvalidLine⟩)
    (es_InvalidLine : PySem.W.codeIn K (.ref d_InvalidLine) ql_InvalidLine = true)
    (et_InvalidLine : K.lookup x_InvalidLine = some ⟨cl_InvalidLine, cld_InvalidLine, .cell (some (.ref C_InvalidLine)), csl_InvalidLine⟩)
    (eu_InvalidLine : K.lookup d_InvalidLine = some ⟨ccl_InvalidLine, cdd_InvalidLine, .fields vs_InvalidLine, ccs_InvalidLine⟩)
    (ev_InvalidLine : vs_InvalidLine[2]? = some (.str fl_InvalidLine tf_InvalidLine))
    (ex_InvalidLine : PySem.ErrX.InitEval ms_InvalidLine n1_InvalidLine a1_InvalidLine a2_InvalidLine a3_InvalidLine a4_InvalidLine a5_InvalidLine)
    (ew_InvalidLine : ((l.prog.main.file : Str) == fl_InvalidLine) = true)
    (ea_Unused : PySem.W.nsIn K mainGlobals "Unused" = some (some (.ref C_Unused)))
    (eb_Unused : K.lookup C_Unused = some (excClassObj nm_Unused qn_Unused C_Unused N_Unused bs_Unused bm_Unused true sn_Unused sub_Unused ab_Unused col_Unused dd_Unused v0_Unused v1_Unused v2_Unused v3_Unused v5_Unused "ValueError.__new__"))
    (ec_Unused : PySem.HandSPX.refsVE bm_Unused = true)
    (ed_Unused : PySem.W.alongIn K "__init__" bm_Unused = some (some (.builtin "ValueError.__init__")))
    (ee_Unused : PySem.W.findIn K (.ref C_Unused) "__setattr__" = some (some (.builtin "object.__setattr__")))
    (ef_Unused : PySem.W.findIn K (.ref C_Unused) "__getattribute__" = some (some (.builtin "BaseException.__getattribute__")))
    (eg_Unused : PySem.W.findIn K (.ref C_Unused) "__getattr__" = some none)
    (eh_Unused : PySem.W.findIn K (.ref C_Unused) "name" = some none)
    (ei_Unused : PySem.W.findIn K (.ref C_Unused) "code" = some none)
    (ej_Unused : PySem.W.findIn K (.ref C_Unused) "__init__" = some (some (.ref f_Unused)))
    (ek_Unused : PySem.W.typeIn K (.ref f_Unused) = some (.type "function"))
    (el_Unused : PySem.W.keepIn K (.ref C_Unused) = true)
    (em_Unused : PySem.W.subIn K (.ref C_Unused) (.type "BaseException") = some true)
    (en_Unused : PySem.W.subIn K (.ref C_Unused) (.type "ValueError") = some true)
    (eo_Unused : PySem.W.mroIn K C_Unused (.ref C_Unused) = some true)
    (ep_Unused : PySem.W.typeIn K (.ref C_Unused) = some (.type "type"))
    (eq_Unused : PySem.W.hasDictIn K C_Unused = true)
    (er_Unused : K.lookup f_Unused = some ⟨oc_Unused, od_Unused, .func (PySem.W.ksFn "__init__" ql_Unused (PySem.ErrX.eArgs "name" p1_Unused p2_Unused) (PySem.ErrX.eBody "name" ms_Unused "Unused" n1_Unused n2_Unused a1_Unused a2_Unused a3_Unused a4_Unused a5_Unused a6_Unused b1_Unused b2_Unused b3_Unused b4_Unused c1_Unused c2_Unused c3_Unused c4_Unused) (PySem.ErrX.eScope "name") .none .none dc_Unused pm_Unused an_Unused (.ref d_Unused) ct_Unused x_Unused), os_Unused⟩)
    (es_Unused : PySem.W.codeIn K (.ref d_Unused) ql_Unused = true)
    (et_Unused : K.lookup x_Unused = some ⟨cl_Unused, cld_Unused, .cell (some (.ref C_Unused)), csl_Unused⟩)
    (eu_Unused : K.lookup d_Unused = some ⟨ccl_Unused, cdd_Unused, .fields vs_Unused, ccs_Unused⟩)
    (ev_Unused : vs_Unused[2]? = some (.str fl_Unused tf_Unused))
    (ex_Unused : PySem.ErrX.InitEval ms_Unused n1_Unused a1_Unused a2_Unused a3_Unused a4_Unused a5_Unused)
    (ew_Unused : ((l.prog.main.file : Str) == fl_Unused) = true)
    (cg_Sums : PySem.W.nsIn K mainGlobals "Sums" = some (some (.ref C_Sums)))
    (c1_Sums : PySem.W.plainGet K C_Sums Str.empty = true)
    (c2_Sums : PySem.W.hasDictIn K C_Sums = true)
    (c3_Sums : PySem.W.plainOver K C_Sums = true)
    (c4_Sums : PySem.W.findIn K (.ref C_Sums) "__setattr__" = some (some (.builtin "object.__setattr__")))
    (c5_Sums : PySem.W.readsIn K C_Sums (.type "type") = true)
    (c6_Sums : PySem.W.specialIn K (.ref C_Sums) "__getattribute__" = some (some (.builtin "type.__getattribute__")))
    (ia_Sums : PySem.W.findIn K (.ref C_Sums) "__class__" = some (some (.builtin "object.__class__")))
    (ib_Sums : PySem.W.specialIn K (.builtin "object.__class__") "__get__" = some (some (.builtin "getset_descriptor.__get__")))
    (ic_Sums : PySem.W.takesIn K (.builtin "object.__class__") = some true)
    (id_Sums : PySem.W.mroIn K C_Sums (.type "object") = some true)
    (no_Sums__inputs : PySem.W.findIn K (.ref C_Sums) "_inputs" = some none)
    (no_Sums__lines : PySem.W.findIn K (.ref C_Sums) "_lines" = some none)
    (no_Sums__outputs : PySem.W.findIn K (.ref C_Sums) "_outputs" = some none)
    (ma_Sums_init : PySem.W.findIn K (.ref C_Sums) "__init__" = some (some (.ref f_Sums_init)))
    (mb_Sums_init : PySem.W.isFn K (.ref f_Sums_init) = true)
    (l_Sums_init : K.lookup f_Sums_init = some ⟨oc_Sums_init, od_Sums_init, .func (PySem.W.fnOf "__init__" "Sums.__init__" (defArgs s_Sums_init) (defBody s_Sums_init) (defScope s_Sums_init) .none kV_Sums_init dc_Sums_init pm_Sums_init an_Sums_init cd_Sums_init ct_Sums_init), sl_Sums_init⟩)
    (c_Sums_init : PySem.W.codeIn K cd_Sums_init "Sums.__init__" = true)
    (k_Sums_init : PySem.W.keepIn K (.ref f_Sums_init) = true)
    (mk_Sums : PySem.W.makesIn K C_Sums = true)
    (kc_Sums : PySem.W.keepIn K (.ref C_Sums) = true)
    (pa_Sums_inputs : PySem.W.findIn K (.ref C_Sums) "inputs" = some (some (.ref p_Sums_inputs)))
    (pb_Sums_inputs : PySem.W.specialIn K (.ref p_Sums_inputs) "__get__" = some (some (.builtin "property.__get__")))
    (pc_Sums_inputs : PySem.W.takesIn K (.ref p_Sums_inputs) = some true)
    (pd_Sums_inputs : PySem.W.recIn K p_Sums_inputs "property" = some (.ref f_Sums_inputs :: rs_Sums_inputs))
    (l_Sums_inputs : K.lookup f_Sums_inputs = some ⟨oc_Sums_inputs, od_Sums_inputs, .func (PySem.W.fnOf "inputs" "Sums.inputs" (defArgs s_Sums_inputs) (defBody s_Sums_inputs) (defScope s_Sums_inputs) .none kV_Sums_inputs dc_Sums_inputs pm_Sums_inputs an_Sums_inputs cd_Sums_inputs ct_Sums_inputs), sl_Sums_inputs⟩)
    (c_Sums_inputs : PySem.W.codeIn K cd_Sums_inputs "Sums.inputs" = true)
    (k_Sums_inputs : PySem.W.keepIn K (.ref f_Sums_inputs) = true)
    (pa_Sums_lines : PySem.W.findIn K (.ref C_Sums) "lines" = some (some (.ref p_Sums_lines)))
    (pb_Sums_lines : PySem.W.specialIn K (.ref p_Sums_lines) "__get__" = some (some (.builtin "property.__get__")))
    (pc_Sums_lines : PySem.W.takesIn K (.ref p_Sums_lines) = some true)
    (pd_Sums_lines : PySem.W.recIn K p_Sums_lines "property" = some (.ref f_Sums_lines :: rs_Sums_lines))
    (l_Sums_lines : K.lookup f_Sums_lines = some ⟨oc_Sums_lines, od_Sums_lines, .func (PySem.W.fnOf "lines" "Sums.lines" (defArgs s_Sums_lines) (defBody s_Sums_lines) (defScope s_Sums_lines) .none kV_Sums_lines dc_Sums_lines pm_Sums_lines an_Sums_lines cd_Sums_lines ct_Sums_lines), sl_Sums_lines⟩)
    (c_Sums_lines : PySem.W.codeIn K cd_Sums_lines "Sums.lines" = true)
    (k_Sums_lines : PySem.W.keepIn K (.ref f_Sums_lines) = true)
    (pa_Sums_outputs : PySem.W.findIn K (.ref C_Sums) "outputs" = some (some (.ref p_Sums_outputs)))
    (pb_Sums_outputs : PySem.W.specialIn K (.ref p_Sums_outputs) "__get__" = some (some (.builtin "property.__get__")))
    (pc_Sums_outputs : PySem.W.takesIn K (.ref p_Sums_outputs) = some true)
    (pd_Sums_outputs : PySem.W.recIn K p_Sums_outputs "property" = some (.ref f_Sums_outputs :: rs_Sums_outputs))
    (l_Sums_outputs : K.lookup f_Sums_outputs = some ⟨oc_Sums_outputs, od_Sums_outputs, .func (PySem.W.fnOf "outputs" "Sums.outputs" (defArgs s_Sums_outputs) (defBody s_Sums_outputs) (defScope s_Sums_outputs) .none kV_Sums_outputs dc_Sums_outputs pm_Sums_outputs an_Sums_outputs cd_Sums_outputs ct_Sums_outputs), sl_Sums_outputs⟩)
    (c_Sums_outputs : PySem.W.codeIn K cd_Sums_outputs "Sums.outputs" = true)
    (k_Sums_outputs : PySem.W.keepIn K (.ref f_Sums_outputs) = true)
    (pa_Sums_adds : PySem.W.findIn K (.ref C_Sums) "adds" = some (some (.ref p_Sums_adds)))
    (pb_Sums_adds : PySem.W.specialIn K (.ref p_Sums_adds) "__get__" = some (some (.builtin "property.__get__")))
    (pc_Sums_adds : PySem.W.takesIn K (.ref p_Sums_adds) = some true)
    (pd_Sums_adds : PySem.W.recIn K p_Sums_adds "property" = some (.ref f_Sums_adds :: rs_Sums_adds))
    (l_Sums_adds : K.lookup f_Sums_adds = some ⟨oc_Sums_adds, od_Sums_adds, .func (PySem.W.fnOf "adds" "Sums.adds" (defArgs s_Sums_adds) (defBody s_Sums_adds) (defScope s_Sums_adds) .none kV_Sums_adds dc_Sums_adds pm_Sums_adds an_Sums_adds cd_Sums_adds ct_Sums_adds), sl_Sums_adds⟩)
    (c_Sums_adds : PySem.W.codeIn K cd_Sums_adds "Sums.adds" = true)
    (k_Sums_adds : PySem.W.keepIn K (.ref f_Sums_adds) = true)
    (ma_Sums_table : PySem.W.findIn K (.ref C_Sums) "table" = some (some (.ref f_Sums_table)))
    (mb_Sums_table : PySem.W.isFn K (.ref f_Sums_table) = true)
    (l_Sums_table : K.lookup f_Sums_table = some ⟨oc_Sums_table, od_Sums_table, .func (PySem.W.fnOf "table" "Sums.table" (defArgs s_Sums_table) (defBody s_Sums_table) (defScope s_Sums_table) .none kV_Sums_table dc_Sums_table pm_Sums_table an_Sums_table cd_Sums_table ct_Sums_table), sl_Sums_table⟩)
    (c_Sums_table : PySem.W.codeIn K cd_Sums_table "Sums.table" = true)
    (k_Sums_table : PySem.W.keepIn K (.ref f_Sums_table) = true)
    (ma_Sums_turned : PySem.W.findIn K (.ref C_Sums) "turned" = some (some (.ref f_Sums_turned)))
    (mb_Sums_turned : PySem.W.isFn K (.ref f_Sums_turned) = true)
    (l_Sums_turned : K.lookup f_Sums_turned = some ⟨oc_Sums_turned, od_Sums_turned, .func (PySem.W.fnOf "turned" "Sums.turned" (defArgs s_Sums_turned) (defBody s_Sums_turned) (defScope s_Sums_turned) .none kV_Sums_turned dc_Sums_turned pm_Sums_turned an_Sums_turned cd_Sums_turned ct_Sums_turned), sl_Sums_turned⟩)
    (c_Sums_turned : PySem.W.codeIn K cd_Sums_turned "Sums.turned" = true)
    (k_Sums_turned : PySem.W.keepIn K (.ref f_Sums_turned) = true)
    (m_RingError : PySem.W.nsIn K mainGlobals "RingError" = some (some g_RingError))
    (m_Missing : PySem.W.nsIn K mainGlobals "Missing" = some (some g_Missing))
    (m_NothingLeft : PySem.W.nsIn K mainGlobals "NothingLeft" = some (some g_NothingLeft))
    (lcd : cd22 = .ref cL) (lC : K.lookup cL = some ⟨eL, ddL, .fields vsL, slL⟩) (lT : vsL[11]? = some (.ref PL)) (lP : h.get? PL = some { cls := .none, data := .fields #[] }) (lN : K.lookup PL = none) (lH : PySem.W.codeHdIn K cL PL = true) (hm : PySem.W.exmAny K (.ref C_TooMany) [g_RingError, g_Missing, g_NothingLeft] = some true) :
    LamX.LawAtS l w K CX0 12 63 "_law_script" mg fa h := by
  have F_is_int := fun_mk (st := s_is_int) l1 c1 k1
  have b_is_int := F_is_int.binds (ps := ["value"]) fun _ _ _ _ _ _ us hl => match us, hl with | [_], _ => rfl
  have A_is_int : Fn K mg "is_int" s_is_int ["value"] := ⟨_, _, F_is_int, PySem.W.mg_of X G a1, b_is_int⟩
  have F_is_name := fun_mk (st := s_is_name) l2 c2 k2
  have b_is_name := F_is_name.binds (ps := ["value"]) fun _ _ _ _ _ _ us hl => match us, hl with | [_], _ => rfl
  have A_is_name : Fn K mg "is_name" s_is_name ["value"] := ⟨_, _, F_is_name, PySem.W.mg_of X G a2, b_is_name⟩
  have F_are_names := fun_mk (st := s_are_names) l3 c3 k3
  have b_are_names := F_are_names.binds (ps := ["value", "most"]) fun _ _ _ _ _ _ us hl => match us, hl with | [_, _], _ => rfl
  have A_are_names : Fn K mg "are_names" s_are_names ["value", "most"] := ⟨_, _, F_are_names, PySem.W.mg_of X G a3, b_are_names⟩
  have F_is_known := fun_mk (st := s_is_known) l4 c4 k4
  have b_is_known := F_is_known.binds (ps := ["value", "known"]) fun _ _ _ _ _ _ us hl => match us, hl with | [_, _], _ => rfl
  have A_is_known : Fn K mg "is_known" s_is_known ["value", "known"] := ⟨_, _, F_is_known, PySem.W.mg_of X G a4, b_is_known⟩
  have F_are_known := fun_mk (st := s_are_known) l5 c5 k5
  have b_are_known := F_are_known.binds (ps := ["value", "known", "most"]) fun _ _ _ _ _ _ us hl => match us, hl with | [_, _, _], _ => rfl
  have A_are_known : Fn K mg "are_known" s_are_known ["value", "known", "most"] := ⟨_, _, F_are_known, PySem.W.mg_of X G a5, b_are_known⟩
  have F_new_names := fun_mk (st := s_new_names) l6 c6 k6
  have b_new_names := F_new_names.binds (ps := ["count", "taken"]) fun _ _ _ _ _ _ us hl => match us, hl with | [_, _], _ => rfl
  have A_new_names : Fn K mg "new_names" s_new_names ["count", "taken"] := ⟨_, _, F_new_names, PySem.W.mg_of X G a6, b_new_names⟩
  have F_is_line := fun_mk (st := s_is_line) l7 c7 k7
  have b_is_line := F_is_line.binds (ps := ["value", "known"]) fun _ _ _ _ _ _ us hl => match us, hl with | [_, _], _ => rfl
  have A_is_line : Fn K mg "is_line" s_is_line ["value", "known"] := ⟨_, _, F_is_line, PySem.W.mg_of X G a7, b_is_line⟩
  have F_is_part := fun_mk (st := s_is_part) l8 c8 k8
  have b_is_part := F_is_part.binds (ps := ["value", "known"]) fun _ _ _ _ _ _ us hl => match us, hl with | [_, _], _ => rfl
  have A_is_part : Fn K mg "is_part" s_is_part ["value", "known"] := ⟨_, _, F_is_part, PySem.W.mg_of X G a8, b_is_part⟩
  have F_first_wrong_line := fun_mk (st := s_first_wrong_line) l9 c9 k9
  have b_first_wrong_line := F_first_wrong_line.binds (ps := ["lines", "inputs"]) fun _ _ _ _ _ _ us hl => match us, hl with | [_, _], _ => rfl
  have A_first_wrong_line : Fn K mg "first_wrong_line" s_first_wrong_line ["lines", "inputs"] := ⟨_, _, F_first_wrong_line, PySem.W.mg_of X G a9, b_first_wrong_line⟩
  have F_l_bag := fun_mk (st := s_l_bag) l10 c10 k10
  have b_l_bag := F_l_bag.binds (ps := ["_law_script"]) fun _ _ _ _ _ _ us hl => match us, hl with | [_], _ => rfl
  have A_l_bag : Fn K mg "_law_bag" s_l_bag ["_law_script"] := ⟨_, _, F_l_bag, PySem.W.mg_of X G a10, b_l_bag⟩
  have F_l_draw := fun_mk (st := s_l_draw) l11 c11 k11
  have b_l_draw := F_l_draw.binds (ps := ["_law_bag_here", "_law_many"]) fun _ _ _ _ _ _ us hl => match us, hl with | [_, _], _ => rfl
  have A_l_draw : Fn K mg "_law_draw" s_l_draw ["_law_bag_here", "_law_many"] := ⟨_, _, F_l_draw, PySem.W.mg_of X G a11, b_l_draw⟩
  have F_l_pick := fun_mk (st := s_l_pick) l12 c12 k12
  have b_l_pick := F_l_pick.binds (ps := ["_law_bag_here", "_law_some"]) fun _ _ _ _ _ _ us hl => match us, hl with | [_, _], _ => rfl
  have A_l_pick : Fn K mg "_law_pick" s_l_pick ["_law_bag_here", "_law_some"] := ⟨_, _, F_l_pick, PySem.W.mg_of X G a12, b_l_pick⟩
  have F_l_mixed := fun_mk (st := s_l_mixed) l13 c13 k13
  have b_l_mixed := F_l_mixed.binds (ps := ["_law_bag_here", "_law_some"]) fun _ _ _ _ _ _ us hl => match us, hl with | [_, _], _ => rfl
  have A_l_mixed : Fn K mg "_law_mixed" s_l_mixed ["_law_bag_here", "_law_some"] := ⟨_, _, F_l_mixed, PySem.W.mg_of X G a13, b_l_mixed⟩
  have F_l_letters := fun_mk (st := s_l_letters) l14 c14 k14
  have b_l_letters := F_l_letters.binds (ps := []) fun _ _ _ _ _ _ us hl => match us, hl with | [], _ => rfl
  have A_l_letters : Fn K mg "_law_letters" s_l_letters [] := ⟨_, _, F_l_letters, PySem.W.mg_of X G a14, b_l_letters⟩
  have F_l_names := fun_mk (st := s_l_names) l15 c15 k15
  have b_l_names := F_l_names.binds (ps := ["_law_bag_here", "_law_many"]) fun _ _ _ _ _ _ us hl => match us, hl with | [_, _], _ => rfl
  have A_l_names : Fn K mg "_law_names" s_l_names ["_law_bag_here", "_law_many"] := ⟨_, _, F_l_names, PySem.W.mg_of X G a15, b_l_names⟩
  have F_l_same := fun_mk (st := s_l_same) l16 c16 k16
  have b_l_same := F_l_same.binds (ps := ["_law_found", "_law_due"]) fun _ _ _ _ _ _ us hl => match us, hl with | [_, _], _ => rfl
  have A_l_same : Fn K mg "_law_same" s_l_same ["_law_found", "_law_due"] := ⟨_, _, F_l_same, PySem.W.mg_of X G a16, b_l_same⟩
  have F_l_field := fun_mk (st := s_l_field) l17 c17 k17
  have b_l_field := F_l_field.binds (ps := ["_law_e"]) fun _ _ _ _ _ _ us hl => match us, hl with | [_], _ => rfl
  have A_l_field : Fn K mg "_law_field" s_l_field ["_law_e"] := ⟨_, _, F_l_field, PySem.W.mg_of X G a17, b_l_field⟩
  have F_l_got := fun_mk (st := s_l_got) l18 c18 k18
  have b_l_got := F_l_got.binds (ps := ["_law_ask"]) fun _ _ _ _ _ _ us hl => match us, hl with | [_], _ => rfl
  have A_l_got : Fn K mg "_law_got" s_l_got ["_law_ask"] := ⟨_, _, F_l_got, PySem.W.mg_of X G a18, b_l_got⟩
  have F_l_all := fun_mk (st := s_l_all) l19 c19 k19
  have b_l_all := F_l_all.binds (ps := ["_law_asks"]) fun _ _ _ _ _ _ us hl => match us, hl with | [_], _ => rfl
  have A_l_all : Fn K mg "_law_all" s_l_all ["_law_asks"] := ⟨_, _, F_l_all, PySem.W.mg_of X G a19, b_l_all⟩
  have F_l_bench := fun_mk (st := s_l_bench) l20 c20 k20
  have b_l_bench := F_l_bench.binds (ps := ["_law_bag_here"]) fun _ _ _ _ _ _ us hl => match us, hl with | [_], _ => rfl
  have A_l_bench : Fn K mg "_law_bench" s_l_bench ["_law_bag_here"] := ⟨_, _, F_l_bench, PySem.W.mg_of X G a20, b_l_bench⟩
  have F_l_bench_table := fun_mk (st := s_l_bench_table) l21 c21 k21
  have b_l_bench_table := F_l_bench_table.binds (ps := ["_law_bench_here"]) fun _ _ _ _ _ _ us hl => match us, hl with | [_], _ => rfl
  have A_l_bench_table : Fn K mg "_law_bench_table" s_l_bench_table ["_law_bench_here"] := ⟨_, _, F_l_bench_table, PySem.W.mg_of X G a21, b_l_bench_table⟩
  have F_law := fun_mk (st := s_law) l22 c22 k22
  have b_law := F_law.binds (ps := ["_law_script"]) fun _ _ _ _ _ _ us hl => match us, hl with | [_], _ => rfl
  have A_law : Fn K mg "law" s_law ["_law_script"] := ⟨_, _, F_law, PySem.W.mg_of X G a22, b_law⟩
  have B : Blt mg := ⟨PySem.W.mg_none_of X G z_IndexError, PySem.W.mg_none_of X G z_LookupError, PySem.W.mg_none_of X G z_ValueError, PySem.W.mg_none_of X G z_abs, PySem.W.mg_none_of X G z_all, PySem.W.mg_none_of X G z_bool, PySem.W.mg_none_of X G z_dict, PySem.W.mg_none_of X G z_enumerate, PySem.W.mg_none_of X G z_int, PySem.W.mg_none_of X G z_isinstance, PySem.W.mg_none_of X G z_len, PySem.W.mg_none_of X G z_list, PySem.W.mg_none_of X G z_min, PySem.W.mg_none_of X G z_range, PySem.W.mg_none_of X G z_reversed, PySem.W.mg_none_of X G z_set, PySem.W.mg_none_of X G z_str, PySem.W.mg_none_of X G z_sum, PySem.W.mg_none_of X G z_tuple, PySem.W.mg_none_of X G z_zip⟩
  have E_TooMany : PySem.ErrX.ErrTxt l.prog K mg "TooMany" "most" "TooMany" C_TooMany f_TooMany x_TooMany d_TooMany := ⟨PySem.W.mg_of X G ea_TooMany, PySem.W.mg_none_of X G z_super, ⟨_, _, _, _, _, _, _, _, _, _, _, _, _, _, _, eb_TooMany, ec_TooMany, ed_TooMany⟩, ee_TooMany, ef_TooMany, eg_TooMany, eh_TooMany, ei_TooMany, ej_TooMany, ek_TooMany, el_TooMany, em_TooMany, en_TooMany, eo_TooMany, ep_TooMany, eq_TooMany, opq, ⟨_, _, _, et_TooMany⟩, ⟨_, _, _, _, _, _, eu_TooMany, ev_TooMany, ew_TooMany⟩, topSuper, ⟨_, _, _, _, _, _, _, _, _, _, _, _, _, _, _, _, _, _, _, _, _, _, _, _, _, _, _, er_TooMany, es_TooMany, fun s a b => .of_eq rfl, ex_TooMany⟩, by decide, by decide, by decide, by decide, by decide⟩
  have xf_TooMany : XfC K C_TooMany := ⟨ef_TooMany, eg_TooMany, em_TooMany, eq_TooMany⟩
  have E_InvalidHead : PySem.ErrX.ErrTxt l.prog K mg "InvalidHead" "part" "InvalidHead" C_InvalidHead f_InvalidHead x_InvalidHead d_InvalidHead := ⟨PySem.W.mg_of X G ea_InvalidHead, PySem.W.mg_none_of X G z_super, ⟨_, _, _, _, _, _, _, _, _, _, _, _, _, _, _, eb_InvalidHead, ec_InvalidHead, ed_InvalidHead⟩, ee_InvalidHead, ef_InvalidHead, eg_InvalidHead, eh_InvalidHead, ei_InvalidHead, ej_InvalidHead, ek_InvalidHead, el_InvalidHead, em_InvalidHead, en_InvalidHead, eo_InvalidHead, ep_InvalidHead, eq_InvalidHead, opq, ⟨_, _, _, et_InvalidHead⟩, ⟨_, _, _, _, _, _, eu_InvalidHead, ev_InvalidHead, ew_InvalidHead⟩, topSuper, ⟨_, _, _, _, _, _, _, _, _, _, _, _, _, _, _, _, _, _, _, _, _, _, _, _, _, _, _, er_InvalidHead, es_InvalidHead, fun s a b => .of_eq rfl, ex_InvalidHead⟩, by decide, by decide, by decide, by decide, by decide⟩
  have xf_InvalidHead : XfC K C_InvalidHead := ⟨ef_InvalidHead, eg_InvalidHead, em_InvalidHead, eq_InvalidHead⟩
  have E_InvalidLine : PySem.ErrX.ErrTxt l.prog K mg "InvalidLine" "at" "InvalidLine" C_InvalidLine f_InvalidLine x_InvalidLine d_InvalidLine := ⟨PySem.W.mg_of X G ea_InvalidLine, PySem.W.mg_none_of X G z_super, ⟨_, _, _, _, _, _, _, _, _, _, _, _, _, _, _, eb_InvalidLine, ec_InvalidLine, ed_InvalidLine⟩, ee_InvalidLine, ef_InvalidLine, eg_InvalidLine, eh_InvalidLine, ei_InvalidLine, ej_InvalidLine, ek_InvalidLine, el_InvalidLine, em_InvalidLine, en_InvalidLine, eo_InvalidLine, ep_InvalidLine, eq_InvalidLine, opq, ⟨_, _, _, et_InvalidLine⟩, ⟨_, _, _, _, _, _, eu_InvalidLine, ev_InvalidLine, ew_InvalidLine⟩, topSuper, ⟨_, _, _, _, _, _, _, _, _, _, _, _, _, _, _, _, _, _, _, _, _, _, _, _, _, _, _, er_InvalidLine, es_InvalidLine, fun s a b => .of_eq rfl, ex_InvalidLine⟩, by decide, by decide, by decide, by decide, by decide⟩
  have xf_InvalidLine : XfC K C_InvalidLine := ⟨ef_InvalidLine, eg_InvalidLine, em_InvalidLine, eq_InvalidLine⟩
  have E_Unused : PySem.ErrX.ErrTxt l.prog K mg "Unused" "name" "Unused" C_Unused f_Unused x_Unused d_Unused := ⟨PySem.W.mg_of X G ea_Unused, PySem.W.mg_none_of X G z_super, ⟨_, _, _, _, _, _, _, _, _, _, _, _, _, _, _, eb_Unused, ec_Unused, ed_Unused⟩, ee_Unused, ef_Unused, eg_Unused, eh_Unused, ei_Unused, ej_Unused, ek_Unused, el_Unused, em_Unused, en_Unused, eo_Unused, ep_Unused, eq_Unused, opq, ⟨_, _, _, et_Unused⟩, ⟨_, _, _, _, _, _, eu_Unused, ev_Unused, ew_Unused⟩, topSuper, ⟨_, _, _, _, _, _, _, _, _, _, _, _, _, _, _, _, _, _, _, _, _, _, _, _, _, _, _, er_Unused, es_Unused, fun s a b => .of_eq rfl, ex_Unused⟩, by decide, by decide, by decide, by decide, by decide⟩
  have xf_Unused : XfC K C_Unused := ⟨ef_Unused, eg_Unused, em_Unused, eq_Unused⟩
  have gC_Sums : mg "Sums" = some (.ref C_Sums) := PySem.W.mg_of X G cg_Sums
  have cl_Sums : Cls K C_Sums := ⟨c1_Sums, c2_Sums, c3_Sums, c4_Sums⟩
  have rd_Sums : ClX.CRead K C_Sums (.type "type") := ⟨c5_Sums, c6_Sums⟩
  have F_Sums_init := fun_mk (st := s_Sums_init) l_Sums_init c_Sums_init k_Sums_init
  have b_Sums_init := F_Sums_init.binds (ps := ["self", "inputs", "lines", "outputs"]) fun _ _ _ _ _ _ us hl => match us, hl with | [_, _, _, _], _ => rfl
  have mk1_Sums : Mk K C_Sums f_Sums_init := ⟨mk_Sums, ma_Sums_init, mb_Sums_init, kc_Sums⟩
  have F_Sums_inputs := fun_mk (st := s_Sums_inputs) l_Sums_inputs c_Sums_inputs k_Sums_inputs
  have b_Sums_inputs := F_Sums_inputs.binds (ps := ["self"]) fun _ _ _ _ _ _ us hl => match us, hl with | [_], _ => rfl
  have po_Sums_inputs : PropOf K C_Sums "inputs" p_Sums_inputs f_Sums_inputs := ⟨pa_Sums_inputs, pb_Sums_inputs, pc_Sums_inputs, ⟨_, pd_Sums_inputs⟩⟩
  have F_Sums_lines := fun_mk (st := s_Sums_lines) l_Sums_lines c_Sums_lines k_Sums_lines
  have b_Sums_lines := F_Sums_lines.binds (ps := ["self"]) fun _ _ _ _ _ _ us hl => match us, hl with | [_], _ => rfl
  have po_Sums_lines : PropOf K C_Sums "lines" p_Sums_lines f_Sums_lines := ⟨pa_Sums_lines, pb_Sums_lines, pc_Sums_lines, ⟨_, pd_Sums_lines⟩⟩
  have F_Sums_outputs := fun_mk (st := s_Sums_outputs) l_Sums_outputs c_Sums_outputs k_Sums_outputs
  have b_Sums_outputs := F_Sums_outputs.binds (ps := ["self"]) fun _ _ _ _ _ _ us hl => match us, hl with | [_], _ => rfl
  have po_Sums_outputs : PropOf K C_Sums "outputs" p_Sums_outputs f_Sums_outputs := ⟨pa_Sums_outputs, pb_Sums_outputs, pc_Sums_outputs, ⟨_, pd_Sums_outputs⟩⟩
  have F_Sums_adds := fun_mk (st := s_Sums_adds) l_Sums_adds c_Sums_adds k_Sums_adds
  have b_Sums_adds := F_Sums_adds.binds (ps := ["self"]) fun _ _ _ _ _ _ us hl => match us, hl with | [_], _ => rfl
  have po_Sums_adds : PropOf K C_Sums "adds" p_Sums_adds f_Sums_adds := ⟨pa_Sums_adds, pb_Sums_adds, pc_Sums_adds, ⟨_, pd_Sums_adds⟩⟩
  have F_Sums_table := fun_mk (st := s_Sums_table) l_Sums_table c_Sums_table k_Sums_table
  have b_Sums_table := F_Sums_table.binds (ps := ["self"]) fun _ _ _ _ _ _ us hl => match us, hl with | [_], _ => rfl
  have me_Sums_table : Meth K C_Sums "table" f_Sums_table := ⟨ma_Sums_table, mb_Sums_table, k_Sums_table⟩
  have F_Sums_turned := fun_mk (st := s_Sums_turned) l_Sums_turned c_Sums_turned k_Sums_turned
  have b_Sums_turned := F_Sums_turned.binds (ps := ["self"]) fun _ _ _ _ _ _ us hl => match us, hl with | [_], _ => rfl
  have me_Sums_turned : Meth K C_Sums "turned" f_Sums_turned := ⟨ma_Sums_turned, mb_Sums_turned, k_Sums_turned⟩
  have T : Txt K mg r_KEPT_WORDS := ⟨⟨_, PySem.W.mg_of X G m_LETTERS⟩, ⟨_, PySem.W.mg_of X G m_MOST_LETTERS⟩, PySem.W.mg_of X G m_KEPT_WORDS, fun H => .inr ⟨_, _, _, l_KEPT_WORDS, rfl, rfl, (by show 4 ≤ sizeLine; decide), .cons ⟨_, rfl⟩ (.cons ⟨_, rfl⟩ (.cons ⟨_, rfl⟩ (.cons ⟨_, rfl⟩ .nil)))⟩,
    ⟨_, PySem.W.mg_of X G m_MOST_INPUTS⟩, ⟨_, PySem.W.mg_of X G m_MOST_OUTPUTS⟩, ⟨_, PySem.W.mg_of X G m_MOST_LINES⟩, ⟨_, PySem.W.mg_of X G m_MOST_PARTS⟩⟩
  have e := hfa.symm.trans (PySem.W.mg_of X G a22)
  cases e
  have R : SCls K C_Sums := ⟨cl_Sums, no_Sums__inputs, no_Sums__lines, no_Sums__outputs⟩
  refine ⟨PySem.W.fnOf "law" "law" (defArgs s_law) (defBody s_law) (defScope s_law) .none kV22 dc22 pm22 an22 cd22 ct22, [(cL, PL)], spLaw K PL, fun p hp => ?_, fun p hp => ?_, fun p hp => ?_, fun s v => .of_eq rfl, fun H a ns hl _ hT hS => ⟨a, ns, rfl, hS, hl, hT _ List.mem_cons_self, fun _ => rfl⟩, fun base _ _ hB => ?_⟩
  · rw [List.mem_singleton.mp hp]
    exact lP
  · rw [List.mem_singleton.mp hp]
    exact lN
  · rw [List.mem_singleton.mp hp]
    exact PySem.W.codeHd_of_K X lH
  subst lcd
  have G1 := ok_draw (P := l.prog) (w := w) (base := base) A_l_draw B
  have G2 := ok_pick A_l_pick B G1
  have GI := ok_is_int (P := l.prog) (w := w) (base := base) A_is_int B
  have GN := ok_is_name (P := l.prog) (w := w) (base := base) A_is_name B T
  have GK := ok_is_known A_is_known B GN
  have GP := ok_is_part A_is_part B GI GK
  have GL := ok_is_line A_is_line B T GN GP
  have GW := ok_first_wrong_line A_first_wrong_line B T GL
  have GS := ok_are_names A_are_names B GN
  have GO := ok_are_knownA A_are_known B GK
  have I := ok_initG R B T E_InvalidHead E_InvalidLine E_Unused F_Sums_init GS GW GO
  have MK : HasCX l.prog w K mg base 6 "Sums" C_Sums ["self", "inputs", "lines", "outputs"] (spInitG C_Sums C_InvalidHead C_InvalidLine C_Unused) := ⟨_, _, mk1_Sums, I, gC_Sums, b_Sums_init⟩
  have PA := ok_addsB (P := l.prog) (w := w) (mg := mg) (base := base) R B F_Sums_adds po_Sums_adds b_Sums_adds
  have PI := ok_inputsB (P := l.prog) (w := w) (mg := mg) (base := base) R F_Sums_inputs po_Sums_inputs b_Sums_inputs
  have PO := ok_outputsB (P := l.prog) (w := w) (mg := mg) (base := base) R F_Sums_outputs po_Sums_outputs b_Sums_outputs
  have PN := ok_linesB (P := l.prog) (w := w) (mg := mg) (base := base) R F_Sums_lines po_Sums_lines b_Sums_lines
  have TB := ok_tableB (P := l.prog) (w := w) (mg := mg) (base := base) R B F_Sums_table me_Sums_table b_Sums_table
  have NN := ok_new_names (P := l.prog) (w := w) (base := base) A_new_names B T GN
  have TU := ok_turnedB R B T E_TooMany F_Sums_turned me_Sums_turned b_Sums_turned NN MK
  have GM := ok_l_mixed A_l_mixed B G1
  have GT := ok_letters (P := l.prog) (w := w) (base := base) A_l_letters
  have LN := ok_l_names A_l_names B G1 G2 GT
  have LB := ok_l_bench A_l_bench B G1 G2 GM LN
  have LT := ok_l_btab (P := l.prog) (w := w) (base := base) A_l_bench_table B
  exact ok_law l22 c22 (hB _ List.mem_cons_self) (PySem.W.mg_of X G m_RingError) (PySem.W.mg_of X G m_Missing) (PySem.W.mg_of X G m_NothingLeft) (ok_field A_l_field) A_l_got hm xf_TooMany ei_TooMany eh_TooMany B R MK PA PI PO PN TB TU LB LT
    (ok_bag A_l_bag B) G1 G2 GT (all_same A_l_same B 6)
    (fun B' => LamL.ok_allL A_l_all (LamL.ok_gotL A_l_got (PySem.W.mg_of X G m_RingError) (PySem.W.mg_of X G m_Missing) (PySem.W.mg_of X G m_NothingLeft) (ok_field A_l_field)))
end My
open PySem PySem.W PyProof.Rows
set_option maxRecDepth 100000 in
set_option maxHeartbeats 0 in
theorem PySem.Challenge.cw_numbertypes_k64_whole_benches_turned_holds : PySem.Challenge.rw_numbertypes_k64_whole_benches_turned.Holds := by
  w_on; o_law; k_head; (case hw => w_witness2)
  k_fill
  refine LamX.walk_ofTs (l := PySem.Challenge.rw_numbertypes_k64_whole_benches_turned) (n := 63) (k := 12) (x := "_law_script") (CX := fun _ => L2.CX0) rfl (by decide) rfl ⟨rfl, by decide, by decide⟩ (fun w h Y => PySem.W.km_in_of Y) ?F (fun _ _ _ _ _ h => h)
  case F =>
    intro w mg fa h Y KX G hmg
    refine' My.all_mk KX G hmg ?z_super ?opq ?topSuper ?a1 ?l1 ?c1 ?k1 ?a2 ?l2 ?c2 ?k2 ?a3 ?l3 ?c3 ?k3 ?a4 ?l4 ?c4 ?k4 ?a5 ?l5 ?c5 ?k5 ?a6 ?l6 ?c6 ?k6 ?a7 ?l7 ?c7 ?k7 ?a8 ?l8 ?c8 ?k8 ?a9 ?l9 ?c9 ?k9 ?a10 ?l10 ?c10 ?k10 ?a11 ?l11 ?c11 ?k11 ?a12 ?l12 ?c12 ?k12 ?a13 ?l13 ?c13 ?k13 ?a14 ?l14 ?c14 ?k14 ?a15 ?l15 ?c15 ?k15 ?a16 ?l16 ?c16 ?k16 ?a17 ?l17 ?c17 ?k17 ?a18 ?l18 ?c18 ?k18 ?a19 ?l19 ?c19 ?k19 ?a20 ?l20 ?c20 ?k20 ?a21 ?l21 ?c21 ?k21 ?a22 ?l22 ?c22 ?k22 ?z_IndexError ?z_LookupError ?z_ValueError ?z_abs ?z_all ?z_bool ?z_dict ?z_enumerate ?z_int ?z_isinstance ?z_len ?z_list ?z_min ?z_range ?z_reversed ?z_set ?z_str ?z_sum ?z_tuple ?z_zip ?m_LETTERS ?m_KEPT_WORDS ?l_KEPT_WORDS ?m_MOST_LETTERS ?m_MOST_INPUTS ?m_MOST_OUTPUTS ?m_MOST_LINES ?m_MOST_PARTS ?ea_TooMany ?eb_TooMany ?ec_TooMany ?ed_TooMany ?ee_TooMany ?ef_TooMany ?eg_TooMany ?eh_TooMany ?ei_TooMany ?ej_TooMany ?ek_TooMany ?el_TooMany ?em_TooMany ?en_TooMany ?eo_TooMany ?ep_TooMany ?eq_TooMany ?er_TooMany ?es_TooMany ?et_TooMany ?eu_TooMany ?ev_TooMany ?ex_TooMany ?ew_TooMany ?ea_InvalidHead ?eb_InvalidHead ?ec_InvalidHead ?ed_InvalidHead ?ee_InvalidHead ?ef_InvalidHead ?eg_InvalidHead ?eh_InvalidHead ?ei_InvalidHead ?ej_InvalidHead ?ek_InvalidHead ?el_InvalidHead ?em_InvalidHead ?en_InvalidHead ?eo_InvalidHead ?ep_InvalidHead ?eq_InvalidHead ?er_InvalidHead ?es_InvalidHead ?et_InvalidHead ?eu_InvalidHead ?ev_InvalidHead ?ex_InvalidHead ?ew_InvalidHead ?ea_InvalidLine ?eb_InvalidLine ?ec_InvalidLine ?ed_InvalidLine ?ee_InvalidLine ?ef_InvalidLine ?eg_InvalidLine ?eh_InvalidLine ?ei_InvalidLine ?ej_InvalidLine ?ek_InvalidLine ?el_InvalidLine ?em_InvalidLine ?en_InvalidLine ?eo_InvalidLine ?ep_InvalidLine ?eq_InvalidLine ?er_InvalidLine ?es_InvalidLine ?et_InvalidLine ?eu_InvalidLine ?ev_InvalidLine ?ex_InvalidLine ?ew_InvalidLine ?ea_Unused ?eb_Unused ?ec_Unused ?ed_Unused ?ee_Unused ?ef_Unused ?eg_Unused ?eh_Unused ?ei_Unused ?ej_Unused ?ek_Unused ?el_Unused ?em_Unused ?en_Unused ?eo_Unused ?ep_Unused ?eq_Unused ?er_Unused ?es_Unused ?et_Unused ?eu_Unused ?ev_Unused ?ex_Unused ?ew_Unused ?cg_Sums ?c1_Sums ?c2_Sums ?c3_Sums ?c4_Sums ?c5_Sums ?c6_Sums ?ia_Sums ?ib_Sums ?ic_Sums ?id_Sums ?no_Sums__inputs ?no_Sums__lines ?no_Sums__outputs ?ma_Sums_init ?mb_Sums_init ?l_Sums_init ?c_Sums_init ?k_Sums_init ?mk_Sums ?kc_Sums ?pa_Sums_inputs ?pb_Sums_inputs ?pc_Sums_inputs ?pd_Sums_inputs ?l_Sums_inputs ?c_Sums_inputs ?k_Sums_inputs ?pa_Sums_lines ?pb_Sums_lines ?pc_Sums_lines ?pd_Sums_lines ?l_Sums_lines ?c_Sums_lines ?k_Sums_lines ?pa_Sums_outputs ?pb_Sums_outputs ?pc_Sums_outputs ?pd_Sums_outputs ?l_Sums_outputs ?c_Sums_outputs ?k_Sums_outputs ?pa_Sums_adds ?pb_Sums_adds ?pc_Sums_adds ?pd_Sums_adds ?l_Sums_adds ?c_Sums_adds ?k_Sums_adds ?ma_Sums_table ?mb_Sums_table ?l_Sums_table ?c_Sums_table ?k_Sums_table ?ma_Sums_turned ?mb_Sums_turned ?l_Sums_turned ?c_Sums_turned ?k_Sums_turned ?m_RingError ?m_Missing ?m_NothingLeft ?lcd ?lC ?lT ?lP ?lN ?lH ?hm
    (case z_super => k_is)
    (case opq => k_is)
    (case a1 => k_is)
    (case l1 => k_is)
    (case c1 => k_is)
    (case k1 => k_is)
    (case a2 => k_is)
    (case l2 => k_is)
    (case c2 => k_is)
    (case k2 => k_is)
    (case a3 => k_is)
    (case l3 => k_is)
    (case c3 => k_is)
    (case k3 => k_is)
    (case a4 => k_is)
    (case l4 => k_is)
    (case c4 => k_is)
    (case k4 => k_is)
    (case a5 => k_is)
    (case l5 => k_is)
    (case c5 => k_is)
    (case k5 => k_is)
    (case a6 => k_is)
    (case l6 => k_is)
    (case c6 => k_is)
    (case k6 => k_is)
    (case a7 => k_is)
    (case l7 => k_is)
    (case c7 => k_is)
    (case k7 => k_is)
    (case a8 => k_is)
    (case l8 => k_is)
    (case c8 => k_is)
    (case k8 => k_is)
    (case a9 => k_is)
    (case l9 => k_is)
    (case c9 => k_is)
    (case k9 => k_is)
    (case a10 => k_is)
    (case l10 => k_is)
    (case c10 => k_is)
    (case k10 => k_is)
    (case a11 => k_is)
    (case l11 => k_is)
    (case c11 => k_is)
    (case k11 => k_is)
    (case a12 => k_is)
    (case l12 => k_is)
    (case c12 => k_is)
    (case k12 => k_is)
    (case a13 => k_is)
    (case l13 => k_is)
    (case c13 => k_is)
    (case k13 => k_is)
    (case a14 => k_is)
    (case l14 => k_is)
    (case c14 => k_is)
    (case k14 => k_is)
    (case a15 => k_is)
    (case l15 => k_is)
    (case c15 => k_is)
    (case k15 => k_is)
    (case a16 => k_is)
    (case l16 => k_is)
    (case c16 => k_is)
    (case k16 => k_is)
    (case a17 => k_is)
    (case l17 => k_is)
    (case c17 => k_is)
    (case k17 => k_is)
    (case a18 => k_is)
    (case l18 => k_is)
    (case c18 => k_is)
    (case k18 => k_is)
    (case a19 => k_is)
    (case l19 => k_is)
    (case c19 => k_is)
    (case k19 => k_is)
    (case a20 => k_is)
    (case l20 => k_is)
    (case c20 => k_is)
    (case k20 => k_is)
    (case a21 => k_is)
    (case l21 => k_is)
    (case c21 => k_is)
    (case k21 => k_is)
    (case a22 => k_is)
    (case l22 => k_is)
    (case c22 => k_is)
    (case k22 => k_is)
    (case z_IndexError => k_is)
    (case z_LookupError => k_is)
    (case z_ValueError => k_is)
    (case z_abs => k_is)
    (case z_all => k_is)
    (case z_bool => k_is)
    (case z_dict => k_is)
    (case z_enumerate => k_is)
    (case z_int => k_is)
    (case z_isinstance => k_is)
    (case z_len => k_is)
    (case z_list => k_is)
    (case z_min => k_is)
    (case z_range => k_is)
    (case z_reversed => k_is)
    (case z_set => k_is)
    (case z_str => k_is)
    (case z_sum => k_is)
    (case z_tuple => k_is)
    (case z_zip => k_is)
    (case m_LETTERS => k_is)
    (case m_KEPT_WORDS => k_is)
    (case l_KEPT_WORDS => k_is)
    (case m_MOST_LETTERS => k_is)
    (case m_MOST_INPUTS => k_is)
    (case m_MOST_OUTPUTS => k_is)
    (case m_MOST_LINES => k_is)
    (case m_MOST_PARTS => k_is)
    (case m_RingError => k_is)
    (case m_Missing => k_is)
    (case m_NothingLeft => k_is)
    (case topSuper => kernel_rfl)
    (case ea_TooMany => k_is)
    (case eb_TooMany => k_is)
    (case ec_TooMany => first | rfl | kernel_rfl)
    (case ed_TooMany => kernel_rfl)
    (case ee_TooMany => k_is)
    (case ef_TooMany => k_is)
    (case eg_TooMany => k_is)
    (case eh_TooMany => k_is)
    (case ei_TooMany => k_is)
    (case ej_TooMany => k_is)
    (case ek_TooMany => k_is)
    (case el_TooMany => k_is)
    (case em_TooMany => k_is)
    (case en_TooMany => k_is)
    (case eo_TooMany => k_is)
    (case ep_TooMany => k_is)
    (case eq_TooMany => k_is)
    (case er_TooMany => k_is)
    (case es_TooMany => k_is)
    (case et_TooMany => k_is)
    (case eu_TooMany => k_is)
    (case ev_TooMany => rfl)
    (case ex_TooMany => exact ⟨_, fun env => rfl⟩)
    (case ew_TooMany => kernel_rfl)
    (case ea_InvalidHead => k_is)
    (case eb_InvalidHead => k_is)
    (case ec_InvalidHead => first | rfl | kernel_rfl)
    (case ed_InvalidHead => kernel_rfl)
    (case ee_InvalidHead => k_is)
    (case ef_InvalidHead => k_is)
    (case eg_InvalidHead => k_is)
    (case eh_InvalidHead => k_is)
    (case ei_InvalidHead => k_is)
    (case ej_InvalidHead => k_is)
    (case ek_InvalidHead => k_is)
    (case el_InvalidHead => k_is)
    (case em_InvalidHead => k_is)
    (case en_InvalidHead => k_is)
    (case eo_InvalidHead => k_is)
    (case ep_InvalidHead => k_is)
    (case eq_InvalidHead => k_is)
    (case er_InvalidHead => k_is)
    (case es_InvalidHead => k_is)
    (case et_InvalidHead => k_is)
    (case eu_InvalidHead => k_is)
    (case ev_InvalidHead => rfl)
    (case ex_InvalidHead => exact ⟨_, fun env => rfl⟩)
    (case ew_InvalidHead => kernel_rfl)
    (case ea_InvalidLine => k_is)
    (case eb_InvalidLine => k_is)
    (case ec_InvalidLine => first | rfl | kernel_rfl)
    (case ed_InvalidLine => kernel_rfl)
    (case ee_InvalidLine => k_is)
    (case ef_InvalidLine => k_is)
    (case eg_InvalidLine => k_is)
    (case eh_InvalidLine => k_is)
    (case ei_InvalidLine => k_is)
    (case ej_InvalidLine => k_is)
    (case ek_InvalidLine => k_is)
    (case el_InvalidLine => k_is)
    (case em_InvalidLine => k_is)
    (case en_InvalidLine => k_is)
    (case eo_InvalidLine => k_is)
    (case ep_InvalidLine => k_is)
    (case eq_InvalidLine => k_is)
    (case er_InvalidLine => k_is)
    (case es_InvalidLine => k_is)
    (case et_InvalidLine => k_is)
    (case eu_InvalidLine => k_is)
    (case ev_InvalidLine => rfl)
    (case ex_InvalidLine => exact ⟨_, fun env => rfl⟩)
    (case ew_InvalidLine => kernel_rfl)
    (case ea_Unused => k_is)
    (case eb_Unused => k_is)
    (case ec_Unused => first | rfl | kernel_rfl)
    (case ed_Unused => kernel_rfl)
    (case ee_Unused => k_is)
    (case ef_Unused => k_is)
    (case eg_Unused => k_is)
    (case eh_Unused => k_is)
    (case ei_Unused => k_is)
    (case ej_Unused => k_is)
    (case ek_Unused => k_is)
    (case el_Unused => k_is)
    (case em_Unused => k_is)
    (case en_Unused => k_is)
    (case eo_Unused => k_is)
    (case ep_Unused => k_is)
    (case eq_Unused => k_is)
    (case er_Unused => k_is)
    (case es_Unused => k_is)
    (case et_Unused => k_is)
    (case eu_Unused => k_is)
    (case ev_Unused => rfl)
    (case ex_Unused => exact ⟨_, fun env => rfl⟩)
    (case ew_Unused => kernel_rfl)
    (case cg_Sums => k_is)
    (case c1_Sums => k_is)
    (case c2_Sums => k_is)
    (case c3_Sums => k_is)
    (case c4_Sums => k_is)
    (case c5_Sums => k_is)
    (case c6_Sums => k_is)
    (case ia_Sums => k_is)
    (case ib_Sums => k_is)
    (case ic_Sums => k_is)
    (case id_Sums => k_is)
    (case no_Sums__inputs => k_is)
    (case no_Sums__lines => k_is)
    (case no_Sums__outputs => k_is)
    (case ma_Sums_init => k_is)
    (case mb_Sums_init => k_is)
    (case l_Sums_init => k_is)
    (case c_Sums_init => k_is)
    (case k_Sums_init => k_is)
    (case mk_Sums => k_is)
    (case kc_Sums => k_is)
    (case pa_Sums_inputs => k_is)
    (case pb_Sums_inputs => k_is)
    (case pc_Sums_inputs => k_is)
    (case pd_Sums_inputs => k_is)
    (case l_Sums_inputs => k_is)
    (case c_Sums_inputs => k_is)
    (case k_Sums_inputs => k_is)
    (case pa_Sums_lines => k_is)
    (case pb_Sums_lines => k_is)
    (case pc_Sums_lines => k_is)
    (case pd_Sums_lines => k_is)
    (case l_Sums_lines => k_is)
    (case c_Sums_lines => k_is)
    (case k_Sums_lines => k_is)
    (case pa_Sums_outputs => k_is)
    (case pb_Sums_outputs => k_is)
    (case pc_Sums_outputs => k_is)
    (case pd_Sums_outputs => k_is)
    (case l_Sums_outputs => k_is)
    (case c_Sums_outputs => k_is)
    (case k_Sums_outputs => k_is)
    (case pa_Sums_adds => k_is)
    (case pb_Sums_adds => k_is)
    (case pc_Sums_adds => k_is)
    (case pd_Sums_adds => k_is)
    (case l_Sums_adds => k_is)
    (case c_Sums_adds => k_is)
    (case k_Sums_adds => k_is)
    (case ma_Sums_table => k_is)
    (case mb_Sums_table => k_is)
    (case l_Sums_table => k_is)
    (case c_Sums_table => k_is)
    (case k_Sums_table => k_is)
    (case ma_Sums_turned => k_is)
    (case mb_Sums_turned => k_is)
    (case l_Sums_turned => k_is)
    (case c_Sums_turned => k_is)
    (case k_Sums_turned => k_is)
    (case lcd => rfl)
    (case lC => k_is)
    (case lT => rfl)
    (case lP => exact PySem.W.km_tabs_of Y _ List.mem_cons_self)
    (case lN => kernel_rfl)
    (case lH => kernel_rfl)
    (case hm => kernel_rfl)
