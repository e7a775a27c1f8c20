
import PyProof.Rows.All
import Wide.All
import OpenK.AllK
import Wide.FinOn
import HandS.ForMost
import HandS.IsInst
import HandS.Walk
import HandS.Wide
import HandS.Codes
import HandS.Gcd
import HandS.Zip
import KE.OsRunLaw
import HandS.ForExc
import HandS.ExcInit
import HandS.ExcSuper
import HandS.ExcField
import HandS.Lambda
import HandS.HotCalls
import HandS.TryMany
import HandS.EndTab
import HandS.ClsMeth
import HandS.Star
import HandS.Property
import HandS.Defaults
import HandS.MakeKw
import HandS.MakeKwOnly
import HandS.OwnEq
import HandS.FStr
import HandS.Text
import HandS.EndOwn
import HandS.Deep
import KE.KExcSuper
import KE.KSuper
import KE.KTryMore
import KE.KMathG
import KE.KMathGC
import OpenK.KMeth
import OpenK.KOps
import HandS.Records
import KE.KStateDown
import HandS.Head0
import HandS.Head1
import HandS.Head2
import PySem.Challenge.RW_numbertypes_k75_whole_needless_verdicts
set_option Elab.async false
set_option linter.all false
set_option maxRecDepth 100000
set_option maxHeartbeats 4000000
section
set_option maxRecDepth 100000
set_option maxHeartbeats 4000000
namespace My
open PySem PySem.W PySem.Calls PyProof.Rows HeadRun
abbrev rowT : PySem.W.OpenRow := PySem.W.OpenLaw.row PySem.Challenge.rw_numbertypes_k75_whole_needless_verdicts
abbrev viewT : PySem.Program := PySem.W.view rowT.prog [90]
def looseT : List PySem.Str := (["gcd", "lcm", "_wall", "RingError", "Missing", "InvalidNumber", "InvalidThing", "InvalidRing", "NoInverse", "TooMany", "TooGreat", "EmptyRealm", "Unsound", "Full", "UnknownNumber"] : List PySem.Str) ++ (["NothingLeft", "MOST_RADICAL", "is_int", "is_between", "is_share", "common", "multiple", "divides", "stripped", "radical", "share", "sum_of_shares", "product_of_shares", "inverse_modulo", "written"] : List PySem.Str) ++ (["written_below", "MOST_MODULUS", "Ring", "depth_over", "check_bases", "check_number", "Shares", "Whole", "Rests", "choices", "size_together", "Slotwise", "Matrices", "MOST_PART", "Pairs"] : List PySem.Str) ++ (["Twists", "MOST_NUMBER", "normal_numbers", "realm_with", "Realm", "listed", "joined_inverse", "endless_ring", "ring_of_ones", "Timeline", "meet_of", "realms_of", "lies_in_one", "Unseen", "_law_bag"] : List PySem.Str) ++ (["_law_draw", "_law_pick", "_law_same", "_law_field", "_law_got", "_law_gcd", "_law_lcm", "_law_divides", "_law_strip", "_law_radical", "_law_product", "_law_settled", "_law_realm", "_law_settle", "_law_inside"] : List PySem.Str) ++ (["_law_lies", "_law_meet", "_law_log", "_law_wide_realm", "_law_meets", "_law_refusal"] : List PySem.Str)
abbrev defT := HandSHeadRun.topDef rowT.prog 90
theorem head_imp {r : OpenRow} {q : Program} {K : Params → PySem.W.Frag} {as : List Addr} {ek : ∀ P, as = (K P).map (·.1)} {N : Nat} {loose : List PySem.Str} {d : DefRec} {kwd : List (PySem.Str × PySem.Expr)}
    (run : ∀ w : World, (wholeF (fun p => stepQ (denQ tabQ) p w) fenceQ N r.prog).map (fun x => (looksF r.prog x.1.heap x.2.abs, seenQ q loose (importedModules r.prog.main.body) (fun s => xlAt q [] s && recOk r.toRowW.records s) x.2.abs, as.map (getT x.2))) = some (true, openGood q loose, (K w.params).map fun x => some x.2))
    (hdef : defOf q r.name = some (d, kwd)) (hp : r.prog.theDef r.name = some (d.params, d.body, d.scope)) (hk : kwWritten? d.params.kwonlyargs d.params.kw_defaults = some kwd)
    (hwr : (!r.writes || r.records.isEmpty) = true) (k1 : r.wellSaid = true) (ok : (chainsOk q && opensWell r.prog && (frees r.toRowW && r.within.isEmpty)) = true) (hb : r.prog.bare) (hw : r.toRowW.promised)
    (call : WalkO q loose (XL q []) (Hook.says (kHook K as ek)) r.toRowW d kwd fun f vs => PySem.call f vs) : r.Holds :=
  holds_open (r := r) (q := q) (loose := loose) (XP := XL q []) (YP := Hook.says (kHook K as ek)) (d := d) (kwd := kwd) (left_impK (ek := ek) run) (Hook.of (kHook K as ek)) (Hook.keeps (kHook K as ek)) (fun s z => xl_of s (Bool.and_eq_true_iff.mp z).1) XL.keeps hdef hp hk (fun s z => recFacts_of (Bool.and_eq_true_iff.mp z).2) hwr k1 ok hb hw call
/-! the head's look, with the law's own table beside the written part -/
theorem in_tail {K : Params → PySem.W.Frag} {a : Addr} {o : Obj} {as : List Addr} {e : ∀ P, as = ((a, o) :: K P).map (·.1)} {w : World} {h : Heap} (Y : (PySem.W.kHook (fun P => (a, o) :: K P) as e).says w h) (n : (K w.params).lookup a = none) : (K w.params).In h := fun b u q => by
  have y : PySem.W.Frag.In ((a, o) :: K w.params) h := PySem.W.kIn_of Y
  refine y b u ?_
  rw [List.lookup_cons]
  by_cases z : b = a
  · rw [z, n] at q
    cases q
  · rw [show (b == a) = false from beq_eq_false_iff_ne.mpr z]
    exact q
theorem in_head {K : Params → PySem.W.Frag} {a : Addr} {o : Obj} {as : List Addr} {e : ∀ P, as = ((a, o) :: K P).map (·.1)} {w : World} {h : Heap} (Y : (PySem.W.kHook (fun P => (a, o) :: K P) as e).says w h) : h.get? a = some o := by
  have y : PySem.W.Frag.In ((a, o) :: K w.params) h := PySem.W.kIn_of Y
  exact y a o (by rw [List.lookup_cons, beq_self_eq_true])
end My
section
open PySem PySem.W PySem.Calls PyProof.Rows
local macro_rules | `(tactic| o_headL ($f $k $a $e)) => `(tactic| assumption)
set_option maxHeartbeats 0 in
/-- the part of the heap that is written out: My.mk.heap_1 -/
theorem My.mk : My.rowT.Holds → My.rowT.Holds := by
  intro h
  k_headL
namespace My
open HeadRun
noncomputable def asK : List Addr := 1640 :: (My.mk.heap_1 (aWorld 1).params).map (·.1)
noncomputable abbrev fragK : Params → PySem.W.Frag := fun P => (1640, PySem.W.tabObj #[]) :: My.mk.heap_1 P
theorem runK : ∀ w : World, (wholeF (fun p => stepQ (denQ tabQ) p w) fenceQ 60000 rowT.prog).map (fun x => (looksF rowT.prog x.1.heap x.2.abs, seenQ viewT looseT (importedModules rowT.prog.main.body) (fun s => xlAt viewT [] s && recOk rowT.toRowW.records s) x.2.abs, asK.map (getT x.2))) = some (true, openGood viewT looseT, (fragK w.params).map fun x => some x.2) := fun w => by kernel_rfl
end My
end
end
namespace My
open PySem PySem.Spec PyProof.Rows L2
/-! ### the text by places -/
def topS (i : Nat) : Stmt := PySem.Challenge.pw_numbertypes_k75_whole_needless_verdicts.main.body.getD i (.Pass ⟨0, 0, 0, 0⟩)
abbrev s__wall : Stmt := topS 1
abbrev N__wall : List Str := ["k"]
theorem sc__wall : FnScope N__wall ["k"] (defScope s__wall) := ⟨rfl, rfl, rfl, by decide +kernel, rfl, by decide +kernel, by decide +kernel⟩
abbrev s_is_int : Stmt := topS 18
abbrev N_is_int : List Str := ["value"]
theorem sc_is_int : FnScope N_is_int ["value"] (defScope s_is_int) := ⟨rfl, rfl, rfl, by decide +kernel, rfl, by decide +kernel, by decide +kernel⟩
abbrev s_is_between : Stmt := topS 19
abbrev N_is_between : List Str := ["value", "least", "most"]
theorem sc_is_between : FnScope N_is_between ["value", "least", "most"] (defScope s_is_between) := ⟨rfl, rfl, rfl, by decide +kernel, rfl, by decide +kernel, by decide +kernel⟩
abbrev s_is_share : Stmt := topS 20
abbrev N_is_share : List Str := ["value", "p", "q"]
theorem sc_is_share : FnScope N_is_share ["value"] (defScope s_is_share) := ⟨rfl, rfl, rfl, by decide +kernel, rfl, by decide +kernel, by decide +kernel⟩
abbrev s_common : Stmt := topS 21
abbrev N_common : List Str := ["numbers", "result", "number"]
theorem sc_common : FnScope N_common ["numbers"] (defScope s_common) := ⟨rfl, rfl, rfl, by decide +kernel, rfl, by decide +kernel, by decide +kernel⟩
abbrev s_multiple : Stmt := topS 22
abbrev N_multiple : List Str := ["numbers", "result", "number"]
theorem sc_multiple : FnScope N_multiple ["numbers"] (defScope s_multiple) := ⟨rfl, rfl, rfl, by decide +kernel, rfl, by decide +kernel, by decide +kernel⟩
abbrev s_divides : Stmt := topS 23
abbrev N_divides : List Str := ["one", "other"]
theorem sc_divides : FnScope N_divides ["one", "other"] (defScope s_divides) := ⟨rfl, rfl, rfl, by decide +kernel, rfl, by decide +kernel, by decide +kernel⟩
abbrev s_stripped : Stmt := topS 24
abbrev N_stripped : List Str := ["number", "base", "rest", "part"]
theorem sc_stripped : FnScope N_stripped ["number", "base"] (defScope s_stripped) := ⟨rfl, rfl, rfl, by decide +kernel, rfl, by decide +kernel, by decide +kernel⟩
abbrev s_radical : Stmt := topS 25
abbrev N_radical : List Str := ["number", "result", "rest", "prime"]
theorem sc_radical : FnScope N_radical ["number"] (defScope s_radical) := ⟨rfl, rfl, rfl, by decide +kernel, rfl, by decide +kernel, by decide +kernel⟩
abbrev s_share : Stmt := topS 26
abbrev N_share : List Str := ["p", "q", "part"]
theorem sc_share : FnScope N_share ["p", "q"] (defScope s_share) := ⟨rfl, rfl, rfl, by decide +kernel, rfl, by decide +kernel, by decide +kernel⟩
abbrev s_sum_of_shares : Stmt := topS 27
abbrev N_sum_of_shares : List Str := ["x", "y"]
theorem sc_sum_of_shares : FnScope N_sum_of_shares ["x", "y"] (defScope s_sum_of_shares) := ⟨rfl, rfl, rfl, by decide +kernel, rfl, by decide +kernel, by decide +kernel⟩
abbrev s_product_of_shares : Stmt := topS 28
abbrev N_product_of_shares : List Str := ["x", "y"]
theorem sc_product_of_shares : FnScope N_product_of_shares ["x", "y"] (defScope s_product_of_shares) := ⟨rfl, rfl, rfl, by decide +kernel, rfl, by decide +kernel, by decide +kernel⟩
abbrev s_inverse_modulo : Stmt := topS 29
abbrev N_inverse_modulo : List Str := ["number", "modulus", "before", "now", "far", "near", "times"]
theorem sc_inverse_modulo : FnScope N_inverse_modulo ["number", "modulus"] (defScope s_inverse_modulo) := ⟨rfl, rfl, rfl, by decide +kernel, rfl, by decide +kernel, by decide +kernel⟩
abbrev s_written : Stmt := topS 30
abbrev N_written : List Str := ["number", "powers"]
theorem sc_written : FnScope N_written ["number"] (defScope s_written) := ⟨rfl, rfl, rfl, by decide +kernel, rfl, by decide +kernel, by decide +kernel⟩
abbrev s_written_below : Stmt := topS 31
abbrev N_written_below : List Str := ["number", "powers", "lower", "high", "low"]
theorem sc_written_below : FnScope N_written_below ["number", "powers"] (defScope s_written_below) := ⟨rfl, rfl, rfl, by decide +kernel, rfl, by decide +kernel, by decide +kernel⟩
abbrev s_depth_over : Stmt := topS 35
abbrev N_depth_over : List Str := ["bases", "base"]
theorem sc_depth_over : FnScope N_depth_over ["bases"] (defScope s_depth_over) := ⟨rfl, rfl, rfl, by decide +kernel, rfl, by decide +kernel, by decide +kernel⟩
abbrev s_check_bases : Stmt := topS 36
abbrev N_check_bases : List Str := ["bases", "base"]
theorem sc_check_bases : FnScope N_check_bases ["bases"] (defScope s_check_bases) := ⟨rfl, rfl, rfl, by decide +kernel, rfl, by decide +kernel, by decide +kernel⟩
abbrev s_check_number : Stmt := topS 37
abbrev N_check_number : List Str := ["value", "least", "most"]
theorem sc_check_number : FnScope N_check_number ["value", "least", "most"] (defScope s_check_number) := ⟨rfl, rfl, rfl, by decide +kernel, rfl, by decide +kernel, by decide +kernel⟩
abbrev s_choices : Stmt := topS 42
abbrev N_choices : List Str := ["lists", "found", "options", "begun", "option"]
theorem sc_choices : FnScope N_choices ["lists"] (defScope s_choices) := ⟨rfl, rfl, rfl, by decide +kernel, rfl, by decide +kernel, by decide +kernel⟩
abbrev s_size_together : Stmt := topS 43
abbrev N_size_together : List Str := ["sizes", "result", "size"]
theorem sc_size_together : FnScope N_size_together ["sizes"] (defScope s_size_together) := ⟨rfl, rfl, rfl, by decide +kernel, rfl, by decide +kernel, by decide +kernel⟩
abbrev s_normal_numbers : Stmt := topS 53
abbrev N_normal_numbers : List Str := ["inverse", "ones", "swaps", "squares", "rests", "number"]
theorem sc_normal_numbers : FnScope N_normal_numbers ["inverse", "ones", "swaps", "squares"] (defScope s_normal_numbers) := ⟨rfl, rfl, rfl, by decide +kernel, rfl, by decide +kernel, by decide +kernel⟩
abbrev s_realm_with : Stmt := topS 54
abbrev N_realm_with : List Str := ["inverse", "ones", "swaps", "squares", "made"]
theorem sc_realm_with : FnScope N_realm_with ["inverse", "ones", "swaps", "squares"] (defScope s_realm_with) := ⟨rfl, rfl, rfl, by decide +kernel, rfl, by decide +kernel, by decide +kernel⟩
abbrev s_listed : Stmt := topS 56
abbrev N_listed : List Str := ["numbers", "number"]
theorem sc_listed : FnScope N_listed ["numbers"] (defScope s_listed) := ⟨rfl, rfl, rfl, by decide +kernel, rfl, by decide +kernel, by decide +kernel⟩
abbrev s_joined_inverse : Stmt := topS 57
abbrev N_joined_inverse : List Str := ["one", "other"]
theorem sc_joined_inverse : FnScope N_joined_inverse ["one", "other"] (defScope s_joined_inverse) := ⟨rfl, rfl, rfl, by decide +kernel, rfl, by decide +kernel, by decide +kernel⟩
abbrev s_endless_ring : Stmt := topS 58
abbrev N_endless_ring : List Str := ["inverse", "swaps", "base"]
theorem sc_endless_ring : FnScope N_endless_ring ["inverse", "swaps"] (defScope s_endless_ring) := ⟨rfl, rfl, rfl, by decide +kernel, rfl, by decide +kernel, by decide +kernel⟩
abbrev s_ring_of_ones : Stmt := topS 59
abbrev N_ring_of_ones : List Str := ["ones", "swaps", "squares", "base"]
theorem sc_ring_of_ones : FnScope N_ring_of_ones ["ones", "swaps", "squares"] (defScope s_ring_of_ones) := ⟨rfl, rfl, rfl, by decide +kernel, rfl, by decide +kernel, by decide +kernel⟩
abbrev s_meet_of : Stmt := topS 63
abbrev N_meet_of : List Str := ["realms", "found", "realm"]
theorem sc_meet_of : FnScope N_meet_of ["realms"] (defScope s_meet_of) := ⟨rfl, rfl, rfl, by decide +kernel, rfl, by decide +kernel, by decide +kernel⟩
abbrev s_realms_of : Stmt := topS 64
abbrev N_realms_of : List Str := ["verdicts", "right", "_", "realm", "sort"]
theorem sc_realms_of : FnScope N_realms_of ["verdicts", "right"] (defScope s_realms_of) := ⟨rfl, rfl, rfl, by decide +kernel, rfl, by decide +kernel, by decide +kernel⟩
abbrev s_lies_in_one : Stmt := topS 65
abbrev N_lies_in_one : List Str := ["realm", "others", "other"]
theorem sc_lies_in_one : FnScope N_lies_in_one ["realm", "others"] (defScope s_lies_in_one) := ⟨rfl, rfl, rfl, by decide +kernel, rfl, by decide +kernel, by decide +kernel⟩
abbrev s_l_bag : Stmt := topS 68
abbrev N_l_bag : List Str := ["_law_script", "_law_cells"]
theorem sc_l_bag : FnScope N_l_bag ["_law_script"] (defScope s_l_bag) := ⟨rfl, rfl, rfl, by decide +kernel, rfl, by decide +kernel, by decide +kernel⟩
abbrev s_l_draw : Stmt := topS 69
abbrev N_l_draw : List Str := ["_law_bag_here", "_law_many", "_law_cell", "_law_got_here"]
theorem sc_l_draw : FnScope N_l_draw ["_law_bag_here", "_law_many"] (defScope s_l_draw) := ⟨rfl, rfl, rfl, by decide +kernel, rfl, by decide +kernel, by decide +kernel⟩
abbrev s_l_pick : Stmt := topS 70
abbrev N_l_pick : List Str := ["_law_bag_here", "_law_some"]
theorem sc_l_pick : FnScope N_l_pick ["_law_bag_here", "_law_some"] (defScope s_l_pick) := ⟨rfl, rfl, rfl, by decide +kernel, rfl, by decide +kernel, by decide +kernel⟩
abbrev s_l_same : Stmt := topS 71
abbrev N_l_same : List Str := ["_law_found", "_law_due", "_law_a", "_law_b"]
theorem sc_l_same : FnScope N_l_same ["_law_found", "_law_due"] (defScope s_l_same) := ⟨rfl, rfl, rfl, by decide +kernel, rfl, by decide +kernel, by decide +kernel⟩
abbrev s_l_field : Stmt := topS 72
abbrev N_l_field : List Str := ["_law_e"]
theorem sc_l_field : FnScope N_l_field ["_law_e"] (defScope s_l_field) := ⟨rfl, rfl, rfl, by decide +kernel, rfl, by decide +kernel, by decide +kernel⟩
abbrev s_l_got : Stmt := topS 73
abbrev N_l_got : List Str := ["_law_ask", "_law_e"]
theorem sc_l_got : FnScope N_l_got ["_law_ask"] (defScope s_l_got) := ⟨rfl, rfl, rfl, by decide +kernel, rfl, by decide +kernel, by decide +kernel⟩
abbrev s_l_gcd : Stmt := topS 74
abbrev N_l_gcd : List Str := ["_law_a", "_law_b", "_law_left_z", "_law_right_z"]
theorem sc_l_gcd : FnScope N_l_gcd ["_law_a", "_law_b"] (defScope s_l_gcd) := ⟨rfl, rfl, rfl, by decide +kernel, rfl, by decide +kernel, by decide +kernel⟩
abbrev s_l_lcm : Stmt := topS 75
abbrev N_l_lcm : List Str := ["_law_a", "_law_b"]
theorem sc_l_lcm : FnScope N_l_lcm ["_law_a", "_law_b"] (defScope s_l_lcm) := ⟨rfl, rfl, rfl, by decide +kernel, rfl, by decide +kernel, by decide +kernel⟩
abbrev s_l_divides : Stmt := topS 76
abbrev N_l_divides : List Str := ["_law_a", "_law_b"]
theorem sc_l_divides : FnScope N_l_divides ["_law_a", "_law_b"] (defScope s_l_divides) := ⟨rfl, rfl, rfl, by decide +kernel, rfl, by decide +kernel, by decide +kernel⟩
abbrev s_l_strip : Stmt := topS 77
abbrev N_l_strip : List Str := ["_law_number", "_law_base", "_law_found"]
theorem sc_l_strip : FnScope N_l_strip ["_law_number", "_law_base"] (defScope s_l_strip) := ⟨rfl, rfl, rfl, by decide +kernel, rfl, by decide +kernel, by decide +kernel⟩
abbrev s_l_radical : Stmt := topS 78
abbrev N_l_radical : List Str := ["_law_number", "_law_k", "_law_j"]
theorem sc_l_radical : FnScope N_l_radical ["_law_number"] (defScope s_l_radical) := ⟨rfl, rfl, rfl, by decide +kernel, rfl, by decide +kernel, by decide +kernel⟩
abbrev s_l_product : Stmt := topS 79
abbrev N_l_product : List Str := ["_law_numbers", "_law_found", "_law_number"]
theorem sc_l_product : FnScope N_l_product ["_law_numbers"] (defScope s_l_product) := ⟨rfl, rfl, rfl, by decide +kernel, rfl, by decide +kernel, by decide +kernel⟩
abbrev s_l_settled : Stmt := topS 80
abbrev N_l_settled : List Str := ["_law_d", "_law_o", "_law_s", "_law_t", "_law_first", "_law_third"]
theorem sc_l_settled : FnScope N_l_settled ["_law_d", "_law_o", "_law_s", "_law_t"] (defScope s_l_settled) := ⟨rfl, rfl, rfl, by decide +kernel, rfl, by decide +kernel, by decide +kernel⟩
abbrev s_l_realm : Stmt := topS 81
abbrev N_l_realm : List Str := ["_law_numbers"]
theorem sc_l_realm : FnScope N_l_realm ["_law_numbers"] (defScope s_l_realm) := ⟨rfl, rfl, rfl, by decide +kernel, rfl, by decide +kernel, by decide +kernel⟩
abbrev s_l_settle : Stmt := topS 82
abbrev N_l_settle : List Str := ["_law_numbers"]
theorem sc_l_settle : FnScope N_l_settle ["_law_numbers"] (defScope s_l_settle) := ⟨rfl, rfl, rfl, by decide +kernel, rfl, by decide +kernel, by decide +kernel⟩
abbrev s_l_inside : Stmt := topS 83
abbrev N_l_inside : List Str := ["_law_ring_z", "_law_realm_z", "_law_a", "_law_b"]
theorem sc_l_inside : FnScope N_l_inside ["_law_ring_z", "_law_realm_z"] (defScope s_l_inside) := ⟨rfl, rfl, rfl, by decide +kernel, rfl, by decide +kernel, by decide +kernel⟩
abbrev s_l_lies : Stmt := topS 84
abbrev N_l_lies : List Str := ["_law_one", "_law_two"]
theorem sc_l_lies : FnScope N_l_lies ["_law_one", "_law_two"] (defScope s_l_lies) := ⟨rfl, rfl, rfl, by decide +kernel, rfl, by decide +kernel, by decide +kernel⟩
abbrev s_l_meet : Stmt := topS 85
abbrev N_l_meet : List Str := ["_law_one", "_law_two"]
theorem sc_l_meet : FnScope N_l_meet ["_law_one", "_law_two"] (defScope s_l_meet) := ⟨rfl, rfl, rfl, by decide +kernel, rfl, by decide +kernel, by decide +kernel⟩
abbrev s_l_log : Stmt := topS 86
abbrev N_l_log : List Str := ["_law_bag_here", "_law_many", "_law_log_here", "_law_rows", "_law_k", "_law_numbers", "_law_way", "_law_due", "_law_got_here"]
theorem sc_l_log : FnScope N_l_log ["_law_bag_here", "_law_many"] (defScope s_l_log) := ⟨rfl, rfl, rfl, by decide +kernel, rfl, by decide +kernel, by decide +kernel⟩
abbrev s_l_wide_realm : Stmt := topS 87
abbrev N_l_wide_realm : List Str := ["_law_bag_here", "_law_size"]
theorem sc_l_wide_realm : FnScope N_l_wide_realm ["_law_bag_here"] (defScope s_l_wide_realm) := ⟨rfl, rfl, rfl, by decide +kernel, rfl, by decide +kernel, by decide +kernel⟩
abbrev s_l_meets : Stmt := topS 88
abbrev N_l_meets : List Str := ["_law_rows", "_law_found", "_law_number", "_law_realm_here", "_law_way"]
theorem sc_l_meets : FnScope N_l_meets ["_law_rows"] (defScope s_l_meets) := ⟨rfl, rfl, rfl, by decide +kernel, rfl, by decide +kernel, by decide +kernel⟩
abbrev s_l_refusal : Stmt := topS 89
abbrev N_l_refusal : List Str := ["_law_rows", "_law_numbers", "_law_way", "_law_meet_here", "_law_late", "_law_wrong", "_law_number", "_law_realm_here", "_law_kind_z"]
theorem sc_l_refusal : FnScope N_l_refusal ["_law_rows", "_law_numbers", "_law_way"] (defScope s_l_refusal) := ⟨rfl, rfl, rfl, by decide +kernel, rfl, by decide +kernel, by decide +kernel⟩
abbrev s_law : Stmt := topS 90
abbrev N_law : List Str := ["_law_script", "_law_bag_here", "_law_made", "_law_log_here", "_law_rows", "_law_idle", "_law_drawn", "_law_k", "_law_number", "_law_realm_here", "_law_way", "_law_late", "_law_asked", "_law_one", "_law_same_here"]
theorem sc_law : FnScope N_law ["_law_script"] (defScope s_law) := ⟨rfl, rfl, rfl, by decide +kernel, rfl, by decide +kernel, by decide +kernel⟩
abbrev s_InvalidNumber_init : Stmt := inClass (topS 5) 0
abbrev s_InvalidThing_init : Stmt := inClass (topS 6) 0
abbrev s_InvalidRing_init : Stmt := inClass (topS 7) 0
abbrev s_NoInverse_init : Stmt := inClass (topS 8) 0
abbrev s_TooMany_init : Stmt := inClass (topS 9) 0
abbrev s_TooGreat_init : Stmt := inClass (topS 10) 0
abbrev s_EmptyRealm_init : Stmt := inClass (topS 11) 0
abbrev s_Unsound_init : Stmt := inClass (topS 12) 0
abbrev s_Full_init : Stmt := inClass (topS 13) 0
abbrev s_UnknownNumber_init : Stmt := inClass (topS 14) 0
abbrev s_NothingLeft_init : Stmt := inClass (topS 15) 0
abbrev s_Ring_init : Stmt := inClass (topS 34) 2
abbrev s_Ring_ones : Stmt := inClass (topS 34) 3
abbrev s_Ring_swaps : Stmt := inClass (topS 34) 4
abbrev s_Ring_squares : Stmt := inClass (topS 34) 5
abbrev s_Ring_depth : Stmt := inClass (topS 34) 6
abbrev s_Ring_text : Stmt := inClass (topS 34) 7
abbrev s_Ring_has_inverse : Stmt := inClass (topS 34) 8
abbrev s_Ring_size : Stmt := inClass (topS 34) 9
abbrev s_Ring_is_thing : Stmt := inClass (topS 34) 10
abbrev s_Ring_zero : Stmt := inClass (topS 34) 11
abbrev s_Ring_one : Stmt := inClass (topS 34) 12
abbrev s_Ring_plus : Stmt := inClass (topS 34) 13
abbrev s_Ring_minus : Stmt := inClass (topS 34) 14
abbrev s_Ring_product : Stmt := inClass (topS 34) 15
abbrev s_Ring_negative : Stmt := inClass (topS 34) 16
abbrev s_Ring_times : Stmt := inClass (topS 34) 17
abbrev s_Ring_share : Stmt := inClass (topS 34) 18
abbrev s_Ring_square_breaker : Stmt := inClass (topS 34) 19
abbrev s_Ring_swap_breaker : Stmt := inClass (topS 34) 20
abbrev s_Ring_things : Stmt := inClass (topS 34) 21
abbrev s_Ring_eq : Stmt := inClass (topS 34) 22
abbrev s_Ring_repr : Stmt := inClass (topS 34) 23
abbrev s_Ring__check : Stmt := inClass (topS 34) 24
abbrev s_Ring__minus : Stmt := inClass (topS 34) 25
abbrev s_Ring__scaled : Stmt := inClass (topS 34) 26
abbrev s_Ring__swap_samples : Stmt := inClass (topS 34) 27
abbrev s_Shares_size : Stmt := inClass (topS 38) 0
abbrev s_Shares__plus : Stmt := inClass (topS 38) 1
abbrev s_Shares__product : Stmt := inClass (topS 38) 2
abbrev s_Shares__times : Stmt := inClass (topS 38) 3
abbrev s_Shares__share : Stmt := inClass (topS 38) 4
abbrev s_Shares__square_samples : Stmt := inClass (topS 38) 5
abbrev s_Whole_init : Stmt := inClass (topS 39) 0
abbrev s_Whole_has_inverse : Stmt := inClass (topS 39) 1
abbrev s_Whole_is_thing : Stmt := inClass (topS 39) 2
abbrev s_Whole__has_rests : Stmt := inClass (topS 39) 3
abbrev s_Whole__rest : Stmt := inClass (topS 39) 4
abbrev s_Rests_init : Stmt := inClass (topS 40) 0
abbrev s_Rests_size : Stmt := inClass (topS 40) 1
abbrev s_Rests_is_thing : Stmt := inClass (topS 40) 2
abbrev s_Rests__plus : Stmt := inClass (topS 40) 3
abbrev s_Rests__product : Stmt := inClass (topS 40) 4
abbrev s_Rests__times : Stmt := inClass (topS 40) 5
abbrev s_Rests__share : Stmt := inClass (topS 40) 6
abbrev s_Rests__has_rests : Stmt := inClass (topS 40) 7
abbrev s_Rests__rest : Stmt := inClass (topS 40) 8
abbrev s_Rests__listing : Stmt := inClass (topS 40) 9
abbrev s_Rests__square_samples : Stmt := inClass (topS 40) 10
abbrev s_Slotwise_init : Stmt := inClass (topS 44) 0
abbrev s_Slotwise_size : Stmt := inClass (topS 44) 1
abbrev s_Slotwise_is_thing : Stmt := inClass (topS 44) 2
abbrev s_Slotwise__plus : Stmt := inClass (topS 44) 3
abbrev s_Slotwise__times : Stmt := inClass (topS 44) 4
abbrev s_Slotwise__share : Stmt := inClass (topS 44) 5
abbrev s_Slotwise__listing : Stmt := inClass (topS 44) 6
abbrev s_Slotwise__placed : Stmt := inClass (topS 44) 7
abbrev s_Slotwise__unit : Stmt := inClass (topS 44) 8
abbrev s_Matrices_init : Stmt := inClass (topS 46) 0
abbrev s_Matrices_size : Stmt := inClass (topS 46) 1
abbrev s_Matrices_is_thing : Stmt := inClass (topS 46) 2
abbrev s_Matrices__is_row : Stmt := inClass (topS 46) 3
abbrev s_Matrices__plus : Stmt := inClass (topS 46) 4
abbrev s_Matrices__product : Stmt := inClass (topS 46) 5
abbrev s_Matrices__joined : Stmt := inClass (topS 46) 6
abbrev s_Matrices__times : Stmt := inClass (topS 46) 7
abbrev s_Matrices__share : Stmt := inClass (topS 46) 8
abbrev s_Matrices__unit : Stmt := inClass (topS 46) 9
abbrev s_Matrices__listing : Stmt := inClass (topS 46) 10
abbrev s_Matrices__square_samples : Stmt := inClass (topS 46) 11
abbrev s_Matrices__swap_samples : Stmt := inClass (topS 46) 12
abbrev s_Pairs_init : Stmt := inClass (topS 49) 0
abbrev s_Pairs__product : Stmt := inClass (topS 49) 1
abbrev s_Pairs__square_samples : Stmt := inClass (topS 49) 2
abbrev s_Pairs__swap_samples : Stmt := inClass (topS 49) 3
abbrev s_Twists_init : Stmt := inClass (topS 50) 0
abbrev s_Twists_size : Stmt := inClass (topS 50) 1
abbrev s_Twists_is_thing : Stmt := inClass (topS 50) 2
abbrev s_Twists__plus : Stmt := inClass (topS 50) 3
abbrev s_Twists__product : Stmt := inClass (topS 50) 4
abbrev s_Twists__rest : Stmt := inClass (topS 50) 5
abbrev s_Twists__times : Stmt := inClass (topS 50) 6
abbrev s_Twists__share : Stmt := inClass (topS 50) 7
abbrev s_Twists__listing : Stmt := inClass (topS 50) 8
abbrev s_Twists__square_samples : Stmt := inClass (topS 50) 9
abbrev s_Twists__swap_samples : Stmt := inClass (topS 50) 10
abbrev s_Realm_init : Stmt := inClass (topS 55) 0
abbrev s_Realm_everywhere : Stmt := inClass (topS 55) 1
abbrev s_Realm_commuting : Stmt := inClass (topS 55) 2
abbrev s_Realm_nowhere : Stmt := inClass (topS 55) 3
abbrev s_Realm_inverse : Stmt := inClass (topS 55) 4
abbrev s_Realm_ones : Stmt := inClass (topS 55) 5
abbrev s_Realm_swaps : Stmt := inClass (topS 55) 6
abbrev s_Realm_squares : Stmt := inClass (topS 55) 7
abbrev s_Realm_within : Stmt := inClass (topS 55) 8
abbrev s_Realm_has_inverse : Stmt := inClass (topS 55) 9
abbrev s_Realm_sample : Stmt := inClass (topS 55) 10
abbrev s_Realm_contains : Stmt := inClass (topS 55) 11
abbrev s_Realm_and : Stmt := inClass (topS 55) 12
abbrev s_Realm_or : Stmt := inClass (topS 55) 13
abbrev s_Realm_bool : Stmt := inClass (topS 55) 14
abbrev s_Realm_eq : Stmt := inClass (topS 55) 15
abbrev s_Realm_repr : Stmt := inClass (topS 55) 16
abbrev s_Timeline_init : Stmt := inClass (topS 61) 0
abbrev s_Timeline_move : Stmt := inClass (topS 61) 1
abbrev s_Timeline_undo : Stmt := inClass (topS 61) 2
abbrev s_Timeline_redo : Stmt := inClass (topS 61) 3
abbrev s_Timeline_history : Stmt := inClass (topS 61) 4
abbrev s_Timeline_twin : Stmt := inClass (topS 61) 5
abbrev s_Unseen_init : Stmt := inClass (topS 66) 1
abbrev s_Unseen_note : Stmt := inClass (topS 66) 2
abbrev s_Unseen_note_program : Stmt := inClass (topS 66) 3
abbrev s_Unseen__check_space : Stmt := inClass (topS 66) 4
abbrev s_Unseen__check_right : Stmt := inClass (topS 66) 5
abbrev s_Unseen_withdraw : Stmt := inClass (topS 66) 6
abbrev s_Unseen_verdicts : Stmt := inClass (topS 66) 7
abbrev s_Unseen_meet : Stmt := inClass (topS 66) 8
abbrev s_Unseen_judge : Stmt := inClass (topS 66) 9
abbrev s_Unseen_rings : Stmt := inClass (topS 66) 10
abbrev s_Unseen_needless : Stmt := inClass (topS 66) 11
abbrev s_Unseen__is_needless : Stmt := inClass (topS 66) 12
abbrev s_Unseen_walk : Stmt := inClass (topS 66) 13
abbrev s_Unseen_undo : Stmt := inClass (topS 66) 14
abbrev s_Unseen_redo : Stmt := inClass (topS 66) 15
abbrev s_Unseen_history : Stmt := inClass (topS 66) 16
abbrev s_Unseen_twin : Stmt := inClass (topS 66) 17
abbrev s_Unseen_len : Stmt := inClass (topS 66) 18
abbrev s_Unseen_eq : Stmt := inClass (topS 66) 19
abbrev s_Unseen_repr : Stmt := inClass (topS 66) 20
abbrev s_Unseen__count : Stmt := inClass (topS 66) 21
abbrev N_Realm_init : List Str := ["self", "inverse", "ones", "swaps", "squares", "primes", "number"]
theorem sc_Realm_init : FnScope N_Realm_init ["self", "inverse", "ones", "swaps", "squares"] (defScope s_Realm_init) := ⟨rfl, rfl, rfl, by decide +kernel, rfl, by decide +kernel, by decide +kernel⟩
abbrev N_Realm_everywhere : List Str := []
theorem sc_Realm_everywhere : FnScope N_Realm_everywhere [] (defScope s_Realm_everywhere) := ⟨rfl, rfl, rfl, by decide +kernel, rfl, by decide +kernel, by decide +kernel⟩
abbrev N_Realm_commuting : List Str := []
theorem sc_Realm_commuting : FnScope N_Realm_commuting [] (defScope s_Realm_commuting) := ⟨rfl, rfl, rfl, by decide +kernel, rfl, by decide +kernel, by decide +kernel⟩
abbrev N_Realm_nowhere : List Str := []
theorem sc_Realm_nowhere : FnScope N_Realm_nowhere [] (defScope s_Realm_nowhere) := ⟨rfl, rfl, rfl, by decide +kernel, rfl, by decide +kernel, by decide +kernel⟩
abbrev N_Realm_inverse : List Str := ["self"]
theorem sc_Realm_inverse : FnScope N_Realm_inverse ["self"] (defScope s_Realm_inverse) := ⟨rfl, rfl, rfl, by decide +kernel, rfl, by decide +kernel, by decide +kernel⟩
abbrev N_Realm_ones : List Str := ["self"]
theorem sc_Realm_ones : FnScope N_Realm_ones ["self"] (defScope s_Realm_ones) := ⟨rfl, rfl, rfl, by decide +kernel, rfl, by decide +kernel, by decide +kernel⟩
abbrev N_Realm_swaps : List Str := ["self"]
theorem sc_Realm_swaps : FnScope N_Realm_swaps ["self"] (defScope s_Realm_swaps) := ⟨rfl, rfl, rfl, by decide +kernel, rfl, by decide +kernel, by decide +kernel⟩
abbrev N_Realm_squares : List Str := ["self"]
theorem sc_Realm_squares : FnScope N_Realm_squares ["self"] (defScope s_Realm_squares) := ⟨rfl, rfl, rfl, by decide +kernel, rfl, by decide +kernel, by decide +kernel⟩
abbrev N_Realm_within : List Str := ["self", "other"]
theorem sc_Realm_within : FnScope N_Realm_within ["self", "other"] (defScope s_Realm_within) := ⟨rfl, rfl, rfl, by decide +kernel, rfl, by decide +kernel, by decide +kernel⟩
abbrev N_Realm_has_inverse : List Str := ["self", "q"]
theorem sc_Realm_has_inverse : FnScope N_Realm_has_inverse ["self", "q"] (defScope s_Realm_has_inverse) := ⟨rfl, rfl, rfl, by decide +kernel, rfl, by decide +kernel, by decide +kernel⟩
abbrev N_Realm_sample : List Str := ["self"]
theorem sc_Realm_sample : FnScope N_Realm_sample ["self"] (defScope s_Realm_sample) := ⟨rfl, rfl, rfl, by decide +kernel, rfl, by decide +kernel, by decide +kernel⟩
abbrev N_Realm_contains : List Str := ["self", "x"]
theorem sc_Realm_contains : FnScope N_Realm_contains ["self", "x"] (defScope s_Realm_contains) := ⟨rfl, rfl, rfl, by decide +kernel, rfl, by decide +kernel, by decide +kernel⟩
abbrev N_Realm_and : List Str := ["self", "other"]
theorem sc_Realm_and : FnScope N_Realm_and ["self", "other"] (defScope s_Realm_and) := ⟨rfl, rfl, rfl, by decide +kernel, rfl, by decide +kernel, by decide +kernel⟩
abbrev N_Realm_or : List Str := ["self", "other"]
theorem sc_Realm_or : FnScope N_Realm_or ["self", "other"] (defScope s_Realm_or) := ⟨rfl, rfl, rfl, by decide +kernel, rfl, by decide +kernel, by decide +kernel⟩
abbrev N_Realm_bool : List Str := ["self"]
theorem sc_Realm_bool : FnScope N_Realm_bool ["self"] (defScope s_Realm_bool) := ⟨rfl, rfl, rfl, by decide +kernel, rfl, by decide +kernel, by decide +kernel⟩
abbrev N_Realm_eq : List Str := ["self", "other"]
theorem sc_Realm_eq : FnScope N_Realm_eq ["self", "other"] (defScope s_Realm_eq) := ⟨rfl, rfl, rfl, by decide +kernel, rfl, by decide +kernel, by decide +kernel⟩
abbrev N_Realm_repr : List Str := ["self"]
theorem sc_Realm_repr : FnScope N_Realm_repr ["self"] (defScope s_Realm_repr) := ⟨rfl, rfl, rfl, by decide +kernel, rfl, by decide +kernel, by decide +kernel⟩
abbrev N_Timeline_init : List Str := ["self", "state"]
theorem sc_Timeline_init : FnScope N_Timeline_init ["self", "state"] (defScope s_Timeline_init) := ⟨rfl, rfl, rfl, by decide +kernel, rfl, by decide +kernel, by decide +kernel⟩
abbrev N_Timeline_move : List Str := ["self", "state"]
theorem sc_Timeline_move : FnScope N_Timeline_move ["self", "state"] (defScope s_Timeline_move) := ⟨rfl, rfl, rfl, by decide +kernel, rfl, by decide +kernel, by decide +kernel⟩
abbrev N_Timeline_undo : List Str := ["self"]
theorem sc_Timeline_undo : FnScope N_Timeline_undo ["self"] (defScope s_Timeline_undo) := ⟨rfl, rfl, rfl, by decide +kernel, rfl, by decide +kernel, by decide +kernel⟩
abbrev N_Timeline_redo : List Str := ["self"]
theorem sc_Timeline_redo : FnScope N_Timeline_redo ["self"] (defScope s_Timeline_redo) := ⟨rfl, rfl, rfl, by decide +kernel, rfl, by decide +kernel, by decide +kernel⟩
abbrev N_Timeline_history : List Str := ["self"]
theorem sc_Timeline_history : FnScope N_Timeline_history ["self"] (defScope s_Timeline_history) := ⟨rfl, rfl, rfl, by decide +kernel, rfl, by decide +kernel, by decide +kernel⟩
abbrev N_Timeline_twin : List Str := ["self", "made"]
theorem sc_Timeline_twin : FnScope N_Timeline_twin ["self"] (defScope s_Timeline_twin) := ⟨rfl, rfl, rfl, by decide +kernel, rfl, by decide +kernel, by decide +kernel⟩
abbrev N_Unseen_init : List Str := ["self"]
theorem sc_Unseen_init : FnScope N_Unseen_init ["self"] (defScope s_Unseen_init) := ⟨rfl, rfl, rfl, by decide +kernel, rfl, by decide +kernel, by decide +kernel⟩
abbrev N_Unseen_note : List Str := ["self", "realm", "right", "verdicts", "number"]
theorem sc_Unseen_note : FnScope N_Unseen_note ["self", "realm", "right"] (defScope s_Unseen_note) := ⟨rfl, rfl, rfl, by decide +kernel, rfl, by decide +kernel, by decide +kernel⟩
abbrev N_Unseen_note_program : List Str := ["self", "program", "wish", "right"]
theorem sc_Unseen_note_program : FnScope N_Unseen_note_program ["self", "program", "wish", "right"] (defScope s_Unseen_note_program) := ⟨rfl, rfl, rfl, by decide +kernel, rfl, by decide +kernel, by decide +kernel⟩
abbrev N_Unseen__check_space : List Str := ["self"]
theorem sc_Unseen__check_space : FnScope N_Unseen__check_space ["self"] (defScope s_Unseen__check_space) := ⟨rfl, rfl, rfl, by decide +kernel, rfl, by decide +kernel, by decide +kernel⟩
abbrev N_Unseen__check_right : List Str := ["self", "realm", "meet", "number", "other", "right"]
theorem sc_Unseen__check_right : FnScope N_Unseen__check_right ["self", "realm"] (defScope s_Unseen__check_right) := ⟨rfl, rfl, rfl, by decide +kernel, rfl, by decide +kernel, by decide +kernel⟩
abbrev N_Unseen_withdraw : List Str := ["self", "number", "verdicts", "free", "verdict"]
theorem sc_Unseen_withdraw : FnScope N_Unseen_withdraw ["self", "number"] (defScope s_Unseen_withdraw) := ⟨rfl, rfl, rfl, by decide +kernel, rfl, by decide +kernel, by decide +kernel⟩
abbrev N_Unseen_verdicts : List Str := ["self"]
theorem sc_Unseen_verdicts : FnScope N_Unseen_verdicts ["self"] (defScope s_Unseen_verdicts) := ⟨rfl, rfl, rfl, by decide +kernel, rfl, by decide +kernel, by decide +kernel⟩
abbrev N_Unseen_meet : List Str := ["self"]
theorem sc_Unseen_meet : FnScope N_Unseen_meet ["self"] (defScope s_Unseen_meet) := ⟨rfl, rfl, rfl, by decide +kernel, rfl, by decide +kernel, by decide +kernel⟩
abbrev N_Unseen_judge : List Str := ["self", "realm", "meet", "part"]
theorem sc_Unseen_judge : FnScope N_Unseen_judge ["self", "realm"] (defScope s_Unseen_judge) := ⟨rfl, rfl, rfl, by decide +kernel, rfl, by decide +kernel, by decide +kernel⟩
abbrev N_Unseen_rings : List Str := ["self", "realm", "meet", "told", "inside", "outside"]
theorem sc_Unseen_rings : FnScope N_Unseen_rings ["self", "realm"] (defScope s_Unseen_rings) := ⟨rfl, rfl, rfl, by decide +kernel, rfl, by decide +kernel, by decide +kernel⟩
abbrev N_Unseen_needless : List Str := ["self", "verdicts", "verdict"]
theorem sc_Unseen_needless : FnScope N_Unseen_needless ["self"] (defScope s_Unseen_needless) := ⟨rfl, rfl, rfl, by decide +kernel, rfl, by decide +kernel, by decide +kernel⟩
abbrev N_Unseen__is_needless : List Str := ["self", "verdict", "meet", "number", "realm", "right", "others", "other", "part"]
theorem sc_Unseen__is_needless : FnScope N_Unseen__is_needless ["self", "verdict"] (defScope s_Unseen__is_needless) := ⟨rfl, rfl, rfl, by decide +kernel, rfl, by decide +kernel, by decide +kernel⟩
abbrev N_Unseen_walk : List Str := ["self", "right"]
theorem sc_Unseen_walk : FnScope N_Unseen_walk ["self", "right"] (defScope s_Unseen_walk) := ⟨rfl, rfl, rfl, by decide +kernel, rfl, by decide +kernel, by decide +kernel⟩
abbrev N_Unseen_undo : List Str := ["self"]
theorem sc_Unseen_undo : FnScope N_Unseen_undo ["self"] (defScope s_Unseen_undo) := ⟨rfl, rfl, rfl, by decide +kernel, rfl, by decide +kernel, by decide +kernel⟩
abbrev N_Unseen_redo : List Str := ["self"]
theorem sc_Unseen_redo : FnScope N_Unseen_redo ["self"] (defScope s_Unseen_redo) := ⟨rfl, rfl, rfl, by decide +kernel, rfl, by decide +kernel, by decide +kernel⟩
abbrev N_Unseen_history : List Str := ["self"]
theorem sc_Unseen_history : FnScope N_Unseen_history ["self"] (defScope s_Unseen_history) := ⟨rfl, rfl, rfl, by decide +kernel, rfl, by decide +kernel, by decide +kernel⟩
abbrev N_Unseen_twin : List Str := ["self", "made"]
theorem sc_Unseen_twin : FnScope N_Unseen_twin ["self"] (defScope s_Unseen_twin) := ⟨rfl, rfl, rfl, by decide +kernel, rfl, by decide +kernel, by decide +kernel⟩
abbrev N_Unseen_len : List Str := ["self"]
theorem sc_Unseen_len : FnScope N_Unseen_len ["self"] (defScope s_Unseen_len) := ⟨rfl, rfl, rfl, by decide +kernel, rfl, by decide +kernel, by decide +kernel⟩
abbrev N_Unseen_eq : List Str := ["self", "other"]
theorem sc_Unseen_eq : FnScope N_Unseen_eq ["self", "other"] (defScope s_Unseen_eq) := ⟨rfl, rfl, rfl, by decide +kernel, rfl, by decide +kernel, by decide +kernel⟩
abbrev N_Unseen_repr : List Str := ["self"]
theorem sc_Unseen_repr : FnScope N_Unseen_repr ["self"] (defScope s_Unseen_repr) := ⟨rfl, rfl, rfl, by decide +kernel, rfl, by decide +kernel, by decide +kernel⟩
abbrev N_Unseen__count : List Str := ["self", "right"]
theorem sc_Unseen__count : FnScope N_Unseen__count ["self", "right"] (defScope s_Unseen__count) := ⟨rfl, rfl, rfl, by decide +kernel, rfl, by decide +kernel, by decide +kernel⟩
structure Blt (mg : Str → Option Value) : Prop where
  IndexError : mg "IndexError" = none
  LookupError : mg "LookupError" = none
  ValueError : mg "ValueError" = none
  abs : mg "abs" = none
  all : mg "all" = none
  any : mg "any" = none
  bool : mg "bool" = none
  divmod : mg "divmod" = none
  enumerate : mg "enumerate" = none
  int : mg "int" = none
  isinstance : mg "isinstance" = none
  len : mg "len" = none
  list : mg "list" = none
  max : mg "max" = none
  range : mg "range" = none
  sorted : mg "sorted" = none
  str : mg "str" = none
  tuple : mg "tuple" = none
  zip : mg "zip" = none
theorem bb_IndexError : bootBuiltins "IndexError" = some (.type "IndexError") := by decide +kernel
theorem bb_LookupError : bootBuiltins "LookupError" = some (.type "LookupError") := by decide +kernel
theorem bb_ValueError : bootBuiltins "ValueError" = some (.type "ValueError") := by decide +kernel
theorem bb_abs : bootBuiltins "abs" = some (.builtin "abs") := by decide +kernel
theorem bb_all : bootBuiltins "all" = some (.builtin "all") := by decide +kernel
theorem bb_any : bootBuiltins "any" = some (.builtin "any") := by decide +kernel
theorem bb_bool : bootBuiltins "bool" = some (.type "bool") := by decide +kernel
theorem bb_divmod : bootBuiltins "divmod" = some (.builtin "divmod") := by decide +kernel
theorem bb_enumerate : bootBuiltins "enumerate" = some (.type "enumerate") := by decide +kernel
theorem bb_int : bootBuiltins "int" = some (.type "int") := by decide +kernel
theorem bb_isinstance : bootBuiltins "isinstance" = some (.builtin "isinstance") := by decide +kernel
theorem bb_len : bootBuiltins "len" = some (.builtin "len") := by decide +kernel
theorem bb_list : bootBuiltins "list" = some (.type "list") := by decide +kernel
theorem bb_max : bootBuiltins "max" = some (.builtin "max") := by decide +kernel
theorem bb_range : bootBuiltins "range" = some (.type "range") := by decide +kernel
theorem bb_sorted : bootBuiltins "sorted" = some (.builtin "sorted") := by decide +kernel
theorem bb_str : bootBuiltins "str" = some (.type "str") := by decide +kernel
theorem bb_tuple : bootBuiltins "tuple" = some (.type "tuple") := by decide +kernel
theorem bb_zip : bootBuiltins "zip" = some (.type "zip") := by decide +kernel
/-! ### an own def by its name -/
structure Has (P : Program) (w : World) (K : PySem.W.Frag) (mg : Str → Option Value) (base : Heap) (k : Nat) (x : Str) (ps : List Str) (sp : Sp) : Prop where
  ex : ∃ (f : Addr) (fd : FuncData), FnOk P w K mg base CX0 k f fd ps sp ∧ mg x = some (.ref f) ∧ PySem.W.keepIn K (.ref f) = true ∧ Binds K fd ps []
structure Fn (K : PySem.W.Frag) (mg : Str → Option Value) (x : Str) (st : Stmt) (ps : List Str) : Prop where
  ex : ∃ (f : Addr) (fd : FuncData), Fun K x x st f fd ∧ mg x = some (.ref f) ∧ Binds K fd ps []
section
variable {X : Cx} {k : Nat} {x : Str} {ps : List Str} {sp : Sp} {p pos : Pos} {e : Expr} {es : List Expr} {t : TA}
theorem pe_own (h : Has X.prog X.w X.K X.mg X.base k x ps sp) (hr : Room k X.A) (hg : Gl X x) (ha : PA X (e :: es) t) (hdb : (x == ("__debug__" : Str)) = false := by decide)
    (he : starEach (e :: es) X.env = (false, eval e X.env) :: starEach es X.env := by rfl) (hpl : (backTo pos (starEach es X.env)).any (·.1) = false := by rfl) : PE X (.Call (.Name x p) (e :: es) [] pos) (tCall sp [] E0 t) := by
  obtain ⟨f, fd, F, m, kp, b⟩ := h.ex
  exact pe_call F hr hg m kp b .nil pass0 ha hdb he hpl
theorem pe_own0 (h : Has X.prog X.w X.K X.mg X.base k x ps sp) (hr : Room k X.A) (hg : Gl X x) (hdb : (x == ("__debug__" : Str)) = false := by decide) : PE X (.Call (.Name x p) [] [] pos) (tCall sp [] E0 tNil) := by
  obtain ⟨f, fd, F, m, kp, b⟩ := h.ex
  exact pe_call0 F hr hg m kp b .nil pass0 hdb
theorem pe_gstr {z : Str} (h : ∃ u, X.mg x = some (.str z u)) (hg : Gl X x) (hdb : (x == ("__debug__" : Str)) = false := by decide) : PE X (.Name x pos) (tC (.str z)) := by
  obtain ⟨u, h⟩ := h
  exact pe_glob hg h ⟨_, rfl⟩ hdb
theorem pe_gint {z : Int} (h : ∃ u, X.mg x = some (.int z u)) (hg : Gl X x) (hdb : (x == ("__debug__" : Str)) = false := by decide) : PE X (.Name x pos) (tC (.int z)) := by
  obtain ⟨u, h⟩ := h
  exact pe_glob hg h ⟨_, rfl⟩ hdb
theorem pe_gref {a : Addr} (h : X.mg x = some (.ref a)) (hg : Gl X x) (hdb : (x == ("__debug__" : Str)) = false := by decide) : PE X (.Name x pos) (tC (.ref a)) := pe_glob hg h rfl hdb
end
section
variable {P : Program} {w : World} {K : PySem.W.Frag} {mg : Str → Option Value} {base : Heap}
theorem Fn.has {x : Str} {st : Stmt} {N ps : List Str} {k : Nat} {sp : Sp} (F : Fn K mg x st ps) (S : FnScope N ps (defScope st)) (len : ∀ vs H Q E, sp vs H Q E → vs.length = ps.length)
    (hbody : ∀ (f : Addr) (cdv : Value) (A : Around) (outer : List Env) (s : Shared) (H : Hp) (vs : List V) (Q : VK) (E : XK), Room k (A.deeper (envOfC x (defScope st) s.heap.objs.size f cdv)) → sp vs H Q E →
      ∃ t, PSs (cxOf CX0 P w K mg base N x (defScope st) f cdv A outer s H E).nox (defBody st) t ∧ t { nx := fun _ H' => Q .non H', rt := Q } (start N vs) H) : Has P w K mg base (k + 1) x ps sp := by
  obtain ⟨f, fd, F, m, b⟩ := F.ex
  exact ⟨f, fd, F.ok S len (hbody f), m, F.kp, b⟩
end
/-! ### heaps -/
theorem same_upd {H : Hp} {p : Addr} {o : HO} (h : H p = none) : Same H (upd H p o) := fun b x e => by
  rw [upd_ne (ne_of_none e h)]
  exact e
/-- all that was tracked is as it was, but for b -/
def Kp (b : Addr) (H H' : Hp) : Prop := ∀ a o, a ≠ b → H a = some o → H' a = some o
theorem Kp.refl (b : Addr) (H : Hp) : Kp b H H := fun _ _ _ h => h
theorem Kp.trans {b : Addr} {H H1 H2 : Hp} (x : Kp b H H1) (y : Kp b H1 H2) : Kp b H H2 := fun a o n h => y a o n (x a o n h)
theorem Kp.of {b : Addr} {H H' : Hp} (s : Same H H') : Kp b H H' := fun a o _ h => s a o h
theorem Kp.upd {b : Addr} {H : Hp} {o : HO} : Kp b H (upd H b o) := fun a u n h => by rw [upd_ne n]; exact h
/-! ### the bag -/
structure BgAt (H : Hp) (b c : Addr) (ns : List Int) (i r m : Int) : Prop where
  hb : H b = some (.lst [.ref c, .int i, .int r, .int m])
  hc : H c = some (.lst (ns.map V.int))
  len : ns.length ≤ 63
  i0 : 0 ≤ i
  r0 : 0 ≤ r
  m0 : 0 ≤ m
  m1 : m < 2147483648
def Bg (H : Hp) (b c : Addr) : Prop := ∃ ns i r m, BgAt H b c ns i r m
theorem bg_ne {H : Hp} {b c : Addr} {x : V} {r : List V} {ns : List Int} {a : Addr} (hb : H b = some (.lst (.ref a :: r))) (hc : H c = some (.lst (ns.map V.int))) : c ≠ b := by
  refine ne_of hc hb fun e => ?_
  cases ns with
  | nil => cases e
  | cons n t => cases e
theorem BgAt.ne {H : Hp} {b c : Addr} {ns : List Int} {i r m : Int} (h : BgAt H b c ns i r m) : c ≠ b := bg_ne (x := .non) h.hb h.hc
theorem BgAt.put {H : Hp} {b c : Addr} {ns : List Int} {i r m i' r' m' : Int} (h : BgAt H b c ns i r m) (i0 : 0 ≤ i') (r0 : 0 ≤ r') (m0 : 0 ≤ m') (m1 : m' < 2147483648) :
    BgAt (upd H b (.lst [.ref c, .int i', .int r', .int m'])) b c ns i' r' m' := ⟨upd_same, by rw [upd_ne h.ne]; exact h.hc, h.len, i0, r0, m0, m1⟩
theorem Bg.same {H H' : Hp} {b c : Addr} (h : Bg H b c) (s : Same H H') : Bg H' b c := by
  obtain ⟨ns, i, r, m, h⟩ := h
  exact ⟨ns, i, r, m, s _ _ h.hb, s _ _ h.hc, h.len, h.i0, h.r0, h.m0, h.m1⟩
theorem Bg.kp {H H' : Hp} {b c d : Addr} (h : Bg H b c) (hd : d ≠ b) (hc : d ≠ c) (s : Kp d H H') : Bg H' b c := by
  obtain ⟨ns, i, r, m, h⟩ := h
  exact ⟨ns, i, r, m, s _ _ hd.symm h.hb, s _ _ hc.symm h.hc, h.len, h.i0, h.r0, h.m0, h.m1⟩
theorem cut63 {xs : List V} (h : xs.length ≤ 63) : cutV xs none (some 63) = xs := by
  unfold cutV
  rw [HT.sIx_none, show HT.sIx xs.length xs.length (some 63) = min 63 xs.length from HT.sIx_nat xs.length xs.length 63, List.drop_zero, Nat.sub_zero]
  exact List.take_of_length_le (by omega)
theorem at_ofG {α : Type} {xs : List α} {z : Int} {j : Nat} {v : α} (e : z = (j : Int)) (h : xs[j]? = some v) : atI xs z = some v := by
  rw [e]
  exact atI_nat h
def spBag (K : PySem.W.Frag) : Sp := fun vs H Q _ => ∃ (a : Addr) (ns : List Int), vs = [.ref a] ∧ SqL K H a (ns.map V.int) ∧ ns.length ≤ 63 ∧ ∀ (b c : Addr) (H' : Hp), Same H H' → H b = none → Bg H' b c → Q (.ref b) H'
def spDraw : Sp := fun vs H Q _ => ∃ (b c : Addr) (many : Int), vs = [.ref b, .int many] ∧ Bg H b c ∧ 1 ≤ many ∧ many < 2 ^ 200 ∧ ∀ (v : Int) (H' : Hp), 0 ≤ v → v < many → Kp b H H' → Bg H' b c → Q (.int v) H'
section
variable {P : Program} {w : World} {K : PySem.W.Frag} {mg : Str → Option Value} {base : Heap}
theorem ok_bag (F : Fn K mg "_law_bag" s_l_bag ["_law_script"]) (B : Blt mg) : Has P w K mg base 1 "_law_bag" ["_law_script"] (spBag K) := by
  refine F.has sc_l_bag (fun vs H Q E h => ?_) (fun f cdv A outer s H vs Q E hr h => ?_)
  · obtain ⟨a, ns, rfl, _⟩ := h
    rfl
  obtain ⟨a, ns, rfl, hS, hl, q⟩ := h
  refine ⟨_, (pss_cons (ps_set (i := 1) sc_l_bag.nd rfl (Or.inl rfl) (pe_callTy call_list_of (by rfl) B.list bb_list (pa_cons (pe_slice sl_list (pv 0) po_none (po_some pe_int)) pa_nil)))
      (pss_one (ps_ret (pe_lst (pa_cons (pv 1) (pa_cons pe_int (pa_cons pe_int (pa_cons (pe_op op_add pe_int (pe_op op_mul pe_int (pe_callB call_len (by rfl) B.len bb_len (pa_cons (pv 1) pa_nil)))) pa_nil)))))))), ?_⟩
  have hl' : (ns.map V.int).length ≤ 63 := by rw [List.length_map]; exact hl
  refine ⟨_, rfl, 63, rfl, a, _, rfl, hS, fun p hp => ?_⟩
  rw [cut63 hl']
  refine ⟨p, _, rfl, .inl (SqL.of upd_same), fun c hc => ?_⟩
  have sm : Same H (upd (upd H p (.lst (ns.map V.int))) c (.lst (ns.map V.int))) := (same_upd hp).trans (same_upd hc)
  refine ⟨_, rfl, _, rfl, .ref c, _, rfl, .inl ⟨_, SqL.of upd_same, rfl⟩, _, _, rfl, rfl, .inl ⟨by decide, by decide⟩, _, _, rfl, rfl, (by show 4 ≤ sizeLine; decide), fun b hb => ?_⟩
  refine q b c _ (sm.trans (same_upd hb)) (sm.free hb) ⟨ns, 0, 0, _, upd_same, ?_, hl, Int.le_refl _, Int.le_refl _, ?_, ?_⟩
  · rw [upd_ne (ne_of_none upd_same hb)]
    exact upd_same
  · omega
  · rw [List.length_map]
    omega
theorem div200 {y z : Int} (h : 1 ≤ z) (h2 : z < 2 ^ 200) : CDivW y z := by
  refine wide_div (b := 200) (by omega) ?_ (by decide) (by decide)
  omega
theorem ok_draw (F : Fn K mg "_law_draw" s_l_draw ["_law_bag_here", "_law_many"]) (B : Blt mg) : Has P w K mg base 1 "_law_draw" ["_law_bag_here", "_law_many"] spDraw := by
  refine F.has sc_l_draw (fun vs H Q E h => ?_) (fun f cdv A outer s H vs Q E hr h => ?_)
  · obtain ⟨a, c, ns, rfl, _⟩ := h
    rfl
  obtain ⟨b, c, many, rfl, hB, h1, h2, q⟩ := h
  refine ⟨_, (C8.pss_cut (ps_if (PW.pt (pw_and (pt_cmpR op_eq (pe_ix ix_list (pv 0) pe_int (fun _ _ => rfl)) pe_int (nomark _)) (pw_and1 (pt_cmpR op_lt (pe_ix ix_list (pv 0) pe_int (fun _ _ => rfl)) (pe_callB call_len (by rfl) B.len bb_len (pa_cons (pe_ix ix_list (pv 0) pe_int (fun _ _ => rfl)) pa_nil)) (nomark _)))))
        (pss_cons (ps_set (i := 2) sc_l_draw.nd rfl (Or.inl rfl) (pe_ix ix_list (pe_ix ix_list (pv 0) pe_int (fun _ _ => rfl)) (pe_ix ix_list (pv 0) pe_int (fun _ _ => rfl)) (fun _ _ => rfl)))
      (pss_cons (ps_asg (pe_op op_add (pe_ix ix_list (pv 0) pe_int (fun _ _ => rfl)) pe_int) (pg_sub (pv 0) pe_int set_list))
      (pss_one (ps_if (pt_cmpR op_ge (pe_callB call_abs (by rfl) B.abs bb_abs (pa_cons (pv 2) pa_nil)) (pe_op op_pow pe_int pe_int) (nomark _))
        (pss_one (ps_asg (pe_callB call_abs (by rfl) B.abs bb_abs (pa_cons (pv 2) pa_nil)) (pg_sub (pv 0) pe_int set_list)))
        (pss_one (ps_asg (pe_op op_mod (pe_callTy call_int1 (by rfl) B.int bb_int (pa_cons (pe_op op_add (pe_op op_add (pe_op op_mul (pe_ix ix_list (pv 0) pe_int (fun _ _ => rfl)) pe_int) (pe_op op_mul (pe_op op_mod (pe_callTy call_int1 (by rfl) B.int bb_int (pa_cons (pv 2) pa_nil)) pe_int) pe_int)) pe_int) pa_nil)) pe_int) (pg_sub (pv 0) pe_int set_list)))))))
        pss_nil)
      (pss_cons (ps_if (pt_cmpR op_gt (pe_ix ix_list (pv 0) pe_int (fun _ _ => rfl)) pe_int (nomark _))
        (pss_cons (ps_set (i := 3) sc_l_draw.nd rfl (Or.inl rfl) (pe_op op_mod (pe_callTy call_int1 (by rfl) B.int bb_int (pa_cons (pe_ix ix_list (pv 0) pe_int (fun _ _ => rfl)) pa_nil)) (pv 1)))
      (pss_cons (ps_asg (pe_op op_fdivW (pe_ix ix_list (pv 0) pe_int (fun _ _ => rfl)) (pv 1)) (pg_sub (pv 0) pe_int set_list))
      (pss_one (ps_ret (pv 3)))))
        pss_nil)
      (pss_cons (ps_asg (pe_op op_mod (pe_callTy call_int1 (by rfl) B.int bb_int (pa_cons (pe_op op_add (pe_op op_add (pe_op op_mul (pe_op op_mul (pe_ix ix_list (pv 0) pe_int (fun _ _ => rfl)) (pe_ix ix_list (pv 0) pe_int (fun _ _ => rfl))) pe_int) (pe_op op_mul (pe_ix ix_list (pv 0) pe_int (fun _ _ => rfl)) pe_int)) pe_int) pa_nil)) pe_int) (pg_sub (pv 0) pe_int set_list))
      (pss_one (ps_ret (pe_op op_mod (pe_callTy call_int1 (by rfl) B.int bb_int (pa_cons (pe_op op_fdiv (pe_ix ix_list (pv 0) pe_int (fun _ _ => rfl)) pe_int) pa_nil)) (pv 1))))))), ?_⟩
  refine ⟨fun σ' H' => ∃ y, σ' = [some (.ref b), some (.int many), y, none] ∧ Kp b H H' ∧ Bg H' b c, ?_, ?_⟩
  · obtain ⟨ns, i, r, m, g⟩ := hB
    refine ⟨_, rfl, b, _, 2, _, rfl, rfl, SqL.of g.hb, atI_nat (j := 2) rfl, rfl, _, rfl, ite2 (fun e => ?_) (fun e => ?_)⟩
    · refine ⟨_, rfl, b, _, 1, _, rfl, rfl, SqL.of g.hb, atI_nat (j := 1) rfl, _, rfl, b, _, 0, _, rfl, rfl, SqL.of g.hb, atI_nat (j := 0) rfl, .ref c, _, rfl, .inl ⟨_, SqL.of g.hc, rfl⟩, _, _, rfl, rfl, _, rfl, ite2 (fun e2 => ?_) (fun e2 => ?_)⟩
      · have hi : i < ((ns.map V.int).length : Int) := of_decide_eq_true e2
        rw [List.length_map] at hi
        have i0 := g.i0
        obtain ⟨x, hx⟩ : ∃ x : Int, atI (ns.map V.int) i = some (.int x) := by
          have hk : i.toNat < ns.length := by omega
          have ek : i = ((i.toNat : Nat) : Int) := by omega
          exact ⟨ns[i.toNat], at_of ek (by rw [List.getElem?_map]; simp [hk])⟩
        refine ⟨_, rfl, b, _, 0, _, rfl, rfl, SqL.of g.hb, atI_nat (j := 0) rfl, _, rfl, b, _, 1, _, rfl, rfl, SqL.of g.hb, atI_nat (j := 1) rfl, c, _, i, .int x, rfl, rfl, SqL.of g.hc, hx, ?_⟩
        refine ⟨_, rfl, b, _, 1, _, rfl, rfl, SqL.of g.hb, atI_nat (j := 1) rfl, _, _, rfl, rfl, _, rfl, b, _, 1, 1, rfl, rfl, g.hb, rfl, ?_⟩
        have g1 := g.put (i' := i + 1) (r' := r) (m' := m) (by omega) g.r0 g.m0 g.m1
        refine ⟨_, rfl, x, rfl, _, _, rfl, rfl, ⟨by decide, by decide, by decide⟩, _, _, rfl, rfl, _, rfl, ite2 (fun e3 => ?_) (fun e3 => ?_)⟩
        · refine ⟨_, rfl, x, rfl, _, rfl, b, _, 2, 2, rfl, rfl, g1.hb, rfl, ?_⟩
          refine ⟨_, rfl, Kp.upd.trans Kp.upd, ns, i + 1, _, m, g1.put g1.i0 ?_ g1.m0 g1.m1⟩
          split <;> omega
        · refine ⟨_, rfl, b, _, 3, _, rfl, rfl, SqL.of g1.hb, atI_nat (j := 3) rfl, _, _, rfl, rfl, .inr ⟨by decide, by decide⟩, _, rfl, .inl ⟨_, rfl, _, _, rfl, rfl, (show (0 : Int) < 1000171 by decide), _, _, rfl, rfl, .inr ⟨by decide, by decide⟩, _, _, rfl, rfl, _, _, rfl, rfl, .inl ⟨_, rfl, _, _, rfl, rfl, (show (0 : Int) < 2147483563 by decide), _, rfl, b, _, 3, 3, rfl, rfl, g1.hb, rfl, ?_⟩⟩⟩
          refine ⟨_, rfl, Kp.upd.trans Kp.upd, ns, i + 1, r, _, g1.put g1.i0 g1.r0 (Int.emod_nonneg _ (by decide)) ?_⟩
          have z := Int.emod_lt_of_pos (m * 41177 + x % 1000171 * 907 + 59) (show (0 : Int) < 2147483563 by decide)
          omega
      · exact ⟨_, rfl, Kp.refl _ _, ns, i, r, m, g⟩
    · exact ⟨_, rfl, Kp.refl _ _, ns, i, r, m, g⟩
  · rintro σ' H' ⟨y, rfl, kp, ns, i, r, m, g⟩
    refine ⟨_, rfl, b, _, 2, _, rfl, rfl, SqL.of g.hb, atI_nat (j := 2) rfl, _, _, rfl, rfl, _, rfl, ite2 (fun e => ?_) (fun e => ?_)⟩
    · have hm : 0 < many := by omega
      refine ⟨_, rfl, b, _, 2, _, rfl, rfl, SqL.of g.hb, atI_nat (j := 2) rfl, .inl ⟨_, rfl, _, rfl, _, _, rfl, rfl, hm, ?_⟩⟩
      refine ⟨_, rfl, b, _, 2, _, rfl, rfl, SqL.of g.hb, atI_nat (j := 2) rfl, _, rfl, _, _, rfl, rfl, div200 h1 h2, _, rfl, b, _, 2, 2, rfl, rfl, g.hb, rfl, ?_⟩
      have g1 := g.put (i' := i) (r' := r / many) (m' := m) g.i0 (Int.ediv_nonneg g.r0 (by omega)) g.m0 g.m1
      refine ⟨_, rfl, q _ _ (Int.emod_nonneg _ (by omega)) (Int.emod_lt_of_pos _ hm) (kp.trans Kp.upd) ⟨ns, i, _, m, g1⟩⟩
    · refine ⟨_, rfl, b, _, 3, _, rfl, rfl, SqL.of g.hb, atI_nat (j := 3) rfl, _, rfl, b, _, 3, _, rfl, rfl, SqL.of g.hb, atI_nat (j := 3) rfl, _, _, rfl, rfl, ?_, ?_⟩
      · have h3 := g.m0
        have h4 := g.m1
        exact .inl ⟨by omega, by omega⟩
      · refine ⟨_, _, rfl, rfl, .inr ⟨by decide, by decide⟩, _, rfl, b, _, 3, _, rfl, rfl, SqL.of g.hb, atI_nat (j := 3) rfl, _, _, rfl, rfl, .inr ⟨by decide, by decide⟩, _, _, rfl, rfl, _, _, rfl, rfl, .inl ⟨_, rfl, _, _, rfl, rfl, (show (0 : Int) < 2147483579 by decide), _, rfl, b, _, 3, 3, rfl, rfl, g.hb, rfl, ?_⟩⟩
        have z := Int.emod_lt_of_pos (m * m * 3 + m * 30089 + 1700047) (show (0 : Int) < 2147483579 by decide)
        have g1 := g.put (i' := i) (r' := r) (m' := (m * m * 3 + m * 30089 + 1700047) % 2147483579) g.i0 g.r0 (Int.emod_nonneg _ (by decide)) (by omega)
        have hm : 0 < many := by omega
        refine ⟨_, rfl, b, _, 3, _, rfl, rfl, SqL.of g1.hb, atI_nat (j := 3) rfl, _, _, rfl, rfl, ⟨by decide, by decide⟩, .inl ⟨_, rfl, _, rfl, _, _, rfl, rfl, hm, ?_⟩⟩
        exact q _ _ (Int.emod_nonneg _ (by omega)) (Int.emod_lt_of_pos _ hm) (kp.trans Kp.upd) ⟨ns, i, r, _, g1⟩
/-- an item of some list or sign of some text, by a draw -/
def spPick (K : PySem.W.Frag) : Sp := fun vs H Q _ => ∃ (b c : Addr) (x : V), vs = [.ref b, x] ∧ Bg H b c ∧
  ((∃ (a : Addr) (xs : List V), x = .ref a ∧ a ≠ b ∧ H a = some (.lst xs) ∧ xs ≠ [] ∧ xs.length ≤ 1000 ∧ ∀ (v : V) (H' : Hp), v ∈ xs → Kp b H H' → Bg H' b c → Q v H') ∨
   (∃ z : Str, x = .str z ∧ 0 < z.cps.size ∧ z.cps.size ≤ 1000 ∧ ∀ (d : Nat) (H' : Hp), d ∈ z.cps.toList → Kp b H H' → Bg H' b c → Q (.str ⟨#[d]⟩) H'))
theorem ok_pick (F : Fn K mg "_law_pick" s_l_pick ["_law_bag_here", "_law_some"]) (B : Blt mg) (G_l_draw : Has P w K mg base 1 "_law_draw" ["_law_bag_here", "_law_many"] spDraw) : Has P w K mg base 2 "_law_pick" ["_law_bag_here", "_law_some"] (spPick K) := by
  refine F.has sc_l_pick (fun vs H Q E h => ?_) (fun f cdv A outer s H vs Q E hr h => ?_)
  · obtain ⟨a, c, ns, rfl, _⟩ := h
    rfl
  obtain ⟨b, c, x, rfl, hB, h⟩ := h
  refine ⟨_, (pss_one (ps_ret (pe_ix ix_seq (pv 1) (pe_own G_l_draw (hr.mono (by decide)) (by rfl) (pa_cons (pv 0) (pa_cons (pe_callB call_len (by rfl) B.len bb_len (pa_cons (pv 1) pa_nil)) pa_nil))) (fun _ _ => rfl)))), ?_⟩
  rcases h with ⟨a, xs, rfl, hab, ha, hne, hlen, q⟩ | ⟨z, rfl, h0, hlen, q⟩
  · have hpos : 0 < xs.length := List.length_pos_iff.mpr hne
    refine ⟨_, rfl, _, rfl, _, rfl, .ref a, xs.length, rfl, .inl ⟨xs, SqL.of ha, rfl⟩, b, c, _, rfl, hB, by omega, by omega, fun v H' v0 v1 kp hB' => ?_⟩
    have hk : v.toNat < xs.length := by omega
    refine .inl ⟨a, xs, v, xs[v.toNat], rfl, rfl, SqL.of (kp _ _ hab ha), at_of (show v = ((v.toNat : Nat) : Int) by omega) (List.getElem?_eq_getElem hk), ?_⟩
    exact q _ _ (List.getElem_mem hk) kp hB'
  · refine ⟨_, rfl, _, rfl, _, rfl, .str z, z.length, rfl, ⟨by show z.cps.size ≤ sizeLine; exact Nat.le_of_lt (small1000 hlen), rfl⟩, b, c, _, rfl, hB, by show (1 : Int) ≤ (z.cps.size : Int); omega, by show (z.cps.size : Int) < 2 ^ 200; omega, fun v H' v0 v1 kp hB' => ?_⟩
    have hk : v.toNat < z.cps.toList.length := by
      have v1' : v < (z.cps.size : Int) := v1
      rw [Array.length_toList]
      omega
    refine .inr (.inr ⟨z, v, z.cps.toList[v.toNat], rfl, rfl, by show z.cps.size ≤ sizeLine; exact Nat.le_of_lt (small1000 hlen), at_ofG (show v = ((v.toNat : Nat) : Int) by omega) (List.getElem?_eq_getElem hk), ?_⟩)
    exact q _ _ (List.getElem_mem hk) kp hB'
end
/-! ### the same data -/
def leafV : V → Prop
  | .non => True
  | .bl _ => True
  | .int _ => True
  | .str _ => True
  | _ => False
/-- two values that stand for the same data, so deep at most -/
def Eqd (H : Hp) : Nat → V → V → Prop
  | 0 => fun _ _ => False
  | n + 1 => fun x y => (x = y ∧ leafV x) ∨
    (∃ (a b : Addr) (xs ys : List V), x = .ref a ∧ y = .ref b ∧ H a = some (.lst xs) ∧ H b = some (.lst ys) ∧ xs.length ≤ 1000 ∧ Paired (Eqd H n) xs ys) ∨
    (∃ (a b : Addr) (xs ys : List V), x = .ref a ∧ y = .ref b ∧ H a = some (.tup xs) ∧ H b = some (.tup ys) ∧ xs.length ≤ 1000 ∧ Paired (Eqd H n) xs ys)
theorem Eqd.leaf {H : Hp} {n : Nat} {x : V} (h : leafV x) : Eqd H (n + 1) x x := .inl ⟨rfl, h⟩
theorem Eqd.lst {H : Hp} {n : Nat} {a b : Addr} {xs ys : List V} (ha : H a = some (.lst xs)) (hb : H b = some (.lst ys)) (hl : xs.length ≤ 1000) (h : Paired (Eqd H n) xs ys) : Eqd H (n + 1) (.ref a) (.ref b) := .inr (.inl ⟨a, b, xs, ys, rfl, rfl, ha, hb, hl, h⟩)
theorem Eqd.tup {H : Hp} {n : Nat} {a b : Addr} {xs ys : List V} (ha : H a = some (.tup xs)) (hb : H b = some (.tup ys)) (hl : xs.length ≤ 1000) (h : Paired (Eqd H n) xs ys) : Eqd H (n + 1) (.ref a) (.ref b) := .inr (.inr ⟨a, b, xs, ys, rfl, rfl, ha, hb, hl, h⟩)
theorem Eqd.mono {H H' : Hp} (s : Same H H') : ∀ {n : Nat} {x y : V}, Eqd H n x y → Eqd H' n x y
  | 0, _, _, h => h
  | n + 1, x, y, h => by
    rcases h with h | ⟨a, b, xs, ys, h1, h2, h3, h4, h5, h6⟩ | ⟨a, b, xs, ys, h1, h2, h3, h4, h5, h6⟩
    · exact .inl h
    · exact .inr (.inl ⟨a, b, xs, ys, h1, h2, s _ _ h3, s _ _ h4, h5, Paired.mapP h6 fun _ _ z => Eqd.mono s z⟩)
    · exact .inr (.inr ⟨a, b, xs, ys, h1, h2, s _ _ h3, s _ _ h4, h5, Paired.mapP h6 fun _ _ z => Eqd.mono s z⟩)
theorem Eqd.up {H : Hp} : ∀ {n : Nat} {x y : V}, Eqd H n x y → Eqd H (n + 1) x y
  | 0, _, _, h => h.elim
  | n + 1, x, y, h => by
    rcases h with h | ⟨a, b, xs, ys, h1, h2, h3, h4, h5, h6⟩ | ⟨a, b, xs, ys, h1, h2, h3, h4, h5, h6⟩
    · exact .inl h
    · exact .inr (.inl ⟨a, b, xs, ys, h1, h2, h3, h4, h5, Paired.mapP h6 fun _ _ z => Eqd.up z⟩)
    · exact .inr (.inr ⟨a, b, xs, ys, h1, h2, h3, h4, h5, Paired.mapP h6 fun _ _ z => Eqd.up z⟩)
theorem paired_get {F : V → V → Prop} : ∀ {xs ys : List V} {i : Nat} {x y : V}, Paired F xs ys → xs[i]? = some x → ys[i]? = some y → F x y
  | _, _, i, x, y, .nil, hx, _ => by simp at hx
  | _, _, 0, x, y, .cons r _, hx, hy => by
    cases hx
    cases hy
    exact r
  | _, _, i + 1, x, y, .cons _ t, hx, hy => paired_get t (i := i) (by simpa using hx) (by simpa using hy)
theorem paired_len {F : V → V → Prop} : ∀ {xs ys : List V}, Paired F xs ys → xs.length = ys.length
  | _, _, .nil => rfl
  | _, _, .cons _ t => congrArg (· + 1) (paired_len t)
theorem paired_refl {F : V → V → Prop} : ∀ {xs : List V}, (∀ x ∈ xs, F x x) → Paired F xs xs
  | [], _ => .nil
  | x :: r, h => .cons (h x List.mem_cons_self) (paired_refl fun y hy => h y (List.mem_cons_of_mem _ hy))
/-- isinstance(x, T), T a built-in class -/
theorem is_b {K : PySem.W.Frag} {H : Hp} {x : V} {t T : String} {b : Bool} {Q : VK} (ty : TyX K H x (.type t)) (k : kitB t T = some b) (h : Q (.bl b) H) : rIsi K [x, .ty T] H Q :=
  ⟨x, .ty T, .type t, .type T, b, rfl, .ty _, ty, kit_ty k, h⟩
theorem ite_of {c : Prop} [Decidable c] {A B : Prop} (hc : c) (h : A) : if c then A else B := by
  rw [if_pos hc]
  exact h
theorem ite_no {c : Prop} [Decidable c] {A B : Prop} (hc : ¬ c) (h : B) : if c then A else B := by
  rw [if_neg hc]
  exact h
theorem tYes_ok {σ : L2.St} {H : Hp} {A B : Hp → Prop} (h : A H) : tYes σ H (fun b H3 => if b = true then A H3 else B H3) := by
  show (if true = true then A H else B H)
  rw [if_pos rfl]
  exact h
theorem walk_zipT {K : PySem.W.Frag} {a b : Addr} {xs ys : List V} {n : Nat} (hn : n = min xs.length ys.length) : Walk (RZ.ItzT K a b) n (fun H => SqT K H a xs ∧ SqT K H b ys) (YPair (fun i => xs[i]?) (fun i => ys[i]?)) := by
  subst hn
  refine ⟨fun i _ hi q => ?_, fun _ q => ⟨xs, ys, q.1, q.2, by omega⟩, fun i H v H' _ q y => ?_⟩
  · have h1 : i < xs.length := by omega
    have h2 : i < ys.length := by omega
    exact ⟨xs, ys, xs[i], ys[i], q.1, q.2, by simp [h1], by simp [h2]⟩
  · obtain ⟨T, x, z, h1, h2, h3, h4, h5⟩ := y
    exact ⟨T, x, z, h1, h2, h3, h4 xs q.1, h5 ys q.2⟩
def spSame (n : Nat) : Sp := fun vs H Q _ => ∃ x y : V, vs = [x, y] ∧ Eqd H n x y ∧ ∀ H', Same H H' → Q (.bl true) H'
section
variable {P : Program} {w : World} {K : PySem.W.Frag} {mg : Str → Option Value} {base : Heap}
theorem ok_same {n : Nat} (F : Fn K mg "_law_same" s_l_same ["_law_found", "_law_due"]) (B : Blt mg) (G_l_same : Has P w K mg base n "_law_same" ["_law_found", "_law_due"] (spSame n)) :
    Has P w K mg base (n + 1) "_law_same" ["_law_found", "_law_due"] (spSame (n + 1)) := by
  refine F.has sc_l_same (fun vs H Q E h => ?_) (fun f cdv A outer s H vs Q E hr h => ?_)
  · obtain ⟨a, ns, rfl, _⟩ := h
    rfl
  obtain ⟨x, y, rfl, h, q⟩ := h
  refine ⟨_, (pss_cons (ps_if (pt_val (pe_callB call_isi (by rfl) B.isinstance bb_isinstance (pa_cons (pv 1) (pa_cons (pe_bltn (v := .ty "list") (by rfl) B.list bb_list rfl) pa_nil))))
        (pss_one (ps_ret (pe_and (pe_callB call_isi (by rfl) B.isinstance bb_isinstance (pa_cons (pv 0) (pa_cons (pe_bltn (v := .ty "list") (by rfl) B.list bb_list rfl) pa_nil))) (pe_and (pe_cmpR op_eq (pe_callB call_len (by rfl) B.len bb_len (pa_cons (pv 0) pa_nil)) (pe_callB call_len (by rfl) B.len bb_len (pa_cons (pv 1) pa_nil)) (nomark _)) (pe_one (pe_callB (cr_all rfl) (by rfl) B.all bb_all (pa_cons (pe_lc (own := [("_law_a", 2), ("_law_b", 3)]) (g := gTup K 2 (gCons (gName 2) (gCons (gName 3) gNil))) (tt := tYes) (by rfl) sc_l_same.nd (RZ.pi_zipA (by rfl) B.zip (pa_cons (pv 0) (pa_cons (pv 1) pa_nil))) (blkOk_by (own := [("_law_a", 2), ("_law_b", 3)]) (N := N_l_same) (sc := defScope s_l_same) (by decide +kernel)) (fun _ _ _ _ _ => (pg_tup rfl (pgs_cons (pg_name (i := 2) sc_l_same.nd rfl (Or.inl rfl)) (pgs_cons (pg_name (i := 3) sc_l_same.nd rfl (Or.inl rfl)) pgs_nil)))) (fun _ _ _ _ _ => pts_nil) (fun _ _ _ _ _ => (pe_own G_l_same hr (by rfl) (pa_cons (pv 2) (pa_cons (pv 3) pa_nil))))) pa_nil)))))))
        pss_nil)
      (pss_cons (ps_if (pt_val (pe_callB call_isi (by rfl) B.isinstance bb_isinstance (pa_cons (pv 1) (pa_cons (pe_bltn (v := .ty "tuple") (by rfl) B.tuple bb_tuple rfl) pa_nil))))
        (pss_one (ps_ret (pe_and (pe_callB call_isi (by rfl) B.isinstance bb_isinstance (pa_cons (pv 0) (pa_cons (pe_bltn (v := .ty "tuple") (by rfl) B.tuple bb_tuple rfl) pa_nil))) (pe_and (pe_cmpR op_eq (pe_callB call_len (by rfl) B.len bb_len (pa_cons (pv 0) pa_nil)) (pe_callB call_len (by rfl) B.len bb_len (pa_cons (pv 1) pa_nil)) (nomark _)) (pe_one (pe_callB (cr_all rfl) (by rfl) B.all bb_all (pa_cons (pe_lc (own := [("_law_a", 2), ("_law_b", 3)]) (g := gTup K 2 (gCons (gName 2) (gCons (gName 3) gNil))) (tt := tYes) (by rfl) sc_l_same.nd (RZ.pi_zipA (by rfl) B.zip (pa_cons (pv 0) (pa_cons (pv 1) pa_nil))) (blkOk_by (own := [("_law_a", 2), ("_law_b", 3)]) (N := N_l_same) (sc := defScope s_l_same) (by decide +kernel)) (fun _ _ _ _ _ => (pg_tup rfl (pgs_cons (pg_name (i := 2) sc_l_same.nd rfl (Or.inl rfl)) (pgs_cons (pg_name (i := 3) sc_l_same.nd rfl (Or.inl rfl)) pgs_nil)))) (fun _ _ _ _ _ => pts_nil) (fun _ _ _ _ _ => (pe_own G_l_same hr (by rfl) (pa_cons (pv 2) (pa_cons (pv 3) pa_nil))))) pa_nil)))))))
        pss_nil)
      (pss_cons (ps_if (PW.pt (pw_or (pt_cmp (pc_isN (pv 1))) (pw_or1 (pt_cmp (pc_isN (pv 0))))))
        (pss_one (ps_ret (pe_and (pe_cmp (pc_isN (pv 1))) (pe_one (pe_cmp (pc_isN (pv 0)))))))
        pss_nil)
      (pss_cons (ps_if (PW.pt (pw_or (pt_val (pe_callB call_isi (by rfl) B.isinstance bb_isinstance (pa_cons (pv 1) (pa_cons (pe_bltn (v := .ty "bool") (by rfl) B.bool bb_bool rfl) pa_nil)))) (pw_or1 (pt_val (pe_callB call_isi (by rfl) B.isinstance bb_isinstance (pa_cons (pv 0) (pa_cons (pe_bltn (v := .ty "bool") (by rfl) B.bool bb_bool rfl) pa_nil)))))))
        (pss_one (ps_ret (pe_and (pe_callB call_isi (by rfl) B.isinstance bb_isinstance (pa_cons (pv 1) (pa_cons (pe_bltn (v := .ty "bool") (by rfl) B.bool bb_bool rfl) pa_nil))) (pe_and (pe_callB call_isi (by rfl) B.isinstance bb_isinstance (pa_cons (pv 0) (pa_cons (pe_bltn (v := .ty "bool") (by rfl) B.bool bb_bool rfl) pa_nil))) (pe_one (pe_cmpR op_eq (pv 0) (pv 1) (nomark _)))))))
        pss_nil)
      (pss_cons (ps_if (pt_val (pe_callB call_isi (by rfl) B.isinstance bb_isinstance (pa_cons (pv 1) (pa_cons (pe_bltn (v := .ty "int") (by rfl) B.int bb_int rfl) pa_nil))))
        (pss_one (ps_ret (pe_and (pe_callB call_isi (by rfl) B.isinstance bb_isinstance (pa_cons (pv 0) (pa_cons (pe_bltn (v := .ty "int") (by rfl) B.int bb_int rfl) pa_nil))) (pe_one (pe_cmpR op_eq (pv 0) (pv 1) (nomark _))))))
        pss_nil)
      (pss_one (ps_ret (pe_and (pe_callB call_isi (by rfl) B.isinstance bb_isinstance (pa_cons (pv 0) (pa_cons (pe_bltn (v := .ty "str") (by rfl) B.str bb_str rfl) pa_nil))) (pe_and (pe_callB call_isi (by rfl) B.isinstance bb_isinstance (pa_cons (pv 1) (pa_cons (pe_bltn (v := .ty "str") (by rfl) B.str bb_str rfl) pa_nil))) (pe_one (pe_cmpR op_eq (pv 0) (pv 1) (nomark _)))))))))))), ?_⟩
  rcases h with ⟨rfl, hx⟩ | ⟨a, b, xs, ys, rfl, rfl, ha, hb, hl, hp⟩ | ⟨a, b, xs, ys, rfl, rfl, ha, hb, hl, hp⟩
  · cases x with
    | non =>
      refine ⟨_, rfl, _, .ty "list", .type "NoneType", .type "list", false, rfl, .ty _, .base .non, kit_ty (by decide +kernel), _, rfl, iteF ?_⟩
      refine ⟨_, rfl, _, .ty "tuple", .type "NoneType", .type "tuple", false, rfl, .ty _, .base .non, kit_ty (by decide +kernel), _, rfl, iteF ?_⟩
      refine ⟨_, rfl, _, rfl, ite_of (decide_eq_true rfl) ?_⟩
      refine ⟨_, rfl, _, rfl, ite_of (decide_eq_true rfl) ⟨_, rfl, ?_⟩⟩
      exact q _ (Same.refl _)
    | bl x =>
      refine ⟨_, rfl, _, .ty "list", .type "bool", .type "list", false, rfl, .ty _, .base (.bl _), kit_ty (by decide +kernel), _, rfl, iteF ?_⟩
      refine ⟨_, rfl, _, .ty "tuple", .type "bool", .type "tuple", false, rfl, .ty _, .base (.bl _), kit_ty (by decide +kernel), _, rfl, iteF ?_⟩
      refine ⟨_, rfl, _, rfl, ite_no (by simp) ⟨_, rfl, _, rfl, ite_no (by simp) ?_⟩⟩
      refine ⟨_, rfl, _, .ty "bool", .type "bool", .type "bool", true, rfl, .ty _, .base (.bl _), kit_ty (by decide +kernel), _, rfl, iteT ?_⟩
      refine ⟨_, rfl, _, .ty "bool", .type "bool", .type "bool", true, rfl, .ty _, .base (.bl _), kit_ty (by decide +kernel), _, rfl, iteT ⟨_, rfl, _, .ty "bool", .type "bool", .type "bool", true, rfl, .ty _, .base (.bl _), kit_ty (by decide +kernel), _, rfl, iteT ⟨_, rfl, _, rfl, rfl, ?_⟩⟩⟩
      rw [decide_eq_true rfl]
      exact q _ (Same.refl _)
    | int x =>
      refine ⟨_, rfl, _, .ty "list", .type "int", .type "list", false, rfl, .ty _, .base (.int _), kit_ty (by decide +kernel), _, rfl, iteF ?_⟩
      refine ⟨_, rfl, _, .ty "tuple", .type "int", .type "tuple", false, rfl, .ty _, .base (.int _), kit_ty (by decide +kernel), _, rfl, iteF ?_⟩
      refine ⟨_, rfl, _, rfl, ite_no (by simp) ⟨_, rfl, _, rfl, ite_no (by simp) ?_⟩⟩
      refine ⟨_, rfl, _, .ty "bool", .type "int", .type "bool", false, rfl, .ty _, .base (.int _), kit_ty (by decide +kernel), _, rfl, iteF ⟨_, rfl, _, .ty "bool", .type "int", .type "bool", false, rfl, .ty _, .base (.int _), kit_ty (by decide +kernel), _, rfl, iteF ?_⟩⟩
      refine ⟨_, rfl, _, .ty "int", .type "int", .type "int", true, rfl, .ty _, .base (.int _), kit_ty (by decide +kernel), _, rfl, iteT ?_⟩
      refine ⟨_, rfl, _, .ty "int", .type "int", .type "int", true, rfl, .ty _, .base (.int _), kit_ty (by decide +kernel), _, rfl, iteT ⟨_, rfl, _, rfl, rfl, ?_⟩⟩
      rw [decide_eq_true rfl]
      exact q _ (Same.refl _)
    | str x =>
      refine ⟨_, rfl, _, .ty "list", .type "str", .type "list", false, rfl, .ty _, .base (.str _), kit_ty (by decide +kernel), _, rfl, iteF ?_⟩
      refine ⟨_, rfl, _, .ty "tuple", .type "str", .type "tuple", false, rfl, .ty _, .base (.str _), kit_ty (by decide +kernel), _, rfl, iteF ?_⟩
      refine ⟨_, rfl, _, rfl, ite_no (by simp) ⟨_, rfl, _, rfl, ite_no (by simp) ?_⟩⟩
      refine ⟨_, rfl, _, .ty "bool", .type "str", .type "bool", false, rfl, .ty _, .base (.str _), kit_ty (by decide +kernel), _, rfl, iteF ⟨_, rfl, _, .ty "bool", .type "str", .type "bool", false, rfl, .ty _, .base (.str _), kit_ty (by decide +kernel), _, rfl, iteF ?_⟩⟩
      refine ⟨_, rfl, _, .ty "int", .type "str", .type "int", false, rfl, .ty _, .base (.str _), kit_ty (by decide +kernel), _, rfl, iteF ?_⟩
      refine ⟨_, rfl, _, .ty "str", .type "str", .type "str", true, rfl, .ty _, .base (.str _), kit_ty (by decide +kernel), _, rfl, iteT ⟨_, rfl, _, .ty "str", .type "str", .type "str", true, rfl, .ty _, .base (.str _), kit_ty (by decide +kernel), _, rfl, iteT ⟨_, rfl, _, rfl, rfl, ?_⟩⟩⟩
      rw [decide_eq_true rfl]
      exact q _ (Same.refl _)
    | byt x => exact hx.elim
    | flt x => exact hx.elim
    | ref x => exact hx.elim
    | ty x => exact hx.elim
  · have hlen := paired_len hp
    refine ⟨_, rfl, _, .ty "list", .type "list", .type "list", true, rfl, .ty _, .base (.lst hb), kit_ty (by decide +kernel), _, rfl, iteT ?_⟩
    refine ⟨_, rfl, _, .ty "list", .type "list", .type "list", true, rfl, .ty _, .base (.lst ha), kit_ty (by decide +kernel), _, rfl, iteT ?_⟩
    refine ⟨_, rfl, .ref a, _, rfl, .inl ⟨xs, SqL.of ha, rfl⟩, _, rfl, .ref b, _, rfl, .inl ⟨ys, SqL.of hb, rfl⟩, rfl, _, rfl, ite_of (decide_eq_true (by rw [hlen])) ?_⟩
    refine ⟨_, rfl, _, rfl, a, b, xs, ys, rfl, .inl ⟨SqL.of ha, SqL.of hb, fun D hD => lc_it (walk_zip (K := K) (n := xs.length) (by omega)) (fun i H' => Same H H' ∧ H' D = some (.lst (List.replicate i (.bl true))))
      ⟨same_upd hD, upd_same⟩ (fun i H1 hi p => ⟨SqL.of (p.1 _ _ ha), SqL.of (p.1 _ _ hb)⟩) ?_ ?_⟩⟩
    · rintro i v H1 H2 hi ⟨s1, e1⟩ ⟨T, u, z, rfl, hT, rfl, hu, hz⟩
      refine ⟨T, [u, z], rfl, SqT.of upd_same, rfl, u, [z], rfl, z, [], rfl, rfl, rfl, tYes_ok ?_⟩
      refine ⟨_, rfl, _, rfl, u, z, rfl, (paired_get hp hu hz).mono (s1.trans (same_upd hT)), fun H3 s3 => ?_⟩
      refine ⟨_, s3 _ _ ((same_upd hT) _ _ e1), by rw [List.length_replicate]; exact small1000 (by omega), fun c o hc => ?_, ?_⟩
      · rw [upd_ne (ne_of_none hc hD)]
        exact s3 _ _ (same_upd hT _ _ (s1 _ _ hc))
      · rw [upd_same, List.replicate_succ']
    · rintro H1 ⟨s1, e1⟩
      refine ⟨D, List.replicate xs.length true, rfl, SqL.of (by rw [e1, List.map_replicate]), ?_⟩
      rw [show (List.replicate xs.length true).all id = true by simp]
      exact q _ s1
  · have hlen := paired_len hp
    refine ⟨_, rfl, _, .ty "list", .type "tuple", .type "list", false, rfl, .ty _, .base (.tup hb), kit_ty (by decide +kernel), _, rfl, iteF ?_⟩
    refine ⟨_, rfl, _, .ty "tuple", .type "tuple", .type "tuple", true, rfl, .ty _, .base (.tup hb), kit_ty (by decide +kernel), _, rfl, iteT ?_⟩
    refine ⟨_, rfl, _, .ty "tuple", .type "tuple", .type "tuple", true, rfl, .ty _, .base (.tup ha), kit_ty (by decide +kernel), _, rfl, iteT ?_⟩
    refine ⟨_, rfl, .ref a, _, rfl, .inr ⟨xs, SqT.of ha, rfl⟩, _, rfl, .ref b, _, rfl, .inr ⟨ys, SqT.of hb, rfl⟩, rfl, _, rfl, ite_of (decide_eq_true (by rw [hlen])) ?_⟩
    refine ⟨_, rfl, _, rfl, a, b, xs, ys, rfl, .inr ⟨SqT.of ha, SqT.of hb, fun D hD => lc_it (walk_zipT (K := K) (n := xs.length) (by omega)) (fun i H' => Same H H' ∧ H' D = some (.lst (List.replicate i (.bl true))))
      ⟨same_upd hD, upd_same⟩ (fun i H1 hi p => ⟨SqT.of (p.1 _ _ ha), SqT.of (p.1 _ _ hb)⟩) ?_ ?_⟩⟩
    · rintro i v H1 H2 hi ⟨s1, e1⟩ ⟨T, u, z, rfl, hT, rfl, hu, hz⟩
      refine ⟨T, [u, z], rfl, SqT.of upd_same, rfl, u, [z], rfl, z, [], rfl, rfl, rfl, tYes_ok ?_⟩
      refine ⟨_, rfl, _, rfl, u, z, rfl, (paired_get hp hu hz).mono (s1.trans (same_upd hT)), fun H3 s3 => ?_⟩
      refine ⟨_, s3 _ _ ((same_upd hT) _ _ e1), by rw [List.length_replicate]; exact small1000 (by omega), fun c o hc => ?_, ?_⟩
      · rw [upd_ne (ne_of_none hc hD)]
        exact s3 _ _ (same_upd hT _ _ (s1 _ _ hc))
      · rw [upd_same, List.replicate_succ']
    · rintro H1 ⟨s1, e1⟩
      refine ⟨D, List.replicate xs.length true, rfl, SqL.of (by rw [e1, List.map_replicate]), ?_⟩
      rw [show (List.replicate xs.length true).all id = true by simp]
      exact q _ s1
end
theorem no_same {P : Program} {w : World} {K : PySem.W.Frag} {mg : Str → Option Value} {base : Heap} {f : Addr} {fd : FuncData} {ps : List Str} {sp : Sp} (no : ∀ vs H Q E, ¬ sp vs H Q E) : FnOk P w K mg base CX0 0 f fd ps sp :=
  ⟨fun vs H Q E h => absurd h (no vs H Q E), fun A outer s H args us vs Q E _ _ _ _ h => absurd h (no vs H Q E)⟩
section
variable {P : Program} {w : World} {K : PySem.W.Frag} {mg : Str → Option Value} {base : Heap}
theorem all_same (F : Fn K mg "_law_same" s_l_same ["_law_found", "_law_due"]) (B : Blt mg) : ∀ n : Nat, Has P w K mg base n "_law_same" ["_law_found", "_law_due"] (spSame n)
  | 0 => by
    obtain ⟨f, fd, F, m, b⟩ := F.ex
    exact ⟨f, fd, no_same fun vs H Q E h => by obtain ⟨x, y, _, h, _⟩ := h; exact h, m, F.kp, b⟩
  | n + 1 => ok_same F B (all_same F B n)
end
/-! ### odd values -/
inductive OddV (H : Hp) (b : Addr) : V → Prop
  | non : OddV H b .non
  | bl (x : Bool) : OddV H b (.bl x)
  | s0 : OddV H b (.str "")
  | s1 : OddV H b (.str "A")
  | s2 : OddV H b (.str "in")
  | s3 : OddV H b (.str "a b")
  | s4 : OddV H b (.str "7")
  | t0 {p : Addr} : p ≠ b → H p = some (.tup []) → OddV H b (.ref p)
  | t1 {p : Addr} : p ≠ b → H p = some (.tup [.int 1]) → OddV H b (.ref p)
  | l0 {p : Addr} : p ≠ b → H p = some (.lst []) → OddV H b (.ref p)
  | l1 {p : Addr} : p ≠ b → H p = some (.lst [.str "a"]) → OddV H b (.ref p)
theorem OddV.kp {H H' : Hp} {b : Addr} {v : V} (h : OddV H b v) (k : Kp b H H') : OddV H' b v := by
  cases h with
  | non => exact .non
  | bl x => exact .bl x
  | s0 => exact .s0
  | s1 => exact .s1
  | s2 => exact .s2
  | s3 => exact .s3
  | s4 => exact .s4
  | t0 n h => exact .t0 n (k _ _ n h)
  | t1 n h => exact .t1 n (k _ _ n h)
  | l0 n h => exact .l0 n (k _ _ n h)
  | l1 n h => exact .l1 n (k _ _ n h)
def spOdd : Sp := fun vs H Q _ => ∃ b c : Addr, vs = [.ref b] ∧ Bg H b c ∧ ∀ (v : V) (H' : Hp), Kp b H H' → Bg H' b c → OddV H' b v → Q v H'
def spGcd : Sp := fun vs H Q _ => ∃ a b : Int, vs = [.int a, .int b] ∧ Q (.int ((Nat.gcd a.natAbs b.natAbs : Nat) : Int)) H
theorem abs_cast (i : Int) : (if i < 0 then -i else i) = ((i.natAbs : Nat) : Int) := by split <;> omega
theorem Bg.sel {H : Hp} {b c : Addr} (h : Bg H b c) : ∃ r : List V, H b = some (.lst (.ref c :: r)) := by
  obtain ⟨ns, i, r, m, g⟩ := h
  exact ⟨_, g.hb⟩
theorem Bg.ne_new {H : Hp} {b c p : Addr} (h : Bg H b c) (hp : H p = none) : p ≠ b := by
  obtain ⟨_, e⟩ := h.sel
  exact (ne_of_none e hp).symm
theorem Bg.ne_new2 {H : Hp} {b c p : Addr} (h : Bg H b c) (hp : H p = none) : p ≠ c := by
  obtain ⟨ns, i, r, m, g⟩ := h
  exact (ne_of_none g.hc hp).symm
section
variable {P : Program} {w : World} {K : PySem.W.Frag} {mg : Str → Option Value} {base : Heap}
theorem ok_gcd (F : Fn K mg "_law_gcd" s_l_gcd ["_law_a", "_law_b"]) (B : Blt mg) : Has P w K mg base 1 "_law_gcd" ["_law_a", "_law_b"] spGcd := by
  refine F.has sc_l_gcd (fun vs H Q E h => ?_) (fun f cdv A outer s H vs Q E hr h => ?_)
  · obtain ⟨a, b, rfl, _⟩ := h
    rfl
  obtain ⟨a, b, rfl, q⟩ := h
  refine ⟨_, (pss_cons (ps_par (i := 2) (j := 3) rfl sc_l_gcd.nd rfl rfl (by decide) rfl rfl (pa_cons (pe_callB call_abs (by rfl) B.abs bb_abs (pa_cons (pv 0) pa_nil)) (pa_cons (pe_callB call_abs (by rfl) B.abs bb_abs (pa_cons (pv 1) pa_nil)) pa_nil)) rfl)
      (pss_cons (ps_while PassesOwn.never (pt_cmpR op_gt (pv 3) pe_int (nomark _))
        (pss_one (ps_par (i := 2) (j := 3) rfl sc_l_gcd.nd rfl rfl (by decide) rfl rfl (pa_cons (pv 3) (pa_cons (pe_op op_mod (pe_callTy call_int1 (by rfl) B.int bb_int (pa_cons (pv 2) pa_nil)) (pv 3)) pa_nil)) rfl)))
      (pss_one (ps_ret (pv 2))))), ?_⟩
  refine ⟨_, rfl, a, rfl, _, rfl, b, rfl, _, _, rfl, ?_⟩
  rw [abs_cast, abs_cast]
  refine while_by (fun σ H' => ∃ l r : Nat, σ = [some (.int a), some (.int b), some (.int (l : Int)), some (.int (r : Int))] ∧ Nat.gcd l r = Nat.gcd a.natAbs b.natAbs ∧ H' = H)
    (fun σ _ => match σ with | [_, _, _, some (.int r)] => r.toNat | _ => 0) ⟨_, _, rfl, rfl, rfl⟩ ?_ ?_
  · rintro σ H' ⟨l, r, rfl, e, rfl⟩
    refine ⟨_, rfl, _, _, rfl, rfl, _, rfl, ite2 (fun c => ?_) (fun c => ?_)⟩
    · have hc : (0 : Int) < (r : Int) := of_decide_eq_true c
      have hc' : 0 < r := by omega
      refine ⟨_, rfl, _, rfl, .inl ⟨_, rfl, _, rfl, _, _, rfl, rfl, hc, _, _, rfl, ?_⟩⟩
      refine ⟨⟨r, l % r, rfl, ?_, rfl⟩, ?_⟩
      · rw [← e, Nat.gcd_comm r (l % r), ← Nat.gcd_rec, Nat.gcd_comm]
      · show ((l : Int) % (r : Int)).toNat < (r : Int).toNat
        have := Int.emod_lt_of_pos (l : Int) hc
        have := Int.emod_nonneg (l : Int) (show (r : Int) ≠ 0 by omega)
        omega
    · have hc : ¬ (0 : Int) < (r : Int) := of_decide_eq_false (Bool.eq_false_iff.mpr c)
      have r0 : r = 0 := by omega
      subst r0
      refine ⟨_, rfl, ?_⟩
      rw [Nat.gcd_zero_right] at e
      rw [e]
      exact q
  · rintro σ H' Q1 Q2 hq ⟨v, e, i, j, e1, e2, k, e3, z⟩
    exact ⟨v, e, i, j, e1, e2, k, e3, hq _ _ z⟩
end
/-! ### kinds of values -/
inductive Typ (H : Hp) : V → String → Prop
  | non : Typ H .non "NoneType"
  | bl (x : Bool) : Typ H (.bl x) "bool"
  | int (i : Int) : Typ H (.int i) "int"
  | str (z : Str) : Typ H (.str z) "str"
  | lst {a : Addr} {xs : List V} : H a = some (.lst xs) → Typ H (.ref a) "list"
  | tup {a : Addr} {xs : List V} : H a = some (.tup xs) → Typ H (.ref a) "tuple"
theorem Typ.tyx {K : PySem.W.Frag} {H : Hp} {x : V} {t : String} (h : Typ H x t) : TyX K H x (.type t) := by
  cases h with
  | non => exact .base .non
  | bl x => exact .base (.bl x)
  | int i => exact .base (.int i)
  | str z => exact .base (.str z)
  | lst h => exact .base (.lst h)
  | tup h => exact .base (.tup h)
theorem Typ.same {H H' : Hp} {x : V} {t : String} (h : Typ H x t) (s : Same H H') : Typ H' x t := by
  cases h with
  | non => exact .non
  | bl x => exact .bl x
  | int i => exact .int i
  | str z => exact .str z
  | lst h => exact .lst (s _ _ h)
  | tup h => exact .tup (s _ _ h)
theorem OddV.typ {H : Hp} {b : Addr} {v : V} (h : OddV H b v) : ∃ t, Typ H v t ∧ t ≠ "int" := by
  cases h with
  | non => exact ⟨_, .non, by decide⟩
  | bl x => exact ⟨_, .bl x, by decide⟩
  | s0 => exact ⟨_, .str _, by decide⟩
  | s1 => exact ⟨_, .str _, by decide⟩
  | s2 => exact ⟨_, .str _, by decide⟩
  | s3 => exact ⟨_, .str _, by decide⟩
  | s4 => exact ⟨_, .str _, by decide⟩
  | t0 n h => exact ⟨_, .tup h, by decide⟩
  | t1 n h => exact ⟨_, .tup h, by decide⟩
  | l0 n h => exact ⟨_, .lst h, by decide⟩
  | l1 n h => exact ⟨_, .lst h, by decide⟩
def isIntV : V → Bool
  | .int _ => true
  | _ => false
end My
/-! an own error whose __init__ says super().__init__(a text) and stores what it got and its code -/
namespace PySem
namespace ErrX
open PySem.W PySem.Calls PyProof.Rows PySem.HandSPX
/-- the statements of such an __init__: the field is called f, the code is q -/
def eArgs (f : Str) (p1 p2 : Pos) : Arguments := { posonlyargs := [], args := [{ arg := "self", annotation := none, pos := p1 }, { arg := f, annotation := none, pos := p2 }], vararg := none, kwonlyargs := [], kw_defaults := [], kwarg := none, defaults := [] }
def eBody (f msg q : Str) (k1 k2 : Nat) (a1 a2 a3 a4 a5 a6 b1 b2 b3 b4 c1 c2 c3 c4 : Pos) : List Stmt :=
  [.Expr (.Call (.Attribute (.Call (.Name "super" a1) [] [] a2) "__init__" a3) [.Constant (.str msg) k1 a4] [] a5) a6,
   .Assign [.Attribute (.Name "self" b1) f b2] (.Name f b3) b4,
   .Assign [.Attribute (.Name "self" c1) "code" c2] (.Constant (.str q) k2 c3) c4]
def eScope (f : Str) : Scope := { kind := .function, names := [(PySem.Str.ofString "self", .local), (f, .local), (PySem.Str.ofString "__class__", .free), (PySem.Str.ofString "super", .globalImplicit)], isGenerator := false, isCoroutine := false, more := [] }
/-- how the first statement's call is evaluated -/
def InitEval (msg : Str) (k1 : Nat) (a1 a2 a3 a4 a5 : Pos) : Prop := ∃ pl : Sem Bool, ∀ env : Env,
  eval (.Call (.Attribute (.Call (.Name "super" a1) [] [] a2) "__init__" a3) [.Constant (.str msg) k1 a4] [] a5) env = (do
    let ov ← attributeBase (.Call (.Name "super" a1) [] [] a2) "__init__" env (eval (.Call (.Name "super" a1) [] [] a2) env)
    standAt a3.atName
    let (g, first) ← holding [ov] (getMethod ov "__init__" pl)
    callWith a5 g first (backTo a5 (starEach [.Constant (.str msg) k1 a4] env)) [])
/-- what the written part says of the class at C, of its __init__ at fI, of the cell cc that holds the class, of the code object cd -/
structure ErrTxt (prog : Program) (K : Frag) (mg : Str → Option Value) (nm f q : Str) (C fI cc cd : Addr) : Prop where
  gC : mg nm = some (.ref C)
  gS : mg "super" = none
  cls : ∃ nm' q' N bs bm sn sub ab col dd k0 k1 k2 k3 k5, K.lookup C = some (excClassObj nm' q' C N bs bm true sn sub ab col dd k0 k1 k2 k3 k5 "ValueError.__new__") ∧ refsVE bm = true ∧ alongIn K "__init__" bm = some (some (.builtin "ValueError.__init__"))
  sa : findIn K (.ref C) "__setattr__" = some (some (.builtin "object.__setattr__"))
  ga : findIn K (.ref C) "__getattribute__" = some (some (.builtin "BaseException.__getattribute__"))
  gg : findIn K (.ref C) "__getattr__" = some none
  noF : findIn K (.ref C) f = some none
  noC : findIn K (.ref C) "code" = some none
  iC : findIn K (.ref C) "__init__" = some (some (.ref fI))
  tC : typeIn K (.ref fI) = some (.type "function")
  kC : keepIn K (.ref C) = true
  exC : subIn K (.ref C) (.type "BaseException") = some true
  veC : subIn K (.ref C) (.type "ValueError") = some true
  slf : mroIn K C (.ref C) = some true
  tyC : typeIn K (.ref C) = some (.type "type")
  hdC : hasDictIn K C = true
  opq : nsIn K cStatics "thirdparty.any" = some none
  cell : ∃ cl cld csl, K.lookup cc = some ⟨cl, cld, .cell (some (.ref C)), csl⟩
  code : ∃ ccl cdd vs ccs file tf, K.lookup cd = some ⟨ccl, cdd, .fields vs, ccs⟩ ∧ vs[2]? = some (.str file tf) ∧ ((prog.main.file : Str) == file) = true
  top : (prog.main.scope.names.lookup ("super" : Str)).isSome = false
  fn : ∃ (oc : Value) (od : Option Addr) (doc pm : Value) (an : Option Addr) (ct : Value) (osl : Array (Option Value)) (qual msg : Str) (k1 k2 : Nat) (p1 p2 a1 a2 a3 a4 a5 a6 b1 b2 b3 b4 c1 c2 c3 c4 : Pos),
    K.lookup fI = some ⟨oc, od, .func (ksFn "__init__" qual (eArgs f p1 p2) (eBody f msg q k1 k2 a1 a2 a3 a4 a5 a6 b1 b2 b3 b4 c1 c2 c3 c4) (eScope f) .none .none doc pm an (.ref cd) ct cc), osl⟩ ∧ codeIn K (.ref cd) qual = true ∧
    (∀ (s : Shared) (a b : Value), BindsTo s (ksFn "__init__" qual (eArgs f p1 p2) (eBody f msg q k1 k2 a1 a2 a3 a4 a5 a6 b1 b2 b3 b4 c1 c2 c3 c4) (eScope f) .none .none doc pm an (.ref cd) ct cc) ⟨[a, b], []⟩ [("self", a), (f, b)]) ∧ InitEval msg k1 a1 a2 a3 a4 a5
  nf : f ≠ "self" ∧ f ≠ "code" ∧ f ≠ "super" ∧ f ≠ "__class__" ∧ f ≠ "__debug__"
theorem kept_x {K : Frag} {h h' : Heap} {x : Addr} (X : K.In h) (hx : K.lookup x = none) (k : ∀ b o, b ≠ x → h.get? b = some o → h'.get? b = some o) : K.In h' := fun a o e =>
  k a o (fun z => by rw [z, hx] at e; cases e) (X a o e)
/-- what it leaves of a fresh exception at x -/
structure Made (h h' : Heap) (x C dx t1 : Addr) (f q : Str) (v : Value) : Prop where
  keep : ∀ b o, b ≠ x → h.get? b = some o → h'.get? b = some o
  obj : h'.get? x = some { cls := .ref C, dict := some dx, data := .fields #[.ref t1, .none, .none, .none, .bool false, .none] }
  dbig : h.objs.size ≤ dx
  dne : dx ≠ x
  ns : ∃ tk, h'.Ns1 dx (fun y => if y = "code" then some (.str q tk) else if y = f then some v else none)
section
variable {prog : Program} {w : World} {M : Model} {A : Around} {E : Value → Shared → Prop} {R : Result → Shared → Prop} {s : Shared} {K : Frag} {mg : Str → Option Value} {nm f q : Str} {C fI cc cd : Addr}
/-- the bound built-in __init__, called with one value -/
theorem mw_call {hp : Heap} {g : Array GenState} {d : Drawn} {t : Nat} {os : OsState} {u e t0 : Addr} {rest : List Value} {Q : Value → Shared → Prop} {nm' q' : Str} {N : Addr} {bs bm : List Value} {hdct : Bool} {sn : List Str} {sub : List Value} {ab : Bool} {col : Option Bool} {dd : Option Addr} {k0 k1 k2 k3 k5 : Option Value}
    (hC : hp.get? C = some (excClassObj nm' q' C N bs bm hdct sn sub ab col dd k0 k1 k2 k3 k5 "ValueError.__new__")) (he : hp.get? e = some (excO C t0)) (hu : hp.get? u = some (kxs_mw "ValueError.__init__" e)) (hrest : rest.length ≤ sizeLine)
    (hq : ∀ h' t1, (∀ b o, b ≠ e → hp.get? b = some o → h'.get? b = some o) → h'.get? e = some (excO C t1) → Q .none ⟨h', g, d, t, os⟩) :
    wpAny (model prog w) A (call (.ref u) rest) Q E ⟨hp, g, d, t, os⟩ := by
  refine wpAny_call (codeAny_of_tree ?_)
  show wpAny _ A.in1 (callAny (.ref u) ⟨rest, []⟩) _ _ _
  unfold callAny
  refine wpAny_bind (wpAny_load hu ?_)
  refine KFB.if_so rfl ?_
  refine wpAny_bind (ESX.check_bound F.excBase_ValueError hC he rfl ?_)
  refine wpAny_bind (wpAny_pure (wpAny_pure ⟨Code.quiet_builtin _ (by decide +kernel), codeAny_builtin F.excBase_ValueError.initEntry ?_⟩))
  rw [Around.under_plainId F.excBase_ValueError.init.plain _]
  wp_walk
  refine hq _ hp.objs.size (fun b o hb ho => ?_) ?_
  · rw [Heap.get?_update_other _ _ (Ne.symm hb)]
    exact Heap.get?_push_of_some _ ho
  · rw [Heap.get?_update_self _ (Heap.get?_push_of_some _ he) rfl]
    rfl
theorem err_init (T : ErrTxt prog K mg nm f q C fI cc cd) {x t0 : Addr} {v : Value} (X : K.In s.heap) (hG : s.heap.Ns mainGlobals mg) (hB : ∃ mb, s.heap.Ns builtinsNs mb ∧ mb "super" = some (.type "super")) (hlim : s.heap.NoLimit) (hx : s.heap.get? x = some (excO C t0)) (hnx : K.lookup x = none) (hroom : A.depth < recursionLimit)
    (hq : ∀ h' tk dx t1, Made s.heap h' x C dx t1 f q v → R (.ok (.ret .none)) { s with heap := h', toks := tk }) :
    codeAny (model prog w) A (.call (.ref fI) ⟨[.ref x, v], []⟩) R s := by
  obtain ⟨oc, od, doc, pm, an, ct, osl, qual, msg, k1, k2, p1, p2, a1, a2, a3, a4, a5, a6, b1, b2, b3, b4, c1, c2, c3, c4, ho, hcd, hbind, pl, hev⟩ := T.fn
  obtain ⟨nm', q', N, bs, bm, sn, sub, ab, col, dd, k0, k1', k2', k3, k5, hC, hbm, hal⟩ := T.cls
  obtain ⟨cl, cld, csl, hcell⟩ := T.cell
  obtain ⟨ccl, cdd, vs, ccs, file, tf, hcode, hvs, hfile⟩ := T.code
  obtain ⟨n1, n2, n3, n4, n5⟩ := T.nf
  have lk : (eScope f).names.lookup f = some .local := by
    show List.lookup f [(PySem.Str.ofString "self", NameKind.local), (f, .local), (PySem.Str.ofString "__class__", .free), (PySem.Str.ofString "super", .globalImplicit)] = some .local
    have e : (f == PySem.Str.ofString "self") = false := by simpa using n1
    simp only [List.lookup, e, beq_self_eq_true]
  refine ks_codeAny_call_defAt (binds := [("self", .ref x), (f, v)]) hroom (X _ _ ho) rfl hlim (codeRec_of X hcd) rfl (hbind _ _ _) ?_ ?_ (fun h₁ hns hk => ?_) rfl rfl rfl
  · intro y hy
    simp only [eScope, List.mem_cons, List.not_mem_nil, or_false] at hy
    rcases hy with rfl | rfl | rfl | rfl <;> (intro z; cases z)
  · intro y hy
    simp only [List.mem_cons, List.not_mem_nil, or_false] at hy
    rcases hy with rfl | rfl
    · rfl
    · exact lk
  have z1 : (PySem.Str.ofString "super" == f) = false := by simpa using n3.symm
  have z2 : (PySem.Str.ofString "__class__" == f) = false := by simpa using n4.symm
  have z3 : (PySem.Str.ofString "self" == f) = false := by simpa using n1.symm
  have z4 : (f == PySem.Str.ofString "self") = false := by simpa using n1
  have lkS : (eScope f).names.lookup ("super" : Str) = some .globalImplicit := by
    simp only [eScope, List.lookup, z1, show (PySem.Str.ofString "super" == PySem.Str.ofString "self") = false by decide +kernel, show (PySem.Str.ofString "super" == PySem.Str.ofString "__class__") = false by decide +kernel, beq_self_eq_true]
  have lkC : (eScope f).names.lookup ("__class__" : Str) = some .free := by
    simp only [eScope, List.lookup, z2, show (PySem.Str.ofString "__class__" == PySem.Str.ofString "self") = false by decide +kernel, beq_self_eq_true]
  have lkX : (eScope f).names.lookup ("self" : Str) = some .local := by
    simp only [eScope, List.lookup, beq_self_eq_true]
  have mS : List.lookup (PySem.Str.ofString "self") ([(PySem.Str.ofString "self", Value.ref x), (f, v)] : List (Str × Value)).reverse = some (.ref x) := by
    show List.lookup (PySem.Str.ofString "self") [(f, v), (PySem.Str.ofString "self", Value.ref x)] = _
    simp only [List.lookup, z3, beq_self_eq_true]
  have mF : List.lookup f ([(PySem.Str.ofString "self", Value.ref x), (f, v)] : List (Str × Value)).reverse = some v := by
    show List.lookup f [(f, v), (PySem.Str.ofString "self", Value.ref x)] = _
    simp only [List.lookup, beq_self_eq_true]
  refine ks_wpAt_execs_cons (ks_wpAt_Expr_any (ks_wpAt_MethodCall (pl := pl) ?_ (hev _)))
  have X₁ : K.In h₁ := X.keeps hk
  have hx₁ := hk _ _ hx
  refine ks_wpAt_super_base (of := ⟨oc, od, _, osl⟩) (oc := ⟨ccl, cdd, .fields vs, ccs⟩) lkS lkC rfl rfl (X₁ _ _ ho) rfl rfl rfl (X₁ _ _ hcode) rfl hvs hfile T.top ?_
  obtain ⟨mb, hmb, hsb⟩ := hB
  refine ks_loadName_global rfl lkS (loadGlobal_builtin (hG.keeps hk) T.gS (hmb.keeps hk) hsb ⟨rfl, ?_⟩)
  refine wpAny_loadName_free rfl lkC rfl ⟨_, X₁ _ _ hcell, rfl⟩ ?_
  refine wpAny_loadName_local rfl lkX hns mS ?_
  refine ks_wpAny_isType_cls (X₁ _ _ hC) rfl ⟨rfl, ?_⟩
  refine ks_wpAny_call_super (X₁ _ _ hC) rfl hx₁ rfl (fun c e => by cases e) (looks_mroIn X₁ T.slf) (fun h₂ hso k₂ => ?_)
  have X₂ : K.In h₂ := X₁.keeps k₂
  have hx₂ := k₂ _ _ hx₁
  have I₂ : InstAt h₂ x (excO C t0) C none := ⟨hx₂, rfl, rfl, trivial⟩
  have nxC : x ≠ C := fun z => by rw [z, hC] at hnx; cases hnx
  have hcl : clsIn K C = some { name := nm', bases := bs, mro := .ref C :: bm, ns := N, qualname := q', hasDict := true, slotNames := sn, subclasses := sub, abstract := ab, collection := col, hasDel := false } := by unfold clsIn; rw [hC] <;> rfl
  refine kxs_getMethod kxs_ValueError hso (looks_opaque X₂ T.opq) ((looks_clsIn X₂ hcl).andThen .now) (ESX.drop_own C bm) X₂ hal (I₂.type.andThen (looks_subIn X₂ T.veC)) nxC rfl ?_
  have hu : (h₂.push (kxs_mw "ValueError.__init__" x)).get? h₂.objs.size = some (kxs_mw "ValueError.__init__" x) := Heap.get?_push_at rfl rfl
  have k₃ : ∀ b o, h₂.get? b = some o → (h₂.push (kxs_mw "ValueError.__init__" x)).get? b = some o := fun b o e => Heap.get?_push_of_some _ e
  refine kxs_callWith (i := "ValueError.__init__") (x := x) rfl (evalArgs_plain ?_)
  refine Calls.spliced_cons (Calls.Constant_str (k := k1) (pos := a4) (Calls.spliced_nil ⟨hu, ?_⟩))
  have X₃ : K.In (h₂.push (kxs_mw "ValueError.__init__" x)) := X₂.keeps k₃
  refine mw_call (X₃ _ _ hC) (k₃ _ _ hx₂) hu (by show 1 ≤ sizeLine; decide) (fun h₄ t1 k₄ hx₄ => ?_)
  have keep₄ : ∀ b o, b ≠ x → s.heap.get? b = some o → h₄.get? b = some o := fun b o nb e => k₄ b o nb (k₃ b o (k₂ b o (hk b o e)))
  have X₄ : K.In h₄ := kept_x X hnx keep₄
  have hxL : s.heap.objs.size ≠ x := Nat.ne_of_gt (Heap.lt_size hx)
  obtain ⟨oL, es, ep, hL, rL⟩ := id hns
  have hns₄ : h₄.Ns s.heap.objs.size fun y => List.lookup y ([(PySem.Str.ofString "self", Value.ref x), (f, v)] : List (Str × Value)).reverse := ⟨oL, es, ep, k₄ _ _ hxL (k₃ _ _ (k₂ _ _ hL)), rL⟩
  have hLt : s.heap.objs.size < h₄.objs.size := Heap.lt_size (k₄ _ _ hxL (k₃ _ _ (k₂ _ _ hL)))
  -- self.f = f
  refine wpAt_of_wpAny (wpAny_execs_cons (plainObj_wpAny_Assign_Attribute ?_))
  refine ESX.ldL hns₄ mF (ESX.ldL hns₄ mS ?_ rfl lkX (by decide +kernel)) rfl lk (by simpa using n5)
  refine set_plain X₄ (ox := excO C t1) (od := none) ⟨hx₄, rfl, rfl, trivial⟩ T.sa ?_
  refine exc_osa X₄ hx₄ hcl (show refsVE (.ref C :: bm) = true from hbm) rfl T.noF (fun h₅ tk₅ dx k₅ dn dne hx₅ hn₅ => ?_)
  have keep₅ : ∀ b o, b ≠ x → s.heap.get? b = some o → h₅.get? b = some o := fun b o nb e => k₅ b o nb (keep₄ b o nb e)
  have X₅ : K.In h₅ := kept_x X hnx keep₅
  have hns₅ : h₅.Ns s.heap.objs.size fun y => List.lookup y ([(PySem.Str.ofString "self", Value.ref x), (f, v)] : List (Str × Value)).reverse := ⟨oL, es, ep, k₅ _ _ hxL (k₄ _ _ hxL (k₃ _ _ (k₂ _ _ hL))), rL⟩
  -- self.code = q
  refine wpAny_execs_cons (plainObj_wpAny_Assign_Attribute ?_)
  refine Calls.Constant_str (k := k2) (pos := c3) (ESX.ldL hns₅ mS ?_ rfl lkX (by decide +kernel))
  obtain ⟨oD, eD, pD, hD, rD⟩ := id hn₅
  refine set_plain X₅ (ox := { cls := .ref C, dict := some dx, data := .fields #[.ref t1, .none, .none, .none, .bool false, .none] }) (od := some oD) ⟨hx₅, rfl, rfl, hD⟩ T.sa ?_
  have hw : Within (fun y => if y = f then some v else none) [f] := fun y hy => by
    by_cases e : y = f
    · rw [e]
      exact List.mem_singleton.mpr rfl
    · exact absurd (show (if y = f then some v else none) = none from if_neg e) hy
  refine OEX.osa_old X₅ hx₅ hn₅ hw (by show 1 ≤ 1000; decide) hcl (show refsVE (.ref C :: bm) = true from hbm) rfl T.noC (fun h₆ tk₆ k₆ hn₆ => ?_)
  refine wpAny_execs_nil (hq h₆ tk₆ dx t1 ⟨fun b o nb e => ?_, k₆ _ _ dne.symm hx₅, Nat.le_trans (Nat.le_of_lt hLt) dn, dne, _, hn₆⟩)
  have nbd : b ≠ dx := Nat.ne_of_lt (Nat.lt_of_lt_of_le (Heap.lt_size e) (Nat.le_trans (Nat.le_of_lt hLt) dn))
  exact k₆ b o nbd (keep₅ b o nb e)
/-- a made error -/
structure Own (h h' : Heap) (e C d : Addr) (f q : Str) (v : Value) : Prop where
  keep : ∀ b o, h.get? b = some o → h'.get? b = some o
  new : h.objs.size ≤ e
  obj : ∃ oe vs, h'.get? e = some oe ∧ oe.cls = .ref C ∧ oe.dict = some d ∧ oe.data = .fields vs ∧ vs[1]? = some .none
  dbig : h.objs.size ≤ d
  dne : d ≠ e
  ns : ∃ tk, h'.Ns1 d (fun y => if y = "code" then some (.str q tk) else if y = f then some v else none)
theorem err_made (T : ErrTxt prog K mg nm f q C fI cc cd) {v : Value} (X : K.In s.heap) (hG : s.heap.Ns mainGlobals mg) (hB : ∃ mb, s.heap.Ns builtinsNs mb ∧ mb "super" = some (.type "super")) (hlim : s.heap.NoLimit) (hroom : A.depth + 1 < recursionLimit)
    (hq : ∀ h' tk e d, Own s.heap h' e C d f q v → R (.ok (.ret (.ref e))) { s with heap := h', toks := tk }) :
    codeAny (model prog w) A (.call (.ref C) ⟨[v], []⟩) R s := by
  obtain ⟨nm', q', N, bs, bm, sn, sub, ab, col, dd, k0, k1', k2', k3, k5, hC, hbm, hal⟩ := T.cls
  obtain ⟨hp, g, dr, tk, os⟩ := s
  have k : ∀ b o, hp.get? b = some o → ((hp.push (kdv_tup [v])).push (excO C hp.objs.size)).get? b = some o := fun b o e => Heap.get?_push_of_some _ (Heap.get?_push_of_some _ e)
  have hget : ((hp.push (kdv_tup [v])).push (excO C hp.objs.size)).get? (hp.objs.size + 1) = some (excO C hp.objs.size) := by heap_get
  have hnx : K.lookup (hp.objs.size + 1) = none := by
    cases e : K.lookup (hp.objs.size + 1) with
    | none => rfl
    | some o =>
      have z : hp.get? (hp.objs.size + 1) = some o := X _ _ e
      exact absurd (Nat.lt_of_succ_lt (Heap.lt_size z)) (Nat.lt_irrefl _)
  obtain ⟨mb, hmb, hsb⟩ := hB
  refine call_own F.excBase_ValueError (fun X => refsVE_contains X bm hbm) (X _ _ hC) (looks_findIn X T.iC) (fun self => bind_fn X self T.tC) (by show 1 ≤ sizeLine; decide) ?_
  refine err_init (s := ⟨(hp.push (kdv_tup [v])).push (excO C hp.objs.size), g, dr, tk, os⟩) T (X.keeps k) (hG.keeps k) ⟨mb, hmb.keeps k, hsb⟩ (hlim.keeps k) hget hnx (show A.depth + 1 < recursionLimit from hroom) fun h' tk' dx t1 M => ?_
  have old : ∀ b o, hp.get? b = some o → h'.get? b = some o := fun b o e => M.keep b o (Nat.ne_of_lt (Nat.lt_succ_of_lt (Heap.lt_size e))) (k b o e)
  have z : hp.objs.size + 1 + 1 ≤ dx := by
    have dn := M.dbig
    rw [Heap.size_push, Heap.size_push] at dn
    exact dn
  exact ⟨rfl, hq h' tk' (hp.objs.size + 1) dx ⟨old, Nat.le_succ _, ⟨_, _, M.obj, rfl, rfl, rfl, rfl⟩, Nat.le_trans (Nat.le_trans (Nat.le_succ _) (Nat.le_succ _)) z, M.dne, M.ns⟩⟩
end
end ErrX
end PySem
namespace My
open PySem PySem.Spec PyProof.Rows L2
abbrev errD (f q : Str) (v : V) : List (Str × V) := [("code", .str q), (f, v)]
theorem relO_err {v : V} {v' : Value} {f q : Str} {tk : Tok} (r : RelV v v') (g : Str) : RelO (List.lookup g (errD f q v)) (if g = "code" then some (.str q tk) else if g = f then some v' else none) := by
  by_cases hc : g = "code"
  · rw [if_pos hc]
    have e : List.lookup g (errD f q v) = some (.str q) := by
      subst hc
      simp [errD, List.lookup]
    rw [e]
    exact ⟨_, rfl⟩
  · rw [if_neg hc]
    have e1 : (g == ("code" : Str)) = false := by simpa using hc
    by_cases hf : g = f
    · rw [if_pos hf]
      have e : List.lookup g (errD f q v) = some v := by
        subst hf
        simp [errD, List.lookup, e1]
      rw [e]
      exact r
    · rw [if_neg hf]
      have e2 : (g == f) = false := by simpa using hf
      have e : List.lookup g (errD f q v) = none := by simp [errD, List.lookup, e1, e2]
      rw [e]
      trivial
section
variable {X : Cx} {C fI cc cd : Addr} {nm f q : Str}
/-- X(e), the error made -/
def tMkErr (C : Addr) (f q : Str) (ta : TA) : L2.St → Hp → XK → Prop := fun σ H Q => ta σ H fun vs H1 => ∃ v, vs = [v] ∧ ∀ d, H1 d = none → Q (.ref C) (some d) (upd H1 d (.xd (errD f q v)))
theorem pmk_err {a : Expr} {ta : TA} {p pos : Pos} {k : Nat} (T : ErrX.ErrTxt X.prog X.K X.mg nm f q C fI cc cd) (hr : Room k X.A) (ha : PA X [a] ta) (hg : Gl X nm) (hd : (nm == ("__debug__" : Str)) = false := by decide)
    (he : starEach (a :: []) X.env = (false, eval a X.env) :: starEach [] X.env := by rfl) (hpl : (backTo pos (starEach [] X.env)).any (·.1) = false := by rfl) :
    PMk X (.Call (.Name nm p) [a] [] pos) (tMkErr C f q ta) := by
  intro pins s σ H Q I h
  refine wpAny_Call_Name_kw (ld_glob I hg T.gC ?_ hd)
  refine PySem.W.callWith_K (h₀ := X.base) I.ok.mod.kin T.kC (thn (ha.run pos pins s σ H _ I h) fun us s1 hh => ?_) he hpl
  obtain ⟨vs, H1, I1, r1, v, ev, q1⟩ := hh
  subst ev
  refine ⟨I1.kIn, ?_⟩
  cases r1 with
  | cons rv rn =>
    rename_i v' us'
    cases rn
    have hlim := I1.nolimit
    obtain ⟨mb, hb1, hb2⟩ := I1.mod.blt
    have hB : ∃ mb, s1.heap.Ns builtinsNs mb ∧ mb "super" = some (.type "super") := ⟨mb, hb1.keeps I1.bk, (hb2 _ (by decide +kernel)).trans (by decide +kernel)⟩
    refine wpAny_call (ErrX.err_made T I1.kIn (I1.mod.glob.keeps I1.bk) hB hlim (by have := hr.dp; omega) fun h' tk' e d M => ?_)
    obtain ⟨hp, g, dr, tok, os⟩ := s1
    obtain ⟨oe, fv, hoe, hc, hdct, hdat, h1⟩ := M.obj
    obtain ⟨tk0, hns⟩ := M.ns
    obtain ⟨G', g1, g2⟩ := restrict h' fun b => decide (b ≠ e)
    have gk : ∀ b, b ≠ e → G'.get? b = h'.get? b := fun b hb => g1 b (decide_eq_true hb)
    have ge : G'.get? e = none := g2 e (by simp)
    have old : ∀ b o, hp.get? b = some o → G'.get? b = some o := fun b o z => (gk b (Nat.ne_of_lt (Nat.lt_of_lt_of_le (Heap.lt_size z) M.new))).trans (M.keep b o z)
    have ob : ObjOk X.prog X.w (upd H1 d (.xd (errD f q v))) G' d (.xd (errD f q v)) := ⟨_, hns.at (fun o z => (gk d M.dne).trans z), fun y => relO_err rv y⟩
    have J : Inv X pins σ (upd H1 d (.xd (errD f q v))) ⟨G', g, dr, tk', os⟩ := I1.laid (t' := tk') old M.dbig ob
    refine ⟨e, oe, fv, ⟨G', g, dr, tk', os⟩, _, .ref C, some d, rfl, J, fun b o z => ?_, ge, hoe, ⟨hc, hdct⟩, hdat, h1, ?_, rfl, I1.bare, raises_own T.exC T.tyC, q1 d (I1.hok.fresh M.dbig)⟩
    · by_cases hb : b = e
      · have z' : G'.get? b = some o := z
        rw [hb, ge] at z'
        cases z'
      · exact (gk b hb).symm.trans z
    · rw [upd_ne (Ne.symm M.dne)]
      exact I1.hok.fresh M.new
end
end My
namespace My
open PySem PySem.Spec PyProof.Rows L2
/-! ### a field of a caught exception, wherever it is pinned -/
def tXg (K : PySem.W.Frag) (a : Addr) (cls : Value) (d : Option Addr) (n : Str) (te : TE) : TE := fun σ H Q => te σ H fun x H1 => x = .ref a ∧
  ∃ (C dd : Addr) (fs : List (Str × V)) (v : V), cls = .ref C ∧ XfC K C ∧ PySem.W.findIn K (.ref C) n = some none ∧ d = some dd ∧ H1 dd = some (.xd fs) ∧ fs.lookup n = some v ∧ Q v H1
section
variable {X : Cx} {a : Addr} {oe : Obj} {cls : Value} {d : Option Addr} {e : Expr} {te : TE} {pos : Pos} {n : Str}
theorem pe_xg {K : PySem.W.Frag} (hp : (a, oe) ∈ X.pn) (hz : Zc cls d oe) (hf : ∃ vs, oe.data = .fields vs) (he : PE X e te) (hK : X.K = K := by rfl) (hb : attributeBase e n X.env (eval e X.env) = eval e X.env := by rfl) : PE X (.Attribute e n pos) (tXg K a cls d n te) := by
  subst hK
  constructor
  intro pins s σ H Q I h
  apply attr_of hb
  apply thn (he.run pins s σ H _ I h)
  rintro u s1 ⟨x, H1, I1, rx, rfl, C, dd, fs, v, rfl, T, hno, rfl, ea, l, q⟩
  obtain rfl : u = Value.ref a := rx
  have pn := (I1.pin (a, oe) (List.mem_append_left _ hp)).1
  obtain ⟨vs, hd⟩ := hf
  obtain ⟨mA, hns, hr⟩ : ObjOk X.prog X.w H1 s1.heap dd (.xd fs) := I1.hok dd _ ea
  obtain ⟨od, ho, hl⟩ := lookIn_ns hns
  have rn := hr n
  rw [l] at rn
  obtain ⟨u, hu, ru⟩ := RelO.some_of (v := v) (o := mA n) rn
  have at_ : PySem.W.InstAt s1.heap a oe C (some od) := ⟨pn, hz.1, by unfold PySem.W.notCls; rw [hd] <;> rfl, by rw [hz.2]; exact ho⟩
  exact HandSPX.exc_get I1.kIn at_ T.ga T.gg T.exC (PySem.W.findObj_own T.hdC hno rfl (by rw [hl, hu])) (handed_of ru) ⟨v, H1, I1.tok _, ru, q⟩
end
/-! ### an own def, called where an exception is pinned -/
structure FnP (P : Program) (w : World) (K : PySem.W.Frag) (mg : Str → Option Value) (base : Heap) (k : Nat) (f : Addr) (fd : FuncData) (ps : List Str) (sp : Addr × Obj → Sp) : Prop where
  len : ∀ p vs H Q E, sp p vs H Q E → vs.length = ps.length
  run : ∀ (A : Around) (outer : List Env) (s : Shared) (H : Hp) (args : Args) (us : List Value) (vs : List V) (Q : VK) (p : Addr × Obj), L2H.RoomH k A → L2H.PinOk outer H s p → Env0 P w K mg base A outer s H → BindsTo s fd args (ps.zip us) → Vals vs us → sp p vs H Q E0 →
    codeAny (model P w) A (.call (.ref f) args) (CR CX0 outer P w H s Q E0) s
section
variable {P : Program} {w : World} {K : PySem.W.Frag} {mg : Str → Option Value} {base : Heap}
theorem Fun.pinned {x qual : Str} {st : Stmt} {f : Addr} {fd : FuncData} {N ps : List Str} {k : Nat} {sp : Addr × Obj → Sp} (F : Fun K x qual st f fd) (S : FnScope N ps (defScope st)) (len : ∀ p vs H Q E, sp p vs H Q E → vs.length = ps.length)
    (hbody : ∀ (cdv : Value) (A : Around) (outer : List Env) (s : Shared) (H : Hp) (vs : List V) (Q : VK) (p : Addr × Obj), L2H.RoomH k (A.deeper (envOfC qual (defScope st) s.heap.objs.size f cdv)) → sp p vs H Q E0 →
      ∃ t, PSs (L2H.cxH CX0 P w K mg base N qual (defScope st) f cdv A outer s H E0 p) (defBody st) t ∧ t { nx := fun _ H' => Q .non H', rt := Q } (L2.start N vs) H) : FnP P w K mg base (k + 1) f fd ps sp := by
  obtain ⟨oc, od, kV, doc, pm, an, cdv, ct, osl, rfl, lk, hcd⟩ := F.ex
  constructor
  · exact len
  intro A outer s H args us vs Q p hr hpin e0 hb r hsp
  have hl := len _ _ _ _ _ hsp
  have KX : K.In s.heap := e0.mod.kin.keeps fun b o e => (e0.bs b o e).1
  have lim : s.heap.NoLimit := e0.mod.nolimit.keeps fun b o e => (e0.bs b o e).1
  have kinds : ∀ y ∈ ps.zip us, (defScope st).names.lookup y.1 = some .local ∨ ((defScope st).names.lookup y.1 = some .cell ∧ ((cellsFrom (s.heap.objs.size + 1) (defScope st).names []).lookup y.1).isSome = true) := by
    rintro ⟨n, v⟩ hy
    cases S.par n (List.of_mem_zip hy).1 with
    | inl q => exact .inl q
    | inr q => exact .inr ⟨q, PySem.W.cellsFrom_some _ _ _ (.inl q)⟩
  apply codeAny_call_function hr.depth (KX _ _ lk) rfl S.co S.gen rfl (PySem.W.codeRec_of KX hcd)
  apply hb
  apply wpAny_newFunctionEnv_cells S.kind kinds
  rintro env rfl s1 x
  refine ⟨lim.keeps x.toInCall.keep, codeAny_func ?_⟩
  obtain ⟨t, ht, hq⟩ := hbody cdv A outer s H vs Q p (hr.deeper _) hsp
  have I := L2H.inv_startH (CX := CX0) (E := E0) (f := f) (cd := cdv) S hpin e0 hl r x
  apply wpAny_mono (ht.run [] s1 (L2.start N vs) H _ I hq)
  · intro fl s' hs
    cases fl with
    | ret u =>
      obtain ⟨v, σ', H', J, rv, q⟩ := hs
      exact ⟨v, H', J.os, J.bare, J.base, J.hok, rv, q⟩
    | next =>
      obtain ⟨σ', H', J, q⟩ := hs
      exact ⟨V.non, H', J.os, J.bare, J.base, J.hok, rfl, q⟩
    | brk =>
      obtain ⟨_, _, _, q⟩ := hs
      exact q.elim
    | cont =>
      obtain ⟨_, _, _, q⟩ := hs
      exact q.elim
  · exact fun e s' hs => hs
end
structure HasP (P : Program) (w : World) (K : PySem.W.Frag) (mg : Str → Option Value) (base : Heap) (k : Nat) (x : Str) (ps : List Str) (sp : Addr × Obj → Sp) : Prop where
  ex : ∃ (f : Addr) (fd : FuncData), FnP P w K mg base k f fd ps sp ∧ mg x = some (.ref f) ∧ PySem.W.keepIn K (.ref f) = true ∧ Binds K fd ps []
section
variable {X : Cx} {k : Nat} {x : Str} {ps : List Str} {sp : Addr × Obj → Sp} {p : Addr × Obj} {ps1 pos : Pos} {e : Expr} {es : List Expr} {t : TA}
theorem pe_ownP (h : HasP X.prog X.w X.K X.mg X.base k x ps sp) (hr : L2H.RoomH k X.A) (hp : p ∈ X.pn) {sp1 : Sp} (hs : ∀ vs H Q, sp1 vs H Q E0 → sp p vs H Q E0) (hg : Gl X x) (ha : PA X (e :: es) t) (hdb : (x == ("__debug__" : Str)) = false := by decide)
    (he : starEach (e :: es) X.env = (false, eval e X.env) :: starEach es X.env := by rfl) (hpl : (backTo pos (starEach es X.env)).any (·.1) = false := by rfl) : PE X (.Call (.Name x ps1) (e :: es) [] pos) (tCall sp1 [] E0 t) := by
  obtain ⟨f, fd, F, m, kp, hb⟩ := h.ex
  constructor
  intro pins s σ H Q I h
  apply wpAny_Call_Name_kw (ld_glob I hg m ?_ hdb)
  apply PySem.W.callWith_K (h₀ := X.base) I.ok.mod.kin kp _ he hpl
  apply thn (ha.run pos pins s σ H _ I h)
  rintro us s1 ⟨vs, H1, I1, r, q⟩
  rw [List.append_nil] at q
  replace q := hs _ _ _ q
  refine ⟨I1.kIn, ?_⟩
  have b := hb s1 us I1.kIn (by rw [List.append_nil, ← r.length]; exact F.len _ _ _ _ _ q)
  rw [List.append_nil] at b
  have P1 := I1.pin p (List.mem_append_left _ hp)
  have pok : L2H.PinOk X.stack H1 s1 p := ⟨P1.1, P1.2.1, fun hm => (List.mem_cons.mp (I1.stkSub p.1 hm)).elim P1.2.2.1 P1.2.2.2.1, P1.2.2.2.2⟩
  apply wpAny_call
  apply codeAny_mono (F.run X.A X.stack s1 H1 ⟨us, []⟩ us vs Q p hr pok I1.env0 b r q)
  intro r s' hq
  cases r with
  | error e => exact (show False from hq).elim
  | ok fl =>
    cases fl with
    | ret u => exact I1.after hq
    | next => exact False.elim hq
    | brk => exact False.elim hq
    | cont => exact False.elim hq
end
/-! ### except (x1, x2, x3) as n, one of which always fits -/
theorem fly_push {B h : Heap} {l : List Env} {e : Addr} {Z : Obj → Prop} (x : HandSPX.FlyingZ B l e Z h) (o : Obj) : HandSPX.FlyingZ B l e Z (h.push o) := by
  have k : ∀ b u, h.get? b = some u → (h.push o).get? b = some u := fun b u z => Heap.get?_push_of_some _ z
  obtain ⟨x1, x2, x3, oe, vs, T, oT, ts, y1, y2, y3, y4, y5, y6, y7, y8, y9⟩ := x
  exact ⟨fun b u z => k b u (x1 b u z), x2, Heap.FunFrames.of_keeps (fun b u z _ => ⟨u, k b u z, rfl⟩) x3, oe, vs, T, oT, ts, k _ _ y1, y2, y3, y4, y5, y6, k _ _ y7, y8, y9⟩
def endsOff (i : Nat) (D : Ends) : Ends := { nx := fun σ' H' => D.nx (σ'.set i none) H', rt := D.rt, bk := fun σ' H' => D.bk (σ'.set i none) H', ct := fun σ' H' => D.ct (σ'.set i none) H' }
/-- the wish for an exception that some of the classes cs takes -/
def wTup (K : PySem.W.Frag) (cs : List Value) (len i : Nat) (ts : Addr → Value → Option Addr → TS) (D : Ends) : WX := fun cls d σ H => PySem.W.exmAny K cls cs = some true ∧ ∀ a, H a = none → σ.length = len → ts a cls d (endsOff i D) (σ.set i (some (.ref a))) H
section
variable {X : Cx} {x1 x2 x3 n : Str} {c1 c2 c3 : Value} {i j : Nat} {body suite : List Stmt} {b₀ : Stmt} {p1 p2 p3 p4 pos pos' : Pos} {tb : WX → TS} {ts : Addr → Value → Option Addr → TS}
theorem ps_try_tup3 (hs : X.stack = X.env :: X.outer) (hf : X.env.frame = some X.env.locals) (hN : X.N.Nodup) (hi : X.N[i]? = some n) (hln : X.env.kindOf n = some .local) (n1 : Names X x1 c1) (n2 : Names X x2 c2) (n3 : Names X x3 c3)
    (hb : ∀ (W : WX) (pn : List (Addr × Obj)) (xe : Value → Shared → Prop), Takes (X.tr pn xe) W → PassesOwn (model X.prog X.w) X.A X.env xe → PSs (X.tr pn xe) body (tb W))
    (hsu : ∀ (a : Addr) (oe : Obj) (cls : Value) (d : Option Addr) (pn : List (Addr × Obj)), Zc cls d oe → (∃ vs, oe.data = .fields vs) → PSs (X.suite a ((a, oe) :: pn)) (b₀ :: suite) (ts a cls d)) :
    PS X (.Try body [.ExceptHandler (some (.Tuple [.Name x1 p1, .Name x2 p2, .Name x3 p3] j p4)) (some n) (b₀ :: suite) pos'] [] [] pos) (fun D σ H => tb (wTup X.K [c1, c2, c3] X.N.length i ts D) D σ H) := by
  constructor
  intro pins s σ H D I h
  have ok := I.ok
  have hfr : X.A.frames = some (X.env :: X.outer) := by rw [ok.frames, hs]
  apply wpAny_Try_except
  generalize hh : ExceptHandler.ExceptHandler (some (Expr.Tuple [.Name x1 p1, .Name x2 p2, .Name x3 p3] j p4)) (some n) (b₀ :: suite) pos' = hd
  have run := (hb (wTup X.K [c1, c2, c3] X.N.length i ts D) (X.pn ++ pins) (fun e s₁ => wpAny (model X.prog X.w) X.A (noteFrame e X.env) (fun _ s₂ => wpAny (model X.prog X.w) X.A (setFlight e none) (fun _ s₃ =>
    wpAny (model X.prog X.w) X.A (handleBy e X.env [hd]) (SP X pins D) X.xe s₃) X.xe s₂) X.xe s₁) ?tk PassesOwn.looking).run [] s σ H D (I.toTry _) h
  case tk =>
    rintro u s' ⟨a, B, sI, pins', σ', H', cls, d, rfl, J', nb, up, sky, na, os, ag, hm, hyes⟩
    have J : Inv X pins σ' H' sI := J'.ofTry ok
    have sky' : Sky B (X.env :: X.outer) a (Zc cls d) X.env.locals s'.heap := by rw [← hs]; exact sky
    show wpAny (model X.prog X.w) X.A (noteFrame (.ref a) X.env) _ _ _
    apply Sky.land Zc.steady hfr hf sky'
    intro h3 fl3 up3
    obtain ⟨oe3, vs3, he3, hz3, hd3⟩ := fl3.there
    have out : a ∉ frs (X.env :: X.outer) := fun hm => by
      obtain ⟨_, o', e', hnf⟩ := fl3.2.2.1.mem hm
      rw [he3] at e'
      cases e'
      exact hnf _ hd3
    have nL : a ≠ X.env.locals := fun z => out (List.mem_filterMap.mpr ⟨X.env, List.mem_cons_self, by rw [hf, z]⟩)
    have nF : a ∉ X.fs := fun hm => by
      obtain ⟨e, he, q⟩ := List.mem_filterMap.mp hm
      exact out (List.mem_filterMap.mpr ⟨e, List.mem_cons_of_mem _ he, q⟩)
    have J3 : Inv X pins σ' H' { s' with heap := h3 } := J.landed nb fl3.1 (up.trans up3) os ag
    have S3 := J3.suite he3 hd3 na nL nF
    subst hh
    refine wpAny_handleBy_cons (codeAny_handlers_test ?_) (by intro q; cases q)
    have nm : ∀ {x : Str} {c : Value} {p : Pos} {Q : Value → Shared → Prop} {E : Value → Shared → Prop}, Names X x c → Q c { s' with heap := h3 } → wpAny (model X.prog X.w) (X.A.mark (some (.ref a))) (eval (.Name x p) X.env) Q E { s' with heap := h3 } := by
      rintro x c p Q E ⟨hg, hdbg, hm | ⟨hm, hv, hnn⟩⟩ q
      · exact ld_glob (X := X.suite a ((a, oe3) :: (X.pn ++ pins))) S3 hg hm q hdbg
      · exact ld_blt (X := X.suite a ((a, oe3) :: (X.pn ++ pins))) S3 hg hm hv q hnn hdbg
    apply wpAny_Tuple
    refine wpAny_items_cons (nm n1 (wpAny_items_cons (nm n2 (wpAny_items_cons (nm n3 (wpAny_items_nil ⟨by show 3 ≤ sizeLine; decide, ?_⟩))))))
    have fl5 := fly_push fl3 { cls := .type "tuple", data := .seq [c1, c2, c3].toArray }
    have up5 : s'.heap.UpToSlots (h3.push { cls := .type "tuple", data := .seq [c1, c2, c3].toArray }) := up3.trans (Heap.UpToSlots.of_keeps fun b o e => Heap.get?_push_of_some _ e)
    have J5 : Inv X pins σ' H' { s' with heap := h3.push { cls := .type "tuple", data := .seq [c1, c2, c3].toArray } } := J.landed nb fl5.1 (up.trans up5) os ag
    have LT : PySem.W.Looks (model X.prog X.w) (h3.push { cls := .type "tuple", data := .seq [c1, c2, c3].toArray }) (typeOf (.ref a)) cls := fun A Q E s k q => wpAny_typeOf_ref (k _ _ (Heap.get?_push_of_some _ he3)) (by rw [hz3.1]; exact q)
    have LM := PySem.W.exm_tup3 (M := model X.prog X.w) (J5.kIn) LT (Heap.get?_push_size _ rfl) hm
    apply LM.here
    apply codeAny_handlers_suite_as
    apply HandSPX.lands_againZ fl5
    intro h4 fl4 up4
    have J4 : Inv X pins σ' H' { s' with heap := h4 } := J.landed nb fl4.1 ((up.trans up5).trans up4) os ag
    obtain ⟨oe4, vs4, he4, hz4, hd4⟩ := fl4.there
    have S4 := J4.suite he4 hd4 na nL nF
    refine store_ok (X := X.suite a ((a, oe4) :: (X.pn ++ pins))) (v := .ref a) S4 hN hi (.inl hln) rfl (fun s5 S5 => ?_) (.inr hln)
    apply wpAny_mono ((hsu a oe4 cls d (X.pn ++ pins) hz4 ⟨_, hd4⟩).run [] s5 _ H' _ S5 (hyes a na J.len))
    · have off : ∀ {σ6 : L2.St} {H6 : Hp} {s6 : Shared} {Q : Shared → Prop}, Inv (X.suite a ((a, oe4) :: (X.pn ++ pins))) [] σ6 H6 s6 → (∀ s7, Inv X pins (σ6.set i none) H6 s7 → Q s7) →
          wpAny (model X.prog X.w) X.A (do bindName X.env n .none; unbindBehindTheSuite X.env n pos') (fun _ s7 => Q s7) X.xe s6 := fun S6 hq => gone_ok (S6.unsuite ok) hN hi hln hq
      intro f s6 hsp
      cases f with
      | ret u =>
        obtain ⟨v6, σ6, H6, S6, r6, q6⟩ := hsp
        exact off S6 fun s7 J7 => ⟨_, _, _, J7, r6, q6⟩
      | next =>
        obtain ⟨σ6, H6, S6, q6⟩ := hsp
        exact off S6 fun s7 J7 => ⟨_, _, J7, q6⟩
      | brk =>
        obtain ⟨σ6, H6, S6, q6⟩ := hsp
        exact off S6 fun s7 J7 => ⟨_, _, J7, q6⟩
      | cont =>
        obtain ⟨σ6, H6, S6, q6⟩ := hsp
        exact off S6 fun s7 J7 => ⟨_, _, J7, q6⟩
    · exact fun _ _ z => z.elim
  refine wpAny_mono run (fun f s1 hsp => ?_) (fun e s1 he => he)
  cases f with
  | next =>
    obtain ⟨σ', H', J', q⟩ := hsp
    exact wpAny_execs_nil ⟨σ', H', J'.ofTry ok, q⟩
  | ret u =>
    obtain ⟨v, σ', H', J', r, q⟩ := hsp
    exact ⟨v, σ', H', J'.ofTry ok, r, q⟩
  | brk =>
    obtain ⟨σ', H', J', q⟩ := hsp
    exact ⟨σ', H', J'.ofTry ok, q⟩
  | cont =>
    obtain ⟨σ', H', J', q⟩ := hsp
    exact ⟨σ', H', J'.ofTry ok, q⟩
end
end My
namespace My
/-! ### what is left of n without b's primes -/
def IsStrip (n b r : Nat) : Prop := r ∣ n ∧ Nat.Coprime r b ∧ ∃ k, n ∣ r * b ^ k
theorem strip_dvd {n b r r' : Nat} (h : IsStrip n b r) (h' : IsStrip n b r') : r ∣ r' := by
  obtain ⟨a, c, _⟩ := h
  obtain ⟨_, _, k, d⟩ := h'
  exact (c.pow_right k).dvd_of_dvd_mul_right (Nat.dvd_trans a d)
theorem strip_one {n b r r' : Nat} (h : IsStrip n b r) (h' : IsStrip n b r') : r = r' := Nat.dvd_antisymm (strip_dvd h h') (strip_dvd h' h)
/-! ### primes -/
def isP (k : Nat) : Prop := 2 ≤ k ∧ ∀ j, 2 ≤ j → j < k → j * j ≤ k → ¬ j ∣ k
theorem isP.divs {k d : Nat} (h : isP k) (hd : d ∣ k) : d = 1 ∨ d = k := by
  obtain ⟨h2, h⟩ := h
  obtain ⟨e, he⟩ := hd
  have d0 : d ≠ 0 := fun z => by subst z; omega
  have e0 : e ≠ 0 := fun z => by subst z; omega
  by_cases d1 : d = 1
  · exact .inl d1
  by_cases e1 : e = 1
  · subst e1
    exact .inr (by omega)
  exfalso
  have hd2 : 2 ≤ d := by omega
  have he2 : 2 ≤ e := by omega
  have dk : d < k := by
    rw [he]
    calc d = d * 1 := (Nat.mul_one d).symm
      _ < d * e := Nat.mul_lt_mul_of_pos_left (by omega) (by omega)
  have ek : e < k := by
    rw [he]
    calc e = 1 * e := (Nat.one_mul e).symm
      _ < d * e := Nat.mul_lt_mul_of_pos_right (by omega) (by omega)
  rcases Nat.le_total d e with z | z
  · exact h d hd2 dk (by rw [he]; exact Nat.mul_le_mul_left d z) ⟨e, he⟩
  · exact h e he2 ek (by rw [he]; exact Nat.mul_le_mul_right e z) ⟨d, by rw [he, Nat.mul_comm]⟩
theorem isP.coprime {k n : Nat} (h : isP k) (hn : ¬ k ∣ n) : Nat.Coprime k n := by
  rcases h.divs (Nat.gcd_dvd_left k n) with z | z
  · exact z
  · exact absurd (by rw [← z]; exact Nat.gcd_dvd_right k n) hn
theorem isP.mul {k a b : Nat} (h : isP k) (hd : k ∣ a * b) : k ∣ a ∨ k ∣ b := by
  by_cases ha : k ∣ a
  · exact .inl ha
  · exact .inr ((h.coprime ha).dvd_of_dvd_mul_left hd)
theorem isP.pow {k b : Nat} (h : isP k) : ∀ {i : Nat}, k ∣ b ^ i → k ∣ b
  | 0, z => by
    rw [Nat.pow_zero] at z
    have := Nat.dvd_one.mp z
    have := h.1
    omega
  | i + 1, z => by
    rw [Nat.pow_succ] at z
    rcases h.mul z with z | z
    · exact h.pow z
    · exact z
theorem has_prime : ∀ (n : Nat), 2 ≤ n → ∃ q, isP q ∧ q ∣ n ∧ q ≤ n := by
  intro n
  induction n using Nat.strongRecOn with
  | _ n ih =>
    intro h2
    by_cases h : isP n
    · exact ⟨n, h, Nat.dvd_refl _, Nat.le_refl _⟩
    · have : ∃ j, 2 ≤ j ∧ j < n ∧ j ∣ n := by
        apply Classical.byContradiction
        intro no
        exact h ⟨h2, fun j a b _ d => no ⟨j, a, b, d⟩⟩
      obtain ⟨j, j2, jn, jd⟩ := this
      obtain ⟨q, q1, q2, q3⟩ := ih j jn j2
      exact ⟨q, q1, Nat.dvd_trans q2 jd, by omega⟩
open Classical in
/-- the product of the primes up to N that divide n -/
noncomputable def prodP (n : Nat) : Nat → Nat
  | 0 => 1
  | N + 1 => if isP (N + 1) ∧ (N + 1) ∣ n then prodP n N * (N + 1) else prodP n N
open Classical in
theorem prodP_succ (n N : Nat) : prodP n (N + 1) = if isP (N + 1) ∧ (N + 1) ∣ n then prodP n N * (N + 1) else prodP n N := rfl
theorem prodP_congr {n m : Nat} : ∀ N, (∀ k, isP k → k ≤ N → (k ∣ n ↔ k ∣ m)) → prodP n N = prodP m N
  | 0, _ => rfl
  | N + 1, h => by
    have ih := prodP_congr N fun k a b => h k a (by omega)
    unfold prodP
    by_cases c : isP (N + 1)
    · have e := h (N + 1) c (Nat.le_refl _)
      by_cases d : (N + 1) ∣ n
      · rw [if_pos ⟨c, d⟩, if_pos ⟨c, e.mp d⟩, ih]
      · rw [if_neg (fun z => d z.2), if_neg (fun z => d (e.mpr z.2)), ih]
    · rw [if_neg (fun z => c z.1), if_neg (fun z => c z.1), ih]
theorem prodP_none {n : Nat} : ∀ N, (∀ k, isP k → k ≤ N → ¬ k ∣ n) → prodP n N = 1
  | 0, _ => rfl
  | N + 1, h => by
    unfold prodP
    rw [if_neg fun z => h _ z.1 (Nat.le_refl _) z.2]
    exact prodP_none N fun k a b => h k a (by omega)
theorem prodP_pos {n : Nat} : ∀ N, 0 < prodP n N
  | 0 => Nat.one_pos
  | N + 1 => by
    unfold prodP
    split
    · exact Nat.mul_pos (prodP_pos N) (Nat.succ_pos N)
    · exact prodP_pos N
/-- more is the same: all divisors of n are at most n -/
theorem prodP_more {n : Nat} (h : 0 < n) : ∀ i, prodP n (n + i) = prodP n n
  | 0 => rfl
  | i + 1 => by
    show prodP n (n + i + 1) = _
    rw [prodP_succ, if_neg fun z => by have := Nat.le_of_dvd h z.2; omega]
    exact prodP_more h i
theorem prodP_at {n N : Nat} (h : 0 < n) (hN : n ≤ N) : prodP n N = prodP n n := by
  obtain ⟨i, rfl⟩ := Nat.le.dest hN
  exact prodP_more h i
noncomputable def radP (n : Nat) : Nat := prodP n n
/-- a prime divides the product exactly if it is one of them -/
theorem prodP_dvd {n k : Nat} (hk : isP k) : ∀ N, k ∣ prodP n N ↔ (k ≤ N ∧ k ∣ n)
  | 0 => by
    have := hk.1
    constructor
    · intro z
      have := Nat.dvd_one.mp (show k ∣ 1 from z)
      omega
    · rintro ⟨z, _⟩
      omega
  | N + 1 => by
    have ih := prodP_dvd (n := n) hk N
    unfold prodP
    by_cases c : isP (N + 1) ∧ (N + 1) ∣ n
    · rw [if_pos c]
      constructor
      · intro z
        rcases hk.mul z with z | z
        · have := ih.mp z
          exact ⟨by omega, this.2⟩
        · rcases c.1.divs z with z | z
          · have := hk.1; omega
          · rw [z]; exact ⟨Nat.le_refl _, c.2⟩
      · rintro ⟨z1, z2⟩
        by_cases e : k = N + 1
        · rw [e]; exact Nat.dvd_mul_left _ _
        · exact Nat.dvd_trans (ih.mpr ⟨by omega, z2⟩) (Nat.dvd_mul_right _ _)
    · rw [if_neg c, ih]
      constructor
      · rintro ⟨a, b⟩; exact ⟨by omega, b⟩
      · rintro ⟨a, b⟩
        refine ⟨?_, b⟩
        by_cases e : k = N + 1
        · subst e; exact absurd ⟨hk, b⟩ c
        · omega
theorem radP_pos (n : Nat) : 0 < radP n := prodP_pos n
theorem radP_prime {n k : Nat} (h : 0 < n) (hk : isP k) : k ∣ radP n ↔ k ∣ n := by
  unfold radP
  rw [prodP_dvd hk]
  exact ⟨fun z => z.2, fun z => ⟨Nat.le_of_dvd h z, z⟩⟩
theorem prodP_dvdn {n : Nat} (h : 0 < n) : ∀ N, prodP n N ∣ n ∧ ∀ k, isP k → N < k → k ∣ n → Nat.Coprime (prodP n N) k
  | 0 => ⟨Nat.one_dvd _, fun k _ _ _ => Nat.coprime_one_left _⟩
  | N + 1 => by
    obtain ⟨d, c⟩ := prodP_dvdn h N
    unfold prodP
    by_cases e : isP (N + 1) ∧ (N + 1) ∣ n
    · rw [if_pos e]
      have co := c (N + 1) e.1 (Nat.lt_succ_self _) e.2
      refine ⟨co.mul_dvd_of_dvd_of_dvd d e.2, fun k hk hl hn => ?_⟩
      have c1 := c k hk (by omega) hn
      have c2 : Nat.Coprime (N + 1) k := e.1.coprime fun z => by
        rcases hk.divs z with z | z
        · have := e.1.1; omega
        · omega
      exact Nat.Coprime.mul_left c1 c2
    · rw [if_neg e]
      exact ⟨d, fun k a b d' => c k a (by omega) d'⟩
theorem radP_dvd {n : Nat} (h : 0 < n) : radP n ∣ n := (prodP_dvdn h n).1
theorem radP_le {n : Nat} (h : 0 < n) : radP n ≤ n := Nat.le_of_dvd h (radP_dvd h)
theorem radP_radP {n : Nat} (h : 0 < n) : radP (radP n) = radP n := by
  have e1 : radP (radP n) = prodP (radP n) n := (prodP_at (radP_pos n) (radP_le h)).symm
  rw [e1]
  exact prodP_congr n fun k hk _ => radP_prime h hk
theorem radP_one : radP 1 = 1 := prodP_none 1 fun k hk _ z => by
  have := hk.1
  have := Nat.le_of_dvd (by decide) z
  omega
theorem radP_of_prime {n : Nat} (hn : isP n) : radP n = n := by
  have h2 := hn.1
  unfold radP
  obtain ⟨m, rfl⟩ : ∃ m, n = m + 1 := ⟨n - 1, by omega⟩
  unfold prodP
  rw [if_pos ⟨hn, Nat.dvd_refl _⟩, prodP_none m fun k hk hl z => by
    rcases hn.divs z with z | z
    · have := hk.1; omega
    · omega]
  omega
/-! ### the program's walk over the primes -/
structure RLoop (n res rest p : Nat) : Prop where
  p2 : 2 ≤ p
  r0 : 0 < rest
  le : rest ≤ n
  eq : res * radP rest = radP n
  no : ∀ k, isP k → k < p → ¬ k ∣ rest
theorem RLoop.start {n : Nat} (h : 0 < n) : RLoop n 1 n 2 := ⟨Nat.le_refl _, h, Nat.le_refl _, Nat.one_mul _, fun k hk hl => by have := hk.1; omega⟩
theorem RLoop.skip {n res rest p : Nat} (L : RLoop n res rest p) (h : ¬ p ∣ rest) : RLoop n res rest (p + 1) := ⟨by have := L.p2; omega, L.r0, L.le, L.eq, fun k hk hl => by
  by_cases e : k = p
  · rw [e]; exact h
  · exact L.no k hk (by omega)⟩
theorem RLoop.prime {n res rest p : Nat} (L : RLoop n res rest p) (h : p ∣ rest) : isP p := by
  refine ⟨L.p2, fun j j2 jp _ jd => ?_⟩
  obtain ⟨q, q1, q2, q3⟩ := has_prime j j2
  exact L.no q q1 (by omega) (Nat.dvd_trans q2 (Nat.dvd_trans jd h))
theorem IsStrip.primes {n b r k : Nat} (h : IsStrip n b r) (hk : isP k) : k ∣ r ↔ (k ∣ n ∧ ¬ k ∣ b) := by
  obtain ⟨d, c, i, e⟩ := h
  constructor
  · intro z
    refine ⟨Nat.dvd_trans z d, fun zb => ?_⟩
    have w : k ∣ Nat.gcd r b := Nat.dvd_gcd z zb
    rw [show Nat.gcd r b = 1 from c] at w
    have := Nat.dvd_one.mp w
    have := hk.1
    omega
  · rintro ⟨z1, z2⟩
    rcases hk.mul (Nat.dvd_trans z1 e) with z | z
    · exact z
    · exact absurd (hk.pow z) z2
theorem RLoop.take {n res rest p r : Nat} (L : RLoop n res rest p) (h : p ∣ rest) (hr : IsStrip rest p r) : RLoop n (res * p) r (p + 1) := by
  have hp := L.prime h
  have p0 : 0 < p := by have := L.p2; omega
  have r0 : 0 < r := Nat.pos_of_ne_zero fun z => by
    rw [z] at hr
    have := Nat.eq_zero_of_zero_dvd hr.1
    have := L.r0
    omega
  have rl : r ≤ rest := Nat.le_of_dvd L.r0 hr.1
  have pl : p ≤ rest := Nat.le_of_dvd L.r0 h
  have key : radP rest = p * radP r := by
    have e1 : radP r = prodP r rest := (prodP_at r0 rl).symm
    rw [e1]
    show prodP rest rest = _
    have low : ∀ i, i < p → prodP rest i = 1 ∧ prodP r i = 1 := fun i hi => ⟨prodP_none i fun k hk hl z => L.no k hk (by omega) z, prodP_none i fun k hk hl z => L.no k hk (by omega) (Nat.dvd_trans z hr.1)⟩
    have all : ∀ i, prodP rest (p + i) = p * prodP r (p + i) := by
      intro i
      induction i with
      | zero =>
        obtain ⟨m, rfl⟩ : ∃ m, p = m + 1 := ⟨p - 1, by omega⟩
        show prodP rest (m + 1) = (m + 1) * prodP r (m + 1)
        unfold prodP
        rw [if_pos ⟨hp, h⟩, if_neg fun z => ((hr.primes hp).mp z.2).2 (Nat.dvd_refl _), (low m (by omega)).1, (low m (by omega)).2]
        omega
      | succ i ih =>
        show prodP rest (p + i + 1) = p * prodP r (p + i + 1)
        unfold prodP
        by_cases c : isP (p + i + 1)
        · have e := hr.primes c
          have np : ¬ (p + i + 1) ∣ p := fun z => by have := Nat.le_of_dvd p0 z; omega
          by_cases d : (p + i + 1) ∣ rest
          · rw [if_pos ⟨c, d⟩, if_pos ⟨c, e.mpr ⟨d, np⟩⟩, ih, Nat.mul_assoc]
          · rw [if_neg (fun z => d z.2), if_neg (fun z => d (e.mp z.2).1), ih]
        · rw [if_neg (fun z => c z.1), if_neg (fun z => c z.1), ih]
    obtain ⟨i, e⟩ := Nat.le.dest pl
    have z := all i
    rw [e] at z
    exact z
  refine ⟨by have := L.p2; omega, r0, by have := L.le; omega, ?_, fun k hk hl z => ?_⟩
  · rw [Nat.mul_assoc, ← key]
    exact L.eq
  · by_cases e : k = p
    · subst e
      exact ((hr.primes hk).mp z).2 (Nat.dvd_refl _)
    · exact L.no k hk (by omega) (Nat.dvd_trans z hr.1)
theorem RLoop.done {n res rest p : Nat} (L : RLoop n res rest p) (h : rest < p * p) : res * rest = radP n := by
  rw [← L.eq]
  congr 1
  by_cases e : rest = 1
  · rw [e, radP_one]
  · have r2 : 2 ≤ rest := by have := L.r0; omega
    refine (radP_of_prime ⟨r2, fun j j2 jr jj jd => ?_⟩).symm
    obtain ⟨q, q1, q2, q3⟩ := has_prime j j2
    have qp : p ≤ q := Nat.le_of_not_lt fun z => L.no q q1 z (Nat.dvd_trans q2 jd)
    have : p * p ≤ j * j := Nat.mul_le_mul (by omega) (by omega)
    omega
/-! ### the law's list -/
def noDiv (k : Nat) : List Nat := (List.range' 2 (k - 2)).filter fun j => Nat.ble (j * j) k && Nat.beq (k % j) 0
def primesOf (n : Nat) : List Nat := (List.range' 2 (n - 1)).filter fun k => Nat.beq (n % k) 0 && (noDiv k).isEmpty
def radL (n : Nat) : Nat := (primesOf n).foldl (fun a b => a * b) 1
theorem noDiv_iff {k : Nat} (h : 2 ≤ k) : (noDiv k).isEmpty = true ↔ isP k := by
  unfold noDiv
  rw [List.isEmpty_iff, List.filter_eq_nil_iff]
  constructor
  · intro z
    refine ⟨h, fun j j2 jk jj jd => z j (List.mem_range'_1.mpr ⟨j2, by omega⟩) ?_⟩
    rw [Bool.and_eq_true]
    exact ⟨Nat.ble_eq.mpr jj, Nat.beq_eq.mpr (Nat.mod_eq_zero_of_dvd jd)⟩
  · rintro ⟨_, z⟩ j hj e
    rw [Bool.and_eq_true] at e
    have := List.mem_range'_1.mp hj
    exact z j this.1 (by omega) (Nat.le_of_ble_eq_true e.1) (Nat.dvd_of_mod_eq_zero (Nat.eq_of_beq_eq_true e.2))
theorem radL_upto (n : Nat) : ∀ N, ((List.range' 2 N).filter fun k => Nat.beq (n % k) 0 && (noDiv k).isEmpty).foldl (fun a b => a * b) 1 = prodP n (N + 1)
  | 0 => by
    show 1 = prodP n 1
    rw [prodP_succ, if_neg fun z => by have := z.1.1; omega]
    rfl
  | N + 1 => by
    rw [List.range'_concat, List.filter_append, List.foldl_append, radL_upto n N]
    show _ = prodP n (N + 1 + 1)
    have e2 : 2 + 1 * N = N + 1 + 1 := by omega
    rw [e2]
    rw [prodP_succ n (N + 1), List.filter_cons]
    by_cases c : (Nat.beq (n % (N + 1 + 1)) 0 && (noDiv (N + 1 + 1)).isEmpty) = true
    · rw [if_pos c]
      rw [Bool.and_eq_true] at c
      rw [if_pos ⟨(noDiv_iff (by omega)).mp c.2, Nat.dvd_of_mod_eq_zero (Nat.eq_of_beq_eq_true c.1)⟩]
      rfl
    · rw [if_neg c]
      rw [if_neg fun z => c (by
        rw [Bool.and_eq_true]
        exact ⟨Nat.beq_eq.mpr (Nat.mod_eq_zero_of_dvd z.2), (noDiv_iff (by omega)).mpr z.1⟩)]
      rfl
theorem radL_eq {n : Nat} (h : 0 < n) : radL n = radP n := by
  have z := radL_upto n (n - 1)
  rw [show n - 1 + 1 = n by omega] at z
  exact z
end My
namespace My
open PySem PySem.Spec PyProof.Rows L2
theorem un64 {k : Nat} {A : Around} (r : Room k A) : A.units + 64 < cLine := by
  have := r.un
  omega
theorem op_eqDK {X : Cx} (K : PySem.W.Frag) (hK : X.K = K) (hu : X.A.units + 64 < cLine) : OpR X (compareOp .Eq) (rEqD K) := by
  subst hK
  exact op_eqD hu
/-! ### lists of whole numbers as data -/
abbrev dNats (xs : List Nat) : List PyData := xs.map fun (x : Nat) => PyData.int x
abbrev vNats (xs : List Nat) : List V := xs.map fun (x : Nat) => V.int x
theorem dp_nats {K : PySem.W.Frag} {H : Hp} : ∀ xs : List Nat, DpAll K H (vNats xs) (dNats xs)
  | [] => .nil
  | x :: xs => .cons (.int _) (dp_nats xs)
theorem lay_nats : ∀ xs : List Nat, PyData.canLayAll0 (dNats xs) = true
  | [] => by simp [PyData.canLayAll0]
  | x :: xs => by
    have h := lay_nats xs
    simp only [dNats, List.map_cons, PyData.canLayAll0, PyData.canLay0, Bool.true_and]
    exact h
theorem depth_nats : ∀ xs : List Nat, PyData.depthAll (dNats xs) = 0
  | [] => by simp [PyData.depthAll]
  | x :: xs => by
    have h := depth_nats xs
    simp only [dNats, List.map_cons, PyData.depthAll, PyData.depth]
    rw [show PyData.depthAll (xs.map fun (x : Nat) => PyData.int x) = 0 from h]
    rfl
theorem shaped_nats (xs : List Nat) : SeqAt.shaped (.list (dNats xs)) = true := by
  have h1 := depth_nats xs
  show (PyData.canLay0 (.list (dNats xs)) && decide (PyData.depth (.list (dNats xs)) ≤ 64)) = true
  rw [Bool.and_eq_true]
  refine ⟨by simp only [PyData.canLay0]; exact lay_nats xs, decide_eq_true ?_⟩
  simp only [PyData.depth]
  omega
theorem eqv_empty (xs : List Nat) : PyData.eqv (.list (dNats xs)) (.list []) = xs.isEmpty := by
  cases xs with
  | nil => simp [PyData.eqv, PyData.eqvAll]
  | cons x xs => simp [PyData.eqv, PyData.eqvAll]
theorem range_snoc (a i : Nat) : List.range' a (i + 1) = List.range' a i ++ [a + i] := by
  rw [List.range'_concat]
  simp
theorem filt_snoc (p : Nat → Bool) (a i : Nat) : (List.range' a (i + 1)).filter p = (List.range' a i).filter p ++ (if p (a + i) = true then [a + i] else []) := by
  rw [range_snoc, List.filter_append]
  cases h : p (a + i) <;> simp [h]
theorem filt_len (p : Nat → Bool) (a i : Nat) : ((List.range' a i).filter p).length ≤ i := by
  refine Nat.le_trans (List.length_filter_le _ _) ?_
  rw [List.length_range']
  exact Nat.le_refl _
theorem small2000 {n : Nat} (h : n ≤ 2000) : n < sizeLine := Nat.lt_of_le_of_lt h (by decide)
theorem divN {y : Int} {p : Nat} (h : 0 < p) (h2 : p < 2 ^ 200) : CDivW y p := wide_div (b := 200) (by omega) (by rw [Int.natAbs_natCast]; exact h2) (by decide) (by decide)
theorem mulN {x y : Nat} (h : x < 2 ^ 200) (h2 : y < 2 ^ 200) : CMulW x y := wide_mul (a := 200) (b := 200) (by rw [Int.natAbs_natCast]; exact h) (by rw [Int.natAbs_natCast]; exact h2) (by decide) (by decide) (by decide)
structure PLoop (n b rest part : Nat) : Prop where
  pos : 0 < rest
  dv : rest ∣ n
  all : ∃ k, n ∣ rest * b ^ k
  pb : ∃ i, part ∣ b ^ i
  pr : part ∣ rest
  pp : 0 < part
  no : ∀ d, d ∣ rest → d ∣ b → Nat.Coprime d part → d = 1
theorem PLoop.start {n b : Nat} (h : 0 < n) : PLoop n b n (Nat.gcd n b) :=
  ⟨h, Nat.dvd_refl _, ⟨0, by simp⟩, ⟨1, by rw [Nat.pow_one]; exact Nat.gcd_dvd_right _ _⟩, Nat.gcd_dvd_left _ _, Nat.gcd_pos_of_pos_left _ h, fun d h1 h2 h3 => by
    have z := Nat.dvd_gcd h1 h2
    have w : d ∣ Nat.gcd d (Nat.gcd n b) := Nat.dvd_gcd (Nat.dvd_refl _) z
    rw [h3.gcd_eq_one] at w
    exact Nat.dvd_one.mp w⟩
theorem PLoop.step {n b rest part : Nat} (h : PLoop n b rest part) : PLoop n b (rest / part) (Nat.gcd (rest / part) (part * part)) := by
  obtain ⟨pos, dv, ⟨k, hk⟩, ⟨i, hi⟩, pr, pp, no⟩ := h
  have e : rest / part * part = rest := Nat.div_mul_cancel pr
  have q0 : 0 < rest / part := Nat.pos_of_ne_zero fun z => by
    rw [z, Nat.zero_mul] at e
    omega
  refine ⟨q0, Nat.dvd_trans (Nat.div_dvd_of_dvd pr) dv, ⟨i + k, Nat.dvd_trans hk ?_⟩, ⟨i + i, Nat.dvd_trans (Nat.gcd_dvd_right _ _) ?_⟩, Nat.gcd_dvd_left _ _, Nat.gcd_pos_of_pos_left _ q0, fun d h1 h2 h3 => no d (Nat.dvd_trans h1 (Nat.div_dvd_of_dvd pr)) h2 ?_⟩
  · have z : rest * b ^ k ∣ rest / part * (b ^ i * b ^ k) := by
      rw [← Nat.mul_assoc]
      refine Nat.mul_dvd_mul ?_ (Nat.dvd_refl _)
      have w : rest / part * part ∣ rest / part * b ^ i := Nat.mul_dvd_mul (Nat.dvd_refl _) hi
      rw [e] at w
      exact w
    rw [Nat.pow_add]
    exact z
  · rw [Nat.pow_add]
    exact Nat.mul_dvd_mul hi hi
  · have w : Nat.gcd d part ∣ Nat.gcd d (Nat.gcd (rest / part) (part * part)) :=
      Nat.dvd_gcd (Nat.gcd_dvd_left _ _) (Nat.dvd_gcd (Nat.dvd_trans (Nat.gcd_dvd_left _ _) h1) (Nat.dvd_trans (Nat.gcd_dvd_right _ _) (Nat.dvd_mul_right _ _)))
    rw [h3.gcd_eq_one] at w
    exact Nat.dvd_one.mp w
theorem PLoop.done {n b rest part : Nat} (h : PLoop n b rest part) (e : ¬ 1 < part) : IsStrip n b rest := by
  have p1 : part = 1 := by have := h.pp; omega
  subst p1
  refine ⟨h.dv, h.no _ (Nat.gcd_dvd_left _ _) (Nat.gcd_dvd_right _ _) (Nat.coprime_one_right _), h.all⟩
/-- the law's loop -/
structure LLoop (n b f : Nat) : Prop where
  pos : 0 < f
  dv : f ∣ n
  all : ∃ k, n ∣ f * b ^ k
theorem LLoop.start {n b : Nat} (h : 0 < n) : LLoop n b n := ⟨h, Nat.dvd_refl _, 0, by simp⟩
theorem LLoop.step {n b f : Nat} (h : LLoop n b f) : LLoop n b (f / Nat.gcd f b) := by
  obtain ⟨pos, dv, k, hk⟩ := h
  have e : f / Nat.gcd f b * Nat.gcd f b = f := Nat.div_mul_cancel (Nat.gcd_dvd_left _ _)
  have q0 : 0 < f / Nat.gcd f b := Nat.pos_of_ne_zero fun z => by
    rw [z, Nat.zero_mul] at e
    omega
  refine ⟨q0, Nat.dvd_trans (Nat.div_dvd_of_dvd (Nat.gcd_dvd_left _ _)) dv, k + 1, Nat.dvd_trans hk ?_⟩
  rw [Nat.pow_succ, Nat.mul_comm (b ^ k) b, ← Nat.mul_assoc]
  refine Nat.mul_dvd_mul ?_ (Nat.dvd_refl _)
  have w : f / Nat.gcd f b * Nat.gcd f b ∣ f / Nat.gcd f b * b := Nat.mul_dvd_mul (Nat.dvd_refl _) (Nat.gcd_dvd_right _ _)
  rw [e] at w
  exact w
theorem LLoop.done {n b f : Nat} (h : LLoop n b f) (e : ¬ 1 < Nat.gcd f b) : IsStrip n b f := by
  have p0 := Nat.gcd_pos_of_pos_left b h.pos
  exact ⟨h.dv, (show Nat.gcd f b = 1 by omega), h.all⟩
structure Txt (mg : Str → Option Value) : Prop where
  m_MOST_RADICAL : ∃ u, mg "MOST_RADICAL" = some (.int 1000000 u)
  m_gcd : mg "gcd" = some (.builtin "math.gcd")
def gcdI (a b : Int) : Int := ((Nat.gcd a.natAbs b.natAbs : Nat) : Int)
theorem gcdN (a b : Nat) : gcdI a b = ((Nat.gcd a b : Nat) : Int) := by unfold gcdI; rw [Int.natAbs_natCast, Int.natAbs_natCast]
def spIsInt : Sp := fun vs H Q _ => ∃ (x : V) (t : String), vs = [x] ∧ Typ H x t ∧ Q (.bl (isIntV x)) H
def spBetween : Sp := fun vs H Q _ => ∃ (x : V) (t : String) (lo hi : Int), vs = [x, .int lo, .int hi] ∧ Typ H x t ∧ Q (.bl (match x with | .int i => decide (lo ≤ i) && decide (i ≤ hi) | _ => false)) H
def spStripped : Sp := fun vs H Q _ => ∃ n b : Nat, vs = [.int n, .int b] ∧ n < 2 ^ 200 ∧ ∀ r : Nat, (n = 0 ∧ r = 0) ∨ (0 < n ∧ IsStrip n b r) → Q (.int r) H
def spProduct (K : PySem.W.Frag) : Sp := fun vs H Q _ => ∃ (a : Addr) (xs : List Nat), vs = [.ref a] ∧ SqL K H a (xs.map fun (x : Nat) => V.int x) ∧ (∀ x ∈ xs, x < 2 ^ 62) ∧ Q (.int (xs.foldl (fun a b => a * b) 1 : Nat)) H
def spRadL : Sp := fun vs H Q _ => ∃ n : Nat, vs = [.int n] ∧ 1 ≤ n ∧ n ≤ 2000 ∧ ∀ H', Same H H' → Q (.int (radL n : Nat)) H'
section
variable {P : Program} {w : World} {K : PySem.W.Frag} {mg : Str → Option Value} {base : Heap}
theorem ok_is_int (F : Fn K mg "is_int" s_is_int ["value"]) (B : Blt mg) : Has P w K mg base 1 "is_int" ["value"] spIsInt := by
  refine F.has sc_is_int (fun vs H Q E h => ?_) (fun f cdv A outer s H vs Q E hr h => ?_)
  · obtain ⟨a, t, rfl, _⟩ := h
    rfl
  obtain ⟨x, t, rfl, ht, q⟩ := h
  refine ⟨_, (pss_one (ps_ret (pe_and (pe_callB call_isi (by rfl) B.isinstance bb_isinstance (pa_cons (pv 0) (pa_cons (pe_bltn (v := .ty "int") (by rfl) B.int bb_int rfl) pa_nil))) (pe_one (pe_not (pe_callB call_isi (by rfl) B.isinstance bb_isinstance (pa_cons (pv 0) (pa_cons (pe_bltn (v := .ty "bool") (by rfl) B.bool bb_bool rfl) pa_nil)))))))), ?_⟩
  have ty := ht.tyx (K := K)
  cases ht with
  | non =>
    refine ⟨_, rfl, _, .ty "int", _, .type "int", false, rfl, .ty _, ty, kit_ty (by decide +kernel), _, rfl, iteF ?_⟩
    exact q
  | bl x =>
    refine ⟨_, rfl, _, .ty "int", _, .type "int", true, rfl, .ty _, ty, kit_ty (by decide +kernel), _, rfl, iteT ?_⟩
    refine ⟨_, rfl, _, .ty "bool", _, .type "bool", true, rfl, .ty _, ty, kit_ty (by decide +kernel), _, rfl, ?_⟩
    exact q
  | int i =>
    refine ⟨_, rfl, _, .ty "int", _, .type "int", true, rfl, .ty _, ty, kit_ty (by decide +kernel), _, rfl, iteT ?_⟩
    refine ⟨_, rfl, _, .ty "bool", _, .type "bool", false, rfl, .ty _, ty, kit_ty (by decide +kernel), _, rfl, ?_⟩
    exact q
  | str z =>
    refine ⟨_, rfl, _, .ty "int", _, .type "int", false, rfl, .ty _, ty, kit_ty (by decide +kernel), _, rfl, iteF ?_⟩
    exact q
  | lst h =>
    refine ⟨_, rfl, _, .ty "int", _, .type "int", false, rfl, .ty _, ty, kit_ty (by decide +kernel), _, rfl, iteF ?_⟩
    exact q
  | tup h =>
    refine ⟨_, rfl, _, .ty "int", _, .type "int", false, rfl, .ty _, ty, kit_ty (by decide +kernel), _, rfl, iteF ?_⟩
    exact q
theorem ok_is_between (F : Fn K mg "is_between" s_is_between ["value", "least", "most"]) (G_is_int : Has P w K mg base 1 "is_int" ["value"] spIsInt) : Has P w K mg base 2 "is_between" ["value", "least", "most"] spBetween := by
  refine F.has sc_is_between (fun vs H Q E h => ?_) (fun f cdv A outer s H vs Q E hr h => ?_)
  · obtain ⟨a, t, lo, hi, rfl, _⟩ := h
    rfl
  obtain ⟨x, t, lo, hi, rfl, ht, q⟩ := h
  refine ⟨_, (pss_one (ps_ret (pe_and (pe_own G_is_int (hr.mono (by decide)) (by rfl) (pa_cons (pv 0) pa_nil)) (pe_one (pe_chain op_le op_le (pv 1) (pv 0) (pv 2)))))), ?_⟩
  refine ⟨_, rfl, x, t, rfl, ht, ?_⟩
  cases ht with
  | int i =>
    refine ⟨_, rfl, iteT ⟨_, rfl, _, rfl, _, _, rfl, rfl, _, rfl, ?_⟩⟩
    have q' : Q (.bl (decide (lo ≤ i) && decide (i ≤ hi))) H := q
    by_cases h1 : lo ≤ i
    · refine ite_of (decide_eq_true h1) ⟨_, rfl, _, _, rfl, rfl, ?_⟩
      rw [decide_eq_true h1] at q'
      exact q'
    · refine ite_no (by simp [h1]) ?_
      rw [decide_eq_false h1] at q'
      exact q'
  | _ => exact ⟨_, rfl, iteF q⟩
theorem ok_stripped (F : Fn K mg "stripped" s_stripped ["number", "base"]) (T : Txt mg) : Has P w K mg base 1 "stripped" ["number", "base"] spStripped := by
  refine F.has sc_stripped (fun vs H Q E h => ?_) (fun f cdv A outer s H vs Q E hr h => ?_)
  · obtain ⟨a, t, rfl, _⟩ := h
    rfl
  obtain ⟨n, b, rfl, hn, q⟩ := h
  refine ⟨_, (pss_cons (ps_if (pt_cmpR op_eq (pv 0) pe_int (nomark _))
        (pss_one (ps_ret pe_int))
        pss_nil)
      (pss_cons (ps_set (i := 2) sc_stripped.nd rfl (Or.inl rfl) (pv 0))
      (pss_cons (ps_set (i := 3) sc_stripped.nd rfl (Or.inl rfl) (pe_callBfun cr_gcd (by rfl) T.m_gcd (pa_cons (pv 2) (pa_cons (pv 1) pa_nil))))
      (pss_cons (ps_while PassesOwn.never (pt_cmpR op_gt (pv 3) pe_int (nomark _))
        (pss_cons (ps_set (i := 2) sc_stripped.nd rfl (Or.inl rfl) (pe_op op_fdivW (pv 2) (pv 3)))
      (pss_one (ps_set (i := 3) sc_stripped.nd rfl (Or.inl rfl) (pe_callBfun cr_gcd (by rfl) T.m_gcd (pa_cons (pv 2) (pa_cons (pe_op op_mulW (pv 3) (pv 3)) pa_nil)))))))
      (pss_one (ps_ret (pv 2))))))), ?_⟩
  refine ⟨_, rfl, rfl, _, rfl, ?_⟩
  by_cases h0 : n = 0
  · subst h0
    exact ite_of (decide_eq_true rfl) (q 0 (.inl ⟨rfl, rfl⟩))
  · have n0 : 0 < n := Nat.pos_of_ne_zero h0
    refine ite_no (by simp [h0]) ⟨_, rfl, _, rfl, _, rfl, _, _, rfl, ?_⟩
    refine while_by (fun σ H' => ∃ l r : Nat, σ = [some (.int n), some (.int b), some (.int (l : Int)), some (.int (r : Int))] ∧ PLoop n b l r ∧ H' = H)
      (fun σ _ => match σ with | [_, _, some (.int l), _] => l.toNat | _ => 0) ⟨n, Nat.gcd n b, rfl, .start n0, rfl⟩ ?_ ?_
    · rintro σ H' ⟨l, r, rfl, L, rfl⟩
      refine ⟨_, rfl, _, _, rfl, rfl, _, rfl, ite2 (fun c => ?_) (fun c => ?_)⟩
      · have hc : 1 < r := by
          have : (1 : Int) < (r : Int) := of_decide_eq_true c
          omega
        have hl : l ≤ n := Nat.le_of_dvd n0 L.dv
        have hr' : r ≤ l := Nat.le_of_dvd L.pos L.pr
        refine ⟨_, rfl, _, rfl, _, _, rfl, rfl, divN (by omega) (by omega), ?_⟩
        refine ⟨_, rfl, _, rfl, _, rfl, _, _, rfl, rfl, mulN (by omega) (by omega), _, _, rfl, ?_⟩
        refine ⟨⟨l / r, Nat.gcd (l / r) (r * r), ?_, L.step, rfl⟩, ?_⟩
        · have e1 : (l : Int) / (r : Int) = ((l / r : Nat) : Int) := (Int.natCast_ediv l r).symm
          rw [← Int.natCast_ediv, ← Int.natCast_mul, Int.natAbs_natCast, Int.natAbs_natCast]
          show [some (V.int n), some (V.int b), some (V.int ((l : Int) / (r : Int))), some (V.int _)] = _
          rw [e1]
        · show ((l : Int) / (r : Int)).toNat < (l : Int).toNat
          rw [← Int.natCast_ediv, Int.toNat_natCast, Int.toNat_natCast]
          exact Nat.div_lt_self L.pos hc
      · have hc : ¬ 1 < r := by
          have : ¬ (1 : Int) < (r : Int) := of_decide_eq_false (Bool.eq_false_iff.mpr c)
          omega
        exact ⟨_, rfl, q l (.inr ⟨n0, L.done hc⟩)⟩
    · rintro σ H' Q1 Q2 hq ⟨v, e, i, j, e1, e2, k, e3, z⟩
      exact ⟨v, e, i, j, e1, e2, k, e3, hq _ _ z⟩
theorem ok_l_strip (F : Fn K mg "_law_strip" s_l_strip ["_law_number", "_law_base"]) (G_l_gcd : Has P w K mg base 1 "_law_gcd" ["_law_a", "_law_b"] spGcd) : Has P w K mg base 2 "_law_strip" ["_law_number", "_law_base"] spStripped := by
  refine F.has sc_l_strip (fun vs H Q E h => ?_) (fun f cdv A outer s H vs Q E hr h => ?_)
  · obtain ⟨a, t, rfl, _⟩ := h
    rfl
  obtain ⟨n, b, rfl, hn, q⟩ := h
  refine ⟨_, (pss_cons (ps_set (i := 2) sc_l_strip.nd rfl (Or.inl rfl) (pv 0))
      (pss_cons (ps_while PassesOwn.never (PW.pt (pw_and (pt_cmpR op_ne (pv 2) pe_int (nomark _)) (pw_and1 (pt_cmpR op_gt (pe_own G_l_gcd (hr.mono (by decide)) (by rfl) (pa_cons (pv 2) (pa_cons (pv 1) pa_nil))) pe_int (nomark _)))))
        (pss_one (ps_set (i := 2) sc_l_strip.nd rfl (Or.inl rfl) (pe_op op_fdivW (pv 2) (pe_own G_l_gcd (hr.mono (by decide)) (by rfl) (pa_cons (pv 2) (pa_cons (pv 1) pa_nil)))))))
      (pss_one (ps_ret (pv 2))))), ?_⟩
  refine ⟨_, rfl, ?_⟩
  refine while_by (fun σ H' => ∃ l : Nat, σ = [some (.int n), some (.int b), some (.int (l : Int))] ∧ ((n = 0 ∧ l = 0) ∨ (0 < n ∧ LLoop n b l)) ∧ H' = H)
      (fun σ _ => match σ with | [_, _, some (.int l)] => l.toNat | _ => 0) ⟨n, rfl, ?_, rfl⟩ ?_ ?_
  · by_cases h0 : n = 0
    · exact .inl ⟨h0, h0⟩
    · exact .inr ⟨Nat.pos_of_ne_zero h0, .start (Nat.pos_of_ne_zero h0)⟩
  · rintro σ H' ⟨l, rfl, L, rfl⟩
    refine ⟨_, rfl, rfl, _, rfl, ?_⟩
    rcases L with ⟨n0, l0⟩ | ⟨n0, L⟩
    · subst n0 l0
      exact ite_no (by simp) ⟨_, rfl, q 0 (.inl ⟨rfl, rfl⟩)⟩
    · have l0 := L.pos
      have hl : l ≤ n := Nat.le_of_dvd n0 L.dv
      refine ite_of (by simp; omega) ⟨_, rfl, _, rfl, _, _, rfl, _, _, rfl, rfl, _, rfl, ite2 (fun c => ?_) (fun c => ?_)⟩
      · have hc : 1 < Nat.gcd l b := by
          have : (1 : Int) < ((Nat.gcd (l : Int).natAbs (b : Int).natAbs : Nat) : Int) := of_decide_eq_true c
          rw [Int.natAbs_natCast, Int.natAbs_natCast] at this
          omega
        have hg : Nat.gcd l b ≤ l := Nat.le_of_dvd l0 (Nat.gcd_dvd_left _ _)
        refine ⟨_, rfl, _, rfl, _, rfl, _, _, rfl, _, _, rfl, rfl, (by rw [Int.natAbs_natCast, Int.natAbs_natCast]; exact divN (by omega) (by omega)), ?_⟩
        · have e1 : (l : Int) / ((Nat.gcd (l : Int).natAbs (b : Int).natAbs : Nat) : Int) = ((l / Nat.gcd l b : Nat) : Int) := by
            rw [Int.natAbs_natCast, Int.natAbs_natCast, Int.natCast_ediv]
          refine ⟨⟨l / Nat.gcd l b, ?_, .inr ⟨n0, L.step⟩, rfl⟩, ?_⟩
          · show [some (V.int n), some (V.int b), some (V.int ((l : Int) / ((Nat.gcd (l : Int).natAbs (b : Int).natAbs : Nat) : Int)))] = _
            rw [e1]
          · show ((l : Int) / ((Nat.gcd (l : Int).natAbs (b : Int).natAbs : Nat) : Int)).toNat < (l : Int).toNat
            rw [e1, Int.toNat_natCast, Int.toNat_natCast]
            exact Nat.div_lt_self l0 hc
      · have hc : ¬ 1 < Nat.gcd l b := by
          have : ¬ (1 : Int) < ((Nat.gcd (l : Int).natAbs (b : Int).natAbs : Nat) : Int) := of_decide_eq_false (Bool.eq_false_iff.mpr c)
          rw [Int.natAbs_natCast, Int.natAbs_natCast] at this
          omega
        exact ⟨_, rfl, q l (.inr ⟨n0, L.done hc⟩)⟩
  · rintro σ H' Q1 Q2 hq ⟨v, e, e1, b1, e2, z⟩
    refine ⟨v, e, e1, b1, e2, ?_⟩
    cases b1 with
    | true =>
      obtain ⟨x1, h1, x2, h2, a', b', h3, i, j, h4, h5, k, h6, z⟩ := (show _ from z)
      exact iteT ⟨x1, h1, x2, h2, a', b', h3, i, j, h4, h5, k, h6, hq _ _ z⟩
    | false => exact iteF (hq _ _ z)
theorem ok_l_product (F : Fn K mg "_law_product" s_l_product ["_law_numbers"]) : Has P w K mg base 1 "_law_product" ["_law_numbers"] (spProduct K) := by
  refine F.has sc_l_product (fun vs H Q E h => ?_) (fun f cdv A outer s H vs Q E hr h => ?_)
  · obtain ⟨a, t, rfl, _⟩ := h
    rfl
  obtain ⟨a, xs, rfl, hS, hb, q⟩ := h
  refine ⟨_, (pss_cons (ps_set (i := 1) sc_l_product.nd rfl (Or.inl rfl) pe_int)
      (pss_cons (ps_for PassesOwn.never rfl (pi_list (pv 0)) (pg_name (i := 2) sc_l_product.nd rfl (Or.inl rfl))
        (pss_one (ps_set (i := 1) sc_l_product.nd rfl (Or.inl rfl) (pe_op op_mul (pv 1) (pv 2)))))
      (pss_one (ps_ret (pv 1))))), ?_⟩
  refine ⟨_, rfl, a, rfl, ⟨_, hS⟩, for_list (fun i σ H' => ∃ y, σ = [some (.ref a), some (.int ((xs.take i).foldl (fun a b => a * b) 1 : Nat)), y] ∧ H' = H) ⟨none, rfl, rfl⟩ (fun i σ H' _ ⟨_, _, e⟩ => e ▸ hS) ?_ ?_⟩
  · rintro i x σ H' hx ⟨y, rfl, rfl⟩
    rw [List.getElem?_map] at hx
    cases hi : xs[i]? with
    | none => rw [hi] at hx; cases hx
    | some m =>
      rw [hi] at hx
      cases hx
      have hm := hb m (List.mem_of_getElem? hi)
      have e : ((xs.take i).foldl (fun a b => a * b) 1 : Nat) * m = (xs.take (i + 1)).foldl (fun a b => a * b) 1 := by
        rw [List.take_add_one, hi, List.foldl_append]
        rfl
      refine ⟨_, rfl, _, rfl, _, _, rfl, rfl, .inr ⟨by omega, by omega⟩, some (.int m), ?_, rfl⟩
      rw [← e]
      show [some (V.ref a), some (V.int (((xs.take i).foldl (fun a b => a * b) 1 : Nat) * (m : Int))), some (V.int m)] = _
      rw [Int.natCast_mul]
  · rintro σ H' ⟨y, rfl, rfl⟩
    rw [List.length_map, List.take_length]
    exact ⟨_, rfl, q⟩
theorem ok_l_radical (F : Fn K mg "_law_radical" s_l_radical ["_law_number"]) (B : Blt mg) (G_l_product : Has P w K mg base 1 "_law_product" ["_law_numbers"] (spProduct K)) : Has P w K mg base 2 "_law_radical" ["_law_number"] spRadL := by
  refine F.has sc_l_radical (fun vs H Q E h => ?_) (fun f cdv A outer s H vs Q E hr h => ?_)
  · obtain ⟨a, rfl, _⟩ := h
    rfl
  obtain ⟨n, rfl, h1, h2, q⟩ := h
  refine ⟨_, (pss_one (ps_ret (pe_own G_l_product (hr.mono (by decide)) (by rfl) (pa_cons (pe_lc (own := [("_law_k", 1)]) (g := gName 1) (by rfl) sc_l_radical.nd (pi_range2 (by rfl) B.range (pa_cons pe_int (pa_cons (pe_op op_add (pv 0) pe_int) pa_nil))) (blkOk_by (own := [("_law_k", 1)]) (N := N_l_radical) (sc := defScope s_l_radical) (by decide +kernel)) (fun _ _ _ _ _ => (pg_name (i := 1) sc_l_radical.nd rfl (Or.inr rfl))) (fun _ _ _ _ _ => (pts_one (PW.pt (pw_and (pt_cmpR op_eq (pe_op op_mod (pe_callTy call_int1 (by rfl) B.int bb_int (pa_cons (pv 0) pa_nil)) (pv 1)) pe_int (nomark _)) (pw_and1 (pt_cmpR (op_eqDK K rfl (un64 hr)) (pe_lc (own := [("_law_j", 2)]) (g := gName 2) (by rfl) sc_l_radical.nd (pi_range2 (by rfl) B.range (pa_cons pe_int (pa_cons (pv 1) pa_nil))) (blkOk_by (own := [("_law_j", 2)]) (N := N_l_radical) (by rfl)) (fun _ _ _ _ _ => (pg_name (i := 2) sc_l_radical.nd rfl (Or.inl rfl))) (fun _ _ _ _ _ => (pts_one (PW.pt (pw_and (pt_cmpR op_le (pe_op op_mul (pv 2) (pv 2)) (pv 1) (nomark _)) (pw_and1 (pt_cmpR op_eq (pe_op op_mod (pe_callTy call_int1 (by rfl) B.int bb_int (pa_cons (pv 1) pa_nil)) (pv 2)) pe_int (nomark _))))))) (fun _ _ _ _ _ => (pv 2))) (pe_lst pa_nil) (nomark _))))))) (fun _ _ _ _ _ => (pv 1))) pa_nil)))), ?_⟩
  refine ⟨_, rfl, _, _, rfl, rfl, 2, ((n : Int) + 1), rfl, ⟨by omega, by omega, by omega, by omega⟩, fun D hD => ?_⟩
  have en : ((n : Int) + 1 - 2).toNat = n - 1 := by omega
  rw [en]
  refine lc_it walk_range (fun i H' => Same H H' ∧ H' D = some (.lst (vNats ((List.range' 2 i).filter fun k => Nat.beq (n % k) 0 && (noDiv k).isEmpty)))) ⟨same_upd hD, upd_same⟩ (fun _ _ _ _ => True.intro) ?_ ?_
  · rintro i v H1 H2 hi ⟨s1, e1⟩ ⟨rfl, hv⟩
    have ek : (2 : Int) + (i : Int) = ((2 + i : Nat) : Int) := by omega
    have hv' : v = V.int ((2 + i : Nat) : Int) := hv.trans (congrArg V.int ek)
    subst hv'
    have kpos : (0 : Int) < ((2 + i : Nat) : Int) := by omega
    have drop : (Nat.beq (n % (2 + i)) 0 && (noDiv (2 + i)).isEmpty) = false → ∀ H3, Same H2 H3 → H3 D = H2 D → Same H H3 ∧ H3 D = some (.lst (vNats ((List.range' 2 (i + 1)).filter fun k => Nat.beq (n % k) 0 && (noDiv k).isEmpty))) := fun hp H3 s3 e3 => by
      refine ⟨s1.trans s3, e3.trans ?_⟩
      rw [filt_snoc, hp, if_neg (by decide), List.append_nil]
      exact e1
    refine ⟨rfl, _, rfl, .inl ⟨_, rfl, _, rfl, _, _, rfl, rfl, kpos, rfl, _, rfl, ?_⟩⟩
    by_cases hk : n % (2 + i) = 0
    · refine ite_of (decide_eq_true (by show V.int ((n : Int) % ((2 + i : Nat) : Int)) = V.int 0; rw [← Int.natCast_emod, hk]; rfl)) ?_
      refine ⟨_, rfl, 2, ((2 + i : Nat) : Int), rfl, ⟨by omega, by omega, by omega, by omega⟩, fun D2 hD2 => ?_⟩
      have en2 : (((2 + i : Nat) : Int) - 2).toNat = 2 + i - 2 := by omega
      rw [en2]
      refine lc_it walk_range (fun j H' => Same H2 H' ∧ H' D2 = some (.lst (vNats ((List.range' 2 j).filter fun j => Nat.ble (j * j) (2 + i) && Nat.beq ((2 + i) % j) 0)))) ⟨same_upd hD2, upd_same⟩ (fun _ _ _ _ => True.intro) ?_ ?_
      · rintro j v H3 H4 hj ⟨s3, e3⟩ ⟨rfl, hv⟩
        have ej : (2 : Int) + (j : Int) = ((2 + j : Nat) : Int) := by omega
        have hv' : v = V.int ((2 + j : Nat) : Int) := hv.trans (congrArg V.int ej)
        subst hv'
        have jpos : (0 : Int) < ((2 + j : Nat) : Int) := by omega
        have drop2 : (Nat.ble ((2 + j) * (2 + j)) (2 + i) && Nat.beq ((2 + i) % (2 + j)) 0) = false → Same H2 H4 ∧ H4 D2 = some (.lst (vNats ((List.range' 2 (j + 1)).filter fun j => Nat.ble (j * j) (2 + i) && Nat.beq ((2 + i) % j) 0))) := fun hp => by
          refine ⟨s3, ?_⟩
          rw [filt_snoc, hp, if_neg (by decide), List.append_nil]
          exact e3
        refine ⟨rfl, _, rfl, _, rfl, _, _, rfl, rfl, .inl ⟨by omega, by omega⟩, _, rfl, _, _, rfl, rfl, _, rfl, ?_⟩
        by_cases hc : (2 + j) * (2 + j) ≤ 2 + i
        · refine ite_of (decide_eq_true (by rw [← Int.natCast_mul]; exact Int.ofNat_le.mpr hc)) ⟨_, rfl, .inl ⟨_, rfl, _, rfl, _, _, rfl, rfl, jpos, rfl, _, rfl, ?_⟩⟩
          by_cases hm : (2 + i) % (2 + j) = 0
          · refine ite_of (decide_eq_true (by show V.int (((2 + i : Nat) : Int) % ((2 + j : Nat) : Int)) = V.int 0; rw [← Int.natCast_emod, hm]; rfl)) ?_
            refine ⟨_, rfl, _, e3, ?_, fun c o hc => ?_, ?_⟩
            · rw [List.length_map]
              exact small2000 (Nat.le_trans (filt_len _ _ _) (by omega))
            · rw [upd_ne (ne_of_none hc hD2)]
              exact s3 _ _ hc
            · rw [upd_same, filt_snoc, if_pos (by rw [Bool.and_eq_true]; exact ⟨Nat.ble_eq.mpr hc, Nat.beq_eq.mpr hm⟩)]
              simp
          · refine ite_no (fun z => hm ?_) (drop2 ?_)
            · have z' : V.int (((2 + i : Nat) : Int) % ((2 + j : Nat) : Int)) = V.int 0 := of_decide_eq_true z
              rw [← Int.natCast_emod] at z'
              injection z' with z'
              omega
            · rw [Bool.and_eq_false_iff]
              exact .inr (Bool.eq_false_iff.mpr fun z => hm (Nat.eq_of_beq_eq_true z))
        · refine ite_no (fun z => hc ?_) (iteF (drop2 ?_))
          · have z' := of_decide_eq_true z
            rw [← Int.natCast_mul] at z'
            exact Int.ofNat_le.mp z'
          · rw [Bool.and_eq_false_iff]
            exact .inl (Bool.eq_false_iff.mpr fun z => hc (Nat.le_of_ble_eq_true z))
      · rintro H5 ⟨s5, e5⟩
        refine ⟨by show 0 ≤ sizeLine; decide, fun l hl => ?_⟩
        have s6 : Same H5 (upd H5 l (.lst [])) := same_upd hl
        refine ⟨.list (dNats (noDiv (2 + i))), .list [], .lst (SqL.of (s6 _ _ e5)) (dp_nats _), .lst (SqL.of upd_same) .nil, shaped_nats _, shaped_nats [], _, rfl, ?_⟩
        rw [eqv_empty]
        cases hd : (noDiv (2 + i)).isEmpty with
        | true =>
          have sa := s5.trans s6
          refine iteT ⟨_, rfl, _, sa _ _ e1, ?_, fun c o hc => ?_, ?_⟩
          · rw [List.length_map]
            exact small2000 (Nat.le_trans (filt_len _ _ _) (by omega))
          · rw [upd_ne (ne_of_none hc hD)]
            exact sa _ _ (s1 _ _ hc)
          · rw [upd_same, filt_snoc, if_pos (by rw [hd, Bool.and_true]; exact Nat.beq_eq.mpr hk)]
            simp
        | false =>
          refine iteF (drop (by rw [hd, Bool.and_false]) _ (s5.trans s6) ?_)
          exact ((s5.trans s6) _ _ e1).trans e1.symm
    · refine ite_no (fun z => hk ?_) (iteF (drop ?_ _ (Same.refl _) rfl))
      · have z' : V.int ((n : Int) % ((2 + i : Nat) : Int)) = V.int 0 := of_decide_eq_true z
        rw [← Int.natCast_emod] at z'
        injection z' with z'
        omega
      · rw [Bool.and_eq_false_iff]
        exact .inl (Bool.eq_false_iff.mpr fun z => hk (Nat.eq_of_beq_eq_true z))
  · rintro H1 ⟨s1, e1⟩
    refine ⟨_, _, rfl, SqL.of e1, fun x hx => ?_, q _ s1⟩
    have z := List.mem_range'_1.mp (List.mem_filter.mp hx).1
    omega
end
end My
namespace My
open PySem PySem.Spec PyProof.Rows L2
/-! ### a def that may raise, by its name -/
structure HasX (P : Program) (w : World) (K : PySem.W.Frag) (mg : Str → Option Value) (base : Heap) (k : Nat) (x : Str) (ps : List Str) (sp : Sp) : Prop where
  ex : ∃ (f : Addr) (fd : FuncData), FnOk P w K mg base (L2.CX P w) k f fd ps sp ∧ mg x = some (.ref f) ∧ PySem.W.keepIn K (.ref f) = true ∧ Binds K fd ps []
section
variable {X : Cx} {k : Nat} {x : Str} {ps : List Str} {sp : Sp} {p pos : Pos} {e : Expr} {es : List Expr} {t : TA}
/-- called where it raises nothing -/
theorem pe_ownX (h : HasX X.prog X.w X.K X.mg X.base k x ps sp) (hr : Room k X.A) (hg : Gl X x) (ha : PA X (e :: es) t) (hdb : (x == ("__debug__" : Str)) = false := by decide)
    (he : starEach (e :: es) X.env = (false, eval e X.env) :: starEach es X.env := by rfl) (hpl : (backTo pos (starEach es X.env)).any (·.1) = false := by rfl) : PE X (.Call (.Name x p) (e :: es) [] pos) (tCall sp [] E0 t) := by
  obtain ⟨f, fd, F, m, kp, b⟩ := h.ex
  exact pe_call F hr hg m kp b .nil passL ha hdb he hpl
/-- called where what it raises is taken by E -/
theorem pe_ownE {E : XK} (h : HasX X.prog X.w X.K X.mg X.base k x ps sp) (tk : Takes X (fun cls d _ H => E cls d H)) (hr : Room k X.A) (hg : Gl X x) (ha : PA X (e :: es) t) (hdb : (x == ("__debug__" : Str)) = false := by decide)
    (he : starEach (e :: es) X.env = (false, eval e X.env) :: starEach es X.env := by rfl) (hpl : (backTo pos (starEach es X.env)).any (·.1) = false := by rfl) : PE X (.Call (.Name x p) (e :: es) [] pos) (tCall sp [] E t) := by
  obtain ⟨f, fd, F, m, kp, b⟩ := h.ex
  exact pe_call F hr hg m kp b .nil (passes_call tk fun _ _ _ _ h => h) ha hdb he hpl
end
/-- the answer, or the error of a value that is none or out of its bounds -/
def spRadical (CE : Addr) : Sp := fun vs H Q E => (∃ n : Nat, vs = [.int n] ∧ 1 ≤ n ∧ n ≤ 1000000 ∧ Q (.int (radL n : Nat)) H) ∨
  ∃ (x : V) (t : String), vs = [x] ∧ Typ H x t ∧ (∀ i : Int, x = .int i → ¬ (1 ≤ i ∧ i ≤ 1000000)) ∧ ∀ d, H d = none → E (.ref CE) (some d) (upd H d (.xd (errD "given" "InvalidNumber" x)))
/-! ### a def by its positional values -/
structure HasR (P : Program) (w : World) (K : PySem.W.Frag) (mg : Str → Option Value) (base : Heap) (k : Nat) (x : Str) (sp : Sp) : Prop where
  ex : ∃ f : Addr, FnR P w K mg base CX0 k f sp ∧ mg x = some (.ref f) ∧ PySem.W.keepIn K (.ref f) = true
section
variable {X : Cx} {k : Nat} {x : Str} {sp : Sp} {p pos : Pos} {e : Expr} {es : List Expr} {t : TA}
theorem pe_ownR (h : HasR X.prog X.w X.K X.mg X.base k x sp) (hr : Room k X.A) (hg : Gl X x) (ha : PA X (e :: es) t) (hdb : (x == ("__debug__" : Str)) = false := by decide)
    (he : starEach (e :: es) X.env = (false, eval e X.env) :: starEach es X.env := by rfl) (hpl : (backTo pos (starEach es X.env)).any (·.1) = false := by rfl) : PE X (.Call (.Name x p) (e :: es) [] pos) (fun σ H Q => t σ H fun vs H1 => sp vs H1 Q E0) := by
  obtain ⟨f, F, m, kp⟩ := h.ex
  constructor
  intro pins s σ H Q I h
  apply wpAny_Call_Name_kw (ld_glob I hg m ?_ hdb)
  apply PySem.W.callWith_K (h₀ := X.base) I.ok.mod.kin kp _ he hpl
  apply thn (ha.run pos pins s σ H _ I h)
  rintro us s1 ⟨vs, H1, I1, r, q⟩
  exact ⟨I1.kIn, wpAny_call (run_fnR F hr pass0 I1 r q)⟩
end
theorem fold_take {f : Int → Int → Int} {z m : Int} {ns : List Int} {i : Nat} (h : ns[i]? = some m) : (ns.take (i + 1)).foldl f z = f ((ns.take i).foldl f z) m := by
  rw [List.take_add_one, h, List.foldl_append]
  rfl
theorem at_ints {ns : List Int} {i : Nat} {x : V} (h : (ns.map V.int)[i]? = some x) : ∃ m, ns[i]? = some m ∧ x = .int m := by
  rw [List.getElem?_map] at h
  cases hi : ns[i]? with
  | none => rw [hi] at h; cases h
  | some m =>
    rw [hi] at h
    cases h
    exact ⟨m, rfl, rfl⟩
/-- common(a, b) -/
def spCommon2 : Sp := fun vs H Q _ => ∃ a b : Int, vs = [.int a, .int b] ∧ ∀ H', Same H H' → Q (.int (gcdI a b)) H'
section
variable {P : Program} {w : World} {K : PySem.W.Frag} {mg : Str → Option Value} {base : Heap}
theorem ok_radical {CE fI cc cd : Addr} (F : Fn K mg "radical" s_radical ["number"]) (T : Txt mg) (E_InvalidNumber : ErrX.ErrTxt P K mg "InvalidNumber" "given" "InvalidNumber" CE fI cc cd)
    (G_is_between : Has P w K mg base 2 "is_between" ["value", "least", "most"] spBetween) (G_stripped : Has P w K mg base 1 "stripped" ["number", "base"] spStripped) : HasX P w K mg base 3 "radical" ["number"] (spRadical CE) := by
  obtain ⟨f, fd, F, m, b⟩ := F.ex
  refine ⟨f, fd, F.okX sc_radical (fun vs H Q E h => ?_) (fun cdv A outer s H vs Q E hr h => ?_), m, F.kp, b⟩
  · rcases h with ⟨n, rfl, _⟩ | ⟨x, t, rfl, _⟩
    · rfl
    · rfl
  have TK : Takes (cxOf (L2.CX P w) P w K mg base N_radical "radical" (defScope s_radical) f cdv A outer s H E) (fun cls d _ H => E cls d H) := takes_of rfl rfl rfl rfl
  refine ⟨_, (pss_cons (ps_if (pt_not (pt_val (pe_own G_is_between (hr.mono (by decide)) (by rfl) (pa_cons (pv 0) (pa_cons pe_int (pa_cons (pe_gint T.m_MOST_RADICAL (by rfl)) pa_nil))))))
        (pss_one (ps_raise rfl TK (pmk_err E_InvalidNumber hr (pa_cons (pv 0) pa_nil) (by rfl))))
        pss_nil)
      (pss_cons (ps_set (i := 1) sc_radical.nd rfl (Or.inl rfl) pe_int)
      (pss_cons (ps_set (i := 2) sc_radical.nd rfl (Or.inl rfl) (pv 0))
      (pss_cons (ps_set (i := 3) sc_radical.nd rfl (Or.inl rfl) pe_int)
      (pss_cons (ps_while (passes_of rfl) (pt_cmpR op_le (pe_op op_mul (pv 3) (pv 3)) (pv 2) (nomark _))
        (pss_cons (ps_if (pt_cmpR op_eq (pe_op op_mod (pv 2) (pv 3)) pe_int (nomark _))
        (pss_cons (ps_set (i := 1) sc_radical.nd rfl (Or.inl rfl) (pe_op op_mul (pv 1) (pv 3)))
      (pss_one (ps_set (i := 2) sc_radical.nd rfl (Or.inl rfl) (pe_own G_stripped (hr.mono (by decide)) (by rfl) (pa_cons (pv 2) (pa_cons (pv 3) pa_nil))))))
        pss_nil)
      (pss_one (ps_aug (i := 3) sc_radical.nd rfl (Or.inl rfl) pe_int ip_add))))
      (pss_one (ps_ret (pe_op op_mul (pv 1) (pv 2))))))))), ?_⟩
  rcases h with ⟨n, rfl, h1, h2, q⟩ | ⟨x, t, rfl, ht, hn, q⟩
  · refine ⟨_, rfl, _, "int", 1, 1000000, rfl, .int _, ?_⟩
    have e : (decide ((1 : Int) ≤ (n : Int)) && decide ((n : Int) ≤ 1000000)) = true := by
      rw [Bool.and_eq_true]
      exact ⟨decide_eq_true (by omega), decide_eq_true (by omega)⟩
    refine ⟨true, by show V.bl (decide ((1 : Int) ≤ (n : Int)) && decide ((n : Int) ≤ 1000000)) = _; rw [e], iteF ?_⟩
    refine ⟨_, rfl, ?_⟩
    refine while_by (fun σ H' => ∃ res rest p : Nat, σ = [some (.int n), some (.int (res : Int)), some (.int (rest : Int)), some (.int (p : Int))] ∧ RLoop n res rest p ∧ p ≤ 1001 ∧ H' = H)
      (fun σ _ => match σ with | [_, _, _, some (.int p)] => 1003 - p.toNat | _ => 0) ⟨1, n, 2, rfl, .start h1, by decide, rfl⟩ ?_ ?_
    · rintro σ H' ⟨res, rest, p, rfl, L, hp, rfl⟩
      have r0 := L.r0
      have rn := L.le
      have p2 := L.p2
      refine ⟨_, rfl, _, rfl, _, _, rfl, rfl, .inl ⟨by omega, by omega⟩, _, rfl, _, _, rfl, rfl, _, rfl, ?_⟩
      by_cases hc : p * p ≤ rest
      · have hp1000 : p ≤ 1000 := Nat.le_of_not_lt fun z => by
          have := Nat.mul_le_mul z z
          omega
        refine ite_of (decide_eq_true (by rw [← Int.natCast_mul]; exact Int.ofNat_le.mpr hc)) ⟨_, rfl, _, rfl, _, _, rfl, rfl, (by omega), rfl, _, rfl, ?_⟩
        by_cases hm : rest % p = 0
        · have hd := Nat.dvd_of_mod_eq_zero hm
          refine ite_of (decide_eq_true (by show V.int ((rest : Int) % (p : Int)) = V.int 0; rw [← Int.natCast_emod, hm]; rfl)) ?_
          refine ⟨_, rfl, _, rfl, _, _, rfl, rfl, .inr ⟨by omega, by omega⟩, _, rfl, _, rfl, rest, p, rfl, by omega, fun r hr => ?_⟩
          rcases hr with ⟨z, _⟩ | ⟨_, hr⟩
          · omega
          refine ⟨_, rfl, _, _, rfl, rfl, ⟨res * p, r, p + 1, ?_, L.take hd hr, by omega, rfl⟩, ?_⟩
          · rw [Int.natCast_mul, Int.natCast_add]
            rfl
          · show 1003 - ((p : Int) + 1).toNat < 1003 - (p : Int).toNat
            omega
        · refine ite_no (fun z => hm ?_) ⟨_, rfl, _, _, rfl, rfl, ⟨res, rest, p + 1, ?_, L.skip fun z => hm (Nat.mod_eq_zero_of_dvd z), by omega, rfl⟩, ?_⟩
          · have z' : V.int ((rest : Int) % (p : Int)) = V.int 0 := of_decide_eq_true z
            rw [← Int.natCast_emod] at z'
            injection z' with z'
            omega
          · rw [Int.natCast_add]
            rfl
          · show 1003 - ((p : Int) + 1).toNat < 1003 - (p : Int).toNat
            omega
      · refine ite_no (fun z => hc ?_) ?_
        · have z' := of_decide_eq_true z
          rw [← Int.natCast_mul] at z'
          exact Int.ofNat_le.mp z'
        · have e := L.done (by omega)
          refine ⟨_, rfl, _, rfl, _, _, rfl, rfl, .inr ⟨by omega, by omega⟩, ?_⟩
          have e' : V.int ((res : Int) * (rest : Int)) = V.int ((radL n : Nat) : Int) := by
            rw [← Int.natCast_mul, e, ← radL_eq (by omega)]
          show Q (V.int ((res : Int) * (rest : Int))) H'
          rw [e']
          exact q
    · rintro σ H' Q1 Q2 hq ⟨v1, e1, v2, e2, i, j, e3, e4, c, v3, e5, i2, j2, e6, e7, k, e8, z⟩
      exact ⟨v1, e1, v2, e2, i, j, e3, e4, c, v3, e5, i2, j2, e6, e7, k, e8, hq _ _ z⟩
  · refine ⟨_, rfl, x, t, 1, 1000000, rfl, ht, ?_⟩
    refine ⟨false, ?_, iteT ⟨_, rfl, x, rfl, q⟩⟩
    cases x with
    | int i =>
      have := hn i rfl
      show V.bl (decide (1 ≤ i) && decide (i ≤ 1000000)) = _
      congr 1
      rw [Bool.and_eq_false_iff]
      by_cases h1 : 1 ≤ i
      · exact .inr (decide_eq_false fun z => this ⟨h1, z⟩)
      · exact .inl (decide_eq_false h1)
    | _ => rfl
theorem ok_common (F : ∃ (f : Addr) (fd : FuncData), Fun K "common" "common" s_common f fd ∧ mg "common" = some (.ref f)) (T : Txt mg) : HasR P w K mg base 1 "common" spCommon2 := by
  obtain ⟨f, fd, F, m⟩ := F
  have kp := F.kp
  obtain ⟨oc, od, kV, doc, pm, an, cdv, ct, osl, rfl, lk, hcd⟩ := F.ex
  have R := StX.fn_star (P := P) (w := w) (mg := mg) (base := base) (CX := CX0) (k := 0) (sp := fun vs H Q _ => ∃ (p : Addr) (ns : List Int), vs = [.ref p] ∧ H p = some (.tup (ns.map V.int)) ∧ Q (.int (ns.foldl gcdI 0)) H) (ps := []) (pv := "numbers") (N := N_common) lk hcd sc_common StX.cxUp_none (fun us rest hl => match us, rest, hl with | [], [], _ => rfl | [], _ :: _, _ => rfl) (fun A outer s H vs Q E hr h => by
    obtain ⟨p, ns, rfl, hp, q⟩ := h
    refine ⟨_, PSs.nox (pss_cons (ps_set (i := 1) sc_common.nd rfl (Or.inl rfl) pe_int)
      (pss_cons (ps_for PassesOwn.never rfl (pi_tup (pv 0)) (pg_name (i := 2) sc_common.nd rfl (Or.inl rfl))
        (pss_one (ps_set (i := 1) sc_common.nd rfl (Or.inl rfl) (pe_callBfun cr_gcd (by rfl) T.m_gcd (pa_cons (pv 1) (pa_cons (pv 2) pa_nil))))))
      (pss_one (ps_ret (pv 1))))), ?_⟩
    refine ⟨_, rfl, p, rfl, ⟨_, SqT.of hp⟩, for_tup (fun i σ H' => ∃ y, σ = [some (.ref p), some (.int ((ns.take i).foldl gcdI 0)), y] ∧ H' = H) ⟨none, rfl, rfl⟩ (fun i σ H' _ ⟨_, _, e⟩ => e ▸ SqT.of hp) ?_ ?_⟩
    · rintro i x σ H' hx ⟨y, rfl, rfl⟩
      obtain ⟨m, hm, rfl⟩ := at_ints hx
      refine ⟨_, rfl, _, rfl, _, _, rfl, some (.int m), ?_, rfl⟩
      rw [fold_take hm]
      rfl
    · rintro σ H' ⟨y, rfl, rfl⟩
      rw [List.length_map, List.take_length]
      exact ⟨_, rfl, q⟩)
  refine ⟨f, R.imp fun vs H Q E ⟨a, b, ev, q⟩ => ⟨[], vs, rfl, rfl, ?_, fun p hp => ⟨p, [a, b], rfl, ?_, ?_⟩⟩, m, kp⟩
  · rw [ev]
    exact (by show 2 ≤ sizeLine; decide)
  · rw [ev]
    exact upd_same
  · have e : [a, b].foldl gcdI 0 = gcdI a b := by
      show gcdI (gcdI 0 a) b = gcdI a b
      unfold gcdI
      simp
    rw [e]
    exact q _ (same_upd hp)
end
end My
/-! own classes: static methods, properties, ==, repr, bool -/
namespace OwO
open PySem PySem.Spec PyProof.Rows L2
/-- C.m is a static method: its record at p, its def at g -/
structure CStat (K : PySem.W.Frag) (C : Addr) (mc : Value) (m : Str) (p g : Addr) : Prop where
  at_ : PySem.W.findCls K (.ref C) mc m = some (.get (.builtin "staticmethod.__get__") (.ref p) .none (.ref C))
  rc : ∃ rest, PySem.W.recIn K p "staticmethod" = some (.ref g :: rest)
/-- a special method of the class at C: a def of it -/
structure Spc (K : PySem.W.Frag) (C : Addr) (m : Str) (f : Addr) : Prop where
  at_ : PySem.W.findIn K (.ref C) m = some (some (.ref f))
  fn : PySem.W.isFn K (.ref f) = true
def tStat (C : Addr) (sp : Sp) (dvs : List V) (E : XK) (ta : TE) (t : TA) : TE := fun σ H Q => ta σ H fun x H1 => x = .ref C ∧ t σ H1 fun vs H2 => sp (vs ++ dvs) H2 Q E
section
variable {X : Cx} {pins : List (Addr × Obj)} {σ : L2.St} {H : Hp} {s : Shared}
theorem getmethst_ok {C p g : Addr} {mc : Value} {m : Str} {pl : Sem Bool} {A : Around} {E : Value → Shared → Prop} {Q : Value × List Value → Shared → Prop} (I : Inv X pins σ H s) (r : ClX.CRead X.K C mc) (k : CStat X.K C mc m p g)
    (h : ∀ s', Inv X pins σ H s' → Q (.ref g, []) s') : wpAny (model X.prog X.w) A (getMethod (.ref C) m pl) Q E s := by
  obtain ⟨rest, hp⟩ := k.rc
  refine PySem.W.method_cls I.kIn r.ga (PySem.W.cls_bind I.kIn r.rd k.at_ ?_)
  exact wpAny_call (PySem.W.sm_get (s := { s with toks := s.toks + 1 }) I.kIn hp (PySem.W.handed_on rfl (h _ (I.tok _))))
end
section
variable {X : Cx} {CX : CXT} {k : Nat} {C p g : Addr} {mc : Value} {fd : FuncData} {ps : List Str} {ds : List Value} {dvs : List V} {sp : Sp} {E : XK} {o e : Expr} {es : List Expr} {m : Str} {pos apos : Pos} {ta : TE} {t : TA} {pl : Sem Bool}
/-- C.m() -/
theorem pe_stat0 (he : PE X o ta) (r : ClX.CRead X.K C mc) (c : CStat X.K C mc m p g) (F : FnOk X.prog X.w X.K X.mg X.base CX k g fd ps sp) (hr : Room k X.A) (hk : PySem.W.keepIn X.K (.ref g) = true) (hb : Binds X.K fd ps ds) (hd : Vals dvs ds) (hx : Passes CX X E)
    (ht : eval (.Call (.Attribute o m apos) [] [] pos) X.env = (do
      let ov ← eval o X.env
      standAt apos.atName
      let (f, first) ← holding [ov] (getMethod ov m pl)
      callWith pos f first (backTo pos (starEach [] X.env)) (backToKw pos (keywordEach [] X.env))) := by rfl) :
    PE X (.Call (.Attribute o m apos) [] [] pos) (tStat C sp dvs E ta tNil) := by
  refine ⟨fun pins s σ H Q I h => ?_⟩
  refine PySem.W.methodCall_KW (pl := pl) (thn (he.run pins s σ H _ I h) fun u s1 ⟨x, H1, I1, rx, ex, q⟩ => ?_) ht
  subst ex
  obtain rfl : u = Value.ref C := rx
  refine getmethst_ok I1 r c fun s2 I2 => ?_
  exact PySem.W.callWith_K0 I2.kIn hk (run_fn F hr hb hd hx I2 .nil q)
/-- C.m(e, ..) -/
theorem pe_stat (he : PE X o ta) (r : ClX.CRead X.K C mc) (c : CStat X.K C mc m p g) (F : FnOk X.prog X.w X.K X.mg X.base CX k g fd ps sp) (hr : Room k X.A) (hk : PySem.W.keepIn X.K (.ref g) = true) (hb : Binds X.K fd ps ds) (hd : Vals dvs ds) (hx : Passes CX X E) (ha : PA X (e :: es) t)
    (hst : starEach (e :: es) X.env = (false, eval e X.env) :: starEach es X.env := by rfl) (hpl : (backTo pos (starEach es X.env)).any (·.1) = false := by rfl)
    (ht : eval (.Call (.Attribute o m apos) (e :: es) [] pos) X.env = (do
      let ov ← eval o X.env
      standAt apos.atName
      let (f, first) ← holding [ov] (getMethod ov m pl)
      callWith pos f first (backTo pos (starEach (e :: es) X.env)) (backToKw pos (keywordEach [] X.env))) := by rfl) :
    PE X (.Call (.Attribute o m apos) (e :: es) [] pos) (tStat C sp dvs E ta t) := by
  refine ⟨fun pins s σ H Q I h => ?_⟩
  refine PySem.W.methodCall_KW (pl := pl) (thn (he.run pins s σ H _ I h) fun u s1 ⟨x, H1, I1, rx, ex, q⟩ => ?_) ht
  subst ex
  obtain rfl : u = Value.ref C := rx
  refine getmethst_ok I1 r c fun s2 I2 => ?_
  refine PySem.W.callWith_K (h₀ := X.base) I2.ok.mod.kin hk (thn (ha.run pos pins s2 σ H1 _ I2 q) fun us s3 ⟨vs, H2, I3, rv, q2⟩ => ⟨I3.kIn, ?_⟩) hst hpl
  exact run_fn F hr hb hd hx I3 rv q2
end
/-! ### what an own special method answers -/
section
variable {X : Cx} {K0 : PySem.W.Frag} {k : Nat} {C f : Addr} {fd : FuncData} {ps : List Str} {sp : Sp}
/-- repr(o) -/
theorem cr_repr {m : Str} (hm : m = "__repr__") (S : Spc X.K C m f) (F : FnOk X.prog X.w X.K X.mg X.base CX0 k f fd ps sp) (hb : Binds X.K fd ps []) (hr : Room (k + 1) X.A) :
    CallR X (.builtin "repr") (fun xs H Q => ∃ a dx fs, xs = [.ref a] ∧ H a = some (.ins C dx fs) ∧ sp [.ref a] H (fun v H' => ∃ z : Str, v = .str z ∧ Q (.str z) H') E0) := by
  subst hm
  intro pins s σ H xs us Q I r h
  obtain ⟨a, dx, fs, rfl, ha, hsp⟩ := h
  obtain rfl := Vals.ref1 r
  obtain ⟨mA, J, _⟩ := ins_get I.hok ha
  obtain ⟨od, J, _⟩ := J.look
  obtain ⟨m, hF⟩ := I.fr
  have hl := F.len _ _ _ _ hsp
  refine PySem.W.repr_K hr.in1.units0 hF I.ok.mod.kin J S.at_ S.fn ?_
  refine wpAny_call (codeAny_mono (F.run X.A.in1 X.stack s H ⟨[.ref a], []⟩ [.ref a] [.ref a] _ E0 hr.in1 I.env0.in1 (hb s [.ref a] I.kIn (by simpa using hl)) (.cons rfl .nil) hsp) fun r s' hq => ?_)
  cases r with
  | error e => exact (show False from hq).elim
  | ok fl =>
    cases fl with
    | ret w =>
      obtain ⟨v, H', I', rv, z, rfl, q⟩ := I.after hq
      obtain ⟨t, rfl⟩ := rv
      exact ⟨.str z, H', I', ⟨t, rfl⟩, q⟩
    | next => exact False.elim hq
    | brk => exact False.elim hq
    | cont => exact False.elim hq
/-- bool(o), by an own __bool__ -/
theorem call_boolK {prog : Program} {w : World} {A : Around} {E : Value → Shared → Prop} {s : Shared} {K : PySem.W.Frag} {L x C f : Addr} {h₀ : Heap} {mm : Str → Option Value} {ox : Obj} {od : Option Obj} {Q : Value → Shared → Prop} (F : Fr h₀ L s.heap mm) (X₀ : K.In h₀) (I : PySem.W.InstAt s.heap x ox C od)
    (hs : PySem.W.findIn K (.ref C) "__bool__" = some (some (.ref f))) (hf : PySem.W.isFn K (.ref f) = true) (h : wpAny (model prog w) A.in1.in1 (call (.ref f) [.ref x]) (PySem.W.BoolBack fun b => Q (.bool b)) E s) : wpAny (model prog w) A (call (.type "bool") [.ref x]) Q E s := by
  refine callType_codes (T := "bool") (Bi := Builtin.«object.__init__») (Q₁ := fun r s₁ => ∃ b, r = .bool b ∧ Q r s₁) PySem.F.called_bool (PySem.F.typeCall_bool_1 _) PySem.F.entry_object_init ?_ ?_
  · refine codeAny_of_tree ?_
    show wpAny _ A.in1.in1 (do checkBuiltinCall "bool.__new__" ⟨[.type "bool", .ref x], []⟩; again (.builtin "bool.__new__" ⟨[.type "bool", .ref x], []⟩)) _ _ s
    refine wpAny_bind (wpAny_of_eq (PySem.F.newCall_bool_1 _) (wpAny_pure ⟨plainId_quiet (by decide +kernel) _, codeAny_builtin PySem.F.entry_bool_new ?_⟩))
    rw [Around.under_plainId (by decide +kernel) _]
    unfold Builtin.«bool.__new__»
    have f1 := PySem.F.conv_sub_bool
    have key : wpAny (model prog w) A.in1.in1 (truthy (.ref x)) (fun b s₁ => Q (.bool b) s₁) E s := PySem.W.truthy_K F X₀ I hs hf h
    obtain ⟨hp, g, d, tk, os⟩ := s
    repeat (any_goals (first | assumption | (with_reducible refine wpAny_bind (wpAny_mono key (fun b s₁ hq => ?_) fun _ _ y => y)) | wp_step))
    all_goals first | exact ⟨_, rfl, _, rfl, hq⟩ | exact ⟨_, rfl, hq⟩ | exact hq | skip
  · rintro obj s₁ ⟨b, rfl, hq⟩
    exact ⟨rfl, PySem.F.args_object_init_2 _ _, object_init_meets PySem.F.called_bool.init.lookup PySem.F.called_bool.made (by decide) prog w A.in1 _ s₁ ⟨rfl, rfl, hq⟩⟩
theorem ct_bool {m : Str} (hm : m = "__bool__") (S : Spc X.K C m f) (F : FnOk X.prog X.w X.K X.mg X.base CX0 k f fd ps sp) (hb : Binds X.K fd ps []) (hr : Room (k + 2) X.A) :
    CallR X (.type "bool") (fun xs H Q => ∃ a dx fs, xs = [.ref a] ∧ H a = some (.ins C dx fs) ∧ sp [.ref a] H (fun v H' => ∃ b : Bool, v = .bl b ∧ Q (.bl b) H') E0) := by
  subst hm
  intro pins s σ H xs us Q I r h
  obtain ⟨a, dx, fs, rfl, ha, hsp⟩ := h
  obtain rfl := Vals.ref1 r
  obtain ⟨mA, J, _⟩ := ins_get I.hok ha
  obtain ⟨od, J, _⟩ := J.look
  obtain ⟨m, hF⟩ := I.fr
  have hl := F.len _ _ _ _ hsp
  refine call_boolK hF I.ok.mod.kin J S.at_ S.fn ?_
  refine wpAny_call (codeAny_mono (F.run X.A.in1.in1 X.stack s H ⟨[.ref a], []⟩ [.ref a] [.ref a] _ E0 hr.in1.in1 I.env0.in1.in1 (hb s [.ref a] I.kIn (by simpa using hl)) (.cons rfl .nil) hsp) fun r s' hq => ?_)
  cases r with
  | error e => exact (show False from hq).elim
  | ok fl =>
    cases fl with
    | ret w =>
      obtain ⟨v, H', I', rv, z, rfl, q⟩ := I.after hq
      cases rv
      exact ⟨.bl z, H', I', rfl, q⟩
    | next => exact False.elim hq
    | brk => exact False.elim hq
    | cont => exact False.elim hq
/-- o == y, by an own __eq__ (y no instance of a class below o's) -/
def rEqO (K : PySem.W.Frag) (C : Addr) (sp : Sp) : R2 := fun x y H Q => ∃ a dx fs t, x = .ref a ∧ H a = some (.ins C dx fs) ∧ TyX K H y t ∧ PySem.W.notFirst K C t = true ∧ sp [.ref a, y] H (fun v H' => ∃ b : Bool, v = .bl b ∧ Q (.bl b) H') E0
theorem op_eqO {m : Str} (hm : m = "__eq__") (S : Spc X.K C m f) (F : FnOk X.prog X.w X.K X.mg X.base CX0 k f fd ps sp) (hb : Binds X.K fd ps []) (hr : Room k X.A) (hK : X.K = K0) : OpR X (compareOp .Eq) (rEqO K0 C sp) := by
  subst hm hK
  intro pins s σ H x y u v Q I rx ry h
  obtain ⟨a, dx, fs, t, rfl, ha, ty, hn, hsp⟩ := h
  obtain rfl : u = Value.ref a := rx
  obtain ⟨mA, J, _⟩ := ins_get I.hok ha
  obtain ⟨od, J, _⟩ := J.look
  obtain ⟨m, hF⟩ := I.fr
  obtain ⟨P, kx, hP, _⟩ := kit_of I ry ty
  have hl := F.len _ _ _ _ hsp
  show wpAny _ _ (richCompare .Eq (.ref a) v) _ _ _
  refine PySem.W.cmp_K (op := .Eq) hr.units0 hF I.ok.mod.kin J (kx.ty _ _ I.kIn hP) hn S.at_ S.fn ?_
  refine wpAny_call (codeAny_mono (F.run X.A X.stack s H ⟨[.ref a, v], []⟩ [.ref a, v] [.ref a, y] _ E0 hr I.env0 (by
    have z := hb s [.ref a, v] I.kIn (by simpa using hl)
    simpa using z) (.cons rfl (.cons ry .nil)) hsp) fun r s' hq => ?_)
  cases r with
  | error e => exact (show False from hq).elim
  | ok fl =>
    cases fl with
    | ret w =>
      obtain ⟨z, H', I', rv, b, rfl, q⟩ := I.after hq
      cases rv
      exact ⟨.bl b, H', I', rfl, q⟩
    | next => exact False.elim hq
    | brk => exact False.elim hq
    | cont => exact False.elim hq
end
end OwO
/-! normal numbers -/
namespace My
open PySem PySem.Spec PyProof.Rows L2
theorem dec0 (n : Nat) : decide (V.int (n : Int) = V.int 0) = decide (n = 0) := by
  by_cases h : n = 0
  · subst h
    rfl
  · rw [decide_eq_false h, decide_eq_false]
    intro z
    injection z with z
    omega
def Strip (n b r : Nat) : Prop := (n = 0 ∧ r = 0) ∨ (0 < n ∧ IsStrip n b r)
theorem Strip.one {n b r r' : Nat} (h : Strip n b r) (h' : Strip n b r') : r = r' := by
  rcases h with ⟨a, rfl⟩ | ⟨a, h⟩
  · rcases h' with ⟨_, rfl⟩ | ⟨b, _⟩
    · rfl
    · omega
  · rcases h' with ⟨b, _⟩ | ⟨_, h'⟩
    · omega
    · exact strip_one h h'
theorem Strip.zero {n b r : Nat} (h : Strip n b r) : r = 0 ↔ n = 0 := by
  rcases h with ⟨a, b⟩ | ⟨a, h⟩
  · exact ⟨fun _ => a, fun _ => b⟩
  · constructor
    · intro z
      subst z
      exact Nat.eq_zero_of_zero_dvd h.1
    · omega
theorem Strip.le {n b r : Nat} (h : Strip n b r) : r ≤ n := by
  rcases h with ⟨a, b⟩ | ⟨a, h⟩
  · omega
  · exact Nat.le_of_dvd a h.1
theorem Strip.by_one {n : Nat} : Strip n 1 n := by
  by_cases h : n = 0
  · exact .inl ⟨h, h⟩
  · exact .inr ⟨by omega, Nat.dvd_refl _, Nat.coprime_one_right _, 0, by simp⟩
theorem Strip.again {n b r : Nat} (h : Strip n b r) : Strip r b r := by
  rcases h with ⟨a, h⟩ | ⟨a, h1, h2, h3⟩
  · exact .inl ⟨h, h⟩
  · by_cases r0 : r = 0
    · exact .inl ⟨r0, r0⟩
    · exact .inr ⟨by omega, Nat.dvd_refl _, h2, 0, by simp⟩
/-- stripping keeps divisors, up to a factor c -/
theorem Strip.dvd {n m b r q c : Nat} (h : Strip n b r) (h' : Strip m b q) (hd : n ∣ c * m) : r ∣ c * q := by
  rcases h with ⟨a, rfl⟩ | ⟨a, h1, h2, _⟩
  · subst a
    have z := Nat.eq_zero_of_zero_dvd hd
    rcases Nat.mul_eq_zero.mp z with e | e
    · rw [e, Nat.zero_mul]; exact Nat.dvd_refl _
    · rw [h'.zero.mpr e]; exact Nat.dvd_zero _
  · rcases h' with ⟨e, rfl⟩ | ⟨_, _, _, k, h3⟩
    · exact Nat.dvd_zero _
    · have w : r ∣ c * q * b ^ k := by
        rw [Nat.mul_assoc]
        exact Nat.dvd_trans h1 (Nat.dvd_trans hd (Nat.mul_dvd_mul_left c h3))
      exact (h2.pow_right k).dvd_of_dvd_mul_right w
/-- the normal form d' o' s' t' of the numbers d o s t (d a product of primes) -/
structure Nrm (d o s t d' o' s' t' : Nat) : Prop where
  ed : d' = if Nat.gcd o (2 * t) = 0 then d else 1
  eo : Strip (Nat.gcd o (2 * t)) d o'
  es : Strip (Nat.gcd s (Nat.gcd t (Nat.gcd o (2 * t)))) d s'
  et : Strip (Nat.gcd t (Nat.gcd o (2 * t))) d t'
theorem Nrm.one {d o s t d' o' s' t' d'' o'' s'' t'' : Nat} (h : Nrm d o s t d' o' s' t') (h' : Nrm d o s t d'' o'' s'' t'') : d' = d'' ∧ o' = o'' ∧ s' = s'' ∧ t' = t'' := ⟨h.ed.trans h'.ed.symm, h.eo.one h'.eo, h.es.one h'.es, h.et.one h'.et⟩
theorem Nrm.st {d o s t d' o' s' t' : Nat} (h : Nrm d o s t d' o' s' t') : s' ∣ t' := by
  have z := h.es.dvd h.et (c := 1) (by rw [Nat.one_mul]; exact Nat.gcd_dvd_right _ _)
  rw [Nat.one_mul] at z
  exact z
theorem Nrm.to {d o s t d' o' s' t' : Nat} (h : Nrm d o s t d' o' s' t') : t' ∣ o' := by
  have z := h.et.dvd h.eo (c := 1) (by rw [Nat.one_mul]; exact Nat.gcd_dvd_right _ _)
  rw [Nat.one_mul] at z
  exact z
theorem Nrm.ot {d o s t d' o' s' t' : Nat} (h : Nrm d o s t d' o' s' t') : o' ∣ 2 * t' := by
  refine h.eo.dvd h.et (c := 2) ?_
  rw [← Nat.gcd_mul_left]
  exact Nat.dvd_gcd (Nat.gcd_dvd_right _ _) (Nat.dvd_mul_left _ _)
theorem Nrm.dz {d o s t d' o' s' t' : Nat} (h : Nrm d o s t d' o' s' t') (h1 : 1 < d') : o' = 0 := by
  have e := h.ed
  by_cases c : Nat.gcd o (2 * t) = 0
  · exact h.eo.zero.mpr c
  · rw [if_neg c] at e
    omega
/-- the normal form of a normal form -/
theorem Nrm.again {d o s t d' o' s' t' : Nat} (h : Nrm d o s t d' o' s' t') : Nrm d' o' s' t' d' o' s' t' := by
  have g1 : Nat.gcd o' (2 * t') = o' := Nat.gcd_eq_left h.ot
  have g2 : Nat.gcd t' o' = t' := Nat.gcd_eq_left h.to
  have g3 : Nat.gcd s' t' = s' := Nat.gcd_eq_left h.st
  have st : ∀ {n r : Nat}, Strip n d r → Strip r d' r := fun {n r} z => by
    rw [h.ed]
    split
    · exact z.again
    · exact .by_one
  refine ⟨?_, ?_, ?_, ?_⟩
  · rw [g1]
    by_cases c : o' = 0
    · rw [if_pos c]
    · rw [if_neg c, h.ed, if_neg fun z => c (h.eo.zero.mpr z)]
  · rw [g1]; exact st h.eo
  · rw [g1, g2, g3]; exact st h.es
  · rw [g1, g2]; exact st h.et
theorem Nrm.rad {d o s t d' o' s' t' : Nat} (h : Nrm d o s t d' o' s' t') (d0 : 0 < d) (hd : radP d = d) : 0 < d' ∧ d' ≤ d ∧ radP d' = d' := by
  rw [h.ed]
  split
  · exact ⟨d0, Nat.le_refl _, hd⟩
  · exact ⟨Nat.one_pos, d0, radP_one⟩
def tupR (d o s t : Nat) : HO := .tup [.int (d : Int), .int (o : Int), .int (s : Int), .int (t : Int)]
def spNormal : Sp := fun vs H Q _ => ∃ d o s t : Nat, vs = [.int d, .int o, .int s, .int t] ∧ o < 2 ^ 100 ∧ s < 2 ^ 100 ∧ t < 2 ^ 100 ∧
  ∀ (H' : Hp) (T : Addr) (d' o' s' t' : Nat), Nrm d o s t d' o' s' t' → Same H H' → H T = none → H' T = some (tupR d' o' s' t') → Q (.ref T) H'
section
variable {P : Program} {w : World} {K : PySem.W.Frag} {mg : Str → Option Value} {base : Heap}
theorem ok_normal (F : Fn K mg "normal_numbers" s_normal_numbers ["inverse", "ones", "swaps", "squares"]) (B : Blt mg) (G_common : HasR P w K mg base 1 "common" spCommon2) (G_stripped : Has P w K mg base 1 "stripped" ["number", "base"] spStripped) :
    Has P w K mg base 2 "normal_numbers" ["inverse", "ones", "swaps", "squares"] spNormal := by
  refine F.has sc_normal_numbers (fun vs H Q E h => ?_) (fun f cdv A outer s H vs Q E hr h => ?_)
  · obtain ⟨d, o, s, t, rfl, _⟩ := h
    rfl
  obtain ⟨d, o, sw, t, rfl, ho, hs, ht, q⟩ := h
  refine ⟨_, (pss_cons (ps_set (i := 1) sc_normal_numbers.nd rfl (Or.inl rfl) (pe_ownR G_common (hr.mono (by decide)) (by rfl) (pa_cons (pv 1) (pa_cons (pe_op op_mul pe_int (pv 3)) pa_nil))))
      (pss_cons (ps_set (i := 3) sc_normal_numbers.nd rfl (Or.inl rfl) (pe_ownR G_common (hr.mono (by decide)) (by rfl) (pa_cons (pv 3) (pa_cons (pv 1) pa_nil))))
      (pss_cons (ps_set (i := 2) sc_normal_numbers.nd rfl (Or.inl rfl) (pe_ownR G_common (hr.mono (by decide)) (by rfl) (pa_cons (pv 2) (pa_cons (pv 3) pa_nil))))
      (pss_cons (ps_setLc (i := 4) (own := [("number", 5)]) (g := gName 5) (tt := tYes) (by rfl) sc_normal_numbers.nd rfl rfl (sw_true rfl rfl rfl (by decide +kernel)) (pi_tup (pe_tup (pa_cons (pv 1) (pa_cons (pv 2) (pa_cons (pv 3) pa_nil))))) (blkOk_by (own := [("number", 5)]) (N := N_normal_numbers) (sc := defScope s_normal_numbers) (by decide +kernel)) (fun _ _ _ _ _ => (pg_name (i := 5) sc_normal_numbers.nd rfl (Or.inl rfl))) (fun _ _ _ _ _ => pts_nil) (fun _ _ _ _ _ => (pe_own G_stripped (hr.mono (by decide)) (by rfl) (pa_cons (pv 5) (pa_cons (pv 0) pa_nil)))))
      (pss_one (ps_ret (pe_tup (pa_cons (pe_ifExp (pt_cmpR op_ne (pv 1) pe_int (nomark _)) pe_int (pv 0)) (StX.pa_star (pv 4) pa_nil))))))))), ?_⟩
  have e1 : gcdI (o : Int) (2 * (t : Int)) = ((Nat.gcd o (2 * t) : Nat) : Int) := gcdN o (2 * t)
  refine ⟨_, rfl, _, rfl, _, _, rfl, rfl, .inl ⟨by omega, by omega⟩, _, _, rfl, fun H1 s1 => ?_⟩
  rw [e1]
  refine ⟨_, rfl, _, rfl, _, _, rfl, fun H2 s2 => ?_⟩
  rw [gcdN]
  refine ⟨_, rfl, _, rfl, _, _, rfl, fun H3 s3 => ?_⟩
  rw [gcdN]
  have b1 : Nat.gcd o (2 * t) < 2 ^ 200 := by
    by_cases z : o = 0
    · rw [z, Nat.gcd_zero_left]; omega
    · exact Nat.lt_of_le_of_lt (Nat.le_of_dvd (by omega) (Nat.gcd_dvd_left _ _)) (by omega)
  have b2 : Nat.gcd t (Nat.gcd o (2 * t)) < 2 ^ 200 := by
    by_cases z : t = 0
    · rw [z, Nat.gcd_zero_left]; rw [z] at b1; exact b1
    · exact Nat.lt_of_le_of_lt (Nat.le_of_dvd (by omega) (Nat.gcd_dvd_left _ _)) (by omega)
  have b3 : Nat.gcd sw (Nat.gcd t (Nat.gcd o (2 * t))) < 2 ^ 200 := by
    by_cases z : sw = 0
    · rw [z, Nat.gcd_zero_left]; exact b2
    · exact Nat.lt_of_le_of_lt (Nat.le_of_dvd (by omega) (Nat.gcd_dvd_left _ _)) (by omega)
  have s13 := s1.trans (s2.trans s3)
  refine ⟨_, rfl, _, rfl, _, rfl, (by show 3 ≤ sizeLine; decide), fun p hp => ?_⟩
  have ep : ∀ H' : Hp, H' p = some (.tup (vNats [Nat.gcd o (2 * t), Nat.gcd sw (Nat.gcd t (Nat.gcd o (2 * t))), Nat.gcd t (Nat.gcd o (2 * t))])) → SqT K H' p (vNats [Nat.gcd o (2 * t), Nat.gcd sw (Nat.gcd t (Nat.gcd o (2 * t))), Nat.gcd t (Nat.gcd o (2 * t))]) := fun H' e => SqT.of e
  obtain ⟨ns, hns⟩ : ∃ ns, ns = [Nat.gcd o (2 * t), Nat.gcd sw (Nat.gcd t (Nat.gcd o (2 * t))), Nat.gcd t (Nat.gcd o (2 * t))] := ⟨_, rfl⟩
  have hb : ∀ n ∈ ns, n < 2 ^ 200 := by
    rw [hns]
    intro n hn
    simp only [List.mem_cons, List.not_mem_nil, or_false] at hn
    rcases hn with rfl | rfl | rfl <;> assumption
  have ns3 : ns.length = 3 := by rw [hns]; rfl
  have s4 : Same H3 (upd H3 p (.tup (vNats ns))) := same_upd hp
  have at_ : (upd H3 p (.tup (vNats ns))) p = some (.tup (vNats ns)) := upd_same
  have g0 : ns[0]? = some (Nat.gcd o (2 * t)) := by rw [hns]; rfl
  have g1 : ns[1]? = some (Nat.gcd sw (Nat.gcd t (Nat.gcd o (2 * t)))) := by rw [hns]; rfl
  have g2 : ns[2]? = some (Nat.gcd t (Nat.gcd o (2 * t))) := by rw [hns]; rfl
  have ev : [V.int ((Nat.gcd o (2 * t) : Nat) : Int), V.int ((Nat.gcd sw (Nat.gcd t (Nat.gcd o (2 * t))) : Nat) : Int), V.int ((Nat.gcd t (Nat.gcd o (2 * t)) : Nat) : Int)] = vNats ns := by rw [hns]; rfl
  rw [ev]
  refine ⟨p, rfl, ⟨_, SqT.of at_⟩, fun D hD => ?_⟩
  refine lc_it (walk_tup (xs := vNats ns)) (fun i H' => Same (upd H3 p (.tup (vNats ns))) H' ∧ ∃ rs : List Nat, rs.length = i ∧ H' D = some (.lst (vNats rs)) ∧ ∀ (j r n : Nat), rs[j]? = some r → ns[j]? = some n → Strip n d r)
    ⟨same_upd hD, [], rfl, upd_same, fun j r n z => by simp at z⟩ (fun i H' _ h => SqT.of (h.1 _ _ at_)) ?_ ?_
  · rintro i v H4 H5 hi ⟨s5, rs, hl, e5, all⟩ ⟨rfl, hv⟩
    obtain ⟨n, hn⟩ : ∃ n, ns[i]? = some n := by
      have : i < ns.length := by simpa using hi
      exact ⟨_, List.getElem?_eq_getElem this⟩
    have hv' : v = V.int (n : Int) := by
      rw [List.getElem?_map, hn] at hv
      exact (Option.some.inj hv).symm
    subst hv'
    refine ⟨rfl, tYes_ok ⟨_, rfl, _, rfl, n, d, rfl, hb n (List.mem_of_getElem? hn), fun r hr => ?_⟩⟩
    have hi3 : i < 3 := by
      have : i < ns.length := by simpa using hi
      omega
    refine ⟨_, e5, small1000 (by rw [List.length_map]; omega), fun c o' hc => ?_, rs ++ [r], by simp [hl], ?_, fun j r' n' h1 h2 => ?_⟩
    · rw [upd_ne (ne_of_none hc hD)]
      exact s5 _ _ hc
    · rw [upd_same]
      simp
    · by_cases hj : j < rs.length
      · rw [List.getElem?_append_left hj] at h1
        exact all j r' n' h1 h2
      · have ej : j = i := by
          have := (List.getElem?_eq_some_iff.mp h1).1
          simp at this
          omega
        subst ej
        rw [List.getElem?_append_right (by omega), hl] at h1
        simp at h1
        rw [hn] at h2
        cases h2
        subst h1
        exact hr
  · rintro H6 ⟨s6, rs, hl, e6, all⟩
    rw [List.length_map, ns3] at hl
    match rs, hl with
    | [a, b, c], _ =>
    have ha := all 0 a _ rfl g0
    have hbq := all 1 b _ rfl g1
    have hc := all 2 c _ rfl g2
    have sa := s13.trans (s4.trans s6)
    by_cases z : Nat.gcd o (2 * t) = 0
    · refine ⟨_, rfl, rfl, _, rfl, ite_no (by rw [dec0, decide_eq_true z]; decide) ?_⟩
      refine ⟨_, rfl, _, rfl, D, _, rfl, .inr (SqL.of e6), (by show 4 ≤ sizeLine; decide), fun T hT => ?_⟩
      exact q _ T d a b c ⟨by rw [if_pos z], ha, hbq, hc⟩ (sa.trans (same_upd hT)) (sa.free hT) upd_same
    · refine ⟨_, rfl, rfl, _, rfl, ite_of (by rw [dec0, decide_eq_false z]; rfl) ?_⟩
      refine ⟨_, rfl, D, _, rfl, .inr (SqL.of e6), (by show 4 ≤ sizeLine; decide), fun T hT => ?_⟩
      exact q _ T 1 a b c ⟨by rw [if_neg z], ha, hbq, hc⟩ (sa.trans (same_upd hT)) (sa.free hT) upd_same
end
end My
/-! a realm and its making -/
namespace My
open PySem PySem.Spec PyProof.Rows L2
abbrev psR : List Str := ["self", "inverse", "ones", "swaps", "squares"]
abbrev kwsR : List (Str × V) := [("inverse", .int 1), ("ones", .int 0), ("swaps", .int 0), ("squares", .int 0)]
def RealmAt (C : Addr) (H : Hp) (a : Addr) (d o s t : Nat) : Prop := ∃ dx T, H a = some (.ins C dx [("_normal", .ref T)]) ∧ H T = some (tupR d o s t)
theorem RealmAt.same {C : Addr} {H H' : Hp} {a : Addr} {d o s t : Nat} (h : RealmAt C H a d o s t) (k : Same H H') : RealmAt C H' a d o s t := by
  obtain ⟨dx, T, h1, h2⟩ := h
  exact ⟨dx, T, k _ _ h1, k _ _ h2⟩
/-- the four arguments, good ones (G) or with a first wrong one (E) -/
def RlmG (CE : Addr) (xs : List V) (H : Hp) (G : Nat → Nat → Nat → Nat → Prop) (E : XK) : Prop :=
  (∃ i o s t : Nat, xs = [.int i, .int o, .int s, .int t] ∧ 1 ≤ i ∧ i ≤ 1000000 ∧ o < 2 ^ 100 ∧ s < 2 ^ 100 ∧ t < 2 ^ 100 ∧ G i o s t) ∨
  (∃ (x0 x1 x2 x3 : V) (ty : String), xs = [x0, x1, x2, x3] ∧ Typ H x0 ty ∧ (∀ i : Int, x0 = .int i → ¬ (1 ≤ i ∧ i ≤ 1000000)) ∧ ∀ H' d, Same H H' → H' d = none → E (.ref CE) (some d) (upd H' d (.xd (errD "given" "InvalidNumber" x0)))) ∨
  (∃ (i : Nat) (x1 x2 x3 : V) (j : Nat) (x : V) (ty : String), xs = [.int i, x1, x2, x3] ∧ 1 ≤ i ∧ i ≤ 1000000 ∧ [x1, x2, x3][j]? = some x ∧ (∀ k y, k < j → [x1, x2, x3][k]? = some y → ∃ n : Nat, y = .int n) ∧ Typ H x ty ∧ (∀ n : Int, x = .int n → n < 0) ∧
    ∀ H' d, Same H H' → H' d = none → E (.ref CE) (some d) (upd H' d (.xd (errD "given" "InvalidNumber" x))))
theorem RlmG.imp {CE : Addr} {xs : List V} {H H2 : Hp} {G G2 : Nat → Nat → Nat → Nat → Prop} {E : XK} (h : RlmG CE xs H G E) (s : Same H H2) (g : ∀ i o s t, G i o s t → G2 i o s t) : RlmG CE xs H2 G2 E := by
  rcases h with ⟨i, o, s', t, a1, a2, a3, a4, a5, a6, a7⟩ | ⟨x0, x1, x2, x3, ty, a1, a2, a3, a4⟩ | ⟨i, x1, x2, x3, j, x, ty, a1, a2, a3, a4, a5, a6, a7, a8⟩
  · exact .inl ⟨i, o, s', t, a1, a2, a3, a4, a5, a6, g _ _ _ _ a7⟩
  · exact .inr (.inl ⟨x0, x1, x2, x3, ty, a1, a2.same s, a3, fun H' d k n => a4 H' d (s.trans k) n⟩)
  · exact .inr (.inr ⟨i, x1, x2, x3, j, x, ty, a1, a2, a3, a4, a5, a6.same s, a7, fun H' d k n => a8 H' d (s.trans k) n⟩)
/-- Realm(..): a new realm with the normal form of the numbers, or the error of the first wrong one -/
def RlmWish (C CE : Addr) (xs : List V) (H : Hp) (Q : VK) (E : XK) : Prop :=
  RlmG CE xs H (fun i o s t => ∀ (H' : Hp) (a : Addr) (d' o' s' t' : Nat), Nrm (radL i) o s t d' o' s' t' → Same H H' → H a = none → RealmAt C H' a d' o' s' t' → Q (.ref a) H') E
def spInit (C CE : Addr) : Sp := fun vs H Q E => ∃ (a dx : Addr) (xs : List V), vs = .ref a :: xs ∧ H a = some (.ins C dx []) ∧
  RlmG CE xs H (fun i o s t => ∀ (H' : Hp) (d' o' s' t' : Nat), Nrm (radL i) o s t d' o' s' t' → Kp a H H' → RealmAt C H' a d' o' s' t' → Q .non H') E
theorem wish_init {C CE : Addr} {xs : List V} {H : Hp} {Q : VK} {E : XK} (h : RlmWish C CE xs H Q E) {x dx : Addr} (hx : H x = none) (hdx : H dx = none) (ne : dx ≠ x) :
    spInit C CE (.ref x :: xs) (upd (upd H dx (.own x)) x (.ins C dx [])) (fun v H2 => v = .non ∧ Q (.ref x) H2) E := by
  have s1 : Same H (upd (upd H dx (.own x)) x (.ins C dx [])) := fun b o e => by
    rw [upd_ne (ne_of_none e hx), upd_ne (ne_of_none e hdx)]
    exact e
  refine ⟨x, dx, xs, rfl, upd_same, RlmG.imp h s1 fun i o s t g H' d' o' s' t' N kp R => ⟨rfl, g H' x d' o' s' t' N (fun b u e => kp b u (ne_of_none e hx) (s1 b u e)) hx R⟩⟩
structure Rlm (P : Program) (w : World) (K : PySem.W.Frag) (mg : Str → Option Value) (base : Heap) (C CE f : Addr) (fd : FuncData) : Prop where
  gC : mg "Realm" = some (.ref C)
  M : Mk K C f
  F : FnOk P w K mg base (L2.CX P w) 4 f fd psR (spInit C CE)
  D : FunD K "__init__" "Realm.__init__" (defArgs s_Realm_init) (defBody s_Realm_init) (defScope s_Realm_init) [] kwsR f fd
section
variable {X : Cx} {C CE f : Addr} {fd : FuncData} {p pos : Pos} {E : XK}
/-- Realm() -/
theorem pe_make0Realm (R : Rlm X.prog X.w X.K X.mg X.base C CE f fd) (hx : Passes (L2.CX X.prog X.w) X E) (hr : Room 5 X.A) (hg : Gl X "Realm") :
    PE X (.Call (.Name "Realm" p) [] [] pos) (fun σ H Q => RlmWish C CE [.int 1, .int 0, .int 0, .int 0] H Q E) := by
  obtain ⟨ds, hd, hb⟩ := FunD.binds0 R.D (ps := psR) 1 (by simp) rfl (fun D doc pm an cdv ct us ks l1 l2 => match us, ks, l1, l2 with
    | [_], [_, _, _, _], _, _ => ⟨_, _, _, _, _, _, rfl, rfl, ⟨_, _, _, _, _, _, rfl, rfl, ⟨_, _, _, _, _, _, rfl, rfl, ⟨_, _, _, _, _, _, rfl, rfl, rfl⟩⟩⟩⟩)
  refine ⟨fun pins s σ H Q I h => ?_⟩
  exact (pe_make0 R.M R.F hr hg R.gC hb hd hx).run pins s σ H Q I fun x dx h1 h2 h3 => wish_init h h1 h2 h3
/-- Realm(k = v, ..) -/
theorem pe_makeKRealm {ks : List Str} {kws : List Keyword} {tk : TA} {gW : List V → List V} (R : Rlm X.prog X.w X.K X.mg X.base C CE f fd)
    (hb : ∃ (g : List Value → List Value → List Value) (gV : List V → List V → List V), KBn X.K fd psR 1 ks g gV ∧ ∀ x zs, zs.length = ks.length → gV [x] zs = x :: gW zs)
    (hx : Passes (L2.CX X.prog X.w) X E) (hr : Room 5 X.A) (hg : Gl X "Realm") (hkw : PK X kws tk)
    (hall : (backToKw pos (keywordEach kws X.env)).all (·.1.isSome) = true := by rfl) (hks : (backToKw pos (keywordEach kws X.env)).filterMap (·.1) = ks := by rfl)
    (hpl : ((backTo pos (starEach [] X.env)).any (·.1) || (backToKw pos (keywordEach kws X.env)).any (·.1.isNone)) = false := by rfl) :
    PE X (.Call (.Name "Realm" p) [] kws pos) (fun σ H Q => tk σ H fun zs H2 => zs.length = ks.length ∧ RlmWish C CE (gW zs) H2 Q E) := by
  obtain ⟨g, gV, kb, eg⟩ := hb
  refine ⟨fun pins s σ H Q I h => ?_⟩
  refine wpAny_Call_Name_kw (ld_glob I hg R.gC ?_ (by decide))
  refine PySem.W.callWith_KW0 (h₀ := X.base) I.ok.mod.kin R.M.kp hall ?_ hpl
  refine thn (hkw.run pos pins s σ H _ I h) fun ws s2 ⟨zs, H2, I2, rz, l2, q2⟩ => ⟨I2.kIn, ?_⟩
  rw [hks]
  exact run_makeK (us := []) (vs := []) R.M R.F hr kb hx I2 .nil rz rfl l2 fun x dx h1 h2 h3 => by
    rw [eg _ _ l2]
    exact wish_init q2 h1 h2 h3
end
/-! ### the patterns of keywords -/
section
variable {K : PySem.W.Frag} {f : Addr} {fd : FuncData}
abbrev DInit (K : PySem.W.Frag) (f : Addr) (fd : FuncData) : Prop := FunD K "__init__" "Realm.__init__" (defArgs s_Realm_init) (defBody s_Realm_init) (defScope s_Realm_init) [] kwsR f fd
abbrev KBR (K : PySem.W.Frag) (fd : FuncData) (ks : List Str) (gW : List V → List V) : Prop := ∃ (g : List Value → List Value → List Value) (gV : List V → List V → List V), KBn K fd psR 1 ks g gV ∧ ∀ x zs, zs.length = ks.length → gV [x] zs = x :: gW zs
theorem kbRealm_inverse_ones_swaps_squares (D : DInit K f fd) : KBR K fd ["inverse", "ones", "swaps", "squares"] (fun zs => (zs.drop 0).take 1 ++ ((zs.drop 1).take 1 ++ ((zs.drop 2).take 1 ++ ((zs.drop 3).take 1)))) := by
  obtain ⟨mv, kb⟩ := FunD.kbinds0 D (ps := psR) 1 ["inverse", "ones", "swaps", "squares"] [] (fun us mv ws => us ++ ((ws.drop 0).take 1 ++ ((ws.drop 1).take 1 ++ ((ws.drop 2).take 1 ++ ((ws.drop 3).take 1))))) (by simp) (by simp) (fun a b c => a.append (((c.drop 0).take 1).append (((c.drop 1).take 1).append (((c.drop 2).take 1).append ((c.drop 3).take 1)))))
    (fun D doc pm an cdv ct us mv ws l1 l2 l3 => match us, mv, ws, l1, l2, l3 with | [_], [], [_, _, _, _], _, _, _ => rfl)
  exact ⟨_, _, kb, fun x zs _ => rfl⟩
theorem kbRealm_ones (D : DInit K f fd) : KBR K fd ["ones"] (fun zs => [.int 1] ++ ((zs.drop 0).take 1 ++ ([.int 0] ++ ([.int 0])))) := by
  obtain ⟨mv, kb⟩ := FunD.kbinds0 D (ps := psR) 1 ["ones"] [("inverse", .int 1), ("swaps", .int 0), ("squares", .int 0)] (fun us mv ws => us ++ ((mv.drop 0).take 1 ++ ((ws.drop 0).take 1 ++ ((mv.drop 1).take 1 ++ ((mv.drop 2).take 1))))) (by simp) (by simp) (fun a b c => a.append (((b.drop 0).take 1).append (((c.drop 0).take 1).append (((b.drop 1).take 1).append ((b.drop 2).take 1)))))
    (fun D doc pm an cdv ct us mv ws l1 l2 l3 => match us, mv, ws, l1, l2, l3 with | [_], [_, _, _], [_], _, _, _ => ⟨_, _, _, _, _, _, rfl, rfl, ⟨_, _, _, _, _, _, rfl, rfl, ⟨_, _, _, _, _, _, rfl, rfl, rfl⟩⟩⟩)
  exact ⟨_, _, kb, fun x zs _ => rfl⟩
theorem kbRealm_swaps (D : DInit K f fd) : KBR K fd ["swaps"] (fun zs => [.int 1] ++ ([.int 0] ++ ((zs.drop 0).take 1 ++ ([.int 0])))) := by
  obtain ⟨mv, kb⟩ := FunD.kbinds0 D (ps := psR) 1 ["swaps"] [("inverse", .int 1), ("ones", .int 0), ("squares", .int 0)] (fun us mv ws => us ++ ((mv.drop 0).take 1 ++ ((mv.drop 1).take 1 ++ ((ws.drop 0).take 1 ++ ((mv.drop 2).take 1))))) (by simp) (by simp) (fun a b c => a.append (((b.drop 0).take 1).append (((b.drop 1).take 1).append (((c.drop 0).take 1).append ((b.drop 2).take 1)))))
    (fun D doc pm an cdv ct us mv ws l1 l2 l3 => match us, mv, ws, l1, l2, l3 with | [_], [_, _, _], [_], _, _, _ => ⟨_, _, _, _, _, _, rfl, rfl, ⟨_, _, _, _, _, _, rfl, rfl, ⟨_, _, _, _, _, _, rfl, rfl, rfl⟩⟩⟩)
  exact ⟨_, _, kb, fun x zs _ => rfl⟩
theorem kbRealm_swaps_inverse (D : DInit K f fd) : KBR K fd ["swaps", "inverse"] (fun zs => (zs.drop 1).take 1 ++ ([.int 0] ++ ((zs.drop 0).take 1 ++ ([.int 0])))) := by
  obtain ⟨mv, kb⟩ := FunD.kbinds0 D (ps := psR) 1 ["swaps", "inverse"] [("ones", .int 0), ("squares", .int 0)] (fun us mv ws => us ++ ((ws.drop 1).take 1 ++ ((mv.drop 0).take 1 ++ ((ws.drop 0).take 1 ++ ((mv.drop 1).take 1))))) (by simp) (by simp) (fun a b c => a.append (((c.drop 1).take 1).append (((b.drop 0).take 1).append (((c.drop 0).take 1).append ((b.drop 1).take 1)))))
    (fun D doc pm an cdv ct us mv ws l1 l2 l3 => match us, mv, ws, l1, l2, l3 with | [_], [_, _], [_, _], _, _, _ => ⟨_, _, _, _, _, _, rfl, rfl, ⟨_, _, _, _, _, _, rfl, rfl, rfl⟩⟩)
  exact ⟨_, _, kb, fun x zs _ => rfl⟩
theorem kbRealm_squares (D : DInit K f fd) : KBR K fd ["squares"] (fun zs => [.int 1] ++ ([.int 0] ++ ([.int 0] ++ ((zs.drop 0).take 1)))) := by
  obtain ⟨mv, kb⟩ := FunD.kbinds0 D (ps := psR) 1 ["squares"] [("inverse", .int 1), ("ones", .int 0), ("swaps", .int 0)] (fun us mv ws => us ++ ((mv.drop 0).take 1 ++ ((mv.drop 1).take 1 ++ ((mv.drop 2).take 1 ++ ((ws.drop 0).take 1))))) (by simp) (by simp) (fun a b c => a.append (((b.drop 0).take 1).append (((b.drop 1).take 1).append (((b.drop 2).take 1).append ((c.drop 0).take 1)))))
    (fun D doc pm an cdv ct us mv ws l1 l2 l3 => match us, mv, ws, l1, l2, l3 with | [_], [_, _, _], [_], _, _, _ => ⟨_, _, _, _, _, _, rfl, rfl, ⟨_, _, _, _, _, _, rfl, rfl, ⟨_, _, _, _, _, _, rfl, rfl, rfl⟩⟩⟩)
  exact ⟨_, _, kb, fun x zs _ => rfl⟩
theorem kbRealm_ones_inverse (D : DInit K f fd) : KBR K fd ["ones", "inverse"] (fun zs => (zs.drop 1).take 1 ++ ((zs.drop 0).take 1 ++ ([.int 0] ++ ([.int 0])))) := by
  obtain ⟨mv, kb⟩ := FunD.kbinds0 D (ps := psR) 1 ["ones", "inverse"] [("swaps", .int 0), ("squares", .int 0)] (fun us mv ws => us ++ ((ws.drop 1).take 1 ++ ((ws.drop 0).take 1 ++ ((mv.drop 0).take 1 ++ ((mv.drop 1).take 1))))) (by simp) (by simp) (fun a b c => a.append (((c.drop 1).take 1).append (((c.drop 0).take 1).append (((b.drop 0).take 1).append ((b.drop 1).take 1)))))
    (fun D doc pm an cdv ct us mv ws l1 l2 l3 => match us, mv, ws, l1, l2, l3 with | [_], [_, _], [_, _], _, _, _ => ⟨_, _, _, _, _, _, rfl, rfl, ⟨_, _, _, _, _, _, rfl, rfl, rfl⟩⟩)
  exact ⟨_, _, kb, fun x zs _ => rfl⟩
theorem kbRealm_inverse_ones (D : DInit K f fd) : KBR K fd ["inverse", "ones"] (fun zs => (zs.drop 0).take 1 ++ ((zs.drop 1).take 1 ++ ([.int 0] ++ ([.int 0])))) := by
  obtain ⟨mv, kb⟩ := FunD.kbinds0 D (ps := psR) 1 ["inverse", "ones"] [("swaps", .int 0), ("squares", .int 0)] (fun us mv ws => us ++ ((ws.drop 0).take 1 ++ ((ws.drop 1).take 1 ++ ((mv.drop 0).take 1 ++ ((mv.drop 1).take 1))))) (by simp) (by simp) (fun a b c => a.append (((c.drop 0).take 1).append (((c.drop 1).take 1).append (((b.drop 0).take 1).append ((b.drop 1).take 1)))))
    (fun D doc pm an cdv ct us mv ws l1 l2 l3 => match us, mv, ws, l1, l2, l3 with | [_], [_, _], [_, _], _, _, _ => ⟨_, _, _, _, _, _, rfl, rfl, ⟨_, _, _, _, _, _, rfl, rfl, rfl⟩⟩)
  exact ⟨_, _, kb, fun x zs _ => rfl⟩
theorem kbRealm_ones_squares_swaps (D : DInit K f fd) : KBR K fd ["ones", "squares", "swaps"] (fun zs => [.int 1] ++ ((zs.drop 0).take 1 ++ ((zs.drop 2).take 1 ++ ((zs.drop 1).take 1)))) := by
  obtain ⟨mv, kb⟩ := FunD.kbinds0 D (ps := psR) 1 ["ones", "squares", "swaps"] [("inverse", .int 1)] (fun us mv ws => us ++ ((mv.drop 0).take 1 ++ ((ws.drop 0).take 1 ++ ((ws.drop 2).take 1 ++ ((ws.drop 1).take 1))))) (by simp) (by simp) (fun a b c => a.append (((b.drop 0).take 1).append (((c.drop 0).take 1).append (((c.drop 2).take 1).append ((c.drop 1).take 1)))))
    (fun D doc pm an cdv ct us mv ws l1 l2 l3 => match us, mv, ws, l1, l2, l3 with | [_], [_], [_, _, _], _, _, _ => ⟨_, _, _, _, _, _, rfl, rfl, rfl⟩)
  exact ⟨_, _, kb, fun x zs _ => rfl⟩
theorem kbRealm_squares_swaps (D : DInit K f fd) : KBR K fd ["squares", "swaps"] (fun zs => [.int 1] ++ ([.int 0] ++ ((zs.drop 1).take 1 ++ ((zs.drop 0).take 1)))) := by
  obtain ⟨mv, kb⟩ := FunD.kbinds0 D (ps := psR) 1 ["squares", "swaps"] [("inverse", .int 1), ("ones", .int 0)] (fun us mv ws => us ++ ((mv.drop 0).take 1 ++ ((mv.drop 1).take 1 ++ ((ws.drop 1).take 1 ++ ((ws.drop 0).take 1))))) (by simp) (by simp) (fun a b c => a.append (((b.drop 0).take 1).append (((b.drop 1).take 1).append (((c.drop 1).take 1).append ((c.drop 0).take 1)))))
    (fun D doc pm an cdv ct us mv ws l1 l2 l3 => match us, mv, ws, l1, l2, l3 with | [_], [_, _], [_, _], _, _, _ => ⟨_, _, _, _, _, _, rfl, rfl, ⟨_, _, _, _, _, _, rfl, rfl, rfl⟩⟩)
  exact ⟨_, _, kb, fun x zs _ => rfl⟩
theorem kbRealm_inverse (D : DInit K f fd) : KBR K fd ["inverse"] (fun zs => (zs.drop 0).take 1 ++ ([.int 0] ++ ([.int 0] ++ ([.int 0])))) := by
  obtain ⟨mv, kb⟩ := FunD.kbinds0 D (ps := psR) 1 ["inverse"] [("ones", .int 0), ("swaps", .int 0), ("squares", .int 0)] (fun us mv ws => us ++ ((ws.drop 0).take 1 ++ ((mv.drop 0).take 1 ++ ((mv.drop 1).take 1 ++ ((mv.drop 2).take 1))))) (by simp) (by simp) (fun a b c => a.append (((c.drop 0).take 1).append (((b.drop 0).take 1).append (((b.drop 1).take 1).append ((b.drop 2).take 1)))))
    (fun D doc pm an cdv ct us mv ws l1 l2 l3 => match us, mv, ws, l1, l2, l3 with | [_], [_, _, _], [_], _, _, _ => ⟨_, _, _, _, _, _, rfl, rfl, ⟨_, _, _, _, _, _, rfl, rfl, ⟨_, _, _, _, _, _, rfl, rfl, rfl⟩⟩⟩)
  exact ⟨_, _, kb, fun x zs _ => rfl⟩
end
end My
/-! Realm's methods -/
namespace My
open PySem PySem.Spec PyProof.Rows L2
structure RCls (K : PySem.W.Frag) (C : Addr) (mc : Value) : Prop where
  cl : Cls K C
  n_normal : NoAttr K C "_normal"
  rd : ClX.CRead K C mc
  ha : PySem.W.findIn K (.ref C) "__class__" = some (some (.builtin "object.__class__"))
  hn : PySem.W.specialIn K (.builtin "object.__class__") "__get__" = some (some (.builtin "getset_descriptor.__get__"))
  htk : PySem.W.takesIn K (.builtin "object.__class__") = some true
  hm : PySem.W.mroIn K C (.type "object") = some true
  k1 : PySem.W.kitOne K (.ref C) (.ref C) = some true
  k0 : PySem.W.kitOne K (.type "int") (.ref C) = some false
  nf : PySem.W.notFirst K C (.type "int") = true
theorem RCls.ty {K : PySem.W.Frag} {C : Addr} {mc : Value} (R : RCls K C mc) {H : Hp} {a dx : Addr} {fs : List (Str × V)} (e : H a = some (.ins C dx fs)) : TyX K H (.ref a) (.ref C) := .base (.ins e R.cl R.ha R.hn R.htk R.hm)
theorem RCls.nf1 {K : PySem.W.Frag} {C : Addr} : PySem.W.notFirst K C (.ref C) = true := by simp [PySem.W.notFirst]
section
variable {P : Program} {w : World} {K : PySem.W.Frag} {mg : Str → Option Value} {base : Heap} {C CE : Addr} {mc : Value}
theorem ok_init {f fI cc cd : Addr} {fd : FuncData} (D : DInit K f fd) (M : Mk K C f) (gC : mg "Realm" = some (.ref C)) (R : RCls K C mc) (E_InvalidNumber : ErrX.ErrTxt P K mg "InvalidNumber" "given" "InvalidNumber" CE fI cc cd)
    (G_radical : HasX P w K mg base 3 "radical" ["number"] (spRadical CE)) (G_is_int : Has P w K mg base 1 "is_int" ["value"] spIsInt) (G_normal_numbers : Has P w K mg base 2 "normal_numbers" ["inverse", "ones", "swaps", "squares"] spNormal) : Rlm P w K mg base C CE f fd := by
  refine ⟨gC, M, D.ok sc_Realm_init (fun vs H Q E h => ?_) (fun cdv A outer s H vs Q E hr h => ?_), D⟩
  · obtain ⟨a, dx, xs, rfl, _, h⟩ := h
    rcases h with ⟨i, o, s', t, rfl, _⟩ | ⟨x0, x1, x2, x3, ty, rfl, _⟩ | ⟨i, x1, x2, x3, j, x, ty, rfl, _⟩ <;> rfl
  have TK : Takes (cxOf (L2.CX P w) P w K mg base N_Realm_init "Realm.__init__" (defScope s_Realm_init) f cdv A outer s H E) (fun cls d _ H => E cls d H) := takes_of rfl rfl rfl rfl
  refine ⟨_, (pss_cons (ps_set (i := 5) sc_Realm_init.nd rfl (Or.inl rfl) (pe_ownE G_radical TK (hr.mono (by decide)) (by rfl) (pa_cons (pv 1) pa_nil)))
      (pss_cons (ps_for (passes_of rfl) rfl (pi_tup (pe_tup (pa_cons (pv 2) (pa_cons (pv 3) (pa_cons (pv 4) pa_nil))))) (pg_name (i := 6) sc_Realm_init.nd rfl (Or.inl rfl))
        (pss_one (ps_if (PW.pt (pw_or (pt_not (pt_val (pe_own G_is_int (hr.mono (by decide)) (by rfl) (pa_cons (pv 6) pa_nil)))) (pw_or1 (pt_cmpR op_lt (pv 6) pe_int (nomark _)))))
        (pss_one (ps_raise rfl TK (pmk_err E_InvalidNumber hr (pa_cons (pv 6) pa_nil) (by rfl))))
        pss_nil)))
      (pss_one (ps_fld (pv 0) (pe_own G_normal_numbers (hr.mono (by decide)) (by rfl) (pa_cons (pv 5) (pa_cons (pv 2) (pa_cons (pv 3) (pa_cons (pv 4) pa_nil))))) rfl)))), ?_⟩
  obtain ⟨a, dx, xs, rfl, ha, h⟩ := h
  have nx : ∀ {n : Nat}, [V.int (n : Int)] = [V.int (n : Int)] := rfl
  rcases h with ⟨i, o, s', t, rfl, h1, h2, ho, hs, ht, g⟩ | ⟨x0, x1, x2, x3, ty, rfl, hty, hb, e⟩ | ⟨i, x1, x2, x3, j, x, ty, rfl, h1, h2, hj, hk, hty, hb, e⟩
  · refine ⟨_, rfl, .inl ⟨i, rfl, h1, h2, ?_⟩⟩
    refine ⟨_, rfl, _, rfl, _, rfl, (by show 3 ≤ sizeLine; decide), fun p hp => ⟨p, rfl, ⟨_, SqT.of upd_same⟩, ?_⟩⟩
    have sp : Same H (upd H p (.tup [.int (o : Int), .int (s' : Int), .int (t : Int)])) := same_upd hp
    refine for_tup (xs := [.int (o : Int), .int (s' : Int), .int (t : Int)]) (fun k σ H' => ∃ y, σ = [some (.ref a), some (.int (i : Int)), some (.int (o : Int)), some (.int (s' : Int)), some (.int (t : Int)), some (.int ((radL i : Nat) : Int)), y] ∧ H' = upd H p (.tup [.int (o : Int), .int (s' : Int), .int (t : Int)])) ⟨none, rfl, rfl⟩ (fun k σ H' _ ⟨_, _, e⟩ => e ▸ SqT.of upd_same) ?_ ?_
    · rintro k v σ H' hv ⟨y, rfl, rfl⟩
      obtain ⟨n, rfl⟩ : ∃ n : Nat, v = .int (n : Int) := by
        have := List.mem_of_getElem? hv
        simp only [List.mem_cons, List.not_mem_nil, or_false] at this
        rcases this with rfl | rfl | rfl <;> exact ⟨_, rfl⟩
      refine ⟨_, rfl, _, "int", rfl, .int _, _, rfl, iteF ⟨_, rfl, _, _, rfl, rfl, _, rfl, ite_no (by simp) ⟨_, rfl, rfl⟩⟩⟩
    · rintro σ H' ⟨y, rfl, rfl⟩
      refine ⟨_, rfl, _, rfl, _, rfl, _, rfl, radL i, o, s', t, rfl, ho, hs, ht, fun H' T d' o' s'' t' N sm hT eT => ?_⟩
      have ha' := sm _ _ (sp _ _ ha)
      refine ⟨_, rfl, a, C, dx, [], rfl, ha', R.cl, R.n_normal, by decide, ?_⟩
      refine g _ d' o' s'' t' N ((Kp.of (sp.trans sm)).trans Kp.upd) ⟨dx, T, upd_same, ?_⟩
      rw [upd_ne (ne_of eT ha' (by intro z; cases z))]
      exact eT
  · exact ⟨_, rfl, .inr ⟨x0, ty, rfl, hty, hb, fun d hd => e H d (Same.refl _) hd⟩⟩
  · refine ⟨_, rfl, .inl ⟨i, rfl, h1, h2, ?_⟩⟩
    refine ⟨_, rfl, _, rfl, _, rfl, (by show 3 ≤ sizeLine; decide), fun p hp => ⟨p, rfl, ⟨_, SqT.of upd_same⟩, ?_⟩⟩
    have sp : Same H (upd H p (.tup [x1, x2, x3])) := same_upd hp
    refine for_tup (xs := [x1, x2, x3]) (fun k σ H' => k ≤ j ∧ ∃ y, σ = [some (.ref a), some (.int (i : Int)), some x1, some x2, some x3, some (.int ((radL i : Nat) : Int)), y] ∧ H' = upd H p (.tup [x1, x2, x3])) ⟨Nat.zero_le _, none, rfl, rfl⟩ (fun k σ H' _ ⟨_, _, _, e⟩ => e ▸ SqT.of upd_same) ?_ ?_
    · rintro k v σ H' hv ⟨kj, y, rfl, rfl⟩
      by_cases ej : k = j
      · subst ej
        rw [hv] at hj
        cases hj
        refine ⟨_, rfl, x, ty, rfl, hty.same sp, ?_⟩
        cases hx : isIntV x with
        | false => exact ⟨_, rfl, iteT ⟨_, rfl, x, rfl, fun d hd => e _ d sp hd⟩⟩
        | true =>
          cases x with
          | int z =>
            have := hb z rfl
            exact ⟨_, rfl, iteF ⟨_, rfl, _, _, rfl, rfl, _, rfl, ite_of (decide_eq_true this) ⟨_, rfl, _, rfl, fun d hd => e _ d sp hd⟩⟩⟩
          | _ => cases hx
      · obtain ⟨n, rfl⟩ := hk k v (by omega) hv
        refine ⟨_, rfl, _, "int", rfl, .int _, _, rfl, iteF ⟨_, rfl, _, _, rfl, rfl, _, rfl, ite_no (by simp) ⟨by omega, _, rfl, rfl⟩⟩⟩
    · rintro σ H' ⟨kj, y, rfl, rfl⟩
      have := (List.getElem?_eq_some_iff.mp hj).1
      simp at this kj
      omega
end
/-! ### properties, ==, bool, repr -/
structure HasPr (P : Program) (w : World) (K : PySem.W.Frag) (mg : Str → Option Value) (base : Heap) (C : Addr) (n : Str) (sp : Sp) : Prop where
  ex : ∃ (p g : Addr) (fd : FuncData), PropOf K C n p g ∧ FnOk P w K mg base CX0 1 g fd ["self"] sp ∧ Binds K fd ["self"] []
theorem pe_pr {X : Cx} {C : Addr} {n : Str} {sp : Sp} {e : Expr} {ta : TE} {pos : Pos} (c : Cls X.K C) (h : HasPr X.prog X.w X.K X.mg X.base C n sp) (hr : Room 2 X.A) (he : PE X e ta) (hab : attributeBase e n X.env (eval e X.env) = eval e X.env) :
    PE X (.Attribute e n pos) (tProp C sp [] E0 ta) := by
  obtain ⟨p, g, fd, hp, F, b⟩ := h.ex
  exact pe_prop he c hp F hr b .nil pass0 hab
def spGetR (C : Addr) (sel : Nat → Nat → Nat → Nat → Nat) : Sp := fun vs H Q _ => ∃ (a : Addr) (d o s t : Nat), vs = [.ref a] ∧ RealmAt C H a d o s t ∧ Q (.int ((sel d o s t : Nat) : Int)) H
theorem dp_nats' {K : PySem.W.Frag} {H : Hp} {T : Addr} {d o s t : Nat} (h : H T = some (tupR d o s t)) : Dp K H (.ref T) (.tuple (dNats [d, o, s, t])) := .tup (SqT.of h) (dp_nats [d, o, s, t])
theorem shapedT (xs : List Nat) : SeqAt.shaped (.tuple (dNats xs)) = true := by
  have h1 := depth_nats xs
  show (PyData.canLay0 (.tuple (dNats xs)) && decide (PyData.depth (.tuple (dNats xs)) ≤ 64)) = true
  rw [Bool.and_eq_true]
  refine ⟨by simp only [PyData.canLay0]; exact lay_nats xs, decide_eq_true ?_⟩
  simp only [PyData.depth]
  omega
theorem eqvA_nats : ∀ xs ys : List Nat, xs.length = ys.length → PyData.eqvAll (dNats xs) (dNats ys) = decide (xs = ys)
  | [], [], _ => by simp [PyData.eqvAll]
  | x :: xs, y :: ys, h => by
    have ih := eqvA_nats xs ys (by simpa using h)
    simp only [dNats, List.map_cons, PyData.eqvAll, PyData.eqv] at ih ⊢
    rw [show PyData.eqvAll (xs.map fun (x : Nat) => PyData.int x) (ys.map fun (x : Nat) => PyData.int x) = decide (xs = ys) from ih]
    by_cases e : x = y
    · subst e
      by_cases e2 : xs = ys <;> simp [e2]
    · have : ((x : Int) == (y : Int)) = false := by
        rw [beq_eq_false_iff_ne]
        omega
      simp [e, this]
theorem eqvT_nats (xs ys : List Nat) (h : xs.length = ys.length) : PyData.eqv (.tuple (dNats xs)) (.tuple (dNats ys)) = decide (xs = ys) := by
  rw [← eqvA_nats xs ys h]
  simp [PyData.eqv]
/-- r == y: with another realm, or with a value that is none -/
def spEqR (C : Addr) : Sp := fun vs H Q _ => ∃ (a : Addr) (d o s t : Nat) (y : V), vs = [.ref a, y] ∧ RealmAt C H a d o s t ∧
  ((∃ (b : Addr) (d' o' s' t' : Nat), y = .ref b ∧ RealmAt C H b d' o' s' t' ∧ Q (.bl (decide ([d, o, s, t] = [d', o', s', t']))) H) ∨ (∃ i : Int, y = .int i ∧ Q (.bl false) H))
def spBoolR (C : Addr) : Sp := fun vs H Q _ => ∃ (a : Addr) (d o s t : Nat), vs = [.ref a] ∧ RealmAt C H a d o s t ∧ Q (.bl (!decide (o = 1))) H
section
variable {P : Program} {w : World} {K : PySem.W.Frag} {mg : Str → Option Value} {base : Heap} {C CE : Addr} {mc : Value}
theorem ok_inverse {f p : Addr} {fd : FuncData} (R : RCls K C mc) (F : Fun K "inverse" "Realm.inverse" s_Realm_inverse f fd) (pr : PropOf K C "inverse" p f) (b : Binds K fd ["self"] []) : HasPr P w K mg base C "inverse" (spGetR C fun d _ _ _ => d) := by
  refine ⟨p, f, fd, pr, F.ok sc_Realm_inverse (fun vs H Q E h => ?_) (fun cdv A outer s H vs Q E hr h => ?_), b⟩
  · obtain ⟨a, d, o, s, t, rfl, _⟩ := h
    rfl
  obtain ⟨a, d, o, s', t, rfl, ⟨dx, T, h1, h2⟩, q⟩ := h
  refine ⟨_, (pss_one (ps_ret (pe_ix ix_tup (L2.pe_fld (pv 0) rfl) pe_int (fun _ _ => rfl)))), ?_⟩
  exact ⟨_, rfl, a, C, dx, _, _, rfl, h1, R.cl, R.n_normal, rfl, T, _, _, _, rfl, rfl, SqT.of h2, atI_nat (j := 0) rfl, q⟩
theorem ok_ones {f p : Addr} {fd : FuncData} (R : RCls K C mc) (F : Fun K "ones" "Realm.ones" s_Realm_ones f fd) (pr : PropOf K C "ones" p f) (b : Binds K fd ["self"] []) : HasPr P w K mg base C "ones" (spGetR C fun _ o _ _ => o) := by
  refine ⟨p, f, fd, pr, F.ok sc_Realm_ones (fun vs H Q E h => ?_) (fun cdv A outer s H vs Q E hr h => ?_), b⟩
  · obtain ⟨a, d, o, s, t, rfl, _⟩ := h
    rfl
  obtain ⟨a, d, o, s', t, rfl, ⟨dx, T, h1, h2⟩, q⟩ := h
  refine ⟨_, (pss_one (ps_ret (pe_ix ix_tup (L2.pe_fld (pv 0) rfl) pe_int (fun _ _ => rfl)))), ?_⟩
  exact ⟨_, rfl, a, C, dx, _, _, rfl, h1, R.cl, R.n_normal, rfl, T, _, _, _, rfl, rfl, SqT.of h2, atI_nat (j := 1) rfl, q⟩
theorem ok_swaps {f p : Addr} {fd : FuncData} (R : RCls K C mc) (F : Fun K "swaps" "Realm.swaps" s_Realm_swaps f fd) (pr : PropOf K C "swaps" p f) (b : Binds K fd ["self"] []) : HasPr P w K mg base C "swaps" (spGetR C fun _ _ s _ => s) := by
  refine ⟨p, f, fd, pr, F.ok sc_Realm_swaps (fun vs H Q E h => ?_) (fun cdv A outer s H vs Q E hr h => ?_), b⟩
  · obtain ⟨a, d, o, s, t, rfl, _⟩ := h
    rfl
  obtain ⟨a, d, o, s', t, rfl, ⟨dx, T, h1, h2⟩, q⟩ := h
  refine ⟨_, (pss_one (ps_ret (pe_ix ix_tup (L2.pe_fld (pv 0) rfl) pe_int (fun _ _ => rfl)))), ?_⟩
  exact ⟨_, rfl, a, C, dx, _, _, rfl, h1, R.cl, R.n_normal, rfl, T, _, _, _, rfl, rfl, SqT.of h2, atI_nat (j := 2) rfl, q⟩
theorem ok_squares {f p : Addr} {fd : FuncData} (R : RCls K C mc) (F : Fun K "squares" "Realm.squares" s_Realm_squares f fd) (pr : PropOf K C "squares" p f) (b : Binds K fd ["self"] []) : HasPr P w K mg base C "squares" (spGetR C fun _ _ _ t => t) := by
  refine ⟨p, f, fd, pr, F.ok sc_Realm_squares (fun vs H Q E h => ?_) (fun cdv A outer s H vs Q E hr h => ?_), b⟩
  · obtain ⟨a, d, o, s, t, rfl, _⟩ := h
    rfl
  obtain ⟨a, d, o, s', t, rfl, ⟨dx, T, h1, h2⟩, q⟩ := h
  refine ⟨_, (pss_one (ps_ret (pe_ix ix_tup (L2.pe_fld (pv 0) rfl) pe_int (fun _ _ => rfl)))), ?_⟩
  exact ⟨_, rfl, a, C, dx, _, _, rfl, h1, R.cl, R.n_normal, rfl, T, _, _, _, rfl, rfl, SqT.of h2, atI_nat (j := 3) rfl, q⟩
theorem ok_eqR {f : Addr} {fd : FuncData} (R : RCls K C mc) (gC : mg "Realm" = some (.ref C)) (B : Blt mg) (F : Fun K "__eq__" "Realm.__eq__" s_Realm_eq f fd) : FnOk P w K mg base CX0 1 f fd ["self", "other"] (spEqR C) := by
  refine F.ok sc_Realm_eq (fun vs H Q E h => ?_) (fun cdv A outer s H vs Q E hr h => ?_)
  · obtain ⟨a, d, o, s, t, y, rfl, _⟩ := h
    rfl
  obtain ⟨a, d, o, s', t, y, rfl, ⟨dx, T, h1, h2⟩, h⟩ := h
  refine ⟨_, (pss_one (ps_ret (pe_and (pe_callB call_isi (by rfl) B.isinstance bb_isinstance (pa_cons (pv 1) (pa_cons (pe_gref gC (by rfl)) pa_nil))) (pe_one (pe_cmpR (op_eqD (un64 hr)) (L2.pe_fld (pv 0) rfl) (L2.pe_fld (pv 1) rfl) (nomark _)))))), ?_⟩
  rcases h with ⟨b, d', o', s'', t', rfl, ⟨dy, T', g1, g2⟩, q⟩ | ⟨i, rfl, q⟩
  · refine ⟨_, rfl, _, .ref C, .ref C, .ref C, true, rfl, .own C, R.ty g1, R.k1, _, rfl, iteT ?_⟩
    refine ⟨_, rfl, a, C, dx, _, _, rfl, h1, R.cl, R.n_normal, rfl, _, rfl, b, C, dy, _, _, rfl, g1, R.cl, R.n_normal, rfl, _, _, dp_nats' h2, dp_nats' g2, shapedT _, shapedT _, ?_⟩
    rw [eqvT_nats [d, o, s', t] [d', o', s'', t'] rfl]
    exact q
  · exact ⟨_, rfl, _, .ref C, .type "int", .ref C, false, rfl, .own C, .base (.int i), R.k0, _, rfl, iteF q⟩
theorem ok_boolR {f : Addr} {fd : FuncData} (R : RCls K C mc) (B : Blt mg) (F : Fun K "__bool__" "Realm.__bool__" s_Realm_bool f fd) (PR_ones : HasPr P w K mg base C "ones" (spGetR C fun _ o _ _ => o)) : FnOk P w K mg base CX0 3 f fd ["self"] (spBoolR C) := by
  refine F.ok sc_Realm_bool (fun vs H Q E h => ?_) (fun cdv A outer s H vs Q E hr h => ?_)
  · obtain ⟨a, d, o, s, t, rfl, _⟩ := h
    rfl
  obtain ⟨a, d, o, s', t, rfl, hR, q⟩ := h
  have cl_ := R.cl
  refine ⟨_, (pss_one (ps_ret (pe_callTy call_bool1 (by rfl) B.bool bb_bool (pa_cons (pe_cmpR op_ne (pe_pr cl_ PR_ones (hr.mono (by decide)) (pv 0) rfl) pe_int (nomark _)) pa_nil)))), ?_⟩
  obtain ⟨dx, T, h1, h2⟩ := id hR
  refine ⟨_, rfl, a, dx, _, rfl, h1, a, d, o, s', t, rfl, hR, rfl, .inr ⟨_, rfl, ?_⟩⟩
  have e : decide (V.int (o : Int) = V.int 1) = decide (o = 1) := by
    by_cases z : o = 1
    · subst z; rfl
    · rw [decide_eq_false z, decide_eq_false]
      intro y
      injection y with y
      omega
  rw [e]
  exact q
end
end My
/-! what the law makes of numbers and realms -/
namespace My
open PySem PySem.Spec PyProof.Rows L2
def spLDiv : Sp := fun vs H Q _ => ∃ a b : Nat, vs = [.int a, .int b] ∧ a ∣ b ∧ Q (.bl true) H
def spSettled : Sp := fun vs H Q _ => ∃ d o s t : Nat, vs = [.int d, .int o, .int s, .int t] ∧ o < 2 ^ 60 ∧ s < 2 ^ 60 ∧ t < 2 ^ 60 ∧
  ∀ (H' : Hp) (T : Addr) (d' o' s' t' : Nat), Nrm d o s t d' o' s' t' → Same H H' → H T = none → H' T = some (tupR d' o' s' t') → Q (.ref T) H'
def spTold (C : Addr) : Sp := fun vs H Q _ => ∃ (a : Addr) (d o s t : Nat), vs = [.ref a] ∧ RealmAt C H a d o s t ∧ ∀ (H' : Hp) (T : Addr), Same H H' → H T = none → H' T = some (tupR d o s t) → Q (.ref T) H'
def spLRealm (C : Addr) : Sp := fun vs H Q _ => ∃ (T : Addr) (i o s t : Nat), vs = [.ref T] ∧ H T = some (tupR i o s t) ∧ 1 ≤ i ∧ i ≤ 1000000 ∧ o < 2 ^ 60 ∧ s < 2 ^ 60 ∧ t < 2 ^ 60 ∧
  ∀ (H' : Hp) (a d' o' s' t' : Nat), Nrm (radL i) o s t d' o' s' t' → Same H H' → H a = none → RealmAt C H' a d' o' s' t' → Q (.ref a) H'
def spLSettle : Sp := fun vs H Q _ => ∃ (T : Addr) (i o s t : Nat), vs = [.ref T] ∧ H T = some (tupR i o s t) ∧ 1 ≤ i ∧ i ≤ 2000 ∧ o < 2 ^ 60 ∧ s < 2 ^ 60 ∧ t < 2 ^ 60 ∧
  ∀ (H' : Hp) (T' : Addr) (d' o' s' t' : Nat), Nrm (radL i) o s t d' o' s' t' → Same H H' → H T' = none → H' T' = some (tupR d' o' s' t') → Q (.ref T') H'
def spDrawnR : Sp := fun vs H Q _ => ∃ b c : Addr, vs = [.ref b] ∧ Bg H b c ∧ ∀ (H' : Hp) (T : Addr) (i o s t : Nat), Kp b H H' → Bg H' b c → H T = none → T ≠ b → H' T = some (tupR i o s t) → 1 ≤ i → i ≤ 35 → o ≤ 1000 → s ≤ 1000 → t ≤ 1000 → Q (.ref T) H'
theorem gcdF (a b : Nat) : V.int ((Nat.gcd (a : Int).natAbs (b : Int).natAbs : Nat) : Int) = V.int ((Nat.gcd a b : Nat) : Int) := by rw [Int.natAbs_natCast, Int.natAbs_natCast]
theorem gcd_small {a b : Nat} {B : Nat} (ha : a < B) (hb : b < B) : Nat.gcd a b < B := by
  by_cases z : a = 0
  · rw [z, Nat.gcd_zero_left]; exact hb
  · exact Nat.lt_of_le_of_lt (Nat.le_of_dvd (by omega) (Nat.gcd_dvd_left _ _)) ha
section
variable {P : Program} {w : World} {K : PySem.W.Frag} {mg : Str → Option Value} {base : Heap} {C CE : Addr} {mc : Value}
theorem ok_l_divides (F : Fn K mg "_law_divides" s_l_divides ["_law_a", "_law_b"]) (B : Blt mg) : Has P w K mg base 1 "_law_divides" ["_law_a", "_law_b"] spLDiv := by
  refine F.has sc_l_divides (fun vs H Q E h => ?_) (fun f cdv A outer s H vs Q E hr h => ?_)
  · obtain ⟨a, b, rfl, _⟩ := h
    rfl
  obtain ⟨a, b, rfl, hd, q⟩ := h
  refine ⟨_, (pss_one (ps_ret (pe_ifExp (pt_cmpR op_eq (pv 0) pe_int (nomark _)) (pe_cmpR op_eq (pv 1) pe_int (nomark _)) (pe_cmpR op_eq (pe_op op_mod (pe_callTy call_int1 (by rfl) B.int bb_int (pa_cons (pv 1) pa_nil)) (pv 0)) pe_int (nomark _))))), ?_⟩
  by_cases a0 : a = 0
  · subst a0
    have b0 := Nat.eq_zero_of_zero_dvd hd
    subst b0
    exact ⟨_, rfl, rfl, _, rfl, ite_of (decide_eq_true rfl) ⟨_, rfl, rfl, q⟩⟩
  · refine ⟨_, rfl, rfl, _, rfl, ite_no (by rw [dec0, decide_eq_false a0]; decide) ⟨_, rfl, .inl ⟨_, rfl, _, rfl, _, _, rfl, rfl, (show (0 : Int) < (a : Int) by omega), rfl, ?_⟩⟩⟩
    have e : decide (V.int ((b : Int) % (a : Int)) = V.int 0) = true := by
      rw [← Int.natCast_emod, dec0]
      exact decide_eq_true (Nat.mod_eq_zero_of_dvd hd)
    rw [e]
    exact q
theorem ok_l_settled (F : Fn K mg "_law_settled" s_l_settled ["_law_d", "_law_o", "_law_s", "_law_t"]) (G_l_gcd : Has P w K mg base 1 "_law_gcd" ["_law_a", "_law_b"] spGcd) (G_l_strip : Has P w K mg base 2 "_law_strip" ["_law_number", "_law_base"] spStripped) :
    Has P w K mg base 3 "_law_settled" ["_law_d", "_law_o", "_law_s", "_law_t"] spSettled := by
  refine F.has sc_l_settled (fun vs H Q E h => ?_) (fun f cdv A outer s H vs Q E hr h => ?_)
  · obtain ⟨d, o, s, t, rfl, _⟩ := h
    rfl
  obtain ⟨d, o, sw, t, rfl, ho, hs, ht, q⟩ := h
  refine ⟨_, (pss_cons (ps_set (i := 4) sc_l_settled.nd rfl (Or.inl rfl) (pe_own G_l_gcd (hr.mono (by decide)) (by rfl) (pa_cons (pv 1) (pa_cons (pe_op op_mul pe_int (pv 3)) pa_nil))))
      (pss_cons (ps_set (i := 5) sc_l_settled.nd rfl (Or.inl rfl) (pe_own G_l_gcd (hr.mono (by decide)) (by rfl) (pa_cons (pv 3) (pa_cons (pv 4) pa_nil))))
      (pss_one (ps_ret (pe_tup (pa_cons (pe_ifExp (pt_cmpR op_eq (pv 4) pe_int (nomark _)) (pv 0) pe_int) (pa_cons (pe_own G_l_strip (hr.mono (by decide)) (by rfl) (pa_cons (pv 4) (pa_cons (pv 0) pa_nil))) (pa_cons (pe_own G_l_strip (hr.mono (by decide)) (by rfl) (pa_cons (pe_own G_l_gcd (hr.mono (by decide)) (by rfl) (pa_cons (pv 2) (pa_cons (pv 5) pa_nil))) (pa_cons (pv 0) pa_nil))) (pa_cons (pe_own G_l_strip (hr.mono (by decide)) (by rfl) (pa_cons (pv 5) (pa_cons (pv 0) pa_nil))) pa_nil))))))))), ?_⟩
  have b1 : Nat.gcd o (2 * t) < 2 ^ 200 := gcd_small (by omega) (by omega)
  have b2 : Nat.gcd t (Nat.gcd o (2 * t)) < 2 ^ 200 := gcd_small (by omega) b1
  have b3 : Nat.gcd sw (Nat.gcd t (Nat.gcd o (2 * t))) < 2 ^ 200 := gcd_small (by omega) b2
  refine ⟨_, rfl, _, rfl, _, _, rfl, rfl, .inl ⟨by omega, by omega⟩, _, _, rfl, ?_⟩
  have e1 : V.int ((Nat.gcd (o : Int).natAbs (2 * (t : Int)).natAbs : Nat) : Int) = V.int ((Nat.gcd o (2 * t) : Nat) : Int) := gcdF o (2 * t)
  rw [e1]
  refine ⟨_, rfl, _, rfl, _, _, rfl, ?_⟩
  rw [gcdF]
  have tail : ∀ z : Nat, z = (if Nat.gcd o (2 * t) = 0 then d else 1) → ∀ o' s' t' : Nat, Strip (Nat.gcd o (2 * t)) d o' → Strip (Nat.gcd sw (Nat.gcd t (Nat.gcd o (2 * t)))) d s' → Strip (Nat.gcd t (Nat.gcd o (2 * t))) d t' → ∀ T, H T = none → Q (.ref T) (upd H T (tupR z o' s' t')) :=
    fun z hz o' s' t' h1 h2 h3 T hT => q _ T z o' s' t' ⟨hz, h1, h2, h3⟩ (same_upd hT) hT upd_same
  refine ⟨_, rfl, rfl, _, rfl, ?_⟩
  by_cases z : Nat.gcd o (2 * t) = 0
  · refine ite_of (by rw [dec0, decide_eq_true z]) ?_
    refine ⟨_, rfl, _, rfl, _, rfl, _, d, rfl, b1, fun o' ho' => ⟨_, rfl, _, rfl, _, _, rfl, _, rfl, Nat.gcd sw (Nat.gcd t (Nat.gcd o (2 * t))), d, by rw [gcdF]; rfl, b3, fun s' hs' => ⟨_, rfl, _, rfl, _, d, rfl, b2, fun t' ht' => ⟨(by show 4 ≤ sizeLine; decide), fun T hT => tail d (by rw [if_pos z]) o' s' t' ho' hs' ht' T hT⟩⟩⟩⟩
  · refine ite_no (by rw [dec0, decide_eq_false z]; decide) ?_
    refine ⟨_, rfl, _, rfl, _, d, rfl, b1, fun o' ho' => ⟨_, rfl, _, rfl, _, _, rfl, _, rfl, Nat.gcd sw (Nat.gcd t (Nat.gcd o (2 * t))), d, by rw [gcdF]; rfl, b3, fun s' hs' => ⟨_, rfl, _, rfl, _, d, rfl, b2, fun t' ht' => ⟨(by show 4 ≤ sizeLine; decide), fun T hT => tail 1 (by rw [if_neg z]) o' s' t' ho' hs' ht' T hT⟩⟩⟩⟩
theorem ok_l_realm {f0 : Addr} {fd0 : FuncData} (F : Fn K mg "_law_realm" s_l_realm ["_law_numbers"]) (MK_Realm : Rlm P w K mg base C CE f0 fd0) : Has P w K mg base 6 "_law_realm" ["_law_numbers"] (spLRealm C) := by
  refine F.has sc_l_realm (fun vs H Q E h => ?_) (fun f cdv A outer s H vs Q E hr h => ?_)
  · obtain ⟨T, i, o, s, t, rfl, _⟩ := h
    rfl
  obtain ⟨T, i, o, s', t, rfl, hT, h1, h2, ho, hs, ht, q⟩ := h
  refine ⟨_, (pss_one (ps_ret (pe_makeKRealm MK_Realm (kbRealm_inverse_ones_swaps_squares MK_Realm.D) passL (hr.mono (by decide)) (by rfl) (pk_cons (pe_ix ix_tup (pv 0) pe_int (fun _ _ => rfl)) (pk_cons (pe_ix ix_tup (pv 0) pe_int (fun _ _ => rfl)) (pk_cons (pe_ix ix_tup (pv 0) pe_int (fun _ _ => rfl)) (pk_cons (pe_ix ix_tup (pv 0) pe_int (fun _ _ => rfl)) pk_nil))))))), ?_⟩
  refine ⟨_, rfl, T, _, _, _, rfl, rfl, SqT.of hT, atI_nat (j := 0) rfl, _, rfl, T, _, _, _, rfl, rfl, SqT.of hT, atI_nat (j := 1) rfl, _, rfl, T, _, _, _, rfl, rfl, SqT.of hT, atI_nat (j := 2) rfl, _, rfl, T, _, _, _, rfl, rfl, SqT.of hT, atI_nat (j := 3) rfl, rfl, ?_⟩
  exact .inl ⟨i, o, s', t, rfl, h1, h2, by omega, by omega, by omega, q⟩
theorem ok_l_settle (F : Fn K mg "_law_settle" s_l_settle ["_law_numbers"]) (G_l_radical : Has P w K mg base 2 "_law_radical" ["_law_number"] spRadL) (G_l_settled : Has P w K mg base 3 "_law_settled" ["_law_d", "_law_o", "_law_s", "_law_t"] spSettled) : Has P w K mg base 4 "_law_settle" ["_law_numbers"] spLSettle := by
  refine F.has sc_l_settle (fun vs H Q E h => ?_) (fun f cdv A outer s H vs Q E hr h => ?_)
  · obtain ⟨T, i, o, s, t, rfl, _⟩ := h
    rfl
  obtain ⟨T, i, o, s', t, rfl, hT, h1, h2, ho, hs, ht, q⟩ := h
  refine ⟨_, (pss_one (ps_ret (pe_own G_l_settled (hr.mono (by decide)) (by rfl) (pa_cons (pe_own G_l_radical (hr.mono (by decide)) (by rfl) (pa_cons (pe_ix ix_tup (pv 0) pe_int (fun _ _ => rfl)) pa_nil)) (pa_cons (pe_ix ix_tup (pv 0) pe_int (fun _ _ => rfl)) (pa_cons (pe_ix ix_tup (pv 0) pe_int (fun _ _ => rfl)) (pa_cons (pe_ix ix_tup (pv 0) pe_int (fun _ _ => rfl)) pa_nil))))))), ?_⟩
  refine ⟨_, rfl, T, _, _, _, rfl, rfl, SqT.of hT, atI_nat (j := 0) rfl, i, rfl, h1, h2, fun H1 s1 => ?_⟩
  have hT1 := s1 _ _ hT
  refine ⟨_, rfl, T, _, _, _, rfl, rfl, SqT.of hT1, atI_nat (j := 1) rfl, _, rfl, T, _, _, _, rfl, rfl, SqT.of hT1, atI_nat (j := 2) rfl, _, rfl, T, _, _, _, rfl, rfl, SqT.of hT1, atI_nat (j := 3) rfl, radL i, o, s', t, rfl, ho, hs, ht, ?_⟩
  exact fun H' T' d' o' s'' t' N s2 hn e => q H' T' d' o' s'' t' N (s1.trans s2) (s1.free hn) e
end
end My
/-! realms: within, divides -/
namespace My
open PySem PySem.Spec PyProof.Rows L2
abbrev RN := Nat × Nat × Nat × Nat
def RAt (C : Addr) (H : Hp) (a : Addr) (N : RN) : Prop := RealmAt C H a N.1 N.2.1 N.2.2.1 N.2.2.2
theorem RAt.same {C : Addr} {H H' : Hp} {a : Addr} {N : RN} (h : RAt C H a N) (s : Same H H') : RAt C H' a N := RealmAt.same h s
def spDivs : Sp := fun vs H Q _ => ∃ a b : Nat, vs = [.int (a : Nat), .int (b : Nat)] ∧ Q (.bl (decide (a ∣ b))) H
/-- whether each ring of the one is of the other, by the numbers -/
def withinB (N M : RN) : Bool := if N.2.1 = 0 then decide (M.2.1 = 0) && (decide (M.1 ∣ N.1) && decide (N.2.2.1 ∣ M.2.2.1)) else
  if Nat.gcd M.1 N.2.1 = 1 ∧ N.2.1 ∣ M.2.1 then decide (N.2.2.1 ∣ M.2.2.1) && decide (N.2.2.2 ∣ M.2.2.2) else false
def spWithin (C : Addr) : Sp := fun vs H Q _ => ∃ (a b : Addr) (N M : RN), vs = [.ref a, .ref b] ∧ RAt C H a N ∧ RAt C H b M ∧ ∀ H', Same H H' → Q (.bl (withinB N M)) H'
theorem rp {C : Addr} {sel : Nat → Nat → Nat → Nat → Nat} {i : Nat} {σ : L2.St} {H : Hp} {Q : VK} {a : Addr} {N : RN} (hi : σ[i]? = some (some (.ref a))) (h : RAt C H a N) (q : Q (.int ((sel N.1 N.2.1 N.2.2.1 N.2.2.2 : Nat) : Int)) H) : tProp C (spGetR C sel) [] E0 (tVar i) σ H Q := by
  obtain ⟨dx, T, g1, g2⟩ := id h
  exact ⟨_, hi, a, dx, _, rfl, g1, a, N.1, N.2.1, N.2.2.1, N.2.2.2, rfl, h, q⟩
section
variable {P : Program} {w : World} {K : PySem.W.Frag} {mg : Str → Option Value} {base : Heap} {C CE : Addr} {mc : Value}
theorem ok_divides (F : Fn K mg "divides" s_divides ["one", "other"]) : Has P w K mg base 1 "divides" ["one", "other"] spDivs := by
  refine F.has sc_divides (fun vs H Q E h => ?_) (fun f cdv A outer s H vs Q E hr h => ?_)
  · obtain ⟨a, b, rfl, _⟩ := h
    rfl
  obtain ⟨a, b, rfl, q⟩ := h
  refine ⟨_, (pss_cons (ps_if (pt_cmpR op_eq (pv 0) pe_int (nomark _))
        (pss_one (ps_ret (pe_cmpR op_eq (pv 1) pe_int (nomark _))))
        pss_nil)
      (pss_one (ps_ret (pe_cmpR op_eq (pe_op op_mod (pv 1) (pv 0)) pe_int (nomark _))))), ?_⟩
  by_cases a0 : a = 0
  · subst a0
    refine ⟨_, rfl, rfl, _, rfl, ite_of (decide_eq_true rfl) ⟨_, rfl, rfl, ?_⟩⟩
    have e : decide (V.int (b : Int) = V.int 0) = decide (0 ∣ b) := by
      rw [dec0]
      exact decide_eq_decide.mpr ⟨fun z => by rw [z]; exact Nat.dvd_refl _, fun z => Nat.eq_zero_of_zero_dvd z⟩
    rw [e]
    exact q
  · refine ⟨_, rfl, rfl, _, rfl, ite_no (by rw [dec0, decide_eq_false a0]; decide) ⟨_, rfl, _, rfl, _, _, rfl, rfl, (show (0 : Int) < (a : Int) by omega), rfl, ?_⟩⟩
    have e : decide (V.int ((b : Int) % (a : Int)) = V.int 0) = decide (a ∣ b) := by
      rw [← Int.natCast_emod, dec0]
      exact decide_eq_decide.mpr ⟨fun z => Nat.dvd_of_mod_eq_zero z, fun z => Nat.mod_eq_zero_of_dvd z⟩
    rw [e]
    exact q
theorem ok_within (F : ∃ (f : Addr) (fd : FuncData), Fun K "within" "Realm.within" s_Realm_within f fd ∧ Meth K C "within" f ∧ Binds K fd ["self", "other"] []) (R : RCls K C mc) (B : Blt mg) (G_divides : Has P w K mg base 1 "divides" ["one", "other"] spDivs) (G_common : HasR P w K mg base 1 "common" spCommon2)
    (PR_inverse : HasPr P w K mg base C "inverse" (spGetR C fun d _ _ _ => d)) (PR_ones : HasPr P w K mg base C "ones" (spGetR C fun _ o _ _ => o)) (PR_swaps : HasPr P w K mg base C "swaps" (spGetR C fun _ _ s _ => s)) (PR_squares : HasPr P w K mg base C "squares" (spGetR C fun _ _ _ t => t)) :
    ∃ (f : Addr) (fd : FuncData), FnOk P w K mg base CX0 3 f fd ["self", "other"] (spWithin C) ∧ Meth K C "within" f ∧ Binds K fd ["self", "other"] [] := by
  obtain ⟨f, fd, F, M, b⟩ := F
  refine ⟨f, fd, F.ok sc_Realm_within (fun vs H Q E h => ?_) (fun cdv A outer s H vs Q E hr h => ?_), M, b⟩
  · obtain ⟨a, b, N, M, rfl, _⟩ := h
    rfl
  obtain ⟨a, b, ⟨d, o, s', t⟩, ⟨d', o', s'', t'⟩, rfl, ha, hb, q⟩ := h
  have cl_ := R.cl
  refine ⟨_, (pss_cons (ps_if (pt_cmpR op_eq (pe_pr cl_ PR_ones (hr.mono (by decide)) (pv 0) rfl) pe_int (nomark _))
        (pss_one (ps_ret (pe_and (pe_cmpR op_eq (pe_pr cl_ PR_ones (hr.mono (by decide)) (pv 1) rfl) pe_int (nomark _)) (pe_and (pe_own G_divides (hr.mono (by decide)) (by rfl) (pa_cons (pe_pr cl_ PR_inverse (hr.mono (by decide)) (pv 1) rfl) (pa_cons (pe_pr cl_ PR_inverse (hr.mono (by decide)) (pv 0) rfl) pa_nil))) (pe_one (pe_own G_divides (hr.mono (by decide)) (by rfl) (pa_cons (pe_pr cl_ PR_swaps (hr.mono (by decide)) (pv 0) rfl) (pa_cons (pe_pr cl_ PR_swaps (hr.mono (by decide)) (pv 1) rfl) pa_nil))))))))
        pss_nil)
      (pss_cons (ps_if (PW.pt (pw_or (pt_cmpR op_ne (pe_ownR G_common (hr.mono (by decide)) (by rfl) (pa_cons (pe_pr cl_ PR_inverse (hr.mono (by decide)) (pv 1) rfl) (pa_cons (pe_pr cl_ PR_ones (hr.mono (by decide)) (pv 0) rfl) pa_nil))) pe_int (nomark _)) (pw_or1 (pt_not (pt_val (pe_own G_divides (hr.mono (by decide)) (by rfl) (pa_cons (pe_pr cl_ PR_ones (hr.mono (by decide)) (pv 0) rfl) (pa_cons (pe_pr cl_ PR_ones (hr.mono (by decide)) (pv 1) rfl) pa_nil))))))))
        (pss_one (ps_ret pe_bl))
        pss_nil)
      (pss_one (ps_ret (pe_and (pe_own G_divides (hr.mono (by decide)) (by rfl) (pa_cons (pe_pr cl_ PR_swaps (hr.mono (by decide)) (pv 0) rfl) (pa_cons (pe_pr cl_ PR_swaps (hr.mono (by decide)) (pv 1) rfl) pa_nil))) (pe_one (pe_own G_divides (hr.mono (by decide)) (by rfl) (pa_cons (pe_pr cl_ PR_squares (hr.mono (by decide)) (pv 0) rfl) (pa_cons (pe_pr cl_ PR_squares (hr.mono (by decide)) (pv 1) rfl) pa_nil))))))))), ?_⟩
  have tl : ∀ {x : Nat} {v : Nat}, decide (V.int (x : Int) = V.int (v : Int)) = decide (x = v) := fun {x v} => decide_eq_decide.mpr ⟨fun z => by
    have := V.int.inj z
    omega, fun z => by rw [z]⟩
  refine rp (N := (d, o, s', t)) rfl ha ⟨rfl, _, rfl, ?_⟩
  by_cases o0 : o = 0
  · refine ite_of (by rw [dec0]; exact decide_eq_true o0) ?_
    have e : withinB (d, o, s', t) (d', o', s'', t') = (decide (o' = 0) && (decide (d' ∣ d) && decide (s' ∣ s''))) := if_pos o0
    rw [e] at q
    refine rp (N := (d', o', s'', t')) rfl hb ⟨rfl, _, rfl, ?_⟩
    rw [dec0]
    generalize decide (o' = 0) = b1 at q ⊢
    cases b1 with
    | false => exact iteF (q H (Same.refl _))
    | true =>
      refine iteT (rp (N := (d', o', s'', t')) rfl hb (rp (N := (d, o, s', t)) rfl ha ⟨d', d, rfl, _, rfl, ?_⟩))
      generalize decide (d' ∣ d) = b2 at q ⊢
      cases b2 with
      | false => exact iteF (q H (Same.refl _))
      | true => exact iteT (rp (N := (d, o, s', t)) rfl ha (rp (N := (d', o', s'', t')) rfl hb ⟨s', s'', rfl, q H (Same.refl _)⟩))
  · refine ite_no (by rw [dec0, decide_eq_false o0]; decide) ?_
    have e : withinB (d, o, s', t) (d', o', s'', t') = if Nat.gcd d' o = 1 ∧ o ∣ o' then decide (s' ∣ s'') && decide (t ∣ t') else false := if_neg o0
    rw [e] at q
    refine rp (N := (d', o', s'', t')) rfl hb (rp (N := (d, o, s', t)) rfl ha ⟨(d' : Int), (o : Int), rfl, fun H1 s1 => ?_⟩)
    rw [gcdN]
    have ha1 := ha.same s1
    have hb1 := hb.same s1
    refine ⟨rfl, _, rfl, ?_⟩
    by_cases g1 : Nat.gcd d' o = 1
    · refine ite_no (by
        have : decide (V.int ((Nat.gcd d' o : Nat) : Int) = V.int 1) = true := decide_eq_true (by rw [g1]; rfl)
        rw [this]
        decide) ?_
      refine rp (N := (d, o, s', t)) rfl ha1 (rp (N := (d', o', s'', t')) rfl hb1 ⟨o, o', rfl, _, rfl, ?_⟩)
      by_cases g2 : o ∣ o'
      · rw [if_pos ⟨g1, g2⟩] at q
        rw [decide_eq_true g2]
        refine iteF (rp (N := (d, o, s', t)) rfl ha1 (rp (N := (d', o', s'', t')) rfl hb1 ⟨s', s'', rfl, _, rfl, ?_⟩))
        generalize decide (s' ∣ s'') = b2 at q ⊢
        cases b2 with
        | false => exact iteF (q _ s1)
        | true => exact iteT (rp (N := (d, o, s', t)) rfl ha1 (rp (N := (d', o', s'', t')) rfl hb1 ⟨t, t', rfl, q _ s1⟩))
      · rw [if_neg fun z => g2 z.2] at q
        rw [decide_eq_false g2]
        exact iteT (q _ s1)
    · rw [if_neg fun z => g1 z.1] at q
      refine ite_of (by
        have : decide (V.int ((Nat.gcd d' o : Nat) : Int) = V.int 1) = false := by
          refine decide_eq_false fun z => g1 ?_
          have := V.int.inj z
          omega
        rw [this]
        rfl) ?_
      exact iteT (q _ s1)
end
end My
/-! realms: realm_with, & -/
namespace My
open PySem PySem.Spec PyProof.Rows L2
def spRealmWith (C : Addr) : Sp := fun vs H Q _ => ∃ d o s t : Nat, vs = [.int (d : Nat), .int (o : Nat), .int (s : Nat), .int (t : Nat)] ∧ o < 2 ^ 100 ∧ s < 2 ^ 100 ∧ t < 2 ^ 100 ∧
  ∀ (H' : Hp) (x : Addr) (N : RN), Nrm d o s t N.1 N.2.1 N.2.2.1 N.2.2.2 → Same H H' → H x = none → RAt C H' x N → Q (.ref x) H'
section
variable {P : Program} {w : World} {K : PySem.W.Frag} {mg : Str → Option Value} {base : Heap} {C CE f0 : Addr} {fd0 : FuncData} {mc : Value}
theorem ok_realm_with (F : Fn K mg "realm_with" s_realm_with ["inverse", "ones", "swaps", "squares"]) (R : RCls K C mc) (MK_Realm : Rlm P w K mg base C CE f0 fd0) (G_normal_numbers : Has P w K mg base 2 "normal_numbers" ["inverse", "ones", "swaps", "squares"] spNormal) : Has P w K mg base 6 "realm_with" ["inverse", "ones", "swaps", "squares"] (spRealmWith C) := by
  refine F.has sc_realm_with (fun vs H Q E h => ?_) (fun f cdv A outer s H vs Q E hr h => ?_)
  · obtain ⟨d, o, s, t, rfl, _⟩ := h
    rfl
  obtain ⟨d, o, s', t, rfl, bo, bs, bt, q⟩ := h
  have cl_ := R.cl
  refine ⟨_, (pss_cons (ps_set (i := 4) sc_realm_with.nd rfl (Or.inl rfl) (pe_make0Realm MK_Realm passL (hr.mono (by decide)) (by rfl)))
      (pss_cons (ps_fld (pv 4) (pe_own G_normal_numbers (hr.mono (by decide)) (by rfl) (pa_cons (pv 0) (pa_cons (pv 1) (pa_cons (pv 2) (pa_cons (pv 3) pa_nil))))) rfl)
      (pss_one (ps_ret (pv 4))))), ?_⟩
  refine .inl ⟨1, 0, 0, 0, rfl, by decide, by decide, by decide, by decide, by decide, fun H1 x d1 o1 s1 t1 N1 sm1 nx R1 => ?_⟩
  obtain ⟨dx, T1, g1, g2⟩ := id R1
  refine ⟨_, rfl, _, rfl, _, rfl, _, rfl, d, o, s', t, rfl, bo, bs, bt, fun H2 T d2 o2 s2 t2 N2 sm2 nT eT => ?_⟩
  have g3 := sm2 _ _ g1
  have nTx : T ≠ x := ne_of eT g3 fun z => by cases z
  refine ⟨_, rfl, x, C, dx, _, rfl, g3, R.cl, R.n_normal, (by show 1 < 1000; decide), ?_⟩
  refine ⟨_, rfl, q _ x (d2, o2, s2, t2) N2 (fun c oo hc => ?_) nx ⟨dx, T, upd_same, by rw [upd_ne nTx]; exact eT⟩⟩
  rw [upd_ne (ne_of_none hc nx)]
  exact sm2 _ _ (sm1 _ _ hc)
end
end My
/-! methods; pairs of lists (where S0 is not used) -/
namespace My
open PySem PySem.Spec PyProof.Rows L2
structure HasM (P : Program) (w : World) (K : PySem.W.Frag) (mg : Str → Option Value) (base : Heap) (k : Nat) (C : Addr) (m : Str) (ps : List Str) (sp : Sp) : Prop where
  ex : ∃ (f : Addr) (fd : FuncData), FnOk P w K mg base CX0 k f fd ps sp ∧ Meth K C m f ∧ Binds K fd ps []
section
variable {X : Cx} {k : Nat} {m : Str} {ps : List Str} {sp : Sp} {pos apos : Pos} {o e : Expr} {es : List Expr} {ta : TE} {t : TA} {C : Addr}
theorem pe_ownM {pl : Sem Bool} (c : Cls X.K C) (h : HasM X.prog X.w X.K X.mg X.base k C m ps sp) (hr : Room k X.A) (he : PE X o ta) (ha : PA X (e :: es) t)
    (hst : starEach (e :: es) X.env = (false, eval e X.env) :: starEach es X.env := by rfl) (hpl : (backTo pos (starEach es X.env)).any (·.1) = false := by rfl)
    (ht : eval (.Call (.Attribute o m apos) (e :: es) [] pos) X.env = (do
      let ov ← eval o X.env
      standAt apos.atName
      let (f, first) ← holding [ov] (getMethod ov m pl)
      callWith pos f first (backTo pos (starEach (e :: es) X.env)) (backToKw pos (keywordEach [] X.env))) := by rfl) :
    PE X (.Call (.Attribute o m apos) (e :: es) [] pos) (tMeth C m sp [] E0 ta t) := by
  obtain ⟨f, fd, F, M, b⟩ := h.ex
  exact pe_meth he c M F hr b .nil pass0 ha hst hpl ht
theorem pe_ownM0 {pl : Sem Bool} (c : Cls X.K C) (h : HasM X.prog X.w X.K X.mg X.base k C m ps sp) (hr : Room k X.A) (he : PE X o ta)
    (ht : eval (.Call (.Attribute o m apos) [] [] pos) X.env = (do
      let ov ← eval o X.env
      standAt apos.atName
      let (f, first) ← holding [ov] (getMethod ov m pl)
      callWith pos f first (backTo pos (starEach [] X.env)) (backToKw pos (keywordEach [] X.env))) := by rfl) :
    PE X (.Call (.Attribute o m apos) [] [] pos) (tMeth C m sp [] E0 ta tNil) := by
  obtain ⟨f, fd, F, M, b⟩ := h.ex
  exact pe_meth0 he c M F hr b .nil pass0 ht
end
/-! ### pairs of lists -/
theorem pget {α β : Type} {F : α → β → Prop} : ∀ {xs : List α} {ys : List β} {i : Nat} {x : α} {y : β}, Paired F xs ys → xs[i]? = some x → ys[i]? = some y → F x y
  | _, _, i, x, y, .nil, hx, _ => by simp at hx
  | _, _, 0, x, y, .cons r _, hx, hy => by
    cases hx
    cases hy
    exact r
  | _, _, i + 1, x, y, .cons _ t, hx, hy => pget t (i := i) (by simpa using hx) (by simpa using hy)
theorem plen {α β : Type} {F : α → β → Prop} : ∀ {xs : List α} {ys : List β}, Paired F xs ys → xs.length = ys.length
  | _, _, .nil => rfl
  | _, _, .cons _ t => congrArg (· + 1) (plen t)
theorem pmono {α β : Type} {F G : α → β → Prop} (h : ∀ a b, F a b → G a b) : ∀ {xs : List α} {ys : List β}, Paired F xs ys → Paired G xs ys
  | _, _, .nil => .nil
  | _, _, .cons r t => .cons (h _ _ r) (pmono h t)
theorem papp {α β : Type} {F : α → β → Prop} : ∀ {xs : List α} {ys : List β} {us : List α} {vs : List β}, Paired F xs ys → Paired F us vs → Paired F (xs ++ us) (ys ++ vs)
  | _, _, _, _, .nil, h => h
  | _, _, _, _, .cons r t, h => .cons r (papp t h)
/-- the i-th pair, by the place on the left -/
theorem pat {α β : Type} {F : α → β → Prop} {xs : List α} {ys : List β} {i : Nat} (h : Paired F xs ys) (hi : i < ys.length) : ∃ x y, xs[i]? = some x ∧ ys[i]? = some y ∧ F x y := by
  have e := plen h
  have hx : xs[i]? = some (xs[i]'(by omega)) := List.getElem?_eq_getElem (by omega)
  have hy : ys[i]? = some ys[i] := List.getElem?_eq_getElem hi
  exact ⟨_, _, hx, hy, pget h hx hy⟩
theorem pmem {α β : Type} {F G : α → β → Prop} : ∀ {xs : List α} {ys : List β}, Paired F xs ys → (∀ a b, b ∈ ys → F a b → G a b) → Paired G xs ys
  | _, _, .nil, _ => .nil
  | _, _, .cons r t, h => .cons (h _ _ List.mem_cons_self r) (pmem t fun a b m z => h a b (List.mem_cons_of_mem _ m) z)
theorem decI (a b : Int) : decide (V.int a = V.int b) = decide (a = b) := by
  by_cases z : a = b
  · subst z
    rw [decide_eq_true rfl, decide_eq_true rfl]
  · rw [decide_eq_false z, decide_eq_false]
    intro y
    injection y with y
    exact z y
/-- the i-th of a mapped list -/
theorem at_map {α : Type} {f : α → V} {xs : List α} {i : Nat} {v : V} (h : (xs.map f)[i]? = some v) : ∃ x, xs[i]? = some x ∧ v = f x := by
  rw [List.getElem?_map] at h
  cases hi : xs[i]? with
  | none => rw [hi] at h; cases h
  | some x =>
    rw [hi] at h
    exact ⟨x, rfl, (Option.some.inj h).symm⟩
theorem at_some {α : Type} {f : α → V} {xs : List α} {i : Nat} {x : α} (h : xs[i]? = some x) : (xs.map f)[i]? = some (f x) := by
  rw [List.getElem?_map, h]
  rfl
theorem take_snoc {α : Type} {xs : List α} {i : Nat} {x : α} (h : xs[i]? = some x) : xs.take (i + 1) = xs.take i ++ [x] := by
  rw [List.take_add_one, h]
  rfl
end My
/-! forms: multiples and divisors -/
namespace My
open PySem PySem.Spec PyProof.Rows L2
def rLcm : List V → Hp → VK → Prop := fun vs H Q => ∃ a b : Int, vs = [.int a, .int b] ∧ a.natAbs < 2 ^ 200 ∧ b.natAbs < 2 ^ 200 ∧ Q (.int ((Nat.lcm a.natAbs b.natAbs : Nat) : Int)) H
theorem lcm_le (m n : Nat) : Nat.lcm m n ≤ m * n := by
  unfold Nat.lcm
  exact Nat.div_le_self _ _
theorem cr_lcm {X : Cx} : CallR X (.builtin "math.lcm") rLcm := by
  intro pins s σ H vs us Q I r h
  obtain ⟨a, b, rfl, ha, hb, q⟩ := h
  obtain ⟨t, u, rfl⟩ := Vals.int2 r
  have h1 : (max 1 a.natAbs).log2 ≤ 199 := PySem.W.mg_log (by show max 1 a.natAbs < 2 ^ 200; omega)
  have h2 : (max a.natAbs b.natAbs).log2 ≤ 199 := PySem.W.mg_log (by show max a.natAbs b.natAbs < 2 ^ 200; omega)
  have e1 : Nat.lcm 1 a.natAbs = a.natAbs := PySem.W.mc_lcm_one _
  have hm : a.natAbs.lcm b.natAbs < 2 ^ 400 := by
    refine Nat.lt_of_le_of_lt (lcm_le _ _) ?_
    rw [show (400 : Nat) = 200 + 200 from rfl, Nat.pow_add]
    exact Nat.mul_lt_mul'' ha hb
  have h3 : (a.natAbs.lcm b.natAbs).log2 ≤ 399 := PySem.W.mg_log hm
  have hsz : ((((Nat.lcm 1 a.natAbs).lcm b.natAbs : Nat) : Int)).natAbs.log2 < bitsLine := by
    rw [e1, Int.natAbs_natCast]
    refine Nat.lt_of_le_of_lt h3 ?_
    decide
  refine PySem.call_function_meets PySem.W.MGF.kind_lcm PySem.W.MGF.plain_lcm PySem.W.MGF.entry_lcm (PySem.W.MGF.args_lcm _ _) (PySem.W.mg_run_lcm a t b u (by omega) (by omega) hsz).meets ?_
  rw [e1]
  exact ⟨.int _, H, I.tok _, ⟨_, rfl⟩, q⟩
structure TxtM (mg : Str → Option Value) : Prop where
  m_lcm : mg "lcm" = some (.builtin "math.lcm")
def lcmF (ns : List Nat) : Nat := ns.foldl Nat.lcm 1
theorem lcm_snoc {ns : List Nat} {i n : Nat} (h : ns[i]? = some n) : lcmF (ns.take (i + 1)) = Nat.lcm (lcmF (ns.take i)) n := by
  unfold lcmF
  rw [take_snoc h, List.foldl_append]
  rfl
theorem lcm_dvd {b : Nat} {ns : List Nat} (h : ∀ n ∈ ns, n ∣ b) : ∀ i, i ≤ ns.length → lcmF (ns.take i) ∣ b
  | 0, _ => by
    rw [List.take_zero]
    exact Nat.one_dvd _
  | i + 1, hi => by
    have e : ns[i]? = some ns[i] := List.getElem?_eq_getElem (by omega)
    rw [lcm_snoc e]
    exact Nat.lcm_dvd (lcm_dvd h i (by omega)) (h _ (List.getElem_mem _))
def spMulF : Sp := fun vs H Q _ => ∃ (ns : List Nat) (b : Nat), vs = ns.map (fun n : Nat => V.int (n : Int)) ∧ ns.length ≤ 1000 ∧ 1 ≤ b ∧ b < 2 ^ 150 ∧ (∀ n ∈ ns, n ∣ b) ∧ ∀ H', Same H H' → Q (.int (lcmF ns : Nat)) H'
section
variable {P : Program} {w : World} {K : PySem.W.Frag} {mg : Str → Option Value} {base : Heap} {C : Addr}
theorem ok_multiple (F : ∃ (f : Addr) (fd : FuncData), Fun K "multiple" "multiple" s_multiple f fd ∧ mg "multiple" = some (.ref f)) (T : TxtM mg) : HasR P w K mg base 1 "multiple" spMulF := by
  obtain ⟨f, fd, F, m⟩ := F
  have kp := F.kp
  obtain ⟨oc, od, kV, doc, pm, an, cdv, ct, osl, rfl, lk, hcd⟩ := F.ex
  have R := StX.fn_star (P := P) (w := w) (mg := mg) (base := base) (CX := CX0) (k := 0) (sp := fun vs H Q E => ∃ (p : Addr) (ys : List V), vs = [.ref p] ∧ H p = some (.tup ys) ∧ spMulF ys H Q E) (ps := []) (pv := "numbers") (N := N_multiple) lk hcd sc_multiple StX.cxUp_none (fun us rest hl => match us, rest, hl with | [], [], _ => rfl | [], _ :: _, _ => rfl) (fun A outer s H vs Q E hr h => by
    obtain ⟨p, ys, rfl, hp, ns, b, rfl, ln, b1, bp, hb, q⟩ := h
    refine ⟨_, PSs.nox (pss_cons (ps_set (i := 1) sc_multiple.nd rfl (Or.inl rfl) pe_int)
      (pss_cons (ps_for PassesOwn.never rfl (pi_tup (pv 0)) (pg_name (i := 2) sc_multiple.nd rfl (Or.inl rfl))
        (pss_one (ps_set (i := 1) sc_multiple.nd rfl (Or.inl rfl) (pe_callBfun cr_lcm (by rfl) T.m_lcm (pa_cons (pv 1) (pa_cons (pv 2) pa_nil))))))
      (pss_one (ps_ret (pv 1))))), ?_⟩
    refine ⟨_, rfl, p, rfl, ⟨_, SqT.of hp⟩, for_tup (fun i σ H' => ∃ y, σ = [some (.ref p), some (.int ((lcmF (ns.take i) : Nat) : Int)), y] ∧ H' = H) ⟨none, rfl, rfl⟩ (fun i σ H' _ ⟨_, _, e⟩ => e ▸ SqT.of hp) ?_ ?_⟩
    · rintro i x σ H' hx ⟨y, rfl, rfl⟩
      obtain ⟨n, hn, rfl⟩ := at_map hx
      have li := (List.getElem?_eq_some_iff.mp hn).1
      have c1 := Nat.le_of_dvd (by omega) (lcm_dvd hb i (by omega))
      have c2 := Nat.le_of_dvd (by omega) (hb n (List.mem_of_getElem? hn))
      refine ⟨_, rfl, _, rfl, _, _, rfl, ?_, ?_, some (.int (n : Int)), ?_, rfl⟩
      · rw [Int.natAbs_natCast]
        exact Nat.lt_of_le_of_lt c1 (Nat.lt_trans bp (by decide))
      · rw [Int.natAbs_natCast]
        exact Nat.lt_of_le_of_lt c2 (Nat.lt_trans bp (by decide))
      · rw [Int.natAbs_natCast, Int.natAbs_natCast, lcm_snoc hn]
        rfl
    · rintro σ H' ⟨y, rfl, rfl⟩
      rw [List.length_map, List.take_length]
      exact ⟨_, rfl, q _ (Same.refl _)⟩)
  refine ⟨f, R.imp fun vs H Q E ⟨ns, b, ev, ln, b1, bp, hb, q⟩ => ⟨[], vs, rfl, rfl, ?_, fun p hp => ⟨p, vs, rfl, upd_same, ns, b, ev, ln, b1, bp, hb, fun H' s => q H' ((same_upd hp).trans s)⟩⟩, m, kp⟩
  rw [ev, List.length_map]
  exact Nat.le_of_lt (small1000 ln)
end
end My
/-! operators of an own class, both sides its instances -/
namespace OwO
open PySem PySem.Spec PyProof.Rows L2
section
variable {X : Cx} {K0 : PySem.W.Frag} {k : Nat} {C f : Addr} {fd : FuncData} {ps : List Str} {sp : Sp}
/-- a ∘ b, by an own method of the class of both -/
def rBin (K : PySem.W.Frag) (C : Addr) (sp : Sp) (E : XK) : R2 := fun x y H Q => ∃ a dx fs b, x = .ref a ∧ y = .ref b ∧ H a = some (.ins C dx fs) ∧ TyX K H (.ref b) (.ref C) ∧ sp [.ref a, .ref b] H (fun v H' => ∃ c, v = .ref c ∧ Q (.ref c) H') E
theorem op_binO {op : Operator} {m : Str} (hm : m = PySem.dunder op.info.2) (S : Spc X.K C m f) (F : FnOk X.prog X.w X.K X.mg X.base CX0 k f fd ps sp) (hb : Binds X.K fd ps []) (hc : PySem.W.selfFirst X.K C = true) (hr : Room k X.A) (hK : X.K = K0) : OpR X (binaryOp op) (rBin K0 C sp E0) := by
  subst hm hK
  intro pins s σ H x y u v Q I rx ry h
  obtain ⟨a, dx, fs, b, rfl, rfl, ha, ty, hsp⟩ := h
  obtain rfl : u = Value.ref a := rx
  obtain ⟨mA, J, _⟩ := ins_get I.hok ha
  obtain ⟨od, J, _⟩ := J.look
  obtain ⟨m, hF⟩ := I.fr
  obtain ⟨P, kx, hP, _⟩ := kit_of I ry ty
  have hl := F.len _ _ _ _ hsp
  refine PySem.W.binop_K (op := op) hF I.ok.mod.kin J (kx.ty _ _ I.kIn hP) hc S.at_ S.fn ?_
  refine wpAny_call (codeAny_mono (F.run X.A X.stack s H ⟨[.ref a, v], []⟩ [.ref a, v] [.ref a, .ref b] _ E0 hr I.env0 (by
    have z := hb s [.ref a, v] I.kIn (by simpa using hl)
    simpa using z) (.cons rfl (.cons ry .nil)) hsp) fun r s' hq => ?_)
  cases r with
  | error e => exact (show False from hq).elim
  | ok fl =>
    cases fl with
    | ret w =>
      obtain ⟨z, H', I', rv, c, rfl, q⟩ := I.after hq
      cases rv
      exact ⟨.ref c, H', I', rfl, q⟩
    | next => exact False.elim hq
    | brk => exact False.elim hq
    | cont => exact False.elim hq
end
end OwO
/-! clauses over anything that can be walked -/
namespace LcN
open PySem PySem.Spec PyProof.Rows L2
theorem walk_any {J : It} {n : Nat} {G : Hp → Prop} {Y : Nat → Hp → V → Hp → Prop} (w : Walk J n G Y) {B : L2.St → Hp → (Hp → Prop) → Prop} {g : TG} {tt : TT} {vs : List Nat} {σ : L2.St} {H : Hp} {Nx : Hp → Prop} (P : Nat → Hp → Prop) (h0 : P 0 H) (hG : ∀ i H, i ≤ n → P i H → G H)
    (hs : ∀ i x H H', i < n → P i H → Y i H x H' → g x (wipe σ vs) H' fun σ2 H2 => wipe σ2 vs = wipe σ vs ∧ tt σ2 H2 fun b H3 => if b = true then B σ2 H3 (P (i + 1)) else P (i + 1) H3) (hd : ∀ H, P n H → Nx H) :
    ∃ W : Nat → Nat → Hp → Prop, (∃ m, W 0 m H) ∧ ∀ j m H, W j m H → (J.stop j H ∧ Nx H) ∨ (J.go j H ∧ ∃ Nx1 : Hp → Prop, (∀ H', Nx1 H' → ∃ m', m' < m ∧ W (j + 1) m' H') ∧ ∀ x H', J.yld j H x H' → g x (wipe σ vs) H' fun σ3 H5 => wipe σ3 vs = wipe σ vs ∧ tt σ3 H5 fun b H6 => if b = true then B σ3 H6 Nx1 else Nx1 H6) := by
  refine ⟨fun i m H => m = n - i ∧ i ≤ n ∧ P i H, ⟨n, by simp, Nat.zero_le _, h0⟩, ?_⟩
  rintro i m H ⟨rfl, hi, p⟩
  have q := hG i H hi p
  by_cases lt : i < n
  · exact .inr ⟨w.goes i H lt q, P (i + 1), fun H' p' => ⟨n - (i + 1), by omega, rfl, lt, p'⟩, fun x H' y => hs i x H H' lt p (w.yields i H x H' lt q y)⟩
  · have e : i = n := by omega
    subst e
    exact .inl ⟨w.stops H q, hd H p⟩
end LcN
/-! realms: & -/
namespace My
open PySem PySem.Spec PyProof.Rows L2
/-- the numbers of the meet, before they are made normal -/
def MeetN (N M X : RN) : Prop := Nrm (Nat.lcm N.1 M.1) (Nat.gcd N.2.1 M.2.1) (Nat.gcd N.2.2.1 M.2.2.1) (Nat.gcd N.2.2.2 M.2.2.2) X.1 X.2.1 X.2.2.1 X.2.2.2
/-- numbers of moderate size -/
def SmR (N : RN) : Prop := 1 ≤ N.1 ∧ N.1 < 2 ^ 60 ∧ N.2.1 < 2 ^ 60 ∧ N.2.2.1 < 2 ^ 60 ∧ N.2.2.2 < 2 ^ 60
def spAnd (C : Addr) : Sp := fun vs H Q _ => ∃ (a b : Addr) (N M : RN), vs = [.ref a, .ref b] ∧ RAt C H a N ∧ RAt C H b M ∧ SmR N ∧ SmR M ∧ ∀ (H' : Hp) (x : Addr) (X : RN), MeetN N M X → Same H H' → H x = none → RAt C H' x X → Q (.ref x) H'
section
variable {P : Program} {w : World} {K : PySem.W.Frag} {mg : Str → Option Value} {base : Heap} {C CE f0 : Addr} {fd0 : FuncData} {mc : Value}
theorem ok_and {f : Addr} {fd : FuncData} (F : Fun K "__and__" "Realm.__and__" s_Realm_and f fd) (R : RCls K C mc) (gC_Realm : mg "Realm" = some (.ref C)) (B : Blt mg) (G_realm_with : Has P w K mg base 6 "realm_with" ["inverse", "ones", "swaps", "squares"] (spRealmWith C)) (G_multiple : HasR P w K mg base 1 "multiple" spMulF) (G_common : HasR P w K mg base 1 "common" spCommon2)
    (PR_inverse : HasPr P w K mg base C "inverse" (spGetR C fun d _ _ _ => d)) (PR_ones : HasPr P w K mg base C "ones" (spGetR C fun _ o _ _ => o)) (PR_swaps : HasPr P w K mg base C "swaps" (spGetR C fun _ _ s _ => s)) (PR_squares : HasPr P w K mg base C "squares" (spGetR C fun _ _ _ t => t)) :
    FnOk P w K mg base CX0 7 f fd ["self", "other"] (spAnd C) := by
  have gC := gC_Realm
  have cl_ := R.cl
  refine F.ok sc_Realm_and (fun vs H Q E h => ?_) (fun cdv A outer s H vs Q E hr h => ?_)
  · obtain ⟨a, b, N, M, rfl, _⟩ := h
    rfl
  obtain ⟨a, b, ⟨d, o, s', t⟩, ⟨d', o', s'', t'⟩, rfl, ha, hb, sa, sb, q⟩ := h
  refine ⟨_, (pss_cons (ps_if (pt_not (pt_val (pe_callB call_isi (by rfl) B.isinstance bb_isinstance (pa_cons (pv 1) (pa_cons (pe_gref gC (by rfl)) pa_nil)))))
        (pss_one ps_never)
        pss_nil)
      (pss_one (ps_ret (pe_own G_realm_with (hr.mono (by decide)) (by rfl) (pa_cons (pe_ownR G_multiple (hr.mono (by decide)) (by rfl) (pa_cons (pe_pr cl_ PR_inverse (hr.mono (by decide)) (pv 0) rfl) (pa_cons (pe_pr cl_ PR_inverse (hr.mono (by decide)) (pv 1) rfl) pa_nil))) (pa_cons (pe_ownR G_common (hr.mono (by decide)) (by rfl) (pa_cons (pe_pr cl_ PR_ones (hr.mono (by decide)) (pv 0) rfl) (pa_cons (pe_pr cl_ PR_ones (hr.mono (by decide)) (pv 1) rfl) pa_nil))) (pa_cons (pe_ownR G_common (hr.mono (by decide)) (by rfl) (pa_cons (pe_pr cl_ PR_swaps (hr.mono (by decide)) (pv 0) rfl) (pa_cons (pe_pr cl_ PR_swaps (hr.mono (by decide)) (pv 1) rfl) pa_nil))) (pa_cons (pe_ownR G_common (hr.mono (by decide)) (by rfl) (pa_cons (pe_pr cl_ PR_squares (hr.mono (by decide)) (pv 0) rfl) (pa_cons (pe_pr cl_ PR_squares (hr.mono (by decide)) (pv 1) rfl) pa_nil))) pa_nil)))))))), ?_⟩
  obtain ⟨db, T', k1, k2⟩ := id (show RealmAt C H b d' o' s'' t' from hb)
  obtain ⟨x1, x2, x3, x4, x5⟩ := sa
  obtain ⟨y1, y2, y3, y4, y5⟩ := sb
  have gb : ∀ {x y : Nat}, x < 2 ^ 60 → y < 2 ^ 60 → Nat.gcd x y < 2 ^ 100 := fun hx hy => Nat.lt_of_lt_of_le (gcd_small hx hy) (by decide)
  have cong : ∀ {x y : Nat}, V.int (gcdI (x : Int) (y : Int)) = V.int ((Nat.gcd x y : Nat) : Int) := fun {x y} => by rw [gcdN]
  have ml : Nat.lcm d d' < 2 ^ 150 := by
    refine Nat.lt_of_le_of_lt (lcm_le d d') ?_
    exact Nat.lt_of_lt_of_le (Nat.mul_lt_mul'' x2 y2) (by decide)
  have el : lcmF [d, d'] = Nat.lcm d d' := by
    show Nat.lcm (Nat.lcm 1 d) d' = _
    rw [Nat.lcm_one_left]
  refine ⟨_, rfl, .ref b, .ref C, .ref C, .ref C, true, rfl, .own C, R.ty k1, R.k1, _, rfl, iteF ?_⟩
  refine rp (N := (d, o, s', t)) rfl ha (rp (N := (d', o', s'', t')) rfl hb ⟨[d, d'], Nat.lcm d d', rfl, (by show 2 ≤ 1000; decide), Nat.lcm_pos x1 y1, ml, ?_, fun H1 s1 => ?_⟩)
  · intro n hn
    simp only [List.mem_cons, List.not_mem_nil, or_false] at hn
    rcases hn with rfl | rfl
    · exact Nat.dvd_lcm_left _ _
    · exact Nat.dvd_lcm_right _ _
  rw [el]
  have ha1 := ha.same s1
  have hb1 := hb.same s1
  refine rp (N := (d, o, s', t)) rfl ha1 (rp (N := (d', o', s'', t')) rfl hb1 ⟨(o : Int), (o' : Int), rfl, fun H2 s2 => ?_⟩)
  rw [cong]
  have ha2 := ha1.same s2
  have hb2 := hb1.same s2
  refine rp (N := (d, o, s', t)) rfl ha2 (rp (N := (d', o', s'', t')) rfl hb2 ⟨(s' : Int), (s'' : Int), rfl, fun H3 s3 => ?_⟩)
  rw [cong]
  have ha3 := ha2.same s3
  have hb3 := hb2.same s3
  refine rp (N := (d, o, s', t)) rfl ha3 (rp (N := (d', o', s'', t')) rfl hb3 ⟨(t : Int), (t' : Int), rfl, fun H4 s4 => ?_⟩)
  rw [cong]
  refine ⟨_, _, _, _, rfl, gb x3 y3, gb x4 y4, gb x5 y5, fun H5 x X nX s5 nx hX => ?_⟩
  have sm := s1.trans (s2.trans (s3.trans s4))
  exact q H5 x X nX (sm.trans s5) (sm.free nx) hX
end
end My
/-! normal forms as a function -/
namespace My
open PySem PySem.Spec PyProof.Rows L2
/-- all that it shares with b struck out -/
def stripN : Nat → Nat → Nat → Nat
  | 0, _, f => f
  | k + 1, b, f => if 1 < Nat.gcd f b then stripN k b (f / Nat.gcd f b) else f
theorem stripN_is {n b : Nat} : ∀ (k f : Nat), LLoop n b f → f ≤ k → IsStrip n b (stripN k b f)
  | 0, f, h, hk => absurd h.pos (by omega)
  | k + 1, f, h, hk => by
    unfold stripN
    by_cases c : 1 < Nat.gcd f b
    · rw [if_pos c]
      have := h.step
      refine stripN_is k _ this ?_
      have hp := h.pos
      have : f / Nat.gcd f b < f := Nat.div_lt_self hp c
      omega
    · rw [if_neg c]
      exact h.done c
def stN (n d : Nat) : Nat := stripN n d n
theorem stN_is (n d : Nat) : Strip n d (stN n d) := by
  by_cases h : n = 0
  · subst h
    exact .inl ⟨rfl, rfl⟩
  · exact .inr ⟨by omega, stripN_is n n (LLoop.start (b := d) (by omega)) (Nat.le_refl _)⟩
/-- the normal form, as a list of four -/
def nf (d o s t : Nat) : RN :=
  (if Nat.gcd o (2 * t) = 0 then d else 1, stN (Nat.gcd o (2 * t)) d, stN (Nat.gcd s (Nat.gcd t (Nat.gcd o (2 * t)))) d, stN (Nat.gcd t (Nat.gcd o (2 * t))) d)
theorem nf_of {d o s t d' o' s' t' : Nat} (h : Nrm d o s t d' o' s' t') : (d', o', s', t') = nf d o s t := by
  have z : Nrm d o s t (nf d o s t).1 (nf d o s t).2.1 (nf d o s t).2.2.1 (nf d o s t).2.2.2 := ⟨rfl, stN_is _ _, stN_is _ _, stN_is _ _⟩
  obtain ⟨h1, h2, h3, h4⟩ := h.one z
  rw [h1, h2, h3, h4]
/-- the meet, as a function -/
def meetF (N M : RN) : RN := nf (Nat.lcm N.1 M.1) (Nat.gcd N.2.1 M.2.1) (Nat.gcd N.2.2.1 M.2.2.1) (Nat.gcd N.2.2.2 M.2.2.2)
theorem meet_of {N M X : RN} (h : MeetN N M X) : X = meetF N M := by
  have z := nf_of h
  exact z
end My
/-! realms as an order: within, the meet -/
namespace My
open PySem PySem.Spec PyProof.Rows L2
structure NormR (N : RN) : Prop where
  d1 : 1 ≤ N.1
  st : N.2.2.1 ∣ N.2.2.2
  to : N.2.2.2 ∣ N.2.1
  ot : N.2.1 ∣ 2 * N.2.2.2
  od : N.2.1 ≠ 0 → N.1 = 1
  sd : N.2.1 = 0 → N.2.2.1 ≠ 0 → Nat.Coprime N.2.2.1 N.1
theorem NormR.t0 {N : RN} (h : NormR N) (o : N.2.1 = 0) : N.2.2.2 = 0 := by
  have z := h.ot
  rw [o] at z
  have := Nat.eq_zero_of_zero_dvd z
  omega
theorem Strip.dvdn {n b r : Nat} (h : Strip n b r) : r ∣ n := by
  rcases h with ⟨a, b⟩ | ⟨a, h, _⟩
  · rw [a, b]
    exact Nat.dvd_refl _
  · exact h
theorem Strip.cop {n b r : Nat} (h : Strip n b r) (r0 : r ≠ 0) : Nat.Coprime r b := by
  rcases h with ⟨a, b⟩ | ⟨a, _, h, _⟩
  · exact absurd b r0
  · exact h
/-- what divides a number and has nothing in common with the base divides what is left -/
theorem Strip.below {n b r y : Nat} (h : Strip n b r) (hy : y ∣ n) (c : y ≠ 0 → Nat.Coprime y b) : y ∣ r := by
  by_cases y0 : y = 0
  · subst y0
    have := Nat.eq_zero_of_zero_dvd hy
    rw [h.zero.mpr this]
    exact Nat.dvd_refl _
  · have s1 : Strip y b y := .inr ⟨by omega, Nat.dvd_refl _, c y0, 0, by simp⟩
    have z := s1.dvd h (c := 1) (by rw [Nat.one_mul]; exact hy)
    rw [Nat.one_mul] at z
    exact z
theorem norm_of {d o s t : Nat} {X : RN} (d1 : 1 ≤ d) (h : Nrm d o s t X.1 X.2.1 X.2.2.1 X.2.2.2) : NormR X := by
  refine ⟨?_, h.st, h.to, h.ot, fun o0 => ?_, fun o0 s0 => ?_⟩
  · rw [h.ed]
    split
    · exact d1
    · exact Nat.le_refl _
  · have e := h.ed
    rw [if_neg fun z => o0 (h.eo.zero.mpr z)] at e
    exact e
  · have e := h.ed
    rw [if_pos (h.eo.zero.mp o0)] at e
    rw [e]
    exact h.es.cop s0
theorem meet_norm {N M : RN} (h : NormR N) (g : NormR M) : NormR (meetF N M) := norm_of (Nat.lcm_pos h.d1 g.d1) (X := meetF N M) ⟨rfl, stN_is _ _, stN_is _ _, stN_is _ _⟩
theorem meetN_F (N M : RN) : MeetN N M (meetF N M) := ⟨rfl, stN_is _ _, stN_is _ _, stN_is _ _⟩
/-- within, told apart -/
theorem within_iff {N M : RN} : withinB N M = true ↔ (N.2.1 = 0 ∧ M.2.1 = 0 ∧ M.1 ∣ N.1 ∧ N.2.2.1 ∣ M.2.2.1) ∨ (N.2.1 ≠ 0 ∧ Nat.Coprime M.1 N.2.1 ∧ N.2.1 ∣ M.2.1 ∧ N.2.2.1 ∣ M.2.2.1 ∧ N.2.2.2 ∣ M.2.2.2) := by
  unfold withinB
  by_cases o0 : N.2.1 = 0
  · rw [if_pos o0, Bool.and_eq_true, Bool.and_eq_true, decide_eq_true_iff, decide_eq_true_iff, decide_eq_true_iff]
    exact ⟨fun ⟨a, b, c⟩ => .inl ⟨o0, a, b, c⟩, fun z => z.elim (fun ⟨_, a, b, c⟩ => ⟨a, b, c⟩) fun ⟨n, _⟩ => absurd o0 n⟩
  · rw [if_neg o0]
    by_cases c : Nat.gcd M.1 N.2.1 = 1 ∧ N.2.1 ∣ M.2.1
    · rw [if_pos c, Bool.and_eq_true, decide_eq_true_iff, decide_eq_true_iff]
      exact ⟨fun ⟨a, b⟩ => .inr ⟨o0, c.1, c.2, a, b⟩, fun z => z.elim (fun ⟨a, _⟩ => absurd a o0) fun ⟨_, _, _, a, b⟩ => ⟨a, b⟩⟩
    · rw [if_neg c]
      exact ⟨fun z => Bool.noConfusion z, fun z => z.elim (fun ⟨a, _⟩ => absurd a o0) fun ⟨_, a, b, _⟩ => absurd ⟨a, b⟩ c⟩
theorem within_refl {N : RN} (h : NormR N) : withinB N N = true := by
  rw [within_iff]
  by_cases o0 : N.2.1 = 0
  · exact .inl ⟨o0, o0, Nat.dvd_refl _, Nat.dvd_refl _⟩
  · exact .inr ⟨o0, by rw [h.od o0]; exact Nat.coprime_one_left _, Nat.dvd_refl _, Nat.dvd_refl _, Nat.dvd_refl _⟩
theorem within_trans {N M L : RN} (hL : NormR L) (a : withinB N M = true) (b : withinB M L = true) : withinB N L = true := by
  rw [within_iff] at a b ⊢
  rcases a with ⟨n0, m0, a1, a2⟩ | ⟨n0, a1, a2, a3, a4⟩
  · rcases b with ⟨_, l0, b1, b2⟩ | ⟨m1, _⟩
    · exact .inl ⟨n0, l0, Nat.dvd_trans b1 a1, Nat.dvd_trans a2 b2⟩
    · exact absurd m0 m1
  · rcases b with ⟨m0, l0, b1, b2⟩ | ⟨m1, b1, b2, b3, b4⟩
    · refine .inr ⟨n0, Nat.Coprime.coprime_dvd_left b1 a1, by rw [l0]; exact Nat.dvd_zero _, Nat.dvd_trans a3 b2, by rw [hL.t0 l0]; exact Nat.dvd_zero _⟩
    · exact .inr ⟨n0, Nat.Coprime.coprime_dvd_right a2 b1, Nat.dvd_trans a2 b2, Nat.dvd_trans a3 b3, Nat.dvd_trans a4 b4⟩
theorem within_anti {N M : RN} (hN : NormR N) (hM : NormR M) (a : withinB N M = true) (b : withinB M N = true) : N = M := by
  rw [within_iff] at a b
  obtain ⟨d, o, s, t⟩ := N
  obtain ⟨d', o', s', t'⟩ := M
  rcases a with ⟨n0, m0, a1, a2⟩ | ⟨n0, a1, a2, a3, a4⟩
  · rcases b with ⟨_, _, b1, b2⟩ | ⟨m1, _⟩
    · have e1 := Nat.dvd_antisymm b1 a1
      have e2 := Nat.dvd_antisymm a2 b2
      have e3 := hN.t0 n0
      have e4 := hM.t0 m0
      simp only at n0 m0 e1 e2 e3 e4
      subst e1 e2 e3 e4 n0 m0
      rfl
    · exact absurd m0 m1
  · rcases b with ⟨m0, n1, _⟩ | ⟨m1, b1, b2, b3, b4⟩
    · exact absurd n1 n0
    · have e1 := Nat.dvd_antisymm a2 b2
      have e2 := Nat.dvd_antisymm a3 b3
      have e3 := Nat.dvd_antisymm a4 b4
      have e4 := hN.od n0
      have e5 := hM.od m1
      simp only at e1 e2 e3 e4 e5
      subst e1 e2 e3 e4 e5
      rfl
theorem dvd_gcd2 {a b c : Nat} (h : c ∣ Nat.gcd a b) : c ∣ a ∧ c ∣ b := ⟨Nat.dvd_trans h (Nat.gcd_dvd_left _ _), Nat.dvd_trans h (Nat.gcd_dvd_right _ _)⟩
/-- the meet lies within both -/
theorem meet_le {N M : RN} (hN : NormR N) (hM : NormR M) : withinB (meetF N M) N = true ∧ withinB (meetF N M) M = true := by
  have h := meetN_F N M
  generalize meetF N M = X at h
  have xo := dvd_gcd2 h.eo.dvdn
  have xs := dvd_gcd2 h.es.dvdn
  have xt := dvd_gcd2 h.et.dvdn
  have xo2 := dvd_gcd2 xo.1
  have xs2 := dvd_gcd2 xs.1
  have xt2 := dvd_gcd2 xt.1
  constructor
  · rw [within_iff]
    by_cases o0 : X.2.1 = 0
    · have g0 := h.eo.zero.mp o0
      have e := h.ed
      rw [if_pos g0] at e
      have z := (Nat.gcd_eq_zero_iff.mp (Nat.gcd_eq_zero_iff.mp g0).1).1
      exact .inl ⟨o0, z, by rw [e]; exact Nat.dvd_lcm_left _ _, xs2.1⟩
    · exact .inr ⟨o0, (Nat.Coprime.coprime_dvd_right (Nat.dvd_lcm_left _ _) (h.eo.cop o0)).symm, xo2.1, xs2.1, xt2.1⟩
  · rw [within_iff]
    by_cases o0 : X.2.1 = 0
    · have g0 := h.eo.zero.mp o0
      have e := h.ed
      rw [if_pos g0] at e
      have z := (Nat.gcd_eq_zero_iff.mp (Nat.gcd_eq_zero_iff.mp g0).1).2
      exact .inl ⟨o0, z, by rw [e]; exact Nat.dvd_lcm_right _ _, xs2.2⟩
    · exact .inr ⟨o0, (Nat.Coprime.coprime_dvd_right (Nat.dvd_lcm_right _ _) (h.eo.cop o0)).symm, xo2.2, xs2.2, xt2.2⟩
theorem cop_lcm {a b y : Nat} (ha : Nat.Coprime a y) (hb : Nat.Coprime b y) : Nat.Coprime (Nat.lcm a b) y := Nat.Coprime.coprime_dvd_left (Nat.lcm_dvd (Nat.dvd_mul_right _ _) (Nat.dvd_mul_left _ _)) (Nat.Coprime.mul_left ha hb)
/-- what lies within both lies within the meet -/
theorem le_meet {Y N M : RN} (hY : NormR Y) (hN : NormR N) (hM : NormR M) (a : withinB Y N = true) (b : withinB Y M = true) : withinB Y (meetF N M) = true := by
  have h := meetN_F N M
  generalize meetF N M = X at h
  rw [within_iff] at a b ⊢
  rcases a with ⟨y0, n0, a1, a2⟩ | ⟨y0, a1, a2, a3, a4⟩
  · rcases b with ⟨_, m0, b1, b2⟩ | ⟨y1, _⟩
    · have g0 : Nat.gcd (Nat.gcd N.2.1 M.2.1) (2 * Nat.gcd N.2.2.2 M.2.2.2) = 0 := by
        rw [n0, m0, hN.t0 n0, hM.t0 m0]
        rfl
      have e := h.ed
      rw [if_pos g0] at e
      have es := h.es
      rw [g0, Nat.gcd_zero_right] at es
      have ld : Nat.lcm N.1 M.1 ∣ Y.1 := Nat.lcm_dvd a1 b1
      refine .inl ⟨y0, h.eo.zero.mpr g0, by rw [e]; exact ld, es.below (Nat.dvd_gcd (Nat.dvd_gcd a2 b2) ?_) fun s0 => Nat.Coprime.coprime_dvd_right ld (hY.sd y0 s0)⟩
      rw [hN.t0 n0, hM.t0 m0]
      exact Nat.dvd_zero _
    · exact absurd y0 y1
  · rcases b with ⟨y1, _⟩ | ⟨_, b1, b2, b3, b4⟩
    · exact absurd y1 y0
    · have cl := cop_lcm a1 b1
      have yo : Y.2.1 ∣ Nat.gcd (Nat.gcd N.2.1 M.2.1) (2 * Nat.gcd N.2.2.2 M.2.2.2) := Nat.dvd_gcd (Nat.dvd_gcd a2 b2) (Nat.dvd_trans hY.ot (Nat.mul_dvd_mul_left 2 (Nat.dvd_gcd a4 b4)))
      have yt : Y.2.2.2 ∣ Nat.gcd (Nat.gcd N.2.2.2 M.2.2.2) (Nat.gcd (Nat.gcd N.2.1 M.2.1) (2 * Nat.gcd N.2.2.2 M.2.2.2)) := Nat.dvd_gcd (Nat.dvd_gcd a4 b4) (Nat.dvd_trans hY.to yo)
      have ys : Y.2.2.1 ∣ Nat.gcd (Nat.gcd N.2.2.1 M.2.2.1) (Nat.gcd (Nat.gcd N.2.2.2 M.2.2.2) (Nat.gcd (Nat.gcd N.2.1 M.2.1) (2 * Nat.gcd N.2.2.2 M.2.2.2))) := Nat.dvd_gcd (Nat.dvd_gcd a3 b3) (Nat.dvd_trans hY.st yt)
      have co : Nat.Coprime Y.2.1 (Nat.lcm N.1 M.1) := cl.symm
      have ct := Nat.Coprime.coprime_dvd_left hY.to co
      have cs := Nat.Coprime.coprime_dvd_left hY.st ct
      refine .inr ⟨y0, ?_, h.eo.below yo fun _ => co, h.es.below ys fun _ => cs, h.et.below yt fun _ => ct⟩
      rw [h.ed]
      split
      · exact cl
      · exact Nat.coprime_one_left _
/-- the empty realm -/
theorem empty_le {N M : RN} (hN : NormR N) (e : N.2.1 = 1) : withinB N M = true := by
  have t1 : N.2.2.2 = 1 := Nat.dvd_one.mp (e ▸ hN.to)
  have s1 : N.2.2.1 = 1 := Nat.dvd_one.mp (t1 ▸ hN.st)
  rw [within_iff]
  exact .inr ⟨by omega, by rw [e]; exact Nat.coprime_one_right _, by rw [e]; exact Nat.one_dvd _, by rw [s1]; exact Nat.one_dvd _, by rw [t1]; exact Nat.one_dvd _⟩
theorem le_empty {N M : RN} (a : withinB N M = true) (e : M.2.1 = 1) : N.2.1 = 1 := by
  rw [within_iff] at a
  rcases a with ⟨_, m0, _⟩ | ⟨_, _, h, _⟩
  · omega
  · rw [e] at h
    exact Nat.dvd_one.mp h
end My
/-! static methods of a realm -/
namespace My
open PySem PySem.Spec PyProof.Rows L2
structure HasSt (P : Program) (w : World) (K : PySem.W.Frag) (mg : Str → Option Value) (base : Heap) (k : Nat) (C : Addr) (mc : Value) (m : Str) (ps : List Str) (sp : Sp) : Prop where
  ex : ∃ (p g : Addr) (fd : FuncData), OwO.CStat K C mc m p g ∧ FnOk P w K mg base CX0 k g fd ps sp ∧ PySem.W.keepIn K (.ref g) = true ∧ Binds K fd ps []
theorem pe_st0 {X : Cx} {C : Addr} {mc : Value} {k : Nat} {c m : Str} {ps : List Str} {sp : Sp} {p0 pos apos : Pos} {pl : Sem Bool} (gC : X.mg c = some (.ref C)) (r : ClX.CRead X.K C mc) (h : HasSt X.prog X.w X.K X.mg X.base k C mc m ps sp) (hr : Room k X.A) (hg : Gl X c) (hdb : (c == ("__debug__" : Str)) = false := by decide)
    (ht : eval (.Call (.Attribute (.Name c p0) m apos) [] [] pos) X.env = (do
      let ov ← eval (.Name c p0) X.env
      standAt apos.atName
      let (f, first) ← holding [ov] (getMethod ov m pl)
      callWith pos f first (backTo pos (starEach [] X.env)) (backToKw pos (keywordEach [] X.env))) := by rfl) :
    PE X (.Call (.Attribute (.Name c p0) m apos) [] [] pos) (OwO.tStat C sp [] E0 (tC (.ref C)) tNil) := by
  obtain ⟨p, g, fd, c', F, kp, b⟩ := h.ex
  exact OwO.pe_stat0 (pe_gref gC hg hdb) r c' F hr kp b .nil pass0 ht
/-- a new realm of such numbers -/
def spNew (C : Addr) (d o s t : Nat) : Sp := fun vs H Q _ => vs = [] ∧ ∀ (H' : Hp) (a : Addr), Same H H' → H a = none → RealmAt C H' a d o s t → Q (.ref a) H'
theorem wish_of {C CE : Addr} {xs : List V} {H : Hp} {Q : VK} {E : XK} {i o s t d' o' s' t' : Nat} (e : xs = [.int i, .int o, .int s, .int t]) (h1 : 1 ≤ i) (h2 : i ≤ 1000000) (ho : o < 2 ^ 100) (hs : s < 2 ^ 100) (ht : t < 2 ^ 100) (N : Nrm (radL i) o s t d' o' s' t')
    (q : ∀ (H' : Hp) (a : Addr), Same H H' → H a = none → RealmAt C H' a d' o' s' t' → Q (.ref a) H') : RlmWish C CE xs H Q E := by
  refine .inl ⟨i, o, s, t, e, h1, h2, ho, hs, ht, fun H' a d2 o2 s2 t2 N2 sm hn R => ?_⟩
  obtain ⟨rfl, rfl, rfl, rfl⟩ := N.one N2
  exact q H' a sm hn R
theorem strip_zero {b : Nat} : Strip 0 b 0 := .inl ⟨rfl, rfl⟩
theorem nrm_all : Nrm (radL 1) 0 0 0 1 0 0 0 := ⟨by decide, strip_zero, strip_zero, strip_zero⟩
theorem nrm_swaps1 : Nrm (radL 1) 0 1 0 1 0 1 0 := ⟨by decide, strip_zero, .inr ⟨by decide, by decide, by decide, 0, by decide⟩, strip_zero⟩
theorem nrm_ones1 : Nrm (radL 1) 1 0 0 1 1 1 1 := ⟨by decide, .inr ⟨by decide, by decide, by decide, 0, by decide⟩, .inr ⟨by decide, by decide, by decide, 0, by decide⟩, .inr ⟨by decide, by decide, by decide, 0, by decide⟩⟩
section
variable {P : Program} {w : World} {K : PySem.W.Frag} {mg : Str → Option Value} {base : Heap} {C CE f0 : Addr} {fd0 : FuncData} {mc : Value}
theorem ok_everywhere {g p : Addr} {fd : FuncData} (MK_Realm : Rlm P w K mg base C CE f0 fd0) (F : Fun K "everywhere" "Realm.everywhere" s_Realm_everywhere g fd) (c : OwO.CStat K C mc "everywhere" p g) (b : Binds K fd [] []) : HasSt P w K mg base 6 C mc "everywhere" [] (spNew C 1 0 0 0) := by
  refine ⟨p, g, fd, c, F.ok sc_Realm_everywhere (fun vs H Q E h => ?_) (fun cdv A outer s H vs Q E hr h => ?_), F.kp, b⟩
  · obtain ⟨rfl, _⟩ := h
    rfl
  obtain ⟨rfl, q⟩ := h
  refine ⟨_, (pss_one (ps_ret (pe_make0Realm MK_Realm passL (hr.mono (by decide)) (by rfl)))), ?_⟩
  exact wish_of (i := 1) (o := 0) (s := 0) (t := 0) rfl (by decide) (by decide) (by decide) (by decide) (by decide) nrm_all q
end
end My
/-! verdicts -/
namespace My
open PySem PySem.Spec PyProof.Rows L2
theorem pi_or {X : Cx} {tg e : Expr} {t1 t2 : TI} (h1 : PI X tg e t1) (h2 : PI X tg e t2) : PI X tg e (fun σ H R => t1 σ H R ∨ t2 σ H R) :=
  ⟨fun pins s σ H R I h => h.elim (h1.run pins s σ H R I) (h2.run pins s σ H R I)⟩
/-- a verdict: its number, the realm's numbers, right or wrong -/
abbrev VD := Nat × RN × Bool
def VAt (C : Addr) (H : Hp) (p : Addr) (v : VD) : Prop := ∃ r, H p = some (.tup [.int (v.1 : Nat), .ref r, .bl v.2.2]) ∧ RAt C H r v.2.1
theorem VAt.same {C : Addr} {H H' : Hp} {p : Addr} {v : VD} (h : VAt C H p v) (s : Same H H') : VAt C H' p v := by
  obtain ⟨r, h1, h2⟩ := h
  exact ⟨r, s _ _ h1, h2.same s⟩
/-- things listed, each as it is told -/
def Lst {α : Type} (A : Hp → Addr → α → Prop) (H : Hp) (ps : List Addr) (vs : List α) : Prop := Paired (A H) ps vs
theorem paired_mono {α β : Type} {R S : α → β → Prop} (h : ∀ a b, R a b → S a b) : ∀ {xs : List α} {ys : List β}, Paired R xs ys → Paired S xs ys
  | _, _, .nil => .nil
  | _, _, .cons r t => .cons (h _ _ r) (paired_mono h t)
theorem pair_len {α β : Type} {R : α → β → Prop} : ∀ {xs : List α} {ys : List β}, Paired R xs ys → xs.length = ys.length
  | _, _, .nil => rfl
  | _, _, .cons r t => congrArg Nat.succ (pair_len t)
theorem paired_at {α β : Type} {R : α → β → Prop} : ∀ {xs : List α} {ys : List β} {i : Nat} {a : α}, Paired R xs ys → xs[i]? = some a → ∃ b, ys[i]? = some b ∧ R a b
  | _, _, _, _, .nil, h => by simp at h
  | _, _, 0, _, .cons (b := b) r t, h => by
    cases h
    exact ⟨b, rfl, r⟩
  | _, _, i + 1, _, .cons r t, h => paired_at (i := i) t (by simpa using h)
def realmsF (w : Bool) (vs : List VD) : List RN := (vs.filter fun v => v.2.2 == w).map fun v => v.2.1
theorem RAt.putL {C : Addr} {H : Hp} {l a : Addr} {xs ys : List V} {N : RN} (h : RAt C H a N) (e : H l = some (.lst xs)) : RAt C (upd H l (.lst ys)) a N := by
  obtain ⟨dx, T, h1, h2⟩ := h
  exact ⟨dx, T, by rw [upd_ne (ne_of h1 e fun z => by cases z)]; exact h1, by rw [upd_ne (ne_of h2 e fun z => by cases z)]; exact h2⟩
theorem RAt.kpL {C : Addr} {H H' : Hp} {l a : Addr} {xs : List V} {N : RN} (h : RAt C H a N) (e : H l = some (.lst xs)) (k : Kp l H H') : RAt C H' a N := by
  obtain ⟨dx, T, h1, h2⟩ := h
  exact ⟨dx, T, k _ _ (ne_of h1 e fun z => by cases z) h1, k _ _ (ne_of h2 e fun z => by cases z) h2⟩
theorem realmsF_snoc {w : Bool} {ds : List VD} {i : Nat} {v : VD} (h : ds[i]? = some v) : realmsF w (ds.take (i + 1)) = realmsF w (ds.take i) ++ (if v.2.2 == w then [v.2.1] else []) := by
  unfold realmsF
  rw [take_snoc h, List.filter_append, List.map_append]
  cases e : (v.2.2 == w) with
  | true => simp [List.filter_cons, e]
  | false => simp [List.filter_cons, e]
def Seq (H : Hp) (T : Addr) (xs : List V) : Prop := H T = some (.tup xs) ∨ H T = some (.lst xs)
def spRealmsOf (C : Addr) : Sp := fun vs H Q _ => ∃ (T : Addr) (ps : List Addr) (ds : List VD) (w : Bool), vs = [.ref T, .bl w] ∧ Seq H T (ps.map V.ref) ∧ Paired (VAt C H) ps ds ∧ ds.length ≤ 100 ∧
  ∀ (H' : Hp) (l : Addr) (rs : List Addr), Same H H' → H l = none → H' l = some (.lst (rs.map V.ref)) → Paired (RAt C H') rs (realmsF w ds) → Q (.ref l) H'
section
variable {P : Program} {w : World} {K : PySem.W.Frag} {mg : Str → Option Value} {base : Heap} {C CE f0 : Addr} {fd0 : FuncData} {mc : Value}
theorem ok_realms_of (F : Fn K mg "realms_of" s_realms_of ["verdicts", "right"]) : Has P w K mg base 1 "realms_of" ["verdicts", "right"] (spRealmsOf C) := by
  refine F.has sc_realms_of (fun vs H Q E h => ?_) (fun f cdv A outer s H vs Q E hr h => ?_)
  · obtain ⟨T, ps, ds, w, rfl, _⟩ := h
    rfl
  obtain ⟨T, ps, ds, w, rfl, hT, hp, ld, q⟩ := h
  refine ⟨_, (pss_one (ps_ret (pe_lc (own := [("_", 2), ("realm", 3), ("sort", 4)]) (g := gTup K 3 (gCons (gName 2) (gCons (gName 3) (gCons (gName 4) gNil)))) (by rfl) sc_realms_of.nd (pi_or (pi_list (pv 0)) (pi_tup (pv 0))) (blkOk_by (own := [("_", 2), ("realm", 3), ("sort", 4)]) (N := N_realms_of) (sc := defScope s_realms_of) (by decide +kernel)) (fun _ _ _ _ _ => (pg_tup rfl (pgs_cons (pg_name (i := 2) sc_realms_of.nd rfl (Or.inl rfl)) (pgs_cons (pg_name (i := 3) sc_realms_of.nd rfl (Or.inl rfl)) (pgs_cons (pg_name (i := 4) sc_realms_of.nd rfl (Or.inl rfl)) pgs_nil))))) (fun _ _ _ _ _ => (pts_one (pt_cmpR op_eq (pv 4) (pv 1) (nomark _)))) (fun _ _ _ _ _ => (pv 3))))), ?_⟩
  have dq : ∀ x y : Bool, decide (V.bl x = V.bl y) = (x == y) := fun x y => by cases x <;> cases y <;> decide
  have hd : ∀ (D : Addr) (Hz : Hp), (∃ rs : List Addr, Same H Hz ∧ Hz D = some (.lst (rs.map V.ref)) ∧ rs.length ≤ (ps.map V.ref).length ∧ Paired (RAt C Hz) rs (realmsF w (ds.take (ps.map V.ref).length))) → H D = none → Q (.ref D) Hz := by
    rintro D Hz ⟨rs, sz, eD, _, pr⟩ nD
    rw [List.length_map, List.take_of_length_le (by rw [pair_len hp]; exact Nat.le_refl _)] at pr
    exact q Hz D rs sz nD eD pr
  rcases hT with hT | hT
  · refine .inr ⟨_, rfl, T, rfl, ⟨_, SqT.of hT⟩, fun D nD => ?_⟩
    refine lc_it (walk_tup (K := K) (xs := ps.map V.ref)) (fun i Hz => ∃ rs : List Addr, Same H Hz ∧ Hz D = some (.lst (rs.map V.ref)) ∧ rs.length ≤ i ∧ Paired (RAt C Hz) rs (realmsF w (ds.take i))) ⟨[], same_upd nD, upd_same, Nat.le_refl _, .nil⟩ (fun i Hz _ ⟨_, e, _⟩ => SqT.of (e _ _ hT)) ?_ (fun Hz z => hd D Hz z nD)
    rintro i v Ha Hb hi ⟨rs, sa, eD, lr, pr⟩ ⟨rfl, hv⟩
    obtain ⟨p, hp1, rfl⟩ := at_map hv
    obtain ⟨v, hv2, r, e1, e2⟩ := paired_at hp hp1
    refine ⟨_, _, rfl, SqT.of (sa _ _ e1), rfl, _, _, rfl, _, _, rfl, _, _, rfl, rfl, rfl, ?_⟩
    refine ⟨_, rfl, _, rfl, rfl, _, rfl, ?_⟩
    rw [dq]
    have er : realmsF w (ds.take (i + 1)) = realmsF w (ds.take i) ++ (if v.2.2 == w then [v.2.1] else []) := realmsF_snoc hv2
    cases ew : (v.2.2 == w) with
    | false =>
      rw [ew] at er
      refine iteF ⟨rs, sa, eD, by omega, ?_⟩
      rw [er]
      simpa using pr
    | true =>
      rw [ew] at er
      rw [List.length_map] at hi
      have lps := pair_len hp
      refine iteT ⟨_, rfl, _, eD, small1000 (by rw [List.length_map]; omega), rs ++ [r], fun c o hc => ?_, ?_, by rw [List.length_append]; show rs.length + 1 ≤ _; omega, ?_⟩
      · rw [upd_ne (ne_of_none hc nD)]
        exact sa _ _ hc
      · rw [upd_same, List.map_append]
        rfl
      · rw [er]
        exact Paired.snoc (paired_mono (fun a N h => h.putL eD) pr) ((e2.same sa).putL eD)
  · refine .inl ⟨_, rfl, T, rfl, ⟨_, SqL.of hT⟩, fun D nD => ?_⟩
    refine lc_it (walk_list (K := K) (xs := ps.map V.ref)) (fun i Hz => ∃ rs : List Addr, Same H Hz ∧ Hz D = some (.lst (rs.map V.ref)) ∧ rs.length ≤ i ∧ Paired (RAt C Hz) rs (realmsF w (ds.take i))) ⟨[], same_upd nD, upd_same, Nat.le_refl _, .nil⟩ (fun i Hz _ ⟨_, e, _⟩ => SqL.of (e _ _ hT)) ?_ (fun Hz z => hd D Hz z nD)
    rintro i v Ha Hb hi ⟨rs, sa, eD, lr, pr⟩ ⟨rfl, hv⟩
    obtain ⟨p, hp1, rfl⟩ := at_map hv
    obtain ⟨v, hv2, r, e1, e2⟩ := paired_at hp hp1
    refine ⟨_, _, rfl, SqT.of (sa _ _ e1), rfl, _, _, rfl, _, _, rfl, _, _, rfl, rfl, rfl, ?_⟩
    refine ⟨_, rfl, _, rfl, rfl, _, rfl, ?_⟩
    rw [dq]
    have er : realmsF w (ds.take (i + 1)) = realmsF w (ds.take i) ++ (if v.2.2 == w then [v.2.1] else []) := realmsF_snoc hv2
    cases ew : (v.2.2 == w) with
    | false =>
      rw [ew] at er
      refine iteF ⟨rs, sa, eD, by omega, ?_⟩
      rw [er]
      simpa using pr
    | true =>
      rw [ew] at er
      rw [List.length_map] at hi
      have lps := pair_len hp
      refine iteT ⟨_, rfl, _, eD, small1000 (by rw [List.length_map]; omega), rs ++ [r], fun c o hc => ?_, ?_, by rw [List.length_append]; show rs.length + 1 ≤ _; omega, ?_⟩
      · rw [upd_ne (ne_of_none hc nD)]
        exact sa _ _ hc
      · rw [upd_same, List.map_append]
        rfl
      · rw [er]
        exact Paired.snoc (paired_mono (fun a N h => h.putL eD) pr) ((e2.same sa).putL eD)
end
end My
/-! the meet of realms, lying in one of them -/
namespace My
open PySem PySem.Spec PyProof.Rows L2
/-- a normal form whose base divides b, of numbers below 2^60 -/
structure BndR (b : Nat) (N : RN) : Prop where
  nm : NormR N
  dv : N.1 ∣ b
  o : N.2.1 < 2 ^ 60
  s : N.2.2.1 < 2 ^ 60
  t : N.2.2.2 < 2 ^ 60
theorem BndR.sm {b : Nat} {N : RN} (h : BndR b N) (b1 : 1 ≤ b) (b2 : b < 2 ^ 60) : SmR N := ⟨h.nm.d1, Nat.lt_of_le_of_lt (Nat.le_of_dvd b1 h.dv) b2, h.o, h.s, h.t⟩
theorem bnd_meet {b : Nat} {N M : RN} (h : BndR b N) (g : BndR b M) : BndR b (meetF N M) := by
  have z := meetN_F N M
  have gl : ∀ {x y : Nat}, x < 2 ^ 60 → y < 2 ^ 60 → Nat.gcd x y < 2 ^ 60 := fun hx hy => gcd_small hx hy
  have g1 := gl h.o g.o
  have g2 := gl h.s g.s
  have g3 := gl h.t g.t
  refine ⟨meet_norm h.nm g.nm, ?_, ?_, ?_, ?_⟩
  · rw [z.ed]
    split
    · exact Nat.lcm_dvd h.dv g.dv
    · exact Nat.one_dvd _
  · have e : Nat.gcd (Nat.gcd N.2.1 M.2.1) (2 * Nat.gcd N.2.2.2 M.2.2.2) < 2 ^ 60 := by
      by_cases q : Nat.gcd N.2.1 M.2.1 = 0
      · have o1 := (Nat.gcd_eq_zero_iff.mp q).1
        have o2 := (Nat.gcd_eq_zero_iff.mp q).2
        rw [q, h.nm.t0 o1, g.nm.t0 o2]
        decide
      · exact Nat.lt_of_le_of_lt (Nat.le_of_dvd (by omega) (Nat.gcd_dvd_left _ _)) g1
    exact Nat.lt_of_le_of_lt z.eo.le e
  · have e : Nat.gcd (Nat.gcd N.2.2.1 M.2.2.1) (Nat.gcd (Nat.gcd N.2.2.2 M.2.2.2) (Nat.gcd (Nat.gcd N.2.1 M.2.1) (2 * Nat.gcd N.2.2.2 M.2.2.2))) < 2 ^ 60 := by
      by_cases q : Nat.gcd N.2.2.1 M.2.2.1 = 0
      · rw [q, Nat.gcd_zero_left]
        by_cases q3 : Nat.gcd N.2.2.2 M.2.2.2 = 0
        · rw [q3, Nat.gcd_zero_left, Nat.mul_zero, Nat.gcd_zero_right]
          exact g1
        · exact Nat.lt_of_le_of_lt (Nat.le_of_dvd (by omega) (Nat.gcd_dvd_left _ _)) g3
      · exact Nat.lt_of_le_of_lt (Nat.le_of_dvd (by omega) (Nat.gcd_dvd_left _ _)) g2
    exact Nat.lt_of_le_of_lt z.es.le e
  · have e : Nat.gcd (Nat.gcd N.2.2.2 M.2.2.2) (Nat.gcd (Nat.gcd N.2.1 M.2.1) (2 * Nat.gcd N.2.2.2 M.2.2.2)) < 2 ^ 60 := by
      by_cases q3 : Nat.gcd N.2.2.2 M.2.2.2 = 0
      · rw [q3, Nat.gcd_zero_left, Nat.mul_zero, Nat.gcd_zero_right]
        exact g1
      · exact Nat.lt_of_le_of_lt (Nat.le_of_dvd (by omega) (Nat.gcd_dvd_left _ _)) g3
    exact Nat.lt_of_le_of_lt z.et.le e
abbrev allR : RN := (1, 0, 0, 0)
theorem bnd_all {b : Nat} : BndR b allR := ⟨⟨by decide, by decide, by decide, by decide, fun h => absurd rfl h, fun _ h => absurd rfl h⟩, Nat.one_dvd _, by decide, by decide, by decide⟩
def meetsF (Ns : List RN) : RN := Ns.foldl meetF allR
theorem bnd_meets {b : Nat} : ∀ {Ns : List RN}, (∀ N ∈ Ns, BndR b N) → ∀ {X : RN}, BndR b X → BndR b (Ns.foldl meetF X)
  | [], _, X, hX => hX
  | N :: Ns, h, X, hX => bnd_meets (Ns := Ns) (fun M hM => h M (List.mem_cons_of_mem _ hM)) (bnd_meet hX (h N List.mem_cons_self))
def spMeetOf (C : Addr) : Sp := fun vs H Q _ => ∃ (l : Addr) (rs : List Addr) (Ns : List RN) (b : Nat), vs = [.ref l] ∧ H l = some (.lst (rs.map V.ref)) ∧ Paired (RAt C H) rs Ns ∧ Ns.length ≤ 100 ∧ 1 ≤ b ∧ b < 2 ^ 60 ∧ (∀ N ∈ Ns, BndR b N) ∧
  ∀ (H' : Hp) (x : Addr), Same H H' → H x = none → RAt C H' x (meetsF Ns) → Q (.ref x) H'
def spLies (C : Addr) : Sp := fun vs H Q _ => ∃ (a l : Addr) (rs : List Addr) (N : RN) (Ns : List RN), vs = [.ref a, .ref l] ∧ RAt C H a N ∧ H l = some (.lst (rs.map V.ref)) ∧ Paired (RAt C H) rs Ns ∧ Ns.length ≤ 100 ∧ ∀ H', Same H H' → Q (.bl (Ns.any fun M => withinB N M)) H'
section
variable {P : Program} {w : World} {K : PySem.W.Frag} {mg : Str → Option Value} {base : Heap} {C CE f0 : Addr} {fd0 : FuncData} {mc : Value}
theorem ok_meet_of {fA : Addr} {fdA : FuncData} (F : Fn K mg "meet_of" s_meet_of ["realms"]) (R : RCls K C mc) (gC_Realm : mg "Realm" = some (.ref C)) (ST_Realm_everywhere : HasSt P w K mg base 6 C mc "everywhere" [] (spNew C 1 0 0 0))
    (ANS : OwO.Spc K C "__and__" fA) (ANF : FnOk P w K mg base CX0 7 fA fdA ["self", "other"] (spAnd C)) (ANb : L2.Binds K fdA ["self", "other"] []) (hSF : PySem.W.selfFirst K C = true) : Has P w K mg base 8 "meet_of" ["realms"] (spMeetOf C) := by
  have RD_Realm := R.rd
  refine F.has sc_meet_of (fun vs H Q E h => ?_) (fun f cdv A outer s H vs Q E hr h => ?_)
  · obtain ⟨l, rs, Ns, b, rfl, _⟩ := h
    rfl
  obtain ⟨l, rs, Ns, b, rfl, hl, hp, ln, b1, b2, hb, q⟩ := h
  refine ⟨_, (pss_cons (ps_set (i := 1) sc_meet_of.nd rfl (Or.inl rfl) (pe_st0 gC_Realm RD_Realm ST_Realm_everywhere (hr.mono (by decide)) (by rfl)))
      (pss_cons (ps_for PassesOwn.never rfl (pi_list (pv 0)) (pg_name (i := 2) sc_meet_of.nd rfl (Or.inl rfl))
        (pss_one (ps_set (i := 1) sc_meet_of.nd rfl (Or.inl rfl) (pe_op (OwO.op_binO (K0 := K) rfl ANS ANF ANb hSF (hr.mono (by decide)) rfl) (pv 1) (pv 2)))))
      (pss_one (ps_ret (pv 1))))), ?_⟩
  have cl_ := R.cl
  refine ⟨rfl, rfl, fun H1 x s1 nx hx => ?_⟩
  have hx : RAt C H1 x (meetsF (Ns.take 0)) := hx
  refine ⟨_, rfl, l, rfl, ⟨_, SqL.of (s1 _ _ hl)⟩, for_list (xs := rs.map V.ref) (fun i σ H' => ∃ x y, σ = [some (.ref l), some (.ref x), y] ∧ Same H H' ∧ H x = none ∧ RAt C H' x (meetsF (Ns.take i))) ⟨x, _, rfl, s1, nx, hx⟩ (fun i σ H' _ ⟨_, _, _, e, _⟩ => SqL.of (e _ _ hl)) ?_ ?_⟩
  · rintro i v σ Ha hv ⟨x, y, rfl, sa, nx, hx⟩
    obtain ⟨r, hr1, rfl⟩ := at_map hv
    obtain ⟨N, hN, hrN⟩ := paired_at hp hr1
    have hra := hrN.same sa
    obtain ⟨dx, Tx, g1, g2⟩ := id hx
    obtain ⟨dr, Tr, k1, k2⟩ := id hra
    have bx : BndR b (meetsF (Ns.take i)) := bnd_meets (fun M hM => hb M (List.mem_of_mem_take hM)) bnd_all
    have bn := hb N (List.mem_of_getElem? hN)
    refine ⟨_, rfl, _, rfl, x, dx, _, r, rfl, rfl, g1, R.ty k1, x, r, _, N, rfl, hx, hra, bx.sm b1 b2, bn.sm b1 b2, fun H3 z X nX s3 nz hz => ⟨z, rfl, z, _, rfl, sa.trans s3, sa.free nz, ?_⟩⟩
    have e : meetsF (Ns.take (i + 1)) = X := by
      rw [meet_of nX]
      unfold meetsF
      rw [take_snoc hN, List.foldl_append]
      rfl
    rw [e]
    exact hz
  · rintro σ' H2 ⟨x, y, rfl, s2, nx, hx⟩
    refine ⟨_, rfl, q H2 x s2 nx ?_⟩
    rw [List.length_map, pair_len hp, List.take_length] at hx
    exact hx
theorem ok_lies (F : Fn K mg "lies_in_one" s_lies_in_one ["realm", "others"]) (R : RCls K C mc) (B : Blt mg) (M_within : HasM P w K mg base 3 C "within" ["self", "other"] (spWithin C)) : Has P w K mg base 4 "lies_in_one" ["realm", "others"] (spLies C) := by
  refine F.has sc_lies_in_one (fun vs H Q E h => ?_) (fun f cdv A outer s H vs Q E hr h => ?_)
  · obtain ⟨a, l, rs, N, Ns, rfl, _⟩ := h
    rfl
  obtain ⟨a, l, rs, N, Ns, rfl, ha, hl, hp, ln, q⟩ := h
  have cl_ := R.cl
  refine ⟨_, (pss_one (ps_ret (pe_callB (cr_any rfl) (by rfl) B.any bb_any (pa_cons (pe_lc (own := [("other", 2)]) (g := gName 2) (tt := tYes) (by rfl) sc_lies_in_one.nd (pi_list (pv 1)) (blkOk_by (own := [("other", 2)]) (N := N_lies_in_one) (sc := defScope s_lies_in_one) (by decide +kernel)) (fun _ _ _ _ _ => (pg_name (i := 2) sc_lies_in_one.nd rfl (Or.inl rfl))) (fun _ _ _ _ _ => pts_nil) (fun _ _ _ _ _ => (pe_ownM cl_ M_within (hr.mono (by decide)) (pv 0) (pa_cons (pv 2) pa_nil)))) pa_nil)))), ?_⟩
  refine ⟨_, rfl, l, rfl, ⟨_, SqL.of hl⟩, fun D nD => ?_⟩
  refine lc_it (walk_list (K := K) (xs := rs.map V.ref)) (fun i H' => Same H H' ∧ H' D = some (.lst (((Ns.take i).map fun M => withinB N M).map V.bl))) ⟨same_upd nD, upd_same⟩ (fun i H' _ e => SqL.of (e.1 _ _ hl)) ?_ ?_
  · rintro i v Ha Hb hi ⟨sa, eD⟩ ⟨rfl, hv⟩
    obtain ⟨r, hr1, rfl⟩ := at_map hv
    obtain ⟨M, hM, hrM⟩ := paired_at hp hr1
    obtain ⟨da, Ta, g1, g2⟩ := id (ha.same sa)
    refine ⟨rfl, tYes_ok ⟨_, rfl, a, da, _, rfl, g1, rfl, _, rfl, a, r, N, M, rfl, ha.same sa, hrM.same sa, fun H3 s3 => ⟨_, s3 _ _ eD, small1000 ?_, fun c o hc => ?_, ?_⟩⟩⟩
    · rw [List.length_map, List.length_map, List.length_take]
      omega
    · rw [upd_ne (ne_of_none hc nD)]
      exact s3 _ _ (sa _ _ hc)
    · rw [upd_same, take_snoc hM, List.map_append, List.map_append]
      rfl
  · rintro H2 ⟨s2, eD⟩
    rw [List.length_map, pair_len hp, List.take_length] at eD
    refine ⟨D, _, rfl, SqL.of eD, ?_⟩
    have e : ((Ns.map fun M => withinB N M).any id) = Ns.any fun M => withinB N M := by
      rw [List.any_map]
      rfl
    rw [e]
    exact q _ s2
end
end My
/-! timelines -/
namespace My
open PySem PySem.Spec PyProof.Rows L2
structure TCls (K : PySem.W.Frag) (C : Addr) : Prop where
  cl : Cls K C
  n1 : NoAttr K C "state"
  n2 : NoAttr K C "_undone"
  n3 : NoAttr K C "_done"
/-- a timeline at a: its state, the lists of what is done and undone (states of any kind) -/
def LnAt (C : Addr) (H : Hp) (a u d : Addr) (st : V) (done undone : List V) : Prop := ∃ dx, H a = some (.ins C dx [("state", st), ("_undone", .ref u), ("_done", .ref d)]) ∧ H u = some (.lst undone) ∧ H d = some (.lst done) ∧ u ≠ d
def LineAt (C : Addr) (H : Hp) (a : Addr) (st : V) (done undone : List V) : Prop := ∃ dx u d, H a = some (.ins C dx [("state", st), ("_undone", .ref u), ("_done", .ref d)]) ∧ H u = some (.lst undone) ∧ H d = some (.lst done) ∧ u ≠ d
theorem fresh_kp {H H' : Hp} {p c : Addr} {o : HO} (k : Kp p H H') (hp : H' p = some o) (n : H' c = none) : H c = none := by
  cases e : H c with
  | none => rfl
  | some o' =>
    have ne : c ≠ p := fun z => by
      rw [z, hp] at n
      cases n
    rw [k _ _ ne e] at n
    cases n
def spLineInit (C : Addr) : Sp := fun vs H Q _ => ∃ (p dx : Addr) (st : V), vs = [.ref p, st] ∧ H p = some (.ins C dx []) ∧ ∀ H' u d, Kp p H H' → H u = none → H d = none → LnAt C H' p u d st [] [] → Q .non H'
section
variable {P : Program} {w : World} {K : PySem.W.Frag} {mg : Str → Option Value} {base : Heap} {C : Addr}
theorem ok_line_init {f : Addr} {fd : FuncData} (F : Fun K "__init__" "Timeline.__init__" s_Timeline_init f fd) (R : TCls K C) : FnOk P w K mg base (L2.CX P w) 2 f fd ["self", "state"] (spLineInit C) := by
  refine F.okX sc_Timeline_init (fun vs H Q E h => ?_) (fun cdv A outer s H vs Q E hr h => ?_)
  · obtain ⟨p, dx, st, rfl, _⟩ := h
    rfl
  obtain ⟨p, dx, st, rfl, hp, q⟩ := h
  have cl_ := R.cl
  refine ⟨_, (pss_cons (ps_fld (pv 0) (pv 1) rfl)
      (pss_cons (ps_fld (pv 0) (pe_lst pa_nil) rfl)
      (pss_one (ps_fld (pv 0) (pe_lst pa_nil) rfl)))), ?_⟩
  refine ⟨_, rfl, _, rfl, p, C, dx, [], rfl, hp, R.cl, R.n1, by decide, ?_⟩
  have h1 : (upd H p (.ins C dx [("state", st)])) p = some (.ins C dx [("state", st)]) := upd_same
  have k1 : Kp p H (upd H p (.ins C dx [("state", st)])) := Kp.upd
  change tSeq _ _ _ _ (upd H p (.ins C dx [("state", st)]))
  generalize upd H p (.ins C dx [("state", st)]) = H1 at h1 k1 ⊢
  refine ⟨(by show 0 ≤ sizeLine; decide), fun u nu => ?_⟩
  have s1 := same_upd (o := .lst []) nu
  have e1 := upd_same (H := H1) (a := u) (o := .lst [])
  have g1 := s1 _ _ h1
  generalize upd H1 u (.lst []) = H2 at s1 e1 g1 ⊢
  have up : u ≠ p := ne_of e1 g1 fun z => by cases z
  refine ⟨_, rfl, p, C, dx, _, rfl, g1, R.cl, R.n2, (by show 1 < 1000; decide), ?_⟩
  have h3 : (upd H2 p (.ins C dx [("state", st), ("_undone", .ref u)])) p = some (.ins C dx [("state", st), ("_undone", .ref u)]) := upd_same
  have k3 : Kp p H2 (upd H2 p (.ins C dx [("state", st), ("_undone", .ref u)])) := Kp.upd
  have ep : putF ("_undone" : Str) (V.ref u) [(("state" : Str), st)] = [(("state" : Str), st), (("_undone" : Str), V.ref u)] := rfl
  rw [ep]
  generalize upd H2 p (.ins C dx [("state", st), ("_undone", .ref u)]) = H3 at h3 k3 ⊢
  refine ⟨(by show 0 ≤ sizeLine; decide), fun d nd => ?_⟩
  have s3 := same_upd (o := .lst []) nd
  have e3 := upd_same (H := H3) (a := d) (o := .lst [])
  have g3 := s3 _ _ h3
  have eu := s3 _ _ (k3 _ _ up e1)
  have ud : u ≠ d := ne_of_none (k3 _ _ up e1) nd
  generalize upd H3 d (.lst []) = H4 at s3 e3 g3 eu ⊢
  have dp : d ≠ p := ne_of e3 g3 fun z => by cases z
  refine ⟨_, rfl, p, C, dx, _, rfl, g3, R.cl, R.n3, (by show 2 < 1000; decide), ?_⟩
  have ep2 : putF ("_done" : Str) (V.ref d) [(("state" : Str), st), (("_undone" : Str), V.ref u)] = [(("state" : Str), st), (("_undone" : Str), V.ref u), (("_done" : Str), V.ref d)] := rfl
  rw [ep2]
  refine q _ u d ((k1.trans (Kp.of s1)).trans ((k3.trans (Kp.of s3)).trans Kp.upd)) (fresh_kp k1 h1 nu) (fresh_kp ((k1.trans (Kp.of s1)).trans k3) h3 nd) ⟨dx, upd_same, by rw [upd_ne up]; exact eu, by rw [upd_ne dp]; exact e3, ud⟩
end
end My
/-! timelines: move -/
namespace My
open PySem PySem.Spec PyProof.Rows L2
/-- all stays but what lies at a and at d -/
def Kp2 (a d : Addr) (H H' : Hp) : Prop := ∀ c o, c ≠ a → c ≠ d → H c = some o → H' c = some o
def spMove (C : Addr) : Sp := fun vs H Q _ => ∃ (a u d : Addr) (st st' : V) (done undone : List V), vs = [.ref a, st'] ∧ LnAt C H a u d st done undone ∧ done.length ≤ 1000 ∧
  ∀ (H' : Hp) (u' : Addr), Kp2 a d H H' → H u' = none → LnAt C H' a u' d st' (done ++ [st]) [] → Q .non H'
section
variable {P : Program} {w : World} {K : PySem.W.Frag} {mg : Str → Option Value} {base : Heap} {C : Addr}
theorem ok_move (F : ∃ (f : Addr) (fd : FuncData), Fun K "move" "Timeline.move" s_Timeline_move f fd ∧ Meth K C "move" f ∧ L2.Binds K fd ["self", "state"] []) (R : TCls K C) : HasM P w K mg base 1 C "move" ["self", "state"] (spMove C) := by
  obtain ⟨f, fd, F, M, b⟩ := F
  refine ⟨f, fd, F.ok sc_Timeline_move (fun vs H Q E h => ?_) (fun cdv A outer s H vs Q E hr h => ?_), M, b⟩
  · obtain ⟨a, u, d, st, st', done, undone, rfl, _⟩ := h
    rfl
  obtain ⟨a, u, d, st, st', done, undone, rfl, ⟨dx, ha, hu, hd, ud⟩, ld, q⟩ := h
  have cl_ := R.cl
  refine ⟨_, (pss_cons (ps_expr (pe_bm PySem.F.plainAttrs_list PySem.F.slot_list_append PySem.F.type_list_append mt_append (L2.pe_fld (pv 0) rfl) (pa_cons (L2.pe_fld (pv 0) rfl) pa_nil)))
      (pss_cons (ps_fld (pv 0) (pe_lst pa_nil) rfl)
      (pss_one (ps_fld (pv 0) (pv 1) rfl)))), ?_⟩
  have da : d ≠ a := ne_of hd ha fun z => by cases z
  have ua : u ≠ a := ne_of hu ha fun z => by cases z
  refine ⟨_, rfl, a, C, dx, _, _, rfl, ha, cl_, R.n3, rfl, .inl ⟨rfl, _, SqL.of hd⟩, _, rfl, a, C, dx, _, _, rfl, ha, cl_, R.n1, rfl, d, done, st, rfl, rfl, hd, small1000 ld, ?_⟩
  have ha1 : (upd H d (.lst (done ++ [st]))) a = some (.ins C dx [("state", st), ("_undone", .ref u), ("_done", .ref d)]) := by rw [upd_ne (Ne.symm da)]; exact ha
  have hd1 : (upd H d (.lst (done ++ [st]))) d = some (.lst (done ++ [st])) := upd_same
  have k1 : Kp d H (upd H d (.lst (done ++ [st]))) := Kp.upd
  have fr1 : ∀ c, (upd H d (.lst (done ++ [st]))) c = none → H c = none := fun c hc => by
    by_cases z : c = d
    · subst z
      rw [upd_same] at hc
      cases hc
    · rw [upd_ne z] at hc
      exact hc
  dsimp only
  generalize upd H d (.lst (done ++ [st])) = H1 at ha1 hd1 k1 fr1 ⊢
  refine ⟨(by show 0 ≤ sizeLine; decide), fun u' nu => ?_⟩
  have s1 := same_upd (o := .lst []) nu
  have e1 := upd_same (H := H1) (a := u') (o := .lst [])
  have g1 := s1 _ _ ha1
  have hd2 := s1 _ _ hd1
  have ud' : u' ≠ d := (ne_of_none hd1 nu).symm
  have ua' : u' ≠ a := (ne_of_none ha1 nu).symm
  generalize upd H1 u' (.lst []) = H2 at s1 e1 g1 hd2 ⊢
  refine ⟨_, rfl, a, C, dx, _, rfl, g1, cl_, R.n2, (by show 3 < 1000; decide), ?_⟩
  have ep : putF ("_undone" : Str) (V.ref u') [(("state" : Str), st), (("_undone" : Str), V.ref u), (("_done" : Str), V.ref d)] = [(("state" : Str), st), (("_undone" : Str), V.ref u'), (("_done" : Str), V.ref d)] := rfl
  rw [ep]
  have h3 : (upd H2 a (.ins C dx [(("state" : Str), st), (("_undone" : Str), V.ref u'), (("_done" : Str), V.ref d)])) a = some (.ins C dx [(("state" : Str), st), (("_undone" : Str), V.ref u'), (("_done" : Str), V.ref d)]) := upd_same
  have k3 : Kp a H2 (upd H2 a (.ins C dx [(("state" : Str), st), (("_undone" : Str), V.ref u'), (("_done" : Str), V.ref d)])) := Kp.upd
  generalize upd H2 a (.ins C dx [(("state" : Str), st), (("_undone" : Str), V.ref u'), (("_done" : Str), V.ref d)]) = H3 at h3 k3 ⊢
  refine ⟨_, rfl, _, rfl, a, C, dx, _, rfl, h3, cl_, R.n1, (by show 3 < 1000; decide), ?_⟩
  have ep2 : putF ("state" : Str) st' [(("state" : Str), st), (("_undone" : Str), V.ref u'), (("_done" : Str), V.ref d)] = [(("state" : Str), st'), (("_undone" : Str), V.ref u'), (("_done" : Str), V.ref d)] := rfl
  rw [ep2]
  refine q _ u' (fun c o ca cd hc => ?_) (fr1 _ nu) ⟨dx, upd_same, by rw [upd_ne ua']; exact k3 _ _ ua' e1, by rw [upd_ne da]; exact k3 _ _ da hd2, ud'⟩
  rw [upd_ne ca]
  exact k3 _ _ ca (s1 _ _ (k1 _ _ cd hc))
end
end My
/-! own classes called by position -/
namespace My
open PySem PySem.Spec PyProof.Rows L2
structure HasCX (P : Program) (w : World) (K : PySem.W.Frag) (mg : Str → Option Value) (base : Heap) (k : Nat) (x : Str) (C : Addr) (ps : List Str) (sp : Sp) : Prop where
  ex : ∃ (f : Addr) (fd : FuncData), Mk K C f ∧ FnOk P w K mg base (L2.CX P w) k f fd ps sp ∧ mg x = some (.ref C) ∧ Binds K fd ps []
section
variable {X : Cx} {k : Nat} {x : Str} {C : Addr} {ps : List Str} {sp : Sp} {p pos : Pos} {e : Expr} {es : List Expr} {t : TA} {E : XK}
theorem pe_mkX (h : HasCX X.prog X.w X.K X.mg X.base k x C ps sp) (hr : Room (k + 1) X.A) (hg : Gl X x) (ha : PA X (e :: es) t)
    (hdb : (x == ("__debug__" : Str)) = false := by decide) (he : starEach (e :: es) X.env = (false, eval e X.env) :: starEach es X.env := by rfl) (hpl : (backTo pos (starEach es X.env)).any (·.1) = false := by rfl) : PE X (.Call (.Name x p) (e :: es) [] pos) (tMake C sp [] E0 t) := by
  obtain ⟨f, fd, M, F, m, b⟩ := h.ex
  exact pe_make M F hr hg m b .nil passL ha hdb he hpl
end
end My
/-! timelines: twin -/
namespace My
open PySem PySem.Spec PyProof.Rows L2
def spLTwin (C : Addr) : Sp := fun vs H Q _ => ∃ (a u d : Addr) (st : V) (done undone : List V), vs = [.ref a] ∧ LnAt C H a u d st done undone ∧ done.length ≤ 1000 ∧ undone.length ≤ 1000 ∧
  ∀ (H' : Hp) (x u' d' : Addr), Same H H' → H x = none → H u' = none → H d' = none → LnAt C H' x u' d' st done undone → Q (.ref x) H'
section
variable {P : Program} {w : World} {K : PySem.W.Frag} {mg : Str → Option Value} {base : Heap} {C : Addr}
theorem ok_ltwin (F : ∃ (f : Addr) (fd : FuncData), Fun K "twin" "Timeline.twin" s_Timeline_twin f fd ∧ Meth K C "twin" f ∧ L2.Binds K fd ["self"] []) (R : TCls K C) (B : Blt mg) (MK_Timeline : HasCX P w K mg base 2 "Timeline" C ["self", "state"] (spLineInit C)) : HasM P w K mg base 4 C "twin" ["self"] (spLTwin C) := by
  obtain ⟨f, fd, F, M, b⟩ := F
  refine ⟨f, fd, F.ok sc_Timeline_twin (fun vs H Q E h => ?_) (fun cdv A outer s H vs Q E hr h => ?_), M, b⟩
  · obtain ⟨a, u, d, st, done, undone, rfl, _⟩ := h
    rfl
  obtain ⟨a, u, d, st, done, undone, rfl, ⟨dx, ha, hu, hd, ud⟩, ld, lu, q⟩ := h
  have cl_ := R.cl
  refine ⟨_, (pss_cons (ps_set (i := 1) sc_Timeline_twin.nd rfl (Or.inl rfl) (pe_mkX MK_Timeline (hr.mono (by decide)) (by rfl) (pa_cons (L2.pe_fld (pv 0) rfl) pa_nil)))
      (pss_cons (ps_fld (pv 1) (pe_callTy call_list_of (by rfl) B.list bb_list (pa_cons (L2.pe_fld (pv 0) rfl) pa_nil)) rfl)
      (pss_cons (ps_fld (pv 1) (pe_callTy call_list_of (by rfl) B.list bb_list (pa_cons (L2.pe_fld (pv 0) rfl) pa_nil)) rfl)
      (pss_one (ps_ret (pv 1)))))), ?_⟩
  refine ⟨_, rfl, a, C, dx, _, _, rfl, ha, cl_, R.n1, rfl, fun x dz nx ndz nz => ?_⟩
  refine ⟨x, dz, st, rfl, upd_same, fun H1 u1 d1 k1 _ _ L1 => ⟨rfl, ?_⟩⟩
  obtain ⟨dy, g1, gu, gd, ud1⟩ := L1
  have s1 : Same H H1 := fun c o hc => k1 c o (ne_of_none hc nx) (by rw [upd_ne (ne_of_none hc nx), upd_ne (ne_of_none hc ndz)]; exact hc)
  clear k1
  refine ⟨_, rfl, a, C, dx, _, _, rfl, s1 _ _ ha, cl_, R.n3, rfl, d, done, rfl, .inl (SqL.of (s1 _ _ hd)), fun l nl => ?_⟩
  have s2 := same_upd (o := .lst done) nl
  have e2 := upd_same (H := H1) (a := l) (o := .lst done)
  have g2 := s2 _ _ g1
  have lx : l ≠ x := (ne_of_none g1 nl).symm
  have nlH := s1.free nl
  generalize upd H1 l (.lst done) = H2 at s2 e2 g2 ⊢
  refine ⟨_, rfl, x, C, dy, _, rfl, g2, cl_, R.n3, (by show 3 < 1000; decide), ?_⟩
  have ep : putF ("_done" : Str) (V.ref l) [(("state" : Str), st), (("_undone" : Str), V.ref u1), (("_done" : Str), V.ref d1)] = [(("state" : Str), st), (("_undone" : Str), V.ref u1), (("_done" : Str), V.ref l)] := rfl
  rw [ep]
  have s12 := s1.trans s2
  have h3 : (upd H2 x (.ins C dy [(("state" : Str), st), (("_undone" : Str), V.ref u1), (("_done" : Str), V.ref l)])) x = some (.ins C dy [(("state" : Str), st), (("_undone" : Str), V.ref u1), (("_done" : Str), V.ref l)]) := upd_same
  have k3 : Kp x H2 (upd H2 x (.ins C dy [(("state" : Str), st), (("_undone" : Str), V.ref u1), (("_done" : Str), V.ref l)])) := Kp.upd
  have s3 : Same H (upd H2 x (.ins C dy [(("state" : Str), st), (("_undone" : Str), V.ref u1), (("_done" : Str), V.ref l)])) := fun c o hc => k3 c o (ne_of_none hc nx) (s12 _ _ hc)
  have e3 := k3 _ _ lx e2
  generalize upd H2 x (.ins C dy [(("state" : Str), st), (("_undone" : Str), V.ref u1), (("_done" : Str), V.ref l)]) = H3 at h3 k3 s3 e3 ⊢
  refine ⟨_, rfl, a, C, dx, _, _, rfl, s3 _ _ ha, cl_, R.n2, rfl, u, undone, rfl, .inl (SqL.of (s3 _ _ hu)), fun m nm => ?_⟩
  have s4 := same_upd (o := .lst undone) nm
  have e4 := upd_same (H := H3) (a := m) (o := .lst undone)
  have g4 := s4 _ _ h3
  have e34 := s4 _ _ e3
  have mx : m ≠ x := (ne_of_none h3 nm).symm
  have ml : m ≠ l := (ne_of_none e3 nm).symm
  have nmH := s3.free nm
  generalize upd H3 m (.lst undone) = H4 at s4 e4 g4 e34 ⊢
  refine ⟨_, rfl, x, C, dy, _, rfl, g4, cl_, R.n2, (by show 3 < 1000; decide), ?_⟩
  have ep2 : putF ("_undone" : Str) (V.ref m) [(("state" : Str), st), (("_undone" : Str), V.ref u1), (("_done" : Str), V.ref l)] = [(("state" : Str), st), (("_undone" : Str), V.ref m), (("_done" : Str), V.ref l)] := rfl
  rw [ep2]
  have s34 := s3.trans s4
  refine ⟨_, rfl, q _ x m l (fun c o hc => ?_) nx nmH nlH ⟨dy, upd_same, by rw [upd_ne mx]; exact e4, by rw [upd_ne lx]; exact e34, ml⟩⟩
  rw [upd_ne (ne_of_none hc nx)]
  exact s34 _ _ hc
end
end My
/-! logs: made, their verdicts and their meet -/
namespace My
open PySem PySem.Spec PyProof.Rows L2
structure UCls (K : PySem.W.Frag) (C : Addr) : Prop where
  cl : Cls K C
  n1 : NoAttr K C "_line"
/-- a state: the tuple of verdicts, the next number -/
def StAt (CM : Addr) (H : Hp) (st : V) (ds : List VD) (n : Nat) : Prop := ∃ S T ps, st = .ref S ∧ H S = some (.tup [.ref T, .int (n : Nat)]) ∧ H T = some (.tup (ps.map V.ref)) ∧ Paired (VAt CM H) ps ds
theorem StAt.same {CM : Addr} {H H' : Hp} {st : V} {ds : List VD} {n : Nat} (h : StAt CM H st ds n) (s : Same H H') : StAt CM H' st ds n := by
  obtain ⟨S, T, ps, e, h1, h2, h3⟩ := h
  exact ⟨S, T, ps, e, s _ _ h1, s _ _ h2, paired_mono (fun a v h => h.same s) h3⟩
/-- a log at a: its timeline at b, the lists of that at u and d -/
def UAt (CU CL CM : Addr) (H : Hp) (a b u d : Addr) (ds : List VD) (n c : Nat) : Prop := ∃ dx st done undone, H a = some (.ins CU dx [("_line", .ref b)]) ∧ LnAt CL H b u d st done undone ∧ StAt CM H st ds n ∧ done.length ≤ c ∧ undone.length ≤ c
def spUInit (CU CL CM : Addr) : Sp := fun vs H Q _ => ∃ (p dx : Addr), vs = [.ref p] ∧ H p = some (.ins CU dx []) ∧ ∀ H' b u d, Kp p H H' → H b = none → H u = none → H d = none → UAt CU CL CM H' p b u d [] 1 0 → Q .non H'
def spVerdicts (CU CL CM : Addr) : Sp := fun vs H Q _ => ∃ (a b u d : Addr) (ds : List VD) (n c : Nat), vs = [.ref a] ∧ UAt CU CL CM H a b u d ds n c ∧ ∀ (H' : Hp) (l : Addr) (ps : List Addr), Same H H' → H l = none → H' l = some (.lst (ps.map V.ref)) → Paired (VAt CM H') ps ds → Q (.ref l) H'
def spUMeet (CU CL CM : Addr) : Sp := fun vs H Q _ => ∃ (a b u d : Addr) (ds : List VD) (n c m : Nat), vs = [.ref a] ∧ UAt CU CL CM H a b u d ds n c ∧ ds.length ≤ 100 ∧ 1 ≤ m ∧ m < 2 ^ 60 ∧ (∀ v ∈ ds, BndR m v.2.1) ∧ ∀ (H' : Hp) (x : Addr), Same H H' → H x = none → RAt CM H' x (meetsF (realmsF true ds)) → Q (.ref x) H'
section
variable {P : Program} {w : World} {K : PySem.W.Frag} {mg : Str → Option Value} {base : Heap} {CU CL CM : Addr}
theorem ok_uinit {f : Addr} {fd : FuncData} (F : Fun K "__init__" "Unseen.__init__" s_Unseen_init f fd) (R : UCls K CU) (MK_Timeline : HasCX P w K mg base 2 "Timeline" CL ["self", "state"] (spLineInit CL)) : FnOk P w K mg base (L2.CX P w) 4 f fd ["self"] (spUInit CU CL CM) := by
  refine F.okX sc_Unseen_init (fun vs H Q E h => ?_) (fun cdv A outer s H vs Q E hr h => ?_)
  · obtain ⟨p, dx, rfl, _⟩ := h
    rfl
  obtain ⟨p, dx, rfl, hp, q⟩ := h
  have cl_ := R.cl
  refine ⟨_, (pss_one (ps_fld (pv 0) (pe_mkX MK_Timeline (hr.mono (by decide)) (by rfl) (pa_cons (pe_tup (pa_cons (pe_tup pa_nil) (pa_cons pe_int pa_nil))) pa_nil)) rfl)), ?_⟩
  refine ⟨(by show 0 ≤ sizeLine; decide), fun T nT => ⟨(by show 2 ≤ sizeLine; decide), fun S nS => fun x dz nx ndz nz => ?_⟩⟩
  have s1 := same_upd (o := .tup []) nT
  have s2 := same_upd (o := .tup [.ref T, .int 1]) nS
  have eT := s2 _ _ (upd_same (H := H) (a := T) (o := .tup []))
  have eS := upd_same (H := upd H T (.tup [])) (a := S) (o := .tup [.ref T, .int 1])
  have s12 := s1.trans s2
  generalize upd (upd H T (.tup [])) S (.tup [.ref T, .int 1]) = H2 at *
  refine ⟨x, dz, .ref S, rfl, upd_same, fun H3 u d k3 nu nd L3 => ⟨rfl, ?_⟩⟩
  have s3 : Same H2 H3 := fun c o hc => k3 c o (ne_of_none hc nx) (by rw [upd_ne (ne_of_none hc nx), upd_ne (ne_of_none hc ndz)]; exact hc)
  have L3' := L3
  obtain ⟨dy, g1, gu, gd, ud⟩ := L3'
  have s13 := s12.trans s3
  have hp3 := s13 _ _ hp
  have xp : x ≠ p := (ne_of_none (s12 _ _ hp) nx).symm
  have up : u ≠ p := ne_of gu hp3 fun z => by cases z
  have dp : d ≠ p := ne_of gd hp3 fun z => by cases z
  refine ⟨_, rfl, p, CU, dx, [], rfl, hp3, cl_, R.n1, by decide, ?_⟩
  have ep : putF ("_line" : Str) (V.ref x) [] = [(("_line" : Str), V.ref x)] := rfl
  rw [ep]
  have nu0 : H u = none := s12.free (by
    cases e : H2 u with
    | none => rfl
    | some o =>
      have ux : u ≠ x := ne_of_none e nx
      have uz : u ≠ dz := ne_of_none e ndz
      rw [upd_ne ux, upd_ne uz, e] at nu
      cases nu)
  have nd0 : H d = none := s12.free (by
    cases e : H2 d with
    | none => rfl
    | some o =>
      have ux : d ≠ x := ne_of_none e nx
      have uz : d ≠ dz := ne_of_none e ndz
      rw [upd_ne ux, upd_ne uz, e] at nd
      cases nd)
  have Sp : S ≠ p := ne_of (s3 _ _ eS) hp3 fun z => by cases z
  have Tp : T ≠ p := ne_of (s3 _ _ eT) hp3 fun z => by cases z
  refine q _ x u d ((Kp.of s13).trans Kp.upd) (s12.free nx) nu0 nd0 ⟨dx, .ref S, [], [], upd_same, ⟨dy, by rw [upd_ne xp]; exact g1, by rw [upd_ne up]; exact gu, by rw [upd_ne dp]; exact gd, ud⟩, ⟨S, T, [], rfl, by rw [upd_ne Sp]; exact s3 _ _ eS, by rw [upd_ne Tp]; exact s3 _ _ eT, .nil⟩, by decide, by decide⟩
end
end My
/-! the truth of an own object (its __bool__), `not o` as a value -/
namespace OwO
open PySem PySem.Spec PyProof.Rows L2
section
variable {X : Cx} {k : Nat} {C f : Addr} {fd : FuncData} {ps : List Str} {sp : Sp} {a : Expr} {ta : TE} {pos : Pos}
theorem tru_own {m : Str} (hm : m = "__bool__") (S : Spc X.K C m f) (F : FnOk X.prog X.w X.K X.mg X.base CX0 k f fd ps sp) (hb : Binds X.K fd ps []) (hr : Room k X.A) :
    TruR X (fun x H Q => ∃ a dx fs, x = .ref a ∧ H a = some (.ins C dx fs) ∧ sp [.ref a] H (fun v H' => ∃ b : Bool, v = .bl b ∧ Q b H') E0) := by
  subst hm
  intro pins s σ H x v Q I rx h
  obtain ⟨a, dx, fs, rfl, ha, hsp⟩ := h
  obtain rfl : v = Value.ref a := rx
  obtain ⟨mA, J, _⟩ := ins_get I.hok ha
  obtain ⟨od, J, _⟩ := J.look
  obtain ⟨m, hF⟩ := I.fr
  have hl := F.len _ _ _ _ hsp
  refine PySem.W.truthy_K hF I.ok.mod.kin J S.at_ S.fn ?_
  refine wpAny_call (codeAny_mono (F.run X.A X.stack s H ⟨[.ref a], []⟩ [.ref a] [.ref a] _ E0 hr I.env0 (hb s [.ref a] I.kIn (by simpa using hl)) (.cons rfl .nil) hsp) fun r s' hq => ?_)
  cases r with
  | error e => exact (show False from hq).elim
  | ok fl =>
    cases fl with
    | ret w =>
      obtain ⟨v, H', I', rv, z, rfl, q⟩ := I.after hq
      cases rv
      exact ⟨H', I', q⟩
    | next => exact False.elim hq
    | brk => exact False.elim hq
    | cont => exact False.elim hq
theorem pe_notR {r : V → Hp → (Bool → Hp → Prop) → Prop} (ha : PE X a ta) (hr : TruR X r) : PE X (.UnaryOp .Not a pos) (fun σ H Q => ta σ H fun x H1 => r x H1 fun c H2 => Q (.bl (!c)) H2) := by
  refine ⟨fun pins s σ H Q I h => ?_⟩
  refine UnaryOp_ (thn (ha.run pins s σ H _ I h) fun v s1 ⟨x, H1, I1, r1, q1⟩ => ?_)
  exact not_of (thn (hr pins s1 σ H1 x v (fun c H2 => Q (.bl (!c)) H2) I1 r1 q1) fun c s2 ⟨H2, I2, q2⟩ => ⟨.bl (!c), H2, I2, rfl, q2⟩)
end
end OwO
/-! logs: verdicts, meet, len -/
namespace My
open PySem PySem.Spec PyProof.Rows L2
theorem realmsF_len {w : Bool} {ds : List VD} : (realmsF w ds).length ≤ ds.length := by
  unfold realmsF
  rw [List.length_map]
  exact List.length_filter_le _ _
theorem realmsF_mem {w : Bool} {ds : List VD} {N : RN} (h : N ∈ realmsF w ds) : ∃ v ∈ ds, v.2.1 = N := by
  unfold realmsF at h
  obtain ⟨v, hv, e⟩ := List.mem_map.mp h
  exact ⟨v, (List.mem_filter.mp hv).1, e⟩
def spULen (CU CL CM : Addr) : Sp := fun vs H Q _ => ∃ (a b u d : Addr) (ds : List VD) (n c : Nat), vs = [.ref a] ∧ UAt CU CL CM H a b u d ds n c ∧ ds.length ≤ 100 ∧ Q (.int (ds.length : Nat)) H
section
variable {P : Program} {w : World} {K : PySem.W.Frag} {mg : Str → Option Value} {base : Heap} {CU CL CM : Addr}
theorem ok_verdicts (F : ∃ (f : Addr) (fd : FuncData), Fun K "verdicts" "Unseen.verdicts" s_Unseen_verdicts f fd ∧ Meth K CU "verdicts" f ∧ L2.Binds K fd ["self"] []) (RU : UCls K CU) (RL : TCls K CL) (B : Blt mg) : HasM P w K mg base 1 CU "verdicts" ["self"] (spVerdicts CU CL CM) := by
  obtain ⟨f, fd, F, M, b⟩ := F
  refine ⟨f, fd, F.ok sc_Unseen_verdicts (fun vs H Q E h => ?_) (fun cdv A outer s H vs Q E hr h => ?_), M, b⟩
  · obtain ⟨a, b, u, d, ds, n, c, rfl, _⟩ := h
    rfl
  obtain ⟨a, b, u, d, ds, n, c, rfl, h, q⟩ := h
  refine ⟨_, (pss_one (ps_ret (pe_callTy call_list_of (by rfl) B.list bb_list (pa_cons (pe_ix ix_seq (L2.pe_fld (L2.pe_fld (pv 0) rfl) rfl) pe_int (fun _ _ => rfl)) pa_nil)))), ?_⟩
  obtain ⟨dx, st, done, undone, h1, ⟨dl, h2, h3, h4, h5⟩, ⟨S, T, ps, rfl, eS, eT, pp⟩, _, _⟩ := id h
  refine ⟨_, rfl, a, CU, dx, _, _, rfl, h1, RU.cl, RU.n1, rfl, b, CL, dl, _, _, rfl, h2, RL.cl, RL.n1, rfl, .inr (.inl ⟨S, _, 0, _, rfl, rfl, SqT.of eS, rfl, ?_⟩)⟩
  refine ⟨T, _, rfl, .inr (SqT.of eT), fun l nl => ?_⟩
  exact q _ l ps (same_upd nl) nl upd_same (paired_mono (fun a v h => h.same (same_upd nl)) pp)
theorem ok_umeet (F : ∃ (f : Addr) (fd : FuncData), Fun K "meet" "Unseen.meet" s_Unseen_meet f fd ∧ Meth K CU "meet" f ∧ L2.Binds K fd ["self"] []) (RU : UCls K CU) (RL : TCls K CL) (G_meet_of : Has P w K mg base 8 "meet_of" ["realms"] (spMeetOf CM)) (G_realms_of : Has P w K mg base 1 "realms_of" ["verdicts", "right"] (spRealmsOf CM)) :
    HasM P w K mg base 9 CU "meet" ["self"] (spUMeet CU CL CM) := by
  obtain ⟨f, fd, F, M, b⟩ := F
  refine ⟨f, fd, F.ok sc_Unseen_meet (fun vs H Q E h => ?_) (fun cdv A outer s H vs Q E hr h => ?_), M, b⟩
  · obtain ⟨a, b, u, d, ds, n, c, m, rfl, _⟩ := h
    rfl
  obtain ⟨a, b, u, d, ds, n, c, m, rfl, h, ld, m1, m2, hb, q⟩ := h
  refine ⟨_, (pss_one (ps_ret (pe_own G_meet_of (hr.mono (by decide)) (by rfl) (pa_cons (pe_own G_realms_of (hr.mono (by decide)) (by rfl) (pa_cons (pe_ix ix_seq (L2.pe_fld (L2.pe_fld (pv 0) rfl) rfl) pe_int (fun _ _ => rfl)) (pa_cons pe_bl pa_nil))) pa_nil)))), ?_⟩
  obtain ⟨dx, st, done, undone, h1, ⟨dl, h2, h3, h4, h5⟩, ⟨S, T, ps, rfl, eS, eT, pp⟩, _, _⟩ := id h
  refine ⟨_, rfl, a, CU, dx, _, _, rfl, h1, RU.cl, RU.n1, rfl, b, CL, dl, _, _, rfl, h2, RL.cl, RL.n1, rfl, .inr (.inl ⟨S, _, 0, _, rfl, rfl, SqT.of eS, rfl, ?_⟩)⟩
  refine ⟨T, ps, ds, true, rfl, .inl eT, pp, ld, fun H1 l rs s1 nl e1 p1 => ?_⟩
  refine ⟨l, rs, realmsF true ds, m, rfl, e1, p1, Nat.le_trans realmsF_len ld, m1, m2, fun N hN => ?_, fun H2 x s2 nx hx => q H2 x (s1.trans s2) (s1.free nx) hx⟩
  obtain ⟨v, hv, rfl⟩ := realmsF_mem hN
  exact hb v hv
theorem ok_ulen {f : Addr} {fd : FuncData} (F : Fun K "__len__" "Unseen.__len__" s_Unseen_len f fd) (RU : UCls K CU) (RL : TCls K CL) (B : Blt mg) : FnOk P w K mg base CX0 1 f fd ["self"] (spULen CU CL CM) := by
  refine F.ok sc_Unseen_len (fun vs H Q E h => ?_) (fun cdv A outer s H vs Q E hr h => ?_)
  · obtain ⟨a, b, u, d, ds, n, c, rfl, _⟩ := h
    rfl
  obtain ⟨a, b, u, d, ds, n, c, rfl, h, ld, q⟩ := h
  refine ⟨_, (pss_one (ps_ret (pe_callB call_len (by rfl) B.len bb_len (pa_cons (pe_ix ix_seq (L2.pe_fld (L2.pe_fld (pv 0) rfl) rfl) pe_int (fun _ _ => rfl)) pa_nil)))), ?_⟩
  obtain ⟨dx, st, done, undone, h1, ⟨dl, h2, h3, h4, h5⟩, ⟨S, T, ps, rfl, eS, eT, pp⟩, _, _⟩ := id h
  refine ⟨_, rfl, a, CU, dx, _, _, rfl, h1, RU.cl, RU.n1, rfl, b, CL, dl, _, _, rfl, h2, RL.cl, RL.n1, rfl, .inr (.inl ⟨S, _, 0, _, rfl, rfl, SqT.of eS, rfl, ?_⟩)⟩
  refine ⟨_, _, rfl, .inr ⟨_, SqT.of eT, rfl⟩, ?_⟩
  rw [List.length_map, pair_len pp]
  exact q
end
end My
/-! own defs with *args, properties, methods, makers by position, len -/
namespace OwO
open PySem PySem.Spec PyProof.Rows L2
section
variable {X : Cx} {k : Nat} {C f : Addr} {fd : FuncData} {ps : List Str} {sp : Sp}
/-- len(o), by an own __len__ -/
theorem cr_len {m : Str} (hm : m = "__len__") (S : Spc X.K C m f) (F : FnOk X.prog X.w X.K X.mg X.base CX0 k f fd ps sp) (hb : Binds X.K fd ps []) (hr : Room (k + 1) X.A) :
    CallR X (.builtin "len") (fun xs H Q => ∃ a dx fs, xs = [.ref a] ∧ H a = some (.ins C dx fs) ∧ sp [.ref a] H (fun v H' => ∃ n : Nat, v = .int n ∧ n < 1000000 ∧ Q (.int n) H') E0) := by
  subst hm
  intro pins s σ H xs us Q I r h
  obtain ⟨a, dx, fs, rfl, ha, hsp⟩ := h
  obtain rfl := Vals.ref1 r
  obtain ⟨mA, J, _⟩ := ins_get I.hok ha
  obtain ⟨od, J, _⟩ := J.look
  obtain ⟨m, hF⟩ := I.fr
  have hl := F.len _ _ _ _ hsp
  refine PySem.W.len_K hF I.ok.mod.kin J S.at_ S.fn ?_
  refine wpAny_call (codeAny_mono (F.run X.A.in1 X.stack s H ⟨[.ref a], []⟩ [.ref a] [.ref a] _ E0 hr.in1 I.env0.in1 (hb s [.ref a] I.kIn (by simpa using hl)) (.cons rfl .nil) hsp) fun r s' hq => ?_)
  cases r with
  | error e => exact (show False from hq).elim
  | ok fl =>
    cases fl with
    | ret w =>
      obtain ⟨v, H', I', rv, n, rfl, hn, q⟩ := I.after hq
      obtain ⟨t, rfl⟩ := rv
      refine ⟨⟨by omega, by omega⟩, .int n, H', I'.tok _, ⟨_, rfl⟩, q⟩
    | next => exact False.elim hq
    | brk => exact False.elim hq
    | cont => exact False.elim hq
end
end OwO
/-! rules with K given from outside -/
namespace LcN
open PySem PySem.Spec PyProof.Rows L2
theorem ix_listK {X : Cx} (K : PySem.W.Frag) (e : X.K = K) : IxR X (rIxL K) := by
  subst e
  exact ix_list
theorem ix_tupK {X : Cx} (K : PySem.W.Frag) (e : X.K = K) : IxR X (rIxT K) := by
  subst e
  exact ix_tup
theorem in_seqK {X : Cx} (K : PySem.W.Frag) (e : X.K = K) : OpR X (compareOp .In) (rIn K false) := by
  subst e
  exact op_in_seq
end LcN
/-! logs: _check_space, judge, _is_needless, needless -/
namespace My
open PySem PySem.Spec PyProof.Rows L2
/-- there is place for more -/
def spSpace (CU CL CM : Addr) : Sp := fun vs H Q _ => ∃ (a b u d : Addr) (ds : List VD) (n c : Nat), vs = [.ref a] ∧ UAt CU CL CM H a b u d ds n c ∧ ds.length < 40 ∧ Q .non H
def meetL (ds : List VD) : RN := meetsF (realmsF true ds)
/-- how a log of these verdicts judges a realm: right, wrong or open -/
def judgeF (ds : List VD) (N : RN) : Str := if withinB (meetL ds) N then "right" else if (meetF (meetL ds) N).2.1 = 1 ∨ ((realmsF false ds).any fun M => withinB (meetF (meetL ds) N) M) = true then "wrong" else "open"
def others (ds : List VD) (v : VD) : List VD := ds.filter fun x => x.1 != v.1
def idleF (ds : List VD) (v : VD) : Bool := if v.2.2 then decide (meetL (others ds v) = meetL ds) else decide ((meetF (meetL ds) v.2.1).2.1 = 1) || (realmsF false (others ds v)).any fun M => withinB (meetF (meetL ds) v.2.1) M
def idles (ds : List VD) : List Nat := (ds.filter fun v => idleF ds v).map (·.1)
/-- verdicts of moderate size -/
structure OkV (m : Nat) (ds : List VD) : Prop where
  ln : ds.length ≤ 30
  m1 : 1 ≤ m
  m2 : m < 2 ^ 60
  bd : ∀ v ∈ ds, BndR m v.2.1
theorem OkV.meet {m : Nat} {ds : List VD} (h : OkV m ds) : BndR m (meetL ds) := bnd_meets (fun N hN => by
  obtain ⟨v, hv, rfl⟩ := realmsF_mem hN
  exact h.bd v hv) bnd_all
def spJudge (CU CL CM : Addr) : Sp := fun vs H Q _ => ∃ (a b u d r : Addr) (ds : List VD) (n c m : Nat) (N : RN), vs = [.ref a, .ref r] ∧ UAt CU CL CM H a b u d ds n c ∧ RAt CM H r N ∧ OkV m ds ∧ BndR m N ∧ ∀ H', Same H H' → Q (.str (judgeF ds N)) H'
def spIdle (CU CL CM : Addr) : Sp := fun vs H Q _ => ∃ (a b u d p : Addr) (ds : List VD) (v : VD) (n c m : Nat), vs = [.ref a, .ref p] ∧ UAt CU CL CM H a b u d ds n c ∧ VAt CM H p v ∧ OkV m ds ∧ BndR m v.2.1 ∧ ∀ H', Same H H' → Q (.bl (idleF ds v)) H'
def spNeedless (CU CL CM : Addr) : Sp := fun vs H Q _ => ∃ (a b u d : Addr) (ds : List VD) (n c m : Nat), vs = [.ref a] ∧ UAt CU CL CM H a b u d ds n c ∧ OkV m ds ∧ ∀ (H' : Hp) (l : Addr), Same H H' → H l = none → H' l = some (.lst ((idles ds).map fun (k : Nat) => V.int (k : Int))) → Q (.ref l) H'
section
variable {P : Program} {w : World} {K : PySem.W.Frag} {mg : Str → Option Value} {base : Heap} {CU CL CM : Addr} {mc : Value}
theorem ok_space {fL : Addr} {fdL : FuncData} {uM : Value} (F : ∃ (f : Addr) (fd : FuncData), Fun K "_check_space" "Unseen._check_space" s_Unseen__check_space f fd ∧ Meth K CU "_check_space" f ∧ L2.Binds K fd ["self"] []) (RU : UCls K CU) (B : Blt mg) (LNS : OwO.Spc K CU "__len__" fL) (LNF : FnOk P w K mg base CX0 1 fL fdL ["self"] (spULen CU CL CM)) (LNb : L2.Binds K fdL ["self"] [])
    (CV : Con K CU "MOST" (.int 40) uM) : HasM P w K mg base 3 CU "_check_space" ["self"] (spSpace CU CL CM) := by
  obtain ⟨f, fd, F, M, b⟩ := F
  refine ⟨f, fd, F.ok sc_Unseen__check_space (fun vs H Q E h => ?_) (fun cdv A outer s H vs Q E hr h => ?_), M, b⟩
  · obtain ⟨a, b, u, d, ds, n, c, rfl, _⟩ := h
    rfl
  obtain ⟨a, b, u, d, ds, n, c, rfl, h, ld, q⟩ := h
  refine ⟨_, (pss_one (ps_if (pt_cmpR op_ge (pe_callB (OwO.cr_len rfl LNS LNF LNb (hr.mono (by decide))) (by rfl) B.len bb_len (pa_cons (pv 0) pa_nil)) (L2.pe_con (pv 0) rfl) (nomark _))
        (pss_one ps_never)
        pss_nil)), ?_⟩
  obtain ⟨dx, st, done, undone, h1, _⟩ := id h
  refine ⟨_, rfl, a, dx, _, rfl, h1, a, b, u, d, ds, n, c, rfl, h, by omega, _, rfl, by omega, _, rfl, a, CU, dx, _, _, _, rfl, h1, RU.cl, CV, rfl, _, _, rfl, rfl, _, rfl, ite_no (by simp; omega) q⟩
end
end My
/-! logs: judge -/
namespace My
open PySem PySem.Spec PyProof.Rows L2
theorem UAt.same {CU CL CM : Addr} {H H' : Hp} {a b u d : Addr} {ds : List VD} {n c : Nat} (h : UAt CU CL CM H a b u d ds n c) (s : Same H H') : UAt CU CL CM H' a b u d ds n c := by
  obtain ⟨dx, st, done, undone, h1, ⟨dl, h2, h3, h4, h5⟩, e, h6, h7⟩ := h
  exact ⟨dx, st, done, undone, s _ _ h1, ⟨dl, s _ _ h2, s _ _ h3, s _ _ h4, h5⟩, e.same s, h6, h7⟩
theorem OkV.l100 {m : Nat} {ds : List VD} (ok : OkV m ds) : ds.length ≤ 100 := Nat.le_trans ok.ln (by decide)
section
variable {P : Program} {w : World} {K : PySem.W.Frag} {mg : Str → Option Value} {base : Heap} {CU CL CM : Addr} {mc : Value}
theorem ok_judge {fA fB : Addr} {fdA fdB : FuncData} (F : ∃ (f : Addr) (fd : FuncData), Fun K "judge" "Unseen.judge" s_Unseen_judge f fd ∧ Meth K CU "judge" f ∧ L2.Binds K fd ["self", "realm"] []) (RU : UCls K CU) (RL : TCls K CL) (R : RCls K CM mc) (M_meet : HasM P w K mg base 9 CU "meet" ["self"] (spUMeet CU CL CM))
    (M_within : HasM P w K mg base 3 CM "within" ["self", "other"] (spWithin CM)) (G_lies_in_one : Has P w K mg base 4 "lies_in_one" ["realm", "others"] (spLies CM)) (G_realms_of : Has P w K mg base 1 "realms_of" ["verdicts", "right"] (spRealmsOf CM))
    (ANS : OwO.Spc K CM "__and__" fA) (ANF : FnOk P w K mg base CX0 7 fA fdA ["self", "other"] (spAnd CM)) (ANb : L2.Binds K fdA ["self", "other"] []) (hSF : PySem.W.selfFirst K CM = true)
    (BLS : OwO.Spc K CM "__bool__" fB) (BLF : FnOk P w K mg base CX0 3 fB fdB ["self"] (spBoolR CM)) (BLb : L2.Binds K fdB ["self"] []) : HasM P w K mg base 10 CU "judge" ["self", "realm"] (spJudge CU CL CM) := by
  obtain ⟨f, fd, F, M, b⟩ := F
  refine ⟨f, fd, F.ok sc_Unseen_judge (fun vs H Q E h => ?_) (fun cdv A outer s H vs Q E hr h => ?_), M, b⟩
  · obtain ⟨a, b, u, d, r, ds, n, c, m, N, rfl, _⟩ := h
    rfl
  obtain ⟨a, b, u, d, r, ds, n, c, m, N, rfl, h, hr0, ok, bN, q⟩ := h
  have cu := RU.cl
  have cm := R.cl
  obtain ⟨dx, st, done, undone, h1, _⟩ := id h
  refine ⟨_, (pss_cons (ps_set (i := 2) sc_Unseen_judge.nd rfl (Or.inl rfl) (pe_ownM0 (by assumption) M_meet (hr.mono (by decide)) (pv 0)))
      (pss_cons (ps_if (pt_val (pe_ownM (by assumption) M_within (hr.mono (by decide)) (pv 2) (pa_cons (pv 1) pa_nil)))
        (pss_one (ps_ret pe_str))
        pss_nil)
      (pss_cons (ps_set (i := 3) sc_Unseen_judge.nd rfl (Or.inl rfl) (pe_op (OwO.op_binO (K0 := K) rfl ANS ANF ANb hSF (hr.mono (by decide)) rfl) (pv 2) (pv 1)))
      (pss_cons (ps_if (PW.pt (pw_or (pt_not (pt_truthR (pv 3) (OwO.tru_own rfl BLS BLF BLb (hr.mono (by decide))) (fun _ => rfl))) (pw_or1 (pt_val (pe_own G_lies_in_one (hr.mono (by decide)) (by rfl) (pa_cons (pv 3) (pa_cons (pe_own G_realms_of (hr.mono (by decide)) (by rfl) (pa_cons (pe_ix ix_seq (L2.pe_fld (L2.pe_fld (pv 0) rfl) rfl) pe_int (fun _ _ => rfl)) (pa_cons pe_bl pa_nil))) pa_nil)))))))
        (pss_one (ps_ret pe_str))
        pss_nil)
      (pss_one (ps_ret pe_str)))))), ?_⟩
  refine ⟨_, rfl, a, dx, _, rfl, h1, rfl, a, b, u, d, ds, n, c, m, rfl, h, ok.l100, ok.m1, ok.m2, ok.bd, fun H1 x s1 nx hx => ?_⟩
  have hx : RAt CM H1 x (meetL ds) := hx
  obtain ⟨dx1, T1, g1, _⟩ := id hx
  have hr1 := hr0.same s1
  refine ⟨_, rfl, x, dx1, _, rfl, g1, rfl, _, rfl, x, r, meetL ds, N, rfl, hx, hr1, fun H2 s2 => ⟨_, rfl, ?_⟩⟩
  unfold judgeF at q
  cases e : withinB (meetL ds) N with
  | true =>
    rw [e] at q
    exact iteT (q H2 (s1.trans s2))
  | false =>
    rw [e] at q
    refine iteF ?_
    have hx2 := hx.same s2
    have hr2 := hr1.same s2
    obtain ⟨dx2, T2, g2, _⟩ := id hx2
    obtain ⟨dr2, Tr2, k2, _⟩ := id hr2
    refine ⟨_, rfl, _, rfl, x, dx2, _, r, rfl, rfl, g2, R.ty k2, x, r, _, N, rfl, hx2, hr2, ok.meet.sm ok.m1 ok.m2, bN.sm ok.m1 ok.m2, fun H3 z X nX s3 nz hz => ⟨z, rfl, ?_⟩⟩
    have eX := meet_of nX
    subst eX
    have s13 := s1.trans (s2.trans s3)
    obtain ⟨dz, Tz, gz, _⟩ := id hz
    have h3 := h.same s13
    obtain ⟨dx3, st3, done3, undone3, h1c, ⟨dl, h2, h3', h4, h5⟩, ⟨S, T, ps, rfl, eS, eT, pp⟩, _, _⟩ := id h3
    refine ⟨_, rfl, z, dz, _, rfl, gz, z, _, _, _, _, rfl, hz, _, rfl, ?_⟩
    by_cases e1 : (meetF (meetL ds) N).2.1 = 1
    · rw [if_neg (by decide), if_pos (.inl e1)] at q
      rw [decide_eq_true e1]
      exact iteT (q H3 s13)
    · rw [decide_eq_false e1]
      refine iteF ⟨_, rfl, _, rfl, a, CU, _, _, _, rfl, h1c, RU.cl, RU.n1, rfl, b, CL, dl, _, _, rfl, h2, RL.cl, RL.n1, rfl, .inr (.inl ⟨S, _, 0, _, rfl, rfl, SqT.of eS, rfl, ?_⟩)⟩
      refine ⟨T, ps, ds, false, rfl, .inl eT, pp, ok.l100, fun H4 l rs s4 nl e4 p4 => ?_⟩
      refine ⟨z, l, rs, _, _, rfl, hz.same s4, e4, p4, Nat.le_trans realmsF_len ok.l100, fun H5 s5 => ⟨_, rfl, ?_⟩⟩
      cases e2 : ((realmsF false ds).any fun M => withinB (meetF (meetL ds) N) M) with
      | true =>
        rw [if_neg (by decide), if_pos (.inr e2)] at q
        exact iteT (q H5 (s13.trans (s4.trans s5)))
      | false =>
        rw [if_neg (by decide), if_neg (fun z => z.elim e1 fun y => by rw [e2] at y; cases y)] at q
        exact iteF (q H5 (s13.trans (s4.trans s5)))
end
end My
/-! logs: _is_needless -/
namespace My
open PySem PySem.Spec PyProof.Rows L2
theorem others_snoc {v x : VD} {ds : List VD} {i : Nat} (h : ds[i]? = some x) : others (ds.take (i + 1)) v = others (ds.take i) v ++ (if x.1 != v.1 then [x] else []) := by
  unfold others
  rw [take_snoc h, List.filter_append]
  cases e : (x.1 != v.1) with
  | true => simp [List.filter_cons, e]
  | false => simp [List.filter_cons, e]
theorem others_len {v : VD} {ds : List VD} : (others ds v).length ≤ ds.length := List.length_filter_le _ _
theorem OkV.others {m : Nat} {ds : List VD} {v : VD} (ok : OkV m ds) : OkV m (others ds v) := ⟨Nat.le_trans others_len ok.ln, ok.m1, ok.m2, fun x hx => ok.bd x (List.mem_filter.mp hx).1⟩
section
variable {P : Program} {w : World} {K : PySem.W.Frag} {mg : Str → Option Value} {base : Heap} {CU CL CM : Addr} {mc : Value}
theorem ok_is_needless {fA fB fE : Addr} {fdA fdB fdE : FuncData} (F : ∃ (f : Addr) (fd : FuncData), Fun K "_is_needless" "Unseen._is_needless" s_Unseen__is_needless f fd ∧ Meth K CU "_is_needless" f ∧ L2.Binds K fd ["self", "verdict"] []) (RU : UCls K CU) (RL : TCls K CL) (R : RCls K CM mc) (M_meet : HasM P w K mg base 9 CU "meet" ["self"] (spUMeet CU CL CM))
    (G_lies_in_one : Has P w K mg base 4 "lies_in_one" ["realm", "others"] (spLies CM)) (G_meet_of : Has P w K mg base 8 "meet_of" ["realms"] (spMeetOf CM)) (G_realms_of : Has P w K mg base 1 "realms_of" ["verdicts", "right"] (spRealmsOf CM))
    (ANS : OwO.Spc K CM "__and__" fA) (ANF : FnOk P w K mg base CX0 7 fA fdA ["self", "other"] (spAnd CM)) (ANb : L2.Binds K fdA ["self", "other"] []) (hSF : PySem.W.selfFirst K CM = true)
    (BLS : OwO.Spc K CM "__bool__" fB) (BLF : FnOk P w K mg base CX0 3 fB fdB ["self"] (spBoolR CM)) (BLb : L2.Binds K fdB ["self"] [])
    (EQS : OwO.Spc K CM "__eq__" fE) (EQF : FnOk P w K mg base CX0 1 fE fdE ["self", "other"] (spEqR CM)) (EQb : L2.Binds K fdE ["self", "other"] []) : HasM P w K mg base 10 CU "_is_needless" ["self", "verdict"] (spIdle CU CL CM) := by
  obtain ⟨f, fd, F, M, b⟩ := F
  refine ⟨f, fd, F.ok sc_Unseen__is_needless (fun vs H Q E h => ?_) (fun cdv A outer s H vs Q E hr h => ?_), M, b⟩
  · obtain ⟨a, b, u, d, p, ds, v, n, c, m, rfl, _⟩ := h
    rfl
  obtain ⟨a, b, u, d, p, ds, v, n, c, m, rfl, h, hp, ok, bv, q⟩ := h
  have cu := RU.cl
  have cm := R.cl
  obtain ⟨dx, st, done, undone, h1, ⟨dl, h2, h3, h4, h5⟩, ⟨S, T, ps, rfl, eS, eT, pp⟩, _, _⟩ := id h
  refine ⟨_, (pss_cons (ps_set (i := 2) sc_Unseen__is_needless.nd rfl (Or.inl rfl) (pe_ownM0 (by assumption) M_meet (hr.mono (by decide)) (pv 0)))
      (pss_cons (ps_asg (pv 1) (pg_tup rfl (pgs_cons (pg_name (i := 3) sc_Unseen__is_needless.nd rfl (Or.inr rfl)) (pgs_cons (pg_name (i := 4) sc_Unseen__is_needless.nd rfl (Or.inl rfl)) (pgs_cons (pg_name (i := 5) sc_Unseen__is_needless.nd rfl (Or.inl rfl)) pgs_nil)))))
      (pss_cons (ps_set (i := 6) sc_Unseen__is_needless.nd rfl (Or.inl rfl) (pe_own G_realms_of (hr.mono (by decide)) (by rfl) (pa_cons (pe_lc (own := [("other", 7)]) (g := gName 7) (by rfl) sc_Unseen__is_needless.nd (pi_tup (pe_ix ix_seq (L2.pe_fld (L2.pe_fld (pv 0) rfl) rfl) pe_int (fun _ _ => rfl))) (blkOk_by (own := [("other", 7)]) (N := N_Unseen__is_needless) (sc := defScope s_Unseen__is_needless) (by decide +kernel)) (fun _ _ _ _ _ => (pg_name (i := 7) sc_Unseen__is_needless.nd rfl (Or.inl rfl))) (fun _ _ _ _ _ => (pts_one (pt_cmpR op_ne (pe_ix (LcN.ix_tupK K rfl) (pv 7) pe_int (fun _ _ => rfl)) (pv 3) (nomark _)))) (fun _ _ _ _ _ => (pv 7))) (pa_cons (pv 5) pa_nil))))
      (pss_cons (ps_if (pt_val (pv 5))
        (pss_one (ps_ret (pe_cmpR (OwO.op_eqO (K0 := K) rfl EQS EQF EQb (hr.mono (by decide)) rfl) (pe_own G_meet_of (hr.mono (by decide)) (by rfl) (pa_cons (pv 6) pa_nil)) (pv 2) (nomark _))))
        pss_nil)
      (pss_cons (ps_set (i := 8) sc_Unseen__is_needless.nd rfl (Or.inl rfl) (pe_op (OwO.op_binO (K0 := K) rfl ANS ANF ANb hSF (hr.mono (by decide)) rfl) (pv 2) (pv 4)))
      (pss_one (ps_ret (pe_or (OwO.pe_notR (pv 8) (OwO.tru_own rfl BLS BLF BLb (hr.mono (by decide)))) (pe_one (pe_own G_lies_in_one (hr.mono (by decide)) (by rfl) (pa_cons (pv 8) (pa_cons (pv 6) pa_nil)))))))))))), ?_⟩
  refine ⟨_, rfl, a, dx, _, rfl, h1, rfl, a, b, u, d, ds, n, c, m, rfl, h, ok.l100, ok.m1, ok.m2, ok.bd, fun H1 x s1 nx hx => ?_⟩
  have hx : RAt CM H1 x (meetL ds) := hx
  obtain ⟨r, e1, e2⟩ := id (hp.same s1)
  refine ⟨_, rfl, _, _, rfl, SqT.of e1, rfl, _, _, rfl, _, _, rfl, _, _, rfl, rfl, ?_⟩
  refine ⟨_, rfl, a, CU, dx, _, _, rfl, s1 _ _ h1, RU.cl, RU.n1, rfl, b, CL, dl, _, _, rfl, s1 _ _ h2, RL.cl, RL.n1, rfl, .inr (.inl ⟨S, _, 0, _, rfl, rfl, SqT.of (s1 _ _ eS), rfl, ?_⟩)⟩
  refine ⟨T, rfl, ⟨_, SqT.of (s1 _ _ eT)⟩, fun D nD => ?_⟩
  have pp1 : Paired (VAt CM H1) ps ds := paired_mono (fun a v h => h.same s1) pp
  refine lc_it (walk_tup (K := K) (xs := ps.map V.ref)) (fun i Hz => ∃ qs : List Addr, Same H1 Hz ∧ Hz D = some (.lst (qs.map V.ref)) ∧ qs.length ≤ i ∧ Paired (VAt CM H1) qs (others (ds.take i) v)) ⟨[], same_upd nD, upd_same, Nat.le_refl _, .nil⟩ (fun i Hz _ ⟨_, e, _⟩ => SqT.of (e _ _ (s1 _ _ eT))) ?_ ?_
  · rintro i y Ha Hb hi ⟨qs, sa, eD, lr, pr⟩ ⟨rfl, hv⟩
    obtain ⟨p2, hp2, rfl⟩ := at_map hv
    obtain ⟨x2, hx2, r2, k1, k2⟩ := paired_at pp1 hp2
    refine ⟨rfl, ?_⟩
    refine ⟨_, rfl, p2, _, 0, _, rfl, rfl, SqT.of (sa _ _ k1), rfl, _, rfl, rfl, _, rfl, ?_⟩
    have dq : decide (V.int ((x2.1 : Nat) : Int) = V.int ((v.1 : Nat) : Int)) = (x2.1 == v.1) := by
      rw [Bool.eq_iff_iff, decide_eq_true_iff, beq_iff_eq]
      exact ⟨fun z => Int.ofNat.inj (V.int.inj z), fun z => by rw [z]⟩
    have er := others_snoc (v := v) hx2
    cases ew : (x2.1 != v.1) with
    | false =>
      rw [ew] at er
      have e0 : (x2.1 == v.1) = true := by simpa [bne] using ew
      rw [dq, e0]
      refine iteF ⟨qs, sa, eD, by omega, ?_⟩
      rw [er]
      simpa using pr
    | true =>
      rw [ew] at er
      have e0 : (x2.1 == v.1) = false := by simpa [bne] using ew
      rw [List.length_map] at hi
      have lps := pair_len pp
      have l30 := ok.ln
      rw [dq, e0]
      refine iteT ⟨_, rfl, _, eD, small1000 (by rw [List.length_map]; omega), qs ++ [p2], fun c o hc => ?_, ?_, by rw [List.length_append]; show qs.length + 1 ≤ _; omega, ?_⟩
      · rw [upd_ne (ne_of_none hc nD)]
        exact sa _ _ hc
      · rw [upd_same, List.map_append]
        rfl
      · rw [er]
        exact Paired.snoc pr ⟨r2, k1, k2⟩
  · rintro Hz ⟨qs, sz, eD, _, pr⟩
    rw [List.length_map, List.take_of_length_le (by rw [pair_len pp]; exact Nat.le_refl _)] at pr
    have okO : OkV m (others ds v) := ok.others
    refine ⟨_, rfl, D, qs, others ds v, v.2.2, rfl, .inr eD, paired_mono (fun a v h => h.same sz) pr, okO.l100, fun H3 l rs s3 nl e3 p3 => ?_⟩
    have s13 := s1.trans (sz.trans s3)
    have hx3 := hx.same (sz.trans s3)
    obtain ⟨dx3, T3, g3, g4⟩ := id hx3
    refine ⟨_, rfl, ?_⟩
    unfold idleF at q
    have l30 := ok.ln
    cases ev : v.2.2 with
    | true =>
      rw [ev] at q p3
      refine ⟨_, rfl, iteT ?_⟩
      refine ⟨_, rfl, l, rs, _, m, rfl, e3, p3, Nat.le_trans realmsF_len okO.l100, ok.m1, ok.m2, fun N hN => ?_, fun H4 y s4 ny hy => ?_⟩
      · obtain ⟨v', hv', rfl⟩ := realmsF_mem hN
        exact okO.bd v' hv'
      have hy : RAt CM H4 y (meetL (others ds v)) := hy
      have hx4 := hx3.same s4
      obtain ⟨dy, Ty, ky, _⟩ := id hy
      obtain ⟨dx4, Tx4, kx, _⟩ := id hx4
      refine ⟨_, rfl, y, dy, _, .ref CM, rfl, ky, R.ty kx, RCls.nf1, y, _, _, _, _, .ref x, rfl, hy, .inl ⟨x, _, _, _, _, rfl, hx4, _, rfl, ?_⟩⟩
      have e : decide ([(meetL (others ds v)).1, (meetL (others ds v)).2.1, (meetL (others ds v)).2.2.1, (meetL (others ds v)).2.2.2] = [(meetL ds).1, (meetL ds).2.1, (meetL ds).2.2.1, (meetL ds).2.2.2]) = decide (meetL (others ds v) = meetL ds) := by
        refine decide_eq_decide.mpr ⟨fun z => ?_, fun z => by rw [z]⟩
        simp only [List.cons.injEq, and_true] at z
        obtain ⟨z1, z2, z3, z4⟩ := z
        exact Prod.ext z1 (Prod.ext z2 (Prod.ext z3 z4))
      rw [e]
      exact q H4 (s13.trans s4)
    | false =>
      rw [ev] at q p3
      have hr3 := (e2.same (sz.trans s3))
      obtain ⟨dr3, Tr3, k3, _⟩ := id hr3
      refine ⟨_, rfl, iteF ?_⟩
      refine ⟨_, rfl, _, rfl, x, dx3, _, r, rfl, rfl, g3, R.ty k3, x, r, _, v.2.1, rfl, hx3, hr3, ok.meet.sm ok.m1 ok.m2, bv.sm ok.m1 ok.m2, fun H4 z X nX s4 nz hz => ⟨z, rfl, ?_⟩⟩
      have eX := meet_of nX
      subst eX
      obtain ⟨dz, Tz, gz, _⟩ := id hz
      refine ⟨_, rfl, z, dz, _, rfl, gz, z, _, _, _, _, rfl, hz, _, rfl, ?_⟩
      generalize decide ((meetF (meetL ds) v.2.1).2.1 = 1) = b1 at q ⊢
      cases b1 with
      | true => exact ⟨_, rfl, iteT (q H4 (s13.trans s4))⟩
      | false =>
        refine ⟨_, rfl, iteF ?_⟩
        refine ⟨_, rfl, _, rfl, z, l, rs, _, _, rfl, hz, s4 _ _ e3, paired_mono (fun a N h => h.same s4) p3, Nat.le_trans realmsF_len okO.l100, fun H5 s5 => ?_⟩
        exact q H5 (s13.trans (s4.trans s5))
end
end My
/-! logs: needless -/
namespace My
open PySem PySem.Spec PyProof.Rows L2
theorem idle_snoc {ds es : List VD} {i : Nat} {v : VD} (h : ds[i]? = some v) : ((ds.take (i + 1)).filter fun v => idleF es v).map (·.1) = ((ds.take i).filter fun v => idleF es v).map (·.1) ++ (if idleF es v then [v.1] else []) := by
  rw [take_snoc h, List.filter_append, List.map_append]
  cases e : idleF es v with
  | true => simp [List.filter_cons, e]
  | false => simp [List.filter_cons, e]
section
variable {P : Program} {w : World} {K : PySem.W.Frag} {mg : Str → Option Value} {base : Heap} {CU CL CM : Addr} {mc : Value}
theorem ok_needless (F : ∃ (f : Addr) (fd : FuncData), Fun K "needless" "Unseen.needless" s_Unseen_needless f fd ∧ Meth K CU "needless" f ∧ L2.Binds K fd ["self"] []) (RU : UCls K CU) (RL : TCls K CL) (M__is_needless : HasM P w K mg base 10 CU "_is_needless" ["self", "verdict"] (spIdle CU CL CM)) : HasM P w K mg base 11 CU "needless" ["self"] (spNeedless CU CL CM) := by
  obtain ⟨f, fd, F, M, b⟩ := F
  refine ⟨f, fd, F.ok sc_Unseen_needless (fun vs H Q E h => ?_) (fun cdv A outer s H vs Q E hr h => ?_), M, b⟩
  · obtain ⟨a, b, u, d, ds, n, c, m, rfl, _⟩ := h
    rfl
  obtain ⟨a, b, u, d, ds, n, c, m, rfl, h, ok, q⟩ := h
  have cu := RU.cl
  obtain ⟨dx, st, done, undone, h1, ⟨dl, h2, h3, h4, h5⟩, ⟨S, T, ps, rfl, eS, eT, pp⟩, _, _⟩ := id h
  refine ⟨_, (pss_cons (ps_set (i := 1) sc_Unseen_needless.nd rfl (Or.inl rfl) (pe_ix ix_seq (L2.pe_fld (L2.pe_fld (pv 0) rfl) rfl) pe_int (fun _ _ => rfl)))
      (pss_one (ps_ret (pe_lc (own := [("verdict", 2)]) (g := gName 2) (by rfl) sc_Unseen_needless.nd (pi_tup (pv 1)) (blkOk_by (own := [("verdict", 2)]) (N := N_Unseen_needless) (sc := defScope s_Unseen_needless) (by decide +kernel)) (fun _ _ _ _ _ => (pg_name (i := 2) sc_Unseen_needless.nd rfl (Or.inl rfl))) (fun _ _ _ _ _ => (pts_one (pt_val (pe_ownM (by assumption) M__is_needless (hr.mono (by decide)) (pv 0) (pa_cons (pv 2) pa_nil))))) (fun _ _ _ _ _ => (pe_ix (LcN.ix_tupK K rfl) (pv 2) pe_int (fun _ _ => rfl))))))), ?_⟩
  refine ⟨_, rfl, a, CU, dx, _, _, rfl, h1, RU.cl, RU.n1, rfl, b, CL, dl, _, _, rfl, h2, RL.cl, RL.n1, rfl, .inr (.inl ⟨S, _, 0, _, rfl, rfl, SqT.of eS, rfl, ?_⟩)⟩
  refine ⟨_, rfl, T, rfl, ⟨_, SqT.of eT⟩, fun D nD => ?_⟩
  refine lc_it (walk_tup (K := K) (xs := ps.map V.ref)) (fun i Hz => ∃ xs : List Nat, Same H Hz ∧ Hz D = some (.lst (xs.map fun (k : Nat) => V.int (k : Int))) ∧ xs.length ≤ i ∧ xs = ((ds.take i).filter fun v => idleF ds v).map (·.1)) ⟨[], same_upd nD, upd_same, Nat.le_refl _, rfl⟩ (fun i Hz _ ⟨_, e, _⟩ => SqT.of (e _ _ eT)) ?_ ?_
  · rintro i y Ha Hb hi ⟨xs, sa, eD, lr, ex⟩ ⟨rfl, hv⟩
    obtain ⟨p2, hp2, rfl⟩ := at_map hv
    obtain ⟨x2, hx2, v2⟩ := paired_at pp hp2
    have va := v2.same sa
    obtain ⟨r2, k1, k2⟩ := id va
    have ha := sa _ _ h1
    refine ⟨rfl, _, rfl, a, dx, _, rfl, ha, rfl, _, rfl, a, b, u, d, p2, ds, x2, n, c, m, rfl, h.same sa, va, ok, ok.bd x2 (List.mem_of_getElem? hx2), fun H3 s3 => ⟨_, rfl, ?_⟩⟩
    have er := idle_snoc (es := ds) hx2
    rw [List.length_map] at hi
    have lps := pair_len pp
    have l30 := ok.ln
    cases ew : idleF ds x2 with
    | false =>
      rw [ew] at er
      exact iteF ⟨xs, sa.trans s3, s3 _ _ eD, by omega, by rw [er, ex]; simp⟩
    | true =>
      rw [ew] at er
      refine iteT ⟨_, rfl, p2, _, 0, _, rfl, rfl, SqT.of (s3 _ _ k1), rfl, _, s3 _ _ eD, small1000 (by rw [List.length_map]; omega), xs ++ [x2.1], fun c o hc => ?_, ?_, by rw [List.length_append]; show xs.length + 1 ≤ _; omega, by rw [er, ex]; rfl⟩
      · rw [upd_ne (ne_of_none hc nD)]
        exact s3 _ _ (sa _ _ hc)
      · rw [upd_same, List.map_append]
        rfl
  · rintro Hz ⟨xs, sz, eD, _, ex⟩
    rw [List.length_map, List.take_of_length_le (by rw [pair_len pp]; exact Nat.le_refl _)] at ex
    subst ex
    exact q Hz D sz nD eD
end
end My
/-! own methods that may raise -/
namespace My
open PySem PySem.Spec PyProof.Rows L2
structure HasMX (P : Program) (w : World) (K : PySem.W.Frag) (mg : Str → Option Value) (base : Heap) (k : Nat) (C : Addr) (m : Str) (ps : List Str) (sp : Sp) : Prop where
  ex : ∃ (f : Addr) (fd : FuncData), FnOk P w K mg base (L2.CX P w) k f fd ps sp ∧ Meth K C m f ∧ Binds K fd ps []
section
variable {X : Cx} {k : Nat} {m : Str} {ps : List Str} {sp : Sp} {pos apos : Pos} {o e : Expr} {es : List Expr} {ta : TE} {t : TA} {C : Addr} {E : XK}
/-- a method that may raise, where it raises nothing -/
theorem pe_ownMX {pl : Sem Bool} (c : Cls X.K C) (h : HasMX X.prog X.w X.K X.mg X.base k C m ps sp) (hr : Room k X.A) (he : PE X o ta) (ha : PA X (e :: es) t)
    (hst : starEach (e :: es) X.env = (false, eval e X.env) :: starEach es X.env := by rfl) (hpl : (backTo pos (starEach es X.env)).any (·.1) = false := by rfl)
    (ht : eval (.Call (.Attribute o m apos) (e :: es) [] pos) X.env = (do
      let ov ← eval o X.env
      standAt apos.atName
      let (f, first) ← holding [ov] (getMethod ov m pl)
      callWith pos f first (backTo pos (starEach (e :: es) X.env)) (backToKw pos (keywordEach [] X.env))) := by rfl) :
    PE X (.Call (.Attribute o m apos) (e :: es) [] pos) (tMeth C m sp [] E0 ta t) := by
  obtain ⟨f, fd, F, M, b⟩ := h.ex
  exact pe_meth he c M F hr b .nil passL ha hst hpl ht
theorem pe_ownME {pl : Sem Bool} (c : Cls X.K C) (h : HasMX X.prog X.w X.K X.mg X.base k C m ps sp) (tk : Takes X (fun cls d _ H => E cls d H)) (hr : Room k X.A) (he : PE X o ta) (ha : PA X (e :: es) t)
    (hst : starEach (e :: es) X.env = (false, eval e X.env) :: starEach es X.env := by rfl) (hpl : (backTo pos (starEach es X.env)).any (·.1) = false := by rfl)
    (ht : eval (.Call (.Attribute o m apos) (e :: es) [] pos) X.env = (do
      let ov ← eval o X.env
      standAt apos.atName
      let (f, first) ← holding [ov] (getMethod ov m pl)
      callWith pos f first (backTo pos (starEach (e :: es) X.env)) (backToKw pos (keywordEach [] X.env))) := by rfl) :
    PE X (.Call (.Attribute o m apos) (e :: es) [] pos) (tMeth C m sp [] E ta t) := by
  obtain ⟨f, fd, F, M, b⟩ := h.ex
  exact pe_meth he c M F hr b .nil (passes_call tk fun _ _ _ _ h => h) ha hst hpl ht
end
end My
/-! logs: _check_right -/
namespace My
open PySem PySem.Spec PyProof.Rows L2
/-- which verdict a right one does not go with: none, 0 (no ring is left) or a number -/
def clash (M : RN) (ds : List VD) : Option Nat := if M.2.1 = 1 then some 0 else (ds.find? fun v => !v.2.2 && withinB M v.2.1).map (·.1)
theorem find_at {α : Type} {p : α → Bool} : ∀ {xs : List α} {i : Nat} {x : α}, (∀ y ∈ xs.take i, p y = false) → xs[i]? = some x → p x = true → xs.find? p = some x
  | [], i, x, _, h, _ => by simp at h
  | y :: ys, 0, x, _, h, px => by
    cases h
    simp [List.find?_cons, px]
  | y :: ys, i + 1, x, hn, h, px => by
    have py : p y = false := hn y (by simp)
    rw [List.find?_cons, py]
    exact find_at (fun z hz => hn z (by rw [List.take_succ_cons]; exact List.mem_cons_of_mem _ hz)) (by simpa using h) px
theorem take_all {α : Type} {p : α → Bool} {xs : List α} {i : Nat} {x : α} (h : ∀ y ∈ xs.take i, p y = false) (hx : xs[i]? = some x) (px : p x = false) : ∀ y ∈ xs.take (i + 1), p y = false := by
  rw [take_snoc hx]
  intro y hy
  rcases List.mem_append.mp hy with hy | hy
  · exact h y hy
  · rw [List.mem_singleton.mp hy]
    exact px
def spCheck (CU CL CM CE : Addr) : Sp := fun vs H Q E => ∃ (a b u d r : Addr) (ds : List VD) (n c m : Nat) (N : RN), vs = [.ref a, .ref r] ∧ UAt CU CL CM H a b u d ds n c ∧ RAt CM H r N ∧ OkV m ds ∧ BndR m N ∧
  (match clash (meetF (meetL ds) N) ds with
    | none => ∀ H', Same H H' → Q .non H'
    | some k => ∀ H' dd, Same H H' → H' dd = none → E (.ref CE) (some dd) (upd H' dd (.xd (errD "number" "Unsound" (.int (k : Nat))))))
section
variable {P : Program} {w : World} {K : PySem.W.Frag} {mg : Str → Option Value} {base : Heap} {CU CL CM : Addr} {mc : Value}
theorem ok_check {CE fI cc cd fA fB : Addr} {fdA fdB : FuncData} (F : ∃ (f : Addr) (fd : FuncData), Fun K "_check_right" "Unseen._check_right" s_Unseen__check_right f fd ∧ Meth K CU "_check_right" f ∧ L2.Binds K fd ["self", "realm"] []) (RU : UCls K CU) (RL : TCls K CL) (R : RCls K CM mc) (E_Unsound : ErrX.ErrTxt P K mg "Unsound" "number" "Unsound" CE fI cc cd)
    (M_meet : HasM P w K mg base 9 CU "meet" ["self"] (spUMeet CU CL CM)) (M_within : HasM P w K mg base 3 CM "within" ["self", "other"] (spWithin CM))
    (ANS : OwO.Spc K CM "__and__" fA) (ANF : FnOk P w K mg base CX0 7 fA fdA ["self", "other"] (spAnd CM)) (ANb : L2.Binds K fdA ["self", "other"] []) (hSF : PySem.W.selfFirst K CM = true)
    (BLS : OwO.Spc K CM "__bool__" fB) (BLF : FnOk P w K mg base CX0 3 fB fdB ["self"] (spBoolR CM)) (BLb : L2.Binds K fdB ["self"] []) : HasMX P w K mg base 10 CU "_check_right" ["self", "realm"] (spCheck CU CL CM CE) := by
  obtain ⟨f, fd, F, M, b⟩ := F
  refine ⟨f, fd, F.okX sc_Unseen__check_right (fun vs H Q E h => ?_) (fun cdv A outer s H vs Q E hr h => ?_), M, b⟩
  · obtain ⟨a, b, u, d, r, ds, n, c, m, N, rfl, _⟩ := h
    rfl
  obtain ⟨a, b, u, d, r, ds, n, c, m, N, rfl, h, hr0, ok, bN, q⟩ := h
  have TK : Takes (cxOf (L2.CX P w) P w K mg base N_Unseen__check_right "Unseen._check_right" (defScope s_Unseen__check_right) f cdv A outer s H E) (fun cls d _ H => E cls d H) := takes_of rfl rfl rfl rfl
  have cu := RU.cl
  have cm := R.cl
  obtain ⟨dx, st, done, undone, h1, ⟨dl, h2, h3, h4, h5⟩, ⟨S, T, ps, rfl, eS, eT, pp⟩, _, _⟩ := id h
  refine ⟨_, (pss_cons (ps_set (i := 2) sc_Unseen__check_right.nd rfl (Or.inl rfl) (pe_op (OwO.op_binO (K0 := K) rfl ANS ANF ANb hSF (hr.mono (by decide)) rfl) (pe_ownM0 (by assumption) M_meet (hr.mono (by decide)) (pv 0)) (pv 1)))
      (pss_cons (ps_if (pt_not (pt_truthR (pv 2) (OwO.tru_own rfl BLS BLF BLb (hr.mono (by decide))) (fun _ => rfl)))
        (pss_one (ps_raise rfl TK (pmk_err E_Unsound hr (pa_cons pe_int pa_nil) (by rfl))))
        pss_nil)
      (pss_one (ps_for (passes_of rfl) rfl (pi_tup (pe_ix ix_seq (L2.pe_fld (L2.pe_fld (pv 0) rfl) rfl) pe_int (fun _ _ => rfl))) (pg_tup rfl (pgs_cons (pg_name (i := 3) sc_Unseen__check_right.nd rfl (Or.inl rfl)) (pgs_cons (pg_name (i := 4) sc_Unseen__check_right.nd rfl (Or.inl rfl)) (pgs_cons (pg_name (i := 5) sc_Unseen__check_right.nd rfl (Or.inl rfl)) pgs_nil))))
        (pss_one (ps_if (PW.pt (pw_and (pt_not (pt_val (pv 5))) (pw_and1 (pt_val (pe_ownM (by assumption) M_within (hr.mono (by decide)) (pv 2) (pa_cons (pv 4) pa_nil))))))
        (pss_one (ps_raise rfl TK (pmk_err E_Unsound hr (pa_cons (pv 3) pa_nil) (by rfl))))
        pss_nil)))))), ?_⟩
  refine ⟨_, rfl, a, dx, _, rfl, h1, rfl, a, b, u, d, ds, n, c, m, rfl, h, ok.l100, ok.m1, ok.m2, ok.bd, fun H1 x s1 nx hx => ?_⟩
  have hx : RAt CM H1 x (meetL ds) := hx
  have hr1 := hr0.same s1
  obtain ⟨dx1, T1, g1, _⟩ := id hx
  obtain ⟨dr1, Tr1, k1, _⟩ := id hr1
  refine ⟨_, rfl, x, dx1, _, r, rfl, rfl, g1, R.ty k1, x, r, _, N, rfl, hx, hr1, ok.meet.sm ok.m1 ok.m2, bN.sm ok.m1 ok.m2, fun H3 z X nX s3 nz hz => ⟨z, rfl, ?_⟩⟩
  have eX := meet_of nX
  subst eX
  have s13 := s1.trans s3
  obtain ⟨dz, Tz, gz, _⟩ := id hz
  refine ⟨_, rfl, z, dz, _, rfl, gz, z, _, _, _, _, rfl, hz, _, rfl, ?_⟩
  generalize meetF (meetL ds) N = X at q hz ⊢
  unfold clash at q
  by_cases e1 : X.2.1 = 1
  · rw [if_pos e1] at q
    rw [decide_eq_true e1]
    exact iteT ⟨_, rfl, fun dd hd => q H3 dd s13 hd⟩
  rw [if_neg e1] at q
  rw [decide_eq_false e1]
  refine iteF ⟨_, rfl, a, CU, dx, _, _, rfl, s13 _ _ h1, RU.cl, RU.n1, rfl, b, CL, dl, _, _, rfl, s13 _ _ h2, RL.cl, RL.n1, rfl, .inr (.inl ⟨S, _, 0, _, rfl, rfl, SqT.of (s13 _ _ eS), rfl, ?_⟩)⟩
  refine ⟨T, rfl, ⟨_, SqT.of (s13 _ _ eT)⟩, for_tup (xs := ps.map V.ref) (fun i σ H' => ∃ y3 y4 y5, σ = [some (.ref a), some (.ref r), some (.ref z), y3, y4, y5] ∧ Same H3 H' ∧ ∀ v ∈ ds.take i, (!v.2.2 && withinB X v.2.1) = false) ⟨_, _, _, rfl, Same.refl _, by simp⟩ (fun i σ H' _ ⟨_, _, _, _, e, _⟩ => SqT.of (e _ _ (s13 _ _ eT))) ?_ ?_⟩
  · rintro i y σ Ha hv ⟨y3, y4, y5, rfl, sa, hn⟩
    obtain ⟨p2, hp2, rfl⟩ := at_map hv
    obtain ⟨v, hv2, r2, e2, e3⟩ := paired_at pp hp2
    have s1a := s13.trans sa
    refine ⟨_, _, rfl, SqT.of (s1a _ _ e2), rfl, _, _, rfl, _, _, rfl, _, _, rfl, rfl, ?_⟩
    cases ev : v.2.2 with
    | true => exact ⟨_, rfl, _, rfl, iteF (iteF ⟨_, _, _, rfl, sa, take_all hn hv2 (by rw [ev]; rfl)⟩)⟩
    | false =>
      refine ⟨_, rfl, _, rfl, iteT ⟨_, rfl, z, dz, _, rfl, sa _ _ gz, rfl, _, rfl, z, r2, X, v.2.1, rfl, hz.same sa, e3.same s1a, fun H5 s5 => ⟨_, rfl, ?_⟩⟩⟩
      cases ew : withinB X v.2.1 with
      | true =>
        rw [find_at (p := fun v : VD => !v.2.2 && withinB X v.2.1) hn hv2 (by rw [ev, ew]; rfl)] at q
        exact iteT ⟨_, rfl, _, rfl, fun dd hd => q H5 dd (s1a.trans s5) hd⟩
      | false => exact iteF ⟨_, _, _, rfl, sa.trans s5, take_all hn hv2 (by rw [ev, ew]; rfl)⟩
  · rintro σ' H2 ⟨y3, y4, y5, rfl, s2, hn⟩
    rw [List.length_map, List.take_of_length_le (by rw [pair_len pp]; exact Nat.le_refl _)] at hn
    rw [List.find?_eq_none.mpr fun v hv => by rw [hn v hv]; decide] at q
    exact q H2 (s13.trans s2)
end
end My
/-! logs: note -/
namespace My
open PySem PySem.Spec PyProof.Rows L2
/-- with which verdict a new one does not go: none, 0 or a number -/
def refF (ds : List VD) (N : RN) (w : Bool) : Option Nat := if w = true then clash (meetF (meetL ds) N) ds else if withinB (meetL ds) N = true then some 0 else none
def spNote (CU CL CM CE : Addr) : Sp := fun vs H Q E => ∃ (a b u d r : Addr) (ds : List VD) (n c m : Nat) (N : RN) (w : Bool), vs = [.ref a, .ref r, .bl w] ∧ UAt CU CL CM H a b u d ds n c ∧ RAt CM H r N ∧ OkV m ds ∧ BndR m N ∧ c ≤ 900 ∧
  (match refF ds N w with
    | none => ∀ H' u', Kp2 b d H H' → H u' = none → UAt CU CL CM H' a b u' d (ds ++ [(n, N, w)]) (n + 1) (c + 1) → Q (.int (n : Nat)) H'
    | some k => ∀ H' dd, Same H H' → H' dd = none → E (.ref CE) (some dd) (upd H' dd (.xd (errD "number" "Unsound" (.int (k : Nat))))))
section
variable {CL CM : Addr} {H H' : Hp} {x b d u dl : Addr} {N : RN} {st : V} {l : List V}
theorem RAt.kp2 (h : RAt CM H x N) (eb : H b = some (.ins CL dl [("state", st), ("_undone", .ref u), ("_done", .ref d)])) (ed : H d = some (.lst l)) (k : Kp2 b d H H') : RAt CM H' x N := by
  obtain ⟨dx, T, h1, h2⟩ := h
  exact ⟨dx, T, k _ _ (ne_of h1 eb fun z => by cases z) (ne_of h1 ed fun z => by cases z) h1, k _ _ (ne_of h2 eb fun z => by cases z) (ne_of h2 ed fun z => by cases z) h2⟩
theorem VAt.kp2 {v : VD} (h : VAt CM H x v) (eb : H b = some (.ins CL dl [("state", st), ("_undone", .ref u), ("_done", .ref d)])) (ed : H d = some (.lst l)) (k : Kp2 b d H H') : VAt CM H' x v := by
  obtain ⟨r, h1, h2⟩ := h
  exact ⟨r, k _ _ (ne_of h1 eb fun z => by cases z) (ne_of h1 ed fun z => by cases z) h1, h2.kp2 eb ed k⟩
theorem StAt.kp2 {ds : List VD} {n : Nat} {sv : V} (h : StAt CM H sv ds n) (eb : H b = some (.ins CL dl [("state", st), ("_undone", .ref u), ("_done", .ref d)])) (ed : H d = some (.lst l)) (k : Kp2 b d H H') : StAt CM H' sv ds n := by
  obtain ⟨S, T, ps, rfl, h1, h2, h3⟩ := h
  exact ⟨S, T, ps, rfl, k _ _ (ne_of h1 eb fun z => by cases z) (ne_of h1 ed fun z => by cases z) h1, k _ _ (ne_of h2 eb fun z => by cases z) (ne_of h2 ed fun z => by cases z) h2, paired_mono (fun a v h => h.kp2 eb ed k) h3⟩
theorem same_kp2 {H1 H2 : Hp} (s : Same H H1) (k : Kp2 b d H1 H2) : Kp2 b d H H2 := fun c o cb cd hc => k c o cb cd (s _ _ hc)
end
section
variable {P : Program} {w : World} {K : PySem.W.Frag} {mg : Str → Option Value} {base : Heap} {CU CL CM : Addr} {mc : Value}
theorem ok_note {CE fI cc cd : Addr} (F : ∃ (f : Addr) (fd : FuncData), Fun K "note" "Unseen.note" s_Unseen_note f fd ∧ Meth K CU "note" f ∧ L2.Binds K fd ["self", "realm", "right"] []) (RU : UCls K CU) (RL : TCls K CL) (R : RCls K CM mc) (E_Unsound : ErrX.ErrTxt P K mg "Unsound" "number" "Unsound" CE fI cc cd)
    (M_meet : HasM P w K mg base 9 CU "meet" ["self"] (spUMeet CU CL CM)) (M_within : HasM P w K mg base 3 CM "within" ["self", "other"] (spWithin CM)) (M__check_space : HasM P w K mg base 3 CU "_check_space" ["self"] (spSpace CU CL CM)) (M__check_right : HasMX P w K mg base 10 CU "_check_right" ["self", "realm"] (spCheck CU CL CM CE)) (M_move : HasM P w K mg base 1 CL "move" ["self", "state"] (spMove CL)) :
    HasMX P w K mg base 11 CU "note" ["self", "realm", "right"] (spNote CU CL CM CE) := by
  obtain ⟨f, fd, F, M, b⟩ := F
  refine ⟨f, fd, F.okX sc_Unseen_note (fun vs H Q E h => ?_) (fun cdv A outer s H vs Q E hr h => ?_), M, b⟩
  · obtain ⟨a, b, u, d, r, ds, n, c, m, N, wy, rfl, _⟩ := h
    rfl
  obtain ⟨a, b, u, d, r, ds, n, c, m, N, wy, rfl, h, hr0, ok, bN, hc, q⟩ := h
  have TK : Takes (cxOf (L2.CX P w) P w K mg base N_Unseen_note "Unseen.note" (defScope s_Unseen_note) f cdv A outer s H E) (fun cls d _ H => E cls d H) := takes_of rfl rfl rfl rfl
  have cu := RU.cl
  have cl := RL.cl
  have cm := R.cl
  obtain ⟨dx, st, done, undone, h1, ⟨dl, h2, h3, h4, h5⟩, ⟨S, T, ps, rfl, eS, eT, pp⟩, hdn, hun⟩ := id h
  have l30 := ok.ln
  refine ⟨_, (pss_cons (ps_expr (pe_ownM0 (by assumption) M__check_space (hr.mono (by decide)) (pv 0)))
      (pss_cons (ps_asg (L2.pe_fld (L2.pe_fld (pv 0) rfl) rfl) (pg_tup rfl (pgs_cons (pg_name (i := 3) sc_Unseen_note.nd rfl (Or.inl rfl)) (pgs_cons (pg_name (i := 4) sc_Unseen_note.nd rfl (Or.inl rfl)) pgs_nil))))
      (pss_cons (ps_if (pt_val (pv 2))
        (pss_one (ps_expr (pe_ownME (by assumption) M__check_right TK (hr.mono (by decide)) (pv 0) (pa_cons (pv 1) pa_nil))))
        (pss_one (ps_if (pt_val (pe_ownM (by assumption) M_within (hr.mono (by decide)) (pe_ownM0 (by assumption) M_meet (hr.mono (by decide)) (pv 0)) (pa_cons (pv 1) pa_nil)))
        (pss_one (ps_raise rfl TK (pmk_err E_Unsound hr (pa_cons pe_int pa_nil) (by rfl))))
        pss_nil)))
      (pss_cons (ps_expr (pe_ownM (by assumption) M_move (hr.mono (by decide)) (L2.pe_fld (pv 0) rfl) (pa_cons (pe_tup (pa_cons (pe_tup (StX.pa_star (pv 3) (pa_cons (pe_tup (pa_cons (pv 4) (pa_cons (pv 1) (pa_cons (pv 2) pa_nil)))) pa_nil))) (pa_cons (pe_op op_add (pv 4) pe_int) pa_nil))) pa_nil)))
      (pss_one (ps_ret (pv 4))))))), ?_⟩
  refine ⟨_, rfl, a, dx, _, rfl, h1, rfl, a, b, u, d, ds, n, c, rfl, h, by omega, ?_⟩
  refine ⟨_, rfl, a, CU, dx, _, _, rfl, h1, RU.cl, RU.n1, rfl, b, CL, dl, _, _, rfl, h2, RL.cl, RL.n1, rfl, S, _, rfl, SqT.of eS, rfl, _, _, rfl, _, _, rfl, rfl, ?_⟩
  unfold refF at q
  have hq : wy = true ∨ wy = false := by cases wy <;> simp
  rcases hq with hw | hw
  case' inl =>
    rw [if_pos hw] at q
    refine ⟨_, rfl, _, rfl, ite_of hw ⟨_, rfl, a, dx, _, rfl, h1, rfl, _, rfl, a, b, u, d, r, ds, n, c, m, N, rfl, h, hr0, ok, bN, ?_⟩⟩
    cases ek : clash (meetF (meetL ds) N) ds
    case' some k =>
      rw [ek] at q
      exact q
    rw [ek] at q
    refine fun H1 s1 => ?_
  case' inr =>
    rw [if_neg (by rw [hw]; decide)] at q
    refine ⟨_, rfl, _, rfl, ite_no (by rw [hw]; decide) ⟨_, rfl, a, dx, _, rfl, h1, rfl, a, b, u, d, ds, n, c, m, rfl, h, ok.l100, ok.m1, ok.m2, ok.bd, fun H0 x s0 nx hx => ?_⟩⟩
    have hx : RAt CM H0 x (meetL ds) := hx
    obtain ⟨dx0, T0, g0, _⟩ := id hx
    refine ⟨x, dx0, _, rfl, g0, rfl, _, rfl, x, r, meetL ds, N, rfl, hx, hr0.same s0, fun H1 s01 => ⟨_, rfl, ?_⟩⟩
    have s1 := s0.trans s01
    clear s01 s0 nx g0 hx
    cases ek : withinB (meetL ds) N
    case' true =>
      rw [ek, if_pos rfl] at q
      exact iteT ⟨_, rfl, fun dd hd => q H1 dd s1 hd⟩
    rw [ek, if_neg (by decide)] at q
    refine iteF ?_
  all_goals
    refine ⟨_, rfl, a, CU, dx, _, _, rfl, s1 _ _ h1, RU.cl, RU.n1, rfl, b, dl, _, rfl, s1 _ _ h2, rfl, ?_⟩
    refine ⟨_, rfl, T, _, rfl, .inl (SqT.of (s1 _ _ eT)), _, rfl, _, rfl, _, rfl, (by show 3 ≤ sizeLine; decide), fun t1 n1 => ?_⟩
    have c1 := same_upd (o := .tup [V.int (n : Nat), V.ref r, V.bl wy]) n1
    have e1 := upd_same (H := H1) (a := t1) (o := .tup [V.int (n : Nat), V.ref r, V.bl wy])
    generalize upd H1 t1 (.tup [V.int (n : Nat), V.ref r, V.bl wy]) = H2 at c1 e1 ⊢
    refine ⟨(by rw [List.length_append, List.length_map, pair_len pp]; exact Nat.le_of_lt (small1000 (by show ds.length + 1 ≤ 1000; omega))), fun t2 n2 => ?_⟩
    have c2 := same_upd (o := .tup (ps.map V.ref ++ [V.ref t1])) n2
    have e2 := upd_same (H := H2) (a := t2) (o := .tup (ps.map V.ref ++ [V.ref t1]))
    generalize upd H2 t2 (.tup (ps.map V.ref ++ [V.ref t1])) = H3 at c2 e2 ⊢
    refine ⟨_, rfl, _, _, rfl, rfl, (by show 2 ≤ sizeLine; decide), fun t3 n3 => ?_⟩
    have c3 := same_upd (o := .tup [V.ref t2, V.int ((n : Nat) + 1)]) n3
    have e3 := upd_same (H := H3) (a := t3) (o := .tup [V.ref t2, V.int ((n : Nat) + 1)])
    generalize upd H3 t3 (.tup [V.ref t2, V.int ((n : Nat) + 1)]) = H4 at c3 e3 ⊢
    have s4 := s1.trans (c1.trans (c2.trans c3))
    have g1 := c3 _ _ (c2 _ _ e1)
    have g2 := c3 _ _ e2
    refine ⟨b, u, d, .ref S, .ref t3, done, undone, rfl, ⟨dl, s4 _ _ h2, s4 _ _ h3, s4 _ _ h4, h5⟩, by omega, fun H5 u' k5 nu5 L5 => ?_⟩
    refine ⟨_, rfl, q H5 u' (same_kp2 s4 k5) (s4.free nu5) ?_⟩
    have ab : a ≠ b := ne_of h1 h2 fun z => by cases z
    have ad : a ≠ d := ne_of h1 h4 fun z => by cases z
    have st4 : StAt CM H4 (.ref t3) (ds ++ [(n, N, wy)]) (n + 1) := ⟨t3, t2, ps ++ [t1], rfl, by rw [e3]; rfl, by rw [g2, List.map_append]; rfl, Paired.snoc (paired_mono (fun a v h => h.same s4) pp) ⟨r, g1, hr0.same s4⟩⟩
    refine ⟨dx, .ref t3, done ++ [.ref S], [], k5 _ _ ab ad (s4 _ _ h1), L5, st4.kp2 (s4 _ _ h2) (s4 _ _ h4) k5, by rw [List.length_append]; show done.length + 1 ≤ _; omega, Nat.zero_le _⟩
end
end My
/-! logs: withdraw, twin -/
namespace My
open PySem PySem.Spec PyProof.Rows L2
section
variable {X : Cx} {k : Nat} {x : Str} {C : Addr} {ps : List Str} {sp : Sp} {p pos : Pos}
theorem pe_mkX0 (h : HasCX X.prog X.w X.K X.mg X.base k x C ps sp) (hr : Room (k + 1) X.A) (hg : Gl X x) (hdb : (x == ("__debug__" : Str)) = false := by decide) : PE X (.Call (.Name x p) [] [] pos) (tMake C sp [] E0 tNil) := by
  obtain ⟨f, fd, M, F, m, b⟩ := h.ex
  exact pe_make0 M F hr hg m b .nil passL hdb
end
def spWithdraw (CU CL CM : Addr) : Sp := fun vs H Q _ => ∃ (a b u d : Addr) (ds : List VD) (v : VD) (n c : Nat), vs = [.ref a, .int (v.1 : Nat)] ∧ UAt CU CL CM H a b u d ds n c ∧ v ∈ ds ∧ ds.length ≤ 30 ∧ c ≤ 900 ∧
  ∀ H' u', Kp2 b d H H' → H u' = none → UAt CU CL CM H' a b u' d (others ds v) n (c + 1) → Q .non H'
def spUTwin (CU CL CM : Addr) : Sp := fun vs H Q _ => ∃ (a b u d : Addr) (ds : List VD) (n c : Nat), vs = [.ref a] ∧ UAt CU CL CM H a b u d ds n c ∧ c ≤ 900 ∧
  ∀ H' x b' u' d', Same H H' → H x = none → H b' = none → H u' = none → H d' = none → UAt CU CL CM H' x b' u' d' ds n c → Q (.ref x) H'
theorem in_nums {ds : List VD} {v : VD} (h : v ∈ ds) : inV (V.int (v.1 : Nat)) (ds.map fun x => V.int ((x.1 : Nat) : Int)) = true := by
  unfold inV
  rw [List.any_map, List.any_eq_true]
  exact ⟨v, h, by simp [eqV]⟩
section
variable {P : Program} {w : World} {K : PySem.W.Frag} {mg : Str → Option Value} {base : Heap} {CU CL CM : Addr} {mc : Value}
theorem ok_withdraw (F : ∃ (f : Addr) (fd : FuncData), Fun K "withdraw" "Unseen.withdraw" s_Unseen_withdraw f fd ∧ Meth K CU "withdraw" f ∧ L2.Binds K fd ["self", "number"] []) (RU : UCls K CU) (RL : TCls K CL) (B : Blt mg) (G_is_int : Has P w K mg base 1 "is_int" ["value"] spIsInt) (M_move : HasM P w K mg base 1 CL "move" ["self", "state"] (spMove CL)) :
    HasM P w K mg base 2 CU "withdraw" ["self", "number"] (spWithdraw CU CL CM) := by
  obtain ⟨f, fd, F, M, b⟩ := F
  refine ⟨f, fd, F.ok sc_Unseen_withdraw (fun vs H Q E h => ?_) (fun cdv A outer s H vs Q E hr h => ?_), M, b⟩
  · obtain ⟨a, b, u, d, ds, v, n, c, rfl, _⟩ := h
    rfl
  obtain ⟨a, b, u, d, ds, v, n, c, rfl, h, hv, l30, hc, q⟩ := h
  have cl := RL.cl
  obtain ⟨dx, st, done, undone, h1, ⟨dl, h2, h3, h4, h5⟩, ⟨S, T, ps, rfl, eS, eT, pp⟩, hdn, hun⟩ := id h
  refine ⟨_, (pss_cons (ps_asg (L2.pe_fld (L2.pe_fld (pv 0) rfl) rfl) (pg_tup rfl (pgs_cons (pg_name (i := 2) sc_Unseen_withdraw.nd rfl (Or.inl rfl)) (pgs_cons (pg_name (i := 3) sc_Unseen_withdraw.nd rfl (Or.inl rfl)) pgs_nil))))
      (pss_cons (ps_if (PW.pt (pw_or (pt_not (pt_val (pe_own G_is_int (hr.mono (by decide)) (by rfl) (pa_cons (pv 1) pa_nil)))) (pw_or1 (pt_cmpR op_notIn_seq (pv 1) (pe_lc (own := [("verdict", 4)]) (g := gName 4) (tt := tYes) (by rfl) sc_Unseen_withdraw.nd (pi_tup (pv 2)) (blkOk_by (own := [("verdict", 4)]) (N := N_Unseen_withdraw) (sc := defScope s_Unseen_withdraw) (by decide +kernel)) (fun _ _ _ _ _ => (pg_name (i := 4) sc_Unseen_withdraw.nd rfl (Or.inl rfl))) (fun _ _ _ _ _ => pts_nil) (fun _ _ _ _ _ => (pe_ix (LcN.ix_tupK K rfl) (pv 4) pe_int (fun _ _ => rfl)))) rfl))))
        (pss_one ps_never)
        pss_nil)
      (pss_one (ps_expr (pe_ownM (by assumption) M_move (hr.mono (by decide)) (L2.pe_fld (pv 0) rfl) (pa_cons (pe_tup (pa_cons (pe_callTy call_tuple_of (by rfl) B.tuple bb_tuple (pa_cons (pe_lc (own := [("verdict", 4)]) (g := gName 4) (by rfl) sc_Unseen_withdraw.nd (pi_tup (pv 2)) (blkOk_by (own := [("verdict", 4)]) (N := N_Unseen_withdraw) (sc := defScope s_Unseen_withdraw) (by decide +kernel)) (fun _ _ _ _ _ => (pg_name (i := 4) sc_Unseen_withdraw.nd rfl (Or.inl rfl))) (fun _ _ _ _ _ => (pts_one (pt_cmpR op_ne (pe_ix (LcN.ix_tupK K rfl) (pv 4) pe_int (fun _ _ => rfl)) (pv 1) (nomark _)))) (fun _ _ _ _ _ => (pv 4))) pa_nil)) (pa_cons (pv 3) pa_nil))) pa_nil)))))), ?_⟩
  refine ⟨_, rfl, a, CU, dx, _, _, rfl, h1, RU.cl, RU.n1, rfl, b, CL, dl, _, _, rfl, h2, RL.cl, RL.n1, rfl, S, _, rfl, SqT.of eS, rfl, _, _, rfl, _, _, rfl, rfl, ?_⟩
  refine ⟨_, rfl, _, "int", rfl, .int _, _, rfl, iteF ⟨_, rfl, _, rfl, T, rfl, ⟨_, SqT.of eT⟩, fun D nD => ?_⟩⟩
  refine lc_it (walk_tup (K := K) (xs := ps.map V.ref)) (fun i Hz => Same H Hz ∧ Hz D = some (.lst ((ds.take i).map fun x => V.int ((x.1 : Nat) : Int)))) ⟨same_upd nD, upd_same⟩ (fun i Hz _ e => SqT.of (e.1 _ _ eT)) ?_ ?_
  · rintro i y Ha Hb hi ⟨sa, eD⟩ ⟨rfl, hv⟩
    obtain ⟨p2, hp2, rfl⟩ := at_map hv
    obtain ⟨x2, hx2, r2, k1, k2⟩ := paired_at pp hp2
    refine ⟨rfl, tYes_ok ⟨_, rfl, p2, _, 0, _, rfl, rfl, SqT.of (sa _ _ k1), rfl, _, eD, small1000 (by rw [List.length_map, List.length_take]; omega), fun c o hc => ?_, ?_⟩⟩
    · rw [upd_ne (ne_of_none hc nD)]
      exact sa _ _ hc
    · rw [upd_same, take_snoc hx2, List.map_append]
      rfl
  rintro H1 ⟨s1, eD⟩
  rw [List.length_map, List.take_of_length_le (by rw [pair_len pp]; exact Nat.le_refl _)] at eD
  have ei : inV (V.int (v.1 : Nat)) (ds.map fun x => V.int ((x.1 : Nat) : Int)) = true := in_nums hv
  refine ⟨D, _, rfl, .inl (SqL.of eD), rfl, by simp [flatV], _, rfl, ?_⟩
  rw [ei]
  refine iteF ⟨_, rfl, a, CU, dx, _, _, rfl, s1 _ _ h1, RU.cl, RU.n1, rfl, b, dl, _, rfl, s1 _ _ h2, rfl, _, rfl, T, rfl, ⟨_, SqT.of (s1 _ _ eT)⟩, fun D2 nD2 => ?_⟩
  have pp1 : Paired (VAt CM H1) ps ds := paired_mono (fun a v h => h.same s1) pp
  refine lc_it (walk_tup (K := K) (xs := ps.map V.ref)) (fun i Hz => ∃ qs : List Addr, Same H1 Hz ∧ Hz D2 = some (.lst (qs.map V.ref)) ∧ qs.length ≤ i ∧ Paired (VAt CM H1) qs (others (ds.take i) v)) ⟨[], same_upd nD2, upd_same, Nat.le_refl _, .nil⟩ (fun i Hz _ ⟨_, e, _⟩ => SqT.of (e _ _ (s1 _ _ eT))) ?_ ?_
  · rintro i y Ha Hb hi ⟨qs, sa, eD, lr, pr⟩ ⟨rfl, hv⟩
    obtain ⟨p2, hp2, rfl⟩ := at_map hv
    obtain ⟨x2, hx2, r2, k1, k2⟩ := paired_at pp1 hp2
    refine ⟨rfl, ?_⟩
    refine ⟨_, rfl, p2, _, 0, _, rfl, rfl, SqT.of (sa _ _ k1), rfl, _, rfl, rfl, _, rfl, ?_⟩
    have dq : decide (V.int ((x2.1 : Nat) : Int) = V.int ((v.1 : Nat) : Int)) = (x2.1 == v.1) := by
      rw [Bool.eq_iff_iff, decide_eq_true_iff, beq_iff_eq]
      exact ⟨fun z => Int.ofNat.inj (V.int.inj z), fun z => by rw [z]⟩
    have er := others_snoc (v := v) hx2
    cases ew : (x2.1 != v.1) with
    | false =>
      rw [ew] at er
      have e0 : (x2.1 == v.1) = true := by simpa [bne] using ew
      rw [dq, e0]
      refine iteF ⟨qs, sa, eD, by omega, ?_⟩
      rw [er]
      simpa using pr
    | true =>
      rw [ew] at er
      have e0 : (x2.1 == v.1) = false := by simpa [bne] using ew
      rw [List.length_map] at hi
      have lps := pair_len pp
      rw [dq, e0]
      refine iteT ⟨_, rfl, _, eD, small1000 (by rw [List.length_map]; omega), qs ++ [p2], fun c o hc => ?_, ?_, by rw [List.length_append]; show qs.length + 1 ≤ _; omega, ?_⟩
      · rw [upd_ne (ne_of_none hc nD2)]
        exact sa _ _ hc
      · rw [upd_same, List.map_append]
        rfl
      · rw [er]
        exact Paired.snoc pr ⟨r2, k1, k2⟩
  rintro Hz ⟨qs, sz, eD2, _, pr⟩
  rw [List.length_map, List.take_of_length_le (by rw [pair_len pp]; exact Nat.le_refl _)] at pr
  refine ⟨D2, _, rfl, .inl ⟨SqL.of eD2, fun t1 n1 => ?_⟩⟩
  have c1 := same_upd (o := .tup (qs.map V.ref)) n1
  have e1 := upd_same (H := Hz) (a := t1) (o := .tup (qs.map V.ref))
  generalize upd Hz t1 (.tup (qs.map V.ref)) = H2 at c1 e1 ⊢
  refine ⟨_, rfl, (by show 2 ≤ sizeLine; decide), fun t2 n2 => ?_⟩
  have c2 := same_upd (o := .tup [V.ref t1, V.int (n : Nat)]) n2
  have e2 := upd_same (H := H2) (a := t2) (o := .tup [V.ref t1, V.int (n : Nat)])
  generalize upd H2 t2 (.tup [V.ref t1, V.int (n : Nat)]) = H3 at c2 e2 ⊢
  have s4 := s1.trans (sz.trans (c1.trans c2))
  refine ⟨b, u, d, .ref S, .ref t2, done, undone, rfl, ⟨dl, s4 _ _ h2, s4 _ _ h3, s4 _ _ h4, h5⟩, by omega, fun H5 u' k5 nu5 L5 => ?_⟩
  refine q H5 u' (same_kp2 s4 k5) (s4.free nu5) ?_
  have ab : a ≠ b := ne_of h1 h2 fun z => by cases z
  have ad : a ≠ d := ne_of h1 h4 fun z => by cases z
  have st4 : StAt CM H3 (.ref t2) (others ds v) n := ⟨t2, t1, qs, rfl, e2, c2 _ _ e1, paired_mono (fun a v h => h.same (sz.trans (c1.trans c2))) pr⟩
  exact ⟨dx, .ref t2, done ++ [.ref S], [], k5 _ _ ab ad (s4 _ _ h1), L5, st4.kp2 (s4 _ _ h2) (s4 _ _ h4) k5, by rw [List.length_append]; show done.length + 1 ≤ _; omega, Nat.zero_le _⟩
theorem ok_utwin (F : ∃ (f : Addr) (fd : FuncData), Fun K "twin" "Unseen.twin" s_Unseen_twin f fd ∧ Meth K CU "twin" f ∧ L2.Binds K fd ["self"] []) (RU : UCls K CU) (RL : TCls K CL) (M_ltwin : HasM P w K mg base 4 CL "twin" ["self"] (spLTwin CL)) (MK_Unseen : HasCX P w K mg base 4 "Unseen" CU ["self"] (spUInit CU CL CM)) :
    HasM P w K mg base 6 CU "twin" ["self"] (spUTwin CU CL CM) := by
  obtain ⟨f, fd, F, M, b⟩ := F
  refine ⟨f, fd, F.ok sc_Unseen_twin (fun vs H Q E h => ?_) (fun cdv A outer s H vs Q E hr h => ?_), M, b⟩
  · obtain ⟨a, b, u, d, ds, n, c, rfl, _⟩ := h
    rfl
  obtain ⟨a, b, u, d, ds, n, c, rfl, h, hc, q⟩ := h
  have cl := RL.cl
  obtain ⟨dx, st, done, undone, h1, ⟨dl, h2, h3, h4, h5⟩, hS, hdn, hun⟩ := id h
  refine ⟨_, (pss_cons (ps_set (i := 1) sc_Unseen_twin.nd rfl (Or.inl rfl) (pe_mkX0 MK_Unseen (hr.mono (by decide)) (by rfl)))
      (pss_cons (ps_fld (pv 1) (pe_ownM0 (by assumption) M_ltwin (hr.mono (by decide)) (L2.pe_fld (pv 0) rfl)) rfl)
      (pss_one (ps_ret (pv 1))))), ?_⟩
  refine fun x dz nx ndz nz => ⟨x, dz, rfl, upd_same, fun H1 b1 u1 d1 k1 nb1 nu1 nd1 U1 => ⟨rfl, ?_⟩⟩
  have s1 : Same H H1 := fun c o hc => k1 c o (ne_of_none hc nx) (by rw [upd_ne (ne_of_none hc nx), upd_ne (ne_of_none hc ndz)]; exact hc)
  clear k1
  obtain ⟨dy, st1, done1, undone1, g1, _⟩ := U1
  refine ⟨_, rfl, a, CU, dx, _, _, rfl, s1 _ _ h1, RU.cl, RU.n1, rfl, b, dl, _, rfl, s1 _ _ h2, rfl, b, u, d, st, done, undone, rfl, ⟨dl, s1 _ _ h2, s1 _ _ h3, s1 _ _ h4, h5⟩, by omega, by omega, fun H2 x2 u2 d2 s2 nx2 nu2 nd2 LT => ?_⟩
  have g2 := s2 _ _ g1
  refine ⟨_, rfl, x, CU, dy, _, rfl, g2, RU.cl, RU.n1, (by show 1 < 1000; decide), ?_⟩
  have ep : putF ("_line" : Str) (V.ref x2) [(("_line" : Str), V.ref b1)] = [(("_line" : Str), V.ref x2)] := rfl
  rw [ep]
  have s12 := s1.trans s2
  obtain ⟨dt, t1, t2, t3, t4⟩ := LT
  have nexH : H1 x ≠ none := fun z => by rw [z] at g1; cases g1
  have x2x : x2 ≠ x := (ne_of_none g1 nx2).symm
  have u2x : u2 ≠ x := (ne_of_none g1 nu2).symm
  have d2x : d2 ≠ x := (ne_of_none g1 nd2).symm
  refine ⟨_, rfl, q _ x x2 u2 d2 (fun c o hc => ?_) nx (s1.free nx2) (s1.free nu2) (s1.free nd2) ⟨dy, st, done, undone, upd_same, ⟨dt, by rw [upd_ne x2x]; exact t1, by rw [upd_ne u2x]; exact t2, by rw [upd_ne d2x]; exact t3, t4⟩, ?_, hdn, hun⟩⟩
  · rw [upd_ne (ne_of_none hc nx)]
    exact s12 _ _ hc
  · exact hS.same fun c o hc => by
      rw [upd_ne (ne_of_none hc nx)]
      exact s12 _ _ hc
end
end My
/-! the law's own numbers of realms: divides, lcm, inside, lies -/
namespace My
open PySem PySem.Spec PyProof.Rows L2
def NumAt (H : Hp) (p : Addr) (N : RN) : Prop := H p = some (tupR N.1 N.2.1 N.2.2.1 N.2.2.2)
def spLcm : Sp := fun vs H Q _ => ∃ a b : Nat, vs = [.int (a : Nat), .int (b : Nat)] ∧ 1 ≤ a ∧ 1 ≤ b ∧ a < 2 ^ 30 ∧ b < 2 ^ 30 ∧ Q (.int ((Nat.lcm a b : Nat) : Int)) H
def spInside : Sp := fun vs H Q _ => ∃ (p q : Addr) (a b c a' b' c' : Nat), vs = [.ref p, .ref q] ∧ H p = some (.tup [.int (a : Nat), .int (b : Nat), .int (c : Nat)]) ∧ H q = some (.tup [.int (a' : Nat), .int (b' : Nat), .int (c' : Nat)]) ∧ ∀ H', Same H H' → Q (.bl (decide (a ∣ a') && (decide (b ∣ b') && decide (c ∣ c')))) H'
def spLLies : Sp := fun vs H Q _ => ∃ (p q : Addr) (N M : RN), vs = [.ref p, .ref q] ∧ NumAt H p N ∧ NumAt H q M ∧ NormR N ∧ ∀ H', Same H H' → Q (.bl (withinB N M)) H'
section
variable {P : Program} {w : World} {K : PySem.W.Frag} {mg : Str → Option Value} {base : Heap}
theorem ok_l_dvd (F : Fn K mg "_law_divides" s_l_divides ["_law_a", "_law_b"]) (B : Blt mg) : Has P w K mg base 1 "_law_divides" ["_law_a", "_law_b"] spDivs := by
  refine F.has sc_l_divides (fun vs H Q E h => ?_) (fun f cdv A outer s H vs Q E hr h => ?_)
  · obtain ⟨a, b, rfl, _⟩ := h
    rfl
  obtain ⟨a, b, rfl, q⟩ := h
  refine ⟨_, (pss_one (ps_ret (pe_ifExp (pt_cmpR op_eq (pv 0) pe_int (nomark _)) (pe_cmpR op_eq (pv 1) pe_int (nomark _)) (pe_cmpR op_eq (pe_op op_mod (pe_callTy call_int1 (by rfl) B.int bb_int (pa_cons (pv 1) pa_nil)) (pv 0)) pe_int (nomark _))))), ?_⟩
  by_cases a0 : a = 0
  · subst a0
    refine ⟨_, rfl, rfl, _, rfl, ite_of (decide_eq_true rfl) ⟨_, rfl, rfl, ?_⟩⟩
    have e : decide (V.int (b : Int) = V.int 0) = decide (0 ∣ b) := by
      rw [dec0]
      exact decide_eq_decide.mpr ⟨fun z => by rw [z]; exact Nat.dvd_refl _, fun z => Nat.eq_zero_of_zero_dvd z⟩
    rw [e]
    exact q
  · refine ⟨_, rfl, rfl, _, rfl, ite_no (by rw [dec0, decide_eq_false a0]; decide) ⟨_, rfl, .inl ⟨_, rfl, _, rfl, _, _, rfl, rfl, (show (0 : Int) < (a : Int) by omega), rfl, ?_⟩⟩⟩
    have e : decide (V.int ((b : Int) % (a : Int)) = V.int 0) = decide (a ∣ b) := by
      rw [← Int.natCast_emod, dec0]
      exact decide_eq_decide.mpr ⟨fun z => Nat.dvd_of_mod_eq_zero z, fun z => Nat.mod_eq_zero_of_dvd z⟩
    rw [e]
    exact q
theorem ok_l_lcm (F : Fn K mg "_law_lcm" s_l_lcm ["_law_a", "_law_b"]) (B : Blt mg) (G_l_gcd : Has P w K mg base 1 "_law_gcd" ["_law_a", "_law_b"] spGcd) : Has P w K mg base 2 "_law_lcm" ["_law_a", "_law_b"] spLcm := by
  refine F.has sc_l_lcm (fun vs H Q E h => ?_) (fun f cdv A outer s H vs Q E hr h => ?_)
  · obtain ⟨a, b, rfl, _⟩ := h
    rfl
  obtain ⟨a, b, rfl, a1, b1, ha, hb, q⟩ := h
  refine ⟨_, (pss_one (ps_ret (pe_ifExp (PW.pt (pw_or (pt_cmpR op_eq (pv 0) pe_int (nomark _)) (pw_or1 (pt_cmpR op_eq (pv 1) pe_int (nomark _))))) pe_int (pe_callB call_abs (by rfl) B.abs bb_abs (pa_cons (pe_op op_mul (pe_op op_fdiv (pv 0) (pe_own G_l_gcd (hr.mono (by decide)) (by rfl) (pa_cons (pv 0) (pa_cons (pv 1) pa_nil)))) (pv 1)) pa_nil))))), ?_⟩
  refine ⟨_, rfl, rfl, _, rfl, ?_⟩
  rw [dec0, decide_eq_false (by omega : ¬ a = 0)]
  refine iteF ⟨_, rfl, rfl, _, rfl, ?_⟩
  rw [dec0, decide_eq_false (by omega : ¬ b = 0)]
  refine iteF ?_
  refine ⟨_, rfl, _, rfl, _, rfl, _, _, rfl, ?_⟩
  rw [gcdF]
  have g0 : 0 < Nat.gcd a b := Nat.gcd_pos_of_pos_left _ a1
  have gb : Nat.gcd a b ≤ b := Nat.le_of_dvd b1 (Nat.gcd_dvd_right _ _)
  have hd : a / Nat.gcd a b ≤ a := Nat.div_le_self _ _
  refine ⟨_, _, rfl, rfl, ⟨by omega, by omega⟩, _, rfl, _, _, rfl, rfl, .inl ⟨by rw [← Int.natCast_ediv]; generalize a / Nat.gcd a b = z at hd ⊢; omega, by omega⟩, _, rfl, ?_⟩
  have e : ((a : Int) / ((Nat.gcd a b : Nat) : Int)) * (b : Int) = ((Nat.lcm a b : Nat) : Int) := by
    rw [← Int.natCast_ediv, ← Int.natCast_mul]
    congr 1
    unfold Nat.lcm
    rw [Nat.mul_comm (a / _) b, ← Nat.mul_div_assoc _ (Nat.gcd_dvd_left _ _), Nat.mul_comm]
  rw [e, if_neg (by omega)]
  exact q
theorem ok_l_inside (F : Fn K mg "_law_inside" s_l_inside ["_law_ring_z", "_law_realm_z"]) (B : Blt mg) (G_l_divides : Has P w K mg base 1 "_law_divides" ["_law_a", "_law_b"] spDivs) : Has P w K mg base 2 "_law_inside" ["_law_ring_z", "_law_realm_z"] spInside := by
  refine F.has sc_l_inside (fun vs H Q E h => ?_) (fun f cdv A outer s H vs Q E hr h => ?_)
  · obtain ⟨p, q', a, b, c, a', b', c', rfl, _⟩ := h
    rfl
  obtain ⟨p, q', a, b, c, a', b', c', rfl, hp, hq, q⟩ := h
  refine ⟨_, (pss_one (ps_ret (pe_callB (cr_all rfl) (by rfl) B.all bb_all (pa_cons (pe_lc (own := [("_law_a", 2), ("_law_b", 3)]) (g := gTup K 2 (gCons (gName 2) (gCons (gName 3) gNil))) (tt := tYes) (by rfl) sc_l_inside.nd (RZ.pi_zipA (by rfl) B.zip (pa_cons (pv 0) (pa_cons (pv 1) pa_nil))) (blkOk_by (own := [("_law_a", 2), ("_law_b", 3)]) (N := N_l_inside) (sc := defScope s_l_inside) (by decide +kernel)) (fun _ _ _ _ _ => (pg_tup rfl (pgs_cons (pg_name (i := 2) sc_l_inside.nd rfl (Or.inl rfl)) (pgs_cons (pg_name (i := 3) sc_l_inside.nd rfl (Or.inl rfl)) pgs_nil)))) (fun _ _ _ _ _ => pts_nil) (fun _ _ _ _ _ => (pe_own G_l_divides (hr.mono (by decide)) (by rfl) (pa_cons (pv 2) (pa_cons (pv 3) pa_nil))))) pa_nil)))), ?_⟩
  have at3 : ∀ {x y z v : V} {i : Nat}, [x, y, z][i]? = some v → (i = 0 ∧ v = x) ∨ (i = 1 ∧ v = y) ∨ (i = 2 ∧ v = z) := fun {x y z v i} h => by
    match i, h with
    | 0, h => exact .inl ⟨rfl, (Option.some.inj h).symm⟩
    | 1, h => exact .inr (.inl ⟨rfl, (Option.some.inj h).symm⟩)
    | 2, h => exact .inr (.inr ⟨rfl, (Option.some.inj h).symm⟩)
  refine ⟨_, rfl, _, rfl, p, q', _, _, rfl, .inr ⟨SqT.of hp, SqT.of hq, fun D hD => ?_⟩⟩
  refine lc_it (walk_zipT (K := K) (n := 3) rfl) (fun i H' => Same H H' ∧ H' D = some (.lst (([decide (a ∣ a'), decide (b ∣ b'), decide (c ∣ c')].take i).map V.bl))) ⟨same_upd hD, upd_same⟩ (fun i H' _ e => ⟨SqT.of (e.1 _ _ hp), SqT.of (e.1 _ _ hq)⟩) ?_ ?_
  · rintro i v Ha Hb hi ⟨sa, eD⟩ ⟨U, y, z, rfl, hU, rfl, hy, hz⟩
    have sU := same_upd (o := .tup [y, z]) hU
    obtain ⟨x, x', rfl, rfl, ex⟩ : ∃ x x' : Nat, y = V.int (x : Nat) ∧ z = V.int (x' : Nat) ∧ [decide (a ∣ a'), decide (b ∣ b'), decide (c ∣ c')].take (i + 1) = [decide (a ∣ a'), decide (b ∣ b'), decide (c ∣ c')].take i ++ [decide (x ∣ x')] := by
      match i, hi, hy, hz with
      | 0, _, hy, hz => exact ⟨a, a', (Option.some.inj hy).symm, (Option.some.inj hz).symm, rfl⟩
      | 1, _, hy, hz => exact ⟨b, b', (Option.some.inj hy).symm, (Option.some.inj hz).symm, rfl⟩
      | 2, _, hy, hz => exact ⟨c, c', (Option.some.inj hy).symm, (Option.some.inj hz).symm, rfl⟩
    refine ⟨U, _, rfl, SqT.of upd_same, rfl, _, _, rfl, _, _, rfl, rfl, rfl, tYes_ok ⟨_, rfl, _, rfl, x, x', rfl, _, sU _ _ eD, small1000 (by rw [List.length_map]; exact Nat.le_trans (List.length_take_le _ _) (by omega)), fun k o hk => ?_, ?_⟩⟩
    · rw [upd_ne (ne_of_none hk hD)]
      exact sU _ _ (sa _ _ hk)
    · rw [upd_same, ex, List.map_append]
      rfl
  · rintro H2 ⟨s2, eD⟩
    refine ⟨D, _, rfl, SqL.of eD, ?_⟩
    have e : ([decide (a ∣ a'), decide (b ∣ b'), decide (c ∣ c')].take 3).all id = (decide (a ∣ a') && (decide (b ∣ b') && decide (c ∣ c'))) := by
      show (decide (a ∣ a') && (decide (b ∣ b') && (decide (c ∣ c') && true))) = _
      rw [Bool.and_true]
    rw [e]
    exact q H2 s2
end
end My
/-! the law's own numbers of realms: lies, meet -/
namespace My
open PySem PySem.Spec PyProof.Rows L2
theorem decN {x v : Nat} : decide (V.int (x : Int) = V.int (v : Int)) = decide (x = v) := decide_eq_decide.mpr ⟨fun z => by
    have := V.int.inj z
    omega, fun z => by rw [z]⟩
theorem dec1 {x : Nat} : decide (V.int (x : Int) = V.int 1) = decide (x = 1) := decN (v := 1)
theorem NumAt.same {H H' : Hp} {p : Addr} {N : RN} (h : NumAt H p N) (s : Same H H') : NumAt H' p N := s _ _ h
theorem cut4 : ¬ (HT.sIx 4 0 (some 1) = 0 ∧ HT.sIx 4 4 none = 4) := by decide
def spLMeet : Sp := fun vs H Q _ => ∃ (p q : Addr) (N M : RN), vs = [.ref p, .ref q] ∧ NumAt H p N ∧ NumAt H q M ∧ 1 ≤ N.1 ∧ 1 ≤ M.1 ∧ N.1 < 2 ^ 30 ∧ M.1 < 2 ^ 30 ∧ SmR N ∧ SmR M ∧ ∀ H' T, Same H H' → H T = none → NumAt H' T (meetF N M) → Q (.ref T) H'
section
variable {P : Program} {w : World} {K : PySem.W.Frag} {mg : Str → Option Value} {base : Heap}
theorem ok_l_lies (F : Fn K mg "_law_lies" s_l_lies ["_law_one", "_law_two"]) (G_l_gcd : Has P w K mg base 1 "_law_gcd" ["_law_a", "_law_b"] spGcd) (G_l_divides : Has P w K mg base 1 "_law_divides" ["_law_a", "_law_b"] spDivs) (G_l_inside : Has P w K mg base 2 "_law_inside" ["_law_ring_z", "_law_realm_z"] spInside) :
    Has P w K mg base 3 "_law_lies" ["_law_one", "_law_two"] spLLies := by
  refine F.has sc_l_lies (fun vs H Q E h => ?_) (fun f cdv A outer s H vs Q E hr h => ?_)
  · obtain ⟨p, q', N, M, rfl, _⟩ := h
    rfl
  obtain ⟨p, q', N, M, rfl, hp, hq, nN, q⟩ := h
  refine ⟨_, (pss_cons (ps_if (pt_cmpR op_eq (pe_ix ix_tup (pv 0) pe_int (fun _ _ => rfl)) pe_int (nomark _))
        (pss_one (ps_ret pe_bl))
        pss_nil)
      (pss_cons (ps_if (pt_cmpR op_gt (pe_ix ix_tup (pv 0) pe_int (fun _ _ => rfl)) pe_int (nomark _))
        (pss_one (ps_ret (pe_and (pe_cmpR op_eq (pe_own G_l_gcd (hr.mono (by decide)) (by rfl) (pa_cons (pe_ix ix_tup (pv 1) pe_int (fun _ _ => rfl)) (pa_cons (pe_ix ix_tup (pv 0) pe_int (fun _ _ => rfl)) pa_nil))) pe_int (nomark _)) (pe_one (pe_own G_l_inside (hr.mono (by decide)) (by rfl) (pa_cons (pe_slice sl_tup (pv 0) (po_some pe_int) po_none) (pa_cons (pe_slice sl_tup (pv 1) (po_some pe_int) po_none) pa_nil)))))))
        pss_nil)
      (pss_one (ps_ret (pe_and (pe_cmpR op_eq (pe_ix ix_tup (pv 1) pe_int (fun _ _ => rfl)) pe_int (nomark _)) (pe_and (pe_own G_l_divides (hr.mono (by decide)) (by rfl) (pa_cons (pe_ix ix_tup (pv 1) pe_int (fun _ _ => rfl)) (pa_cons (pe_ix ix_tup (pv 0) pe_int (fun _ _ => rfl)) pa_nil))) (pe_one (pe_own G_l_divides (hr.mono (by decide)) (by rfl) (pa_cons (pe_ix ix_tup (pv 0) pe_int (fun _ _ => rfl)) (pa_cons (pe_ix ix_tup (pv 1) pe_int (fun _ _ => rfl)) pa_nil)))))))))), ?_⟩
  refine ⟨_, rfl, p, _, _, _, rfl, rfl, SqT.of hp, atI_nat (j := 1) rfl, rfl, _, rfl, ?_⟩
  rw [dec1]
  by_cases o1 : N.2.1 = 1
  · rw [decide_eq_true o1]
    rw [empty_le nN o1] at q
    exact iteT (q H (Same.refl _))
  rw [decide_eq_false o1]
  refine iteF ⟨_, rfl, p, _, _, _, rfl, rfl, SqT.of hp, atI_nat (j := 1) rfl, _, _, rfl, rfl, _, rfl, ?_⟩
  by_cases o0 : N.2.1 = 0
  · refine ite_no (by rw [o0]; decide) ?_
    have e : withinB N M = (decide (M.2.1 = 0) && (decide (M.1 ∣ N.1) && decide (N.2.2.1 ∣ M.2.2.1))) := if_pos o0
    rw [e] at q
    refine ⟨_, rfl, q', _, _, _, rfl, rfl, SqT.of hq, atI_nat (j := 1) rfl, rfl, _, rfl, ?_⟩
    rw [dec0]
    generalize decide (M.2.1 = 0) = b1 at q ⊢
    cases b1 with
    | false => exact iteF (q H (Same.refl _))
    | true =>
      refine iteT ⟨_, rfl, q', _, _, _, rfl, rfl, SqT.of hq, atI_nat (j := 0) rfl, _, rfl, p, _, _, _, rfl, rfl, SqT.of hp, atI_nat (j := 0) rfl, M.1, N.1, rfl, _, rfl, ?_⟩
      generalize decide (M.1 ∣ N.1) = b2 at q ⊢
      cases b2 with
      | false => exact iteF (q H (Same.refl _))
      | true => exact iteT ⟨_, rfl, p, _, _, _, rfl, rfl, SqT.of hp, atI_nat (j := 2) rfl, _, rfl, q', _, _, _, rfl, rfl, SqT.of hq, atI_nat (j := 2) rfl, N.2.2.1, M.2.2.1, rfl, q H (Same.refl _)⟩
  · refine ite_of (by simp; omega) ?_
    have e : withinB N M = if Nat.gcd M.1 N.2.1 = 1 ∧ N.2.1 ∣ M.2.1 then decide (N.2.2.1 ∣ M.2.2.1) && decide (N.2.2.2 ∣ M.2.2.2) else false := if_neg o0
    rw [e] at q
    refine ⟨_, rfl, q', _, _, _, rfl, rfl, SqT.of hq, atI_nat (j := 0) rfl, _, rfl, p, _, _, _, rfl, rfl, SqT.of hp, atI_nat (j := 1) rfl, _, _, rfl, ?_⟩
    rw [gcdF]
    refine ⟨rfl, _, rfl, ?_⟩
    rw [dec1]
    by_cases g1 : Nat.gcd M.1 N.2.1 = 1
    · rw [decide_eq_true g1]
      refine iteT ⟨_, rfl, ⟨1, rfl, p, _, rfl, SqT.of hp, cut4, fun t1 n1 => ⟨_, rfl, 1, rfl, q', _, rfl, SqT.of (same_upd n1 _ _ hq), cut4, fun t2 n2 => ?_⟩⟩⟩
      have c2 := (same_upd (o := .tup [.int (N.2.1 : Nat), .int (N.2.2.1 : Nat), .int (N.2.2.2 : Nat)]) n1).trans (same_upd (o := .tup [.int (M.2.1 : Nat), .int (M.2.2.1 : Nat), .int (M.2.2.2 : Nat)]) n2)
      have e1 := same_upd (o := .tup [.int (M.2.1 : Nat), .int (M.2.2.1 : Nat), .int (M.2.2.2 : Nat)]) n2 _ _ (upd_same (H := H) (a := t1) (o := .tup [.int (N.2.1 : Nat), .int (N.2.2.1 : Nat), .int (N.2.2.2 : Nat)]))
      refine ⟨t1, t2, _, _, _, _, _, _, rfl, e1, upd_same, fun H3 s3 => ?_⟩
      have e2 : (if Nat.gcd M.1 N.2.1 = 1 ∧ N.2.1 ∣ M.2.1 then decide (N.2.2.1 ∣ M.2.2.1) && decide (N.2.2.2 ∣ M.2.2.2) else false) = (decide (N.2.1 ∣ M.2.1) && (decide (N.2.2.1 ∣ M.2.2.1) && decide (N.2.2.2 ∣ M.2.2.2))) := by
        by_cases g2 : N.2.1 ∣ M.2.1
        · rw [if_pos ⟨g1, g2⟩, decide_eq_true g2, Bool.true_and]
        · rw [if_neg fun z => g2 z.2, decide_eq_false g2, Bool.false_and]
      rw [e2] at q
      exact q H3 (c2.trans s3)
    · rw [decide_eq_false g1]
      rw [if_neg fun z => g1 z.1] at q
      exact iteF (q H (Same.refl _))
theorem ok_l_meet (F : Fn K mg "_law_meet" s_l_meet ["_law_one", "_law_two"]) (G_l_gcd : Has P w K mg base 1 "_law_gcd" ["_law_a", "_law_b"] spGcd) (G_l_lcm : Has P w K mg base 2 "_law_lcm" ["_law_a", "_law_b"] spLcm) (G_l_settled : Has P w K mg base 3 "_law_settled" ["_law_d", "_law_o", "_law_s", "_law_t"] spSettled) :
    Has P w K mg base 4 "_law_meet" ["_law_one", "_law_two"] spLMeet := by
  refine F.has sc_l_meet (fun vs H Q E h => ?_) (fun f cdv A outer s H vs Q E hr h => ?_)
  · obtain ⟨p, q', N, M, rfl, _⟩ := h
    rfl
  obtain ⟨p, q', N, M, rfl, hp, hq, n1, m1, n3, m3, sN, sM, q⟩ := h
  refine ⟨_, (pss_one (ps_ret (pe_own G_l_settled (hr.mono (by decide)) (by rfl) (pa_cons (pe_own G_l_lcm (hr.mono (by decide)) (by rfl) (pa_cons (pe_ix ix_tup (pv 0) pe_int (fun _ _ => rfl)) (pa_cons (pe_ix ix_tup (pv 1) pe_int (fun _ _ => rfl)) pa_nil))) (pa_cons (pe_own G_l_gcd (hr.mono (by decide)) (by rfl) (pa_cons (pe_ix ix_tup (pv 0) pe_int (fun _ _ => rfl)) (pa_cons (pe_ix ix_tup (pv 1) pe_int (fun _ _ => rfl)) pa_nil))) (pa_cons (pe_own G_l_gcd (hr.mono (by decide)) (by rfl) (pa_cons (pe_ix ix_tup (pv 0) pe_int (fun _ _ => rfl)) (pa_cons (pe_ix ix_tup (pv 1) pe_int (fun _ _ => rfl)) pa_nil))) (pa_cons (pe_own G_l_gcd (hr.mono (by decide)) (by rfl) (pa_cons (pe_ix ix_tup (pv 0) pe_int (fun _ _ => rfl)) (pa_cons (pe_ix ix_tup (pv 1) pe_int (fun _ _ => rfl)) pa_nil))) pa_nil))))))), ?_⟩
  obtain ⟨x1, x2, x3, x4, x5⟩ := sN
  obtain ⟨y1, y2, y3, y4, y5⟩ := sM
  refine ⟨_, rfl, p, _, _, _, rfl, rfl, SqT.of hp, atI_nat (j := 0) rfl, _, rfl, q', _, _, _, rfl, rfl, SqT.of hq, atI_nat (j := 0) rfl, N.1, M.1, rfl, n1, m1, n3, m3, ?_⟩
  refine ⟨_, rfl, p, _, _, _, rfl, rfl, SqT.of hp, atI_nat (j := 1) rfl, _, rfl, q', _, _, _, rfl, rfl, SqT.of hq, atI_nat (j := 1) rfl, _, _, rfl, ?_⟩
  refine ⟨_, rfl, p, _, _, _, rfl, rfl, SqT.of hp, atI_nat (j := 2) rfl, _, rfl, q', _, _, _, rfl, rfl, SqT.of hq, atI_nat (j := 2) rfl, _, _, rfl, ?_⟩
  refine ⟨_, rfl, p, _, _, _, rfl, rfl, SqT.of hp, atI_nat (j := 3) rfl, _, rfl, q', _, _, _, rfl, rfl, SqT.of hq, atI_nat (j := 3) rfl, _, _, rfl, ?_⟩
  rw [gcdF, gcdF, gcdF]
  refine ⟨_, _, _, _, rfl, gcd_small x3 y3, gcd_small x4 y4, gcd_small x5 y5, fun H' T d' o' s' t' nX sX nT eT => q H' T sX nT ?_⟩
  have e := meet_of (N := N) (M := M) (X := (d', o', s', t')) nX
  rw [← e]
  exact eT
end
end My
/-! the law's own rows of verdicts: meets -/
namespace My
open PySem PySem.Spec PyProof.Rows L2
def RowAt (H : Hp) (p : Addr) (v : VD) : Prop := ∃ q, H p = some (.tup [.int (v.1 : Nat), .ref q, .bl v.2.2]) ∧ NumAt H q v.2.1
theorem RowAt.same {H H' : Hp} {p : Addr} {v : VD} (h : RowAt H p v) (s : Same H H') : RowAt H' p v := by
  obtain ⟨q, h1, h2⟩ := h
  exact ⟨q, s _ _ h1, h2.same s⟩
def RowsAt (H : Hp) (l : Addr) (ds : List VD) : Prop := ∃ ps : List Addr, H l = some (.lst (ps.map V.ref)) ∧ Paired (RowAt H) ps ds
theorem RowsAt.same {H H' : Hp} {l : Addr} {ds : List VD} (h : RowsAt H l ds) (s : Same H H') : RowsAt H' l ds := by
  obtain ⟨ps, h1, h2⟩ := h
  exact ⟨ps, s _ _ h1, paired_mono (fun a v h => h.same s) h2⟩
theorem OkV.take {m : Nat} {ds : List VD} (ok : OkV m ds) (i : Nat) : OkV m (ds.take i) := ⟨Nat.le_trans (List.length_take_le' _ _) ok.ln, ok.m1, ok.m2, fun v hv => ok.bd v (List.mem_of_mem_take hv)⟩
theorem BndR.l30 {m : Nat} {N : RN} (h : BndR m N) (m1 : 1 ≤ m) (m2 : m < 2 ^ 30) : N.1 < 2 ^ 30 := Nat.lt_of_le_of_lt (Nat.le_of_dvd m1 h.dv) m2
def spMeets : Sp := fun vs H Q _ => ∃ (l : Addr) (ds : List VD) (m : Nat), vs = [.ref l] ∧ RowsAt H l ds ∧ OkV m ds ∧ m < 2 ^ 30 ∧ ∀ H' T, Same H H' → H T = none → NumAt H' T (meetL ds) → Q (.ref T) H'
theorem meetL_snoc {ds : List VD} {i : Nat} {v : VD} (h : ds[i]? = some v) : meetL (ds.take (i + 1)) = if v.2.2 = true then meetF (meetL (ds.take i)) v.2.1 else meetL (ds.take i) := by
  unfold meetL meetsF
  rw [realmsF_snoc h]
  cases v.2.2 with
  | true => rw [List.foldl_append]; rfl
  | false => simp
section
variable {P : Program} {w : World} {K : PySem.W.Frag} {mg : Str → Option Value} {base : Heap}
theorem ok_l_meets (F : Fn K mg "_law_meets" s_l_meets ["_law_rows"]) (G_l_meet : Has P w K mg base 4 "_law_meet" ["_law_one", "_law_two"] spLMeet) : Has P w K mg base 5 "_law_meets" ["_law_rows"] spMeets := by
  refine F.has sc_l_meets (fun vs H Q E h => ?_) (fun f cdv A outer s H vs Q E hr h => ?_)
  · obtain ⟨l, ds, m, rfl, _⟩ := h
    rfl
  obtain ⟨l, ds, m, rfl, ⟨ps, hl, pp⟩, ok, mb, q⟩ := h
  refine ⟨_, (pss_cons (ps_set (i := 1) sc_l_meets.nd rfl (Or.inl rfl) (pe_tup (pa_cons pe_int (pa_cons pe_int (pa_cons pe_int (pa_cons pe_int pa_nil))))))
      (pss_cons (ps_for PassesOwn.never rfl (pi_list (pv 0)) (pg_tup rfl (pgs_cons (pg_name (i := 2) sc_l_meets.nd rfl (Or.inl rfl)) (pgs_cons (pg_name (i := 3) sc_l_meets.nd rfl (Or.inl rfl)) (pgs_cons (pg_name (i := 4) sc_l_meets.nd rfl (Or.inl rfl)) pgs_nil))))
        (pss_one (ps_if (pt_val (pv 4))
        (pss_one (ps_set (i := 1) sc_l_meets.nd rfl (Or.inl rfl) (pe_own G_l_meet (hr.mono (by decide)) (by rfl) (pa_cons (pv 1) (pa_cons (pv 3) pa_nil)))))
        pss_nil)))
      (pss_one (ps_ret (pv 1))))), ?_⟩
  refine ⟨(by show 4 ≤ sizeLine; decide), fun T0 n0 => ?_⟩
  have c0 := same_upd (o := tupR 1 0 0 0) n0
  have e0 : NumAt (upd H T0 (tupR 1 0 0 0)) T0 allR := upd_same
  change tSeq _ _ _ _ (upd H T0 (tupR 1 0 0 0))
  generalize upd H T0 (tupR 1 0 0 0) = H1 at c0 e0 ⊢
  refine ⟨_, rfl, l, rfl, ⟨_, SqL.of (c0 _ _ hl)⟩, for_list (xs := ps.map V.ref) (fun i σ H' => ∃ T y2 y3 y4, σ = [some (.ref l), some (.ref T), y2, y3, y4] ∧ Same H H' ∧ H T = none ∧ NumAt H' T (meetL (ds.take i))) ⟨T0, _, _, _, rfl, c0, n0, e0⟩ (fun i σ H' _ ⟨_, _, _, _, _, e, _⟩ => SqL.of (e _ _ hl)) ?_ ?_⟩
  · rintro i y σ Ha hv ⟨T, y2, y3, y4, rfl, sa, nT, hT⟩
    obtain ⟨p2, hp2, rfl⟩ := at_map hv
    obtain ⟨v, hv2, q2, e1, e2⟩ := paired_at pp hp2
    refine ⟨_, _, rfl, SqT.of (sa _ _ e1), rfl, _, _, rfl, _, _, rfl, _, _, rfl, rfl, ?_⟩
    refine ⟨_, rfl, _, rfl, ?_⟩
    have em := meetL_snoc hv2
    cases ev : v.2.2 with
    | false =>
      rw [ev, if_neg (by decide)] at em
      exact iteF ⟨T, _, _, _, rfl, sa, nT, by rw [em]; exact hT⟩
    | true =>
      rw [ev, if_pos rfl] at em
      have bn := ok.bd v (List.mem_of_getElem? hv2)
      have bm := (ok.take i).meet
      refine iteT ⟨_, rfl, _, rfl, T, q2, _, v.2.1, rfl, hT, e2.same sa, bm.nm.d1, bn.nm.d1, bm.l30 ok.m1 mb, bn.l30 ok.m1 mb, bm.sm ok.m1 ok.m2, bn.sm ok.m1 ok.m2, fun H3 T3 s3 n3 h3 => ⟨T3, _, _, _, rfl, sa.trans s3, sa.free n3, by rw [em]; exact h3⟩⟩
  · rintro σ' H2 ⟨T, y2, y3, y4, rfl, s2, nT, hT⟩
    rw [List.length_map, List.take_of_length_le (by rw [pair_len pp]; exact Nat.le_refl _)] at hT
    exact ⟨_, rfl, q H2 T s2 nT hT⟩
end
end My
/-! the law's own rows of verdicts: refusal -/
namespace My
open PySem PySem.Spec PyProof.Rows L2
theorem op_neDK {X : Cx} (K : PySem.W.Frag) (hK : X.K = K) (hu : X.A.units + 64 < cLine) : OpR X (compareOp .NotEq) (rNeD K) := by
  subst hK
  exact op_neD hu
theorem shapedL (xs : List Nat) : SeqAt.shaped (.list (dNats xs)) = true := by
  have h1 := depth_nats xs
  show (PyData.canLay0 (.list (dNats xs)) && decide (PyData.depth (.list (dNats xs)) ≤ 64)) = true
  rw [Bool.and_eq_true]
  refine ⟨by simp only [PyData.canLay0]; exact lay_nats xs, decide_eq_true ?_⟩
  simp only [PyData.depth]
  omega
theorem eqvL_nil (xs : List Nat) : PyData.eqv (.list (dNats xs)) (.list (dNats [])) = decide (xs = []) := by
  cases xs <;> simp [PyData.eqv, PyData.eqvAll, dNats]
theorem dp_natsL {K : PySem.W.Frag} {H : Hp} {l : Addr} {xs : List Nat} (h : H l = some (.lst (xs.map fun (x : Nat) => V.int (x : Int)))) : Dp K H (.ref l) (.list (dNats xs)) := .lst (SqL.of h) (dp_nats xs)
theorem pick_snoc {p : VD → Bool} {ds : List VD} {i : Nat} {v : VD} (h : ds[i]? = some v) : ((ds.take (i + 1)).filter p).map (fun v => V.int ((v.1 : Nat) : Int)) = ((ds.take i).filter p).map (fun v => V.int ((v.1 : Nat) : Int)) ++ (if p v then [V.int ((v.1 : Nat) : Int)] else []) := by
  rw [take_snoc h, List.filter_append, List.map_append]
  cases e : p v with
  | true => simp [List.filter_cons, e]
  | false => simp [List.filter_cons, e]
def optV : Option Nat → V
  | none => .non
  | some k => .int (k : Nat)
def spRefusal : Sp := fun vs H Q _ => ∃ (l p : Addr) (ds : List VD) (m : Nat) (N : RN) (b : Bool), vs = [.ref l, .ref p, .bl b] ∧ RowsAt H l ds ∧ NumAt H p N ∧ OkV m ds ∧ BndR m N ∧ m < 2 ^ 30 ∧ ∀ H', Same H H' → Q (optV (refF ds N b)) H'
section
variable {P : Program} {w : World} {K : PySem.W.Frag} {mg : Str → Option Value} {base : Heap}
theorem ok_l_refusal (F : Fn K mg "_law_refusal" s_l_refusal ["_law_rows", "_law_numbers", "_law_way"]) (G_l_meets : Has P w K mg base 5 "_law_meets" ["_law_rows"] spMeets) (G_l_meet : Has P w K mg base 4 "_law_meet" ["_law_one", "_law_two"] spLMeet) (G_l_lies : Has P w K mg base 3 "_law_lies" ["_law_one", "_law_two"] spLLies) : Has P w K mg base 6 "_law_refusal" ["_law_rows", "_law_numbers", "_law_way"] spRefusal := by
  refine F.has sc_l_refusal (fun vs H Q E h => ?_) (fun f cdv A outer s H vs Q E hr h => ?_)
  · obtain ⟨l, p, ds, m, N, b, rfl, _⟩ := h
    rfl
  obtain ⟨l, p, ds, m, N, b, rfl, ⟨ps, hl, pp⟩, hp, ok, bN, mb, q⟩ := h
  refine ⟨_, (pss_cons (ps_set (i := 3) sc_l_refusal.nd rfl (Or.inl rfl) (pe_own G_l_meets (hr.mono (by decide)) (by rfl) (pa_cons (pv 0) pa_nil)))
      (pss_cons (ps_if (pt_not (pt_val (pv 2)))
        (pss_one (ps_ret (pe_ifExp (pt_val (pe_own G_l_lies (hr.mono (by decide)) (by rfl) (pa_cons (pv 3) (pa_cons (pv 1) pa_nil)))) pe_int pe_non)))
        pss_nil)
      (pss_cons (ps_set (i := 4) sc_l_refusal.nd rfl (Or.inr rfl) (pe_own G_l_meet (hr.mono (by decide)) (by rfl) (pa_cons (pv 3) (pa_cons (pv 1) pa_nil))))
      (pss_cons (ps_if (pt_cmpR op_eq (pe_ix ix_tup (pv 4) pe_int (fun _ _ => rfl)) pe_int (nomark _))
        (pss_one (ps_ret pe_int))
        pss_nil)
      (pss_cons (ps_setLc (i := 5) (own := [("_law_number", 6), ("_law_realm_here", 7), ("_law_kind_z", 8)]) (g := gTup K 3 (gCons (gName 6) (gCons (gName 7) (gCons (gName 8) gNil)))) (by rfl) sc_l_refusal.nd rfl rfl (sw_true rfl rfl rfl (by decide +kernel)) (pi_list (pv 0)) (blkOk_by (own := [("_law_number", 6), ("_law_realm_here", 7), ("_law_kind_z", 8)]) (N := N_l_refusal) (sc := defScope s_l_refusal) (by decide +kernel)) (fun _ _ _ _ _ => (pg_tup rfl (pgs_cons (pg_name (i := 6) sc_l_refusal.nd rfl (Or.inl rfl)) (pgs_cons (pg_name (i := 7) sc_l_refusal.nd rfl (Or.inl rfl)) (pgs_cons (pg_name (i := 8) sc_l_refusal.nd rfl (Or.inl rfl)) pgs_nil))))) (fun _ _ _ _ _ => (pts_one (PW.pt (pw_and (pt_not (pt_val (pv 8))) (pw_and1 (pt_val (pe_own G_l_lies (hr.mono (by decide)) (by rfl) (pa_cons (pv 4) (pa_cons (pv 7) pa_nil))))))))) (fun _ _ _ _ _ => (pv 6)))
      (pss_one (ps_ret (pe_ifExp (pt_cmpR (op_neDK K rfl (un64 hr)) (pv 5) (pe_lst pa_nil) (nomark _)) (pe_ix ix_list (pv 5) pe_int (fun _ _ => rfl)) pe_non)))))))), ?_⟩
  have bm := ok.meet
  refine ⟨_, rfl, l, ds, m, rfl, ⟨ps, hl, pp⟩, ok, mb, fun H1 T s1 nT hT => ?_⟩
  refine ⟨_, rfl, _, rfl, ?_⟩
  unfold refF at q
  cases b with
  | false =>
    rw [if_neg (by decide)] at q
    refine iteT ⟨_, rfl, _, rfl, T, p, meetL ds, N, rfl, hT, hp.same s1, bm.nm, fun H2 s2 => ⟨_, rfl, ?_⟩⟩
    cases e : withinB (meetL ds) N with
    | true =>
      rw [e, if_pos rfl] at q
      exact iteT (q H2 (s1.trans s2))
    | false =>
      rw [e, if_neg (by decide)] at q
      exact iteF (q H2 (s1.trans s2))
  | true =>
    rw [if_pos rfl] at q
    refine iteF ⟨_, rfl, _, rfl, T, p, meetL ds, N, rfl, hT, hp.same s1, bm.nm.d1, bN.nm.d1, bm.l30 ok.m1 mb, bN.l30 ok.m1 mb, bm.sm ok.m1 ok.m2, bN.sm ok.m1 ok.m2, fun H2 T2 s2 nT2 hT2 => ?_⟩
    have nX : NormR (meetF (meetL ds) N) := meet_norm bm.nm bN.nm
    generalize meetF (meetL ds) N = X at hT2 q nX ⊢
    have s12 := s1.trans s2
    refine ⟨_, rfl, T2, _, _, _, rfl, rfl, SqT.of hT2, atI_nat (j := 1) rfl, rfl, _, rfl, ?_⟩
    rw [dec1]
    unfold clash at q
    by_cases e1 : X.2.1 = 1
    · rw [if_pos e1] at q
      rw [decide_eq_true e1]
      exact iteT (q H2 s12)
    rw [if_neg e1] at q
    rw [decide_eq_false e1]
    refine iteF ⟨_, rfl, l, rfl, ⟨_, SqL.of (s12 _ _ hl)⟩, fun D nD => ?_⟩
    refine lc_it (walk_list (K := K) (xs := ps.map V.ref)) (fun i Hz => Same H2 Hz ∧ Hz D = some (.lst ((((ds.take i).filter fun v => !v.2.2 && withinB X v.2.1).map fun v => V.int ((v.1 : Nat) : Int))))) ⟨same_upd nD, upd_same⟩ (fun i Hz _ e => SqL.of (e.1 _ _ (s12 _ _ hl))) ?_ ?_
    · rintro i y Ha Hb hi ⟨sa, eD⟩ ⟨rfl, hv⟩
      obtain ⟨p2, hp2, rfl⟩ := at_map hv
      obtain ⟨v, hv2, q2, k1, k2⟩ := paired_at pp hp2
      have s1a := s12.trans sa
      refine ⟨_, _, rfl, SqT.of (s1a _ _ k1), rfl, _, _, rfl, _, _, rfl, _, _, rfl, rfl, rfl, ?_⟩
      have er := pick_snoc (p := fun v : VD => !v.2.2 && withinB X v.2.1) hv2
      have lf : (((ds.take i).filter fun v : VD => !v.2.2 && withinB X v.2.1).map fun v => V.int ((v.1 : Nat) : Int)).length ≤ 1000 := by
        rw [List.length_map]
        exact Nat.le_trans (List.length_filter_le _ _) (Nat.le_trans (List.length_take_le' _ _) (Nat.le_trans ok.ln (by decide)))
      have skip : (!v.2.2 && withinB X v.2.1) = false → ((ds.take (i + 1)).filter fun v : VD => !v.2.2 && withinB X v.2.1).map (fun v => V.int ((v.1 : Nat) : Int)) = ((ds.take i).filter fun v : VD => !v.2.2 && withinB X v.2.1).map (fun v => V.int ((v.1 : Nat) : Int)) := fun e => by
        rw [er]
        simp [e]
      cases ev : v.2.2 with
      | true => exact ⟨_, rfl, _, rfl, iteF (iteF ⟨sa, by rw [skip (by rw [ev]; rfl)]; exact eD⟩)⟩
      | false =>
        refine ⟨_, rfl, _, rfl, iteT ⟨_, rfl, _, rfl, T2, q2, X, v.2.1, rfl, hT2.same sa, k2.same s1a, nX, fun H5 s5 => ⟨_, rfl, ?_⟩⟩⟩
        cases ew : withinB X v.2.1 with
        | false => exact iteF ⟨sa.trans s5, by rw [skip (by rw [ev, ew]; rfl)]; exact s5 _ _ eD⟩
        | true =>
          refine iteT ⟨_, rfl, _, s5 _ _ eD, small1000 lf, fun c o hc => ?_, ?_⟩
          · rw [upd_ne (ne_of_none hc nD)]
            exact s5 _ _ (sa _ _ hc)
          · rw [upd_same, er, if_pos (by rw [ev, ew]; rfl)]
    · rintro Hz ⟨sz, eD⟩
      rw [List.length_map, List.take_of_length_le (by rw [pair_len pp]; exact Nat.le_refl _)] at eD
      refine ⟨_, rfl, (by show 0 ≤ sizeLine; decide), fun l2 nl2 => ?_⟩
      obtain ⟨ks, hks⟩ : ∃ ks, ks = ((ds.filter fun v : VD => !v.2.2 && withinB X v.2.1).map fun v => v.1) := ⟨_, rfl⟩
      have eD' : Hz D = some (.lst (ks.map fun (x : Nat) => V.int (x : Int))) := by
        rw [eD, hks, List.map_map]
        rfl
      have c2 := same_upd (o := .lst []) nl2
      have eL : (upd Hz l2 (.lst [])) l2 = some (.lst (([] : List Nat).map fun (x : Nat) => V.int (x : Int))) := upd_same
      refine ⟨_, _, dp_natsL (c2 _ _ eD'), dp_natsL eL, shapedL _, shapedL _, ?_⟩
      rw [eqvL_nil]
      have eh : ((ds.find? fun v : VD => !v.2.2 && withinB X v.2.1).map (·.1)) = ks.head? := by
        rw [hks, List.head?_map, List.head?_filter]
      rw [eh] at q
      have s2z := s12.trans (sz.trans c2)
      refine ⟨_, rfl, ?_⟩
      cases ks with
      | nil => exact iteF (q _ s2z)
      | cons k0 ks => exact iteT ⟨_, rfl, D, _, _, _, rfl, rfl, SqL.of (c2 _ _ eD'), atI_nat (j := 0) rfl, q _ s2z⟩
end
end My
/-! the law's drawn wide realms -/
namespace My
open PySem PySem.Spec PyProof.Rows L2
theorem kp_free {b D : Addr} {H H' : Hp} (k : Kp b H H') (n : D ≠ b) (h : H' D = none) : H D = none := by
  cases e : H D with
  | none => rfl
  | some o =>
    rw [k D o n e] at h
    cases h
def spWide : Sp := fun vs H Q _ => ∃ b c : Addr, vs = [.ref b] ∧ Bg H b c ∧ ∀ (H' : Hp) (T : Addr) (d o s t : Nat), Kp b H H' → Bg H' b c → H T = none → T ≠ b → H' T = some (tupR d o s t) → (d = 1 ∨ d = 2 ∨ d = 3 ∨ d = 6) → o ≤ 360 → s ≤ 360 → t ≤ 360 → Q (.ref T) H'
section
variable {P : Program} {w : World} {K : PySem.W.Frag} {mg : Str → Option Value} {base : Heap}
theorem ok_l_wide (F : Fn K mg "_law_wide_realm" s_l_wide_realm ["_law_bag_here"]) (G_l_pick : Has P w K mg base 2 "_law_pick" ["_law_bag_here", "_law_some"] (spPick K)) : Has P w K mg base 3 "_law_wide_realm" ["_law_bag_here"] spWide := by
  refine F.has sc_l_wide_realm (fun vs H Q E h => ?_) (fun f cdv A outer s H vs Q E hr h => ?_)
  · obtain ⟨b, c, rfl, _⟩ := h
    rfl
  obtain ⟨b, c, rfl, hB, q⟩ := h
  refine ⟨_, (pss_cons (ps_set (i := 1) sc_l_wide_realm.nd rfl (Or.inl rfl) (pe_own G_l_pick (hr.mono (by decide)) (by rfl) (pa_cons (pv 0) (pa_cons (pe_lst (pa_cons pe_int (pa_cons pe_int (pa_cons pe_int (pa_cons pe_int (pa_cons pe_int (pa_cons pe_int (pa_cons pe_int pa_nil)))))))) pa_nil))))
      (pss_cons (ps_if (pt_cmpR op_eq (pv 1) pe_int (nomark _))
        (pss_one (ps_ret (pe_tup (pa_cons (pe_own G_l_pick (hr.mono (by decide)) (by rfl) (pa_cons (pv 0) (pa_cons (pe_lst (pa_cons pe_int (pa_cons pe_int (pa_cons pe_int (pa_cons pe_int (pa_cons pe_int pa_nil)))))) pa_nil))) (pa_cons pe_int (pa_cons (pe_own G_l_pick (hr.mono (by decide)) (by rfl) (pa_cons (pv 0) (pa_cons (pe_lst (pa_cons pe_int (pa_cons pe_int (pa_cons pe_int (pa_cons pe_int (pa_cons pe_int (pa_cons pe_int pa_nil))))))) pa_nil))) (pa_cons pe_int pa_nil)))))))
        pss_nil)
      (pss_one (ps_ret (pe_tup (pa_cons pe_int (pa_cons (pv 1) (pa_cons (pe_own G_l_pick (hr.mono (by decide)) (by rfl) (pa_cons (pv 0) (pa_cons (pe_lst (pa_cons pe_int (pa_cons pe_int (pa_cons (pv 1) (pa_cons (pe_op op_fdiv (pv 1) pe_int) pa_nil))))) pa_nil))) (pa_cons (pe_own G_l_pick (hr.mono (by decide)) (by rfl) (pa_cons (pv 0) (pa_cons (pe_lst (pa_cons (pv 1) (pa_cons (pv 1) (pa_cons (pe_op op_fdiv (pv 1) pe_int) pa_nil)))) pa_nil))) pa_nil))))))))), ?_⟩
  refine ⟨_, rfl, (by show 7 ≤ sizeLine; decide), fun l1 n1 => ⟨b, c, .ref l1, rfl, hB.same (same_upd n1), .inl ⟨l1, _, rfl, hB.ne_new n1, upd_same, by simp, (by show 7 ≤ 1000; decide), fun v1 H1 m1 k1 B1 => ?_⟩⟩⟩
  obtain ⟨z, rfl, hz⟩ : ∃ n : Nat, v1 = .int (n : Int) ∧ n ≤ 360 := by
    simp only [List.mem_cons, List.not_mem_nil, or_false] at m1
    rcases m1 with rfl | rfl | rfl | rfl | rfl | rfl | rfl
    · exact ⟨0, rfl, by decide⟩
    · exact ⟨0, rfl, by decide⟩
    · exact ⟨12, rfl, by decide⟩
    · exact ⟨24, rfl, by decide⟩
    · exact ⟨60, rfl, by decide⟩
    · exact ⟨180, rfl, by decide⟩
    · exact ⟨360, rfl, by decide⟩
  have K1 : Kp b H H1 := (Kp.of (same_upd n1)).trans k1
  refine ⟨_, rfl, rfl, _, rfl, ?_⟩
  rw [dec0]
  by_cases z0 : z = 0
  · rw [decide_eq_true z0]
    refine iteT ⟨_, rfl, (by show 5 ≤ sizeLine; decide), fun l2 n2 => ⟨b, c, .ref l2, rfl, B1.same (same_upd n2), .inl ⟨l2, _, rfl, B1.ne_new n2, upd_same, by simp, (by show 5 ≤ 1000; decide), fun v3 H3 m3 k3 B3 => ?_⟩⟩⟩
    obtain ⟨d, rfl, hd⟩ : ∃ n : Nat, v3 = .int (n : Int) ∧ (n = 1 ∨ n = 2 ∨ n = 3 ∨ n = 6) := by
      simp only [List.mem_cons, List.not_mem_nil, or_false] at m3
      rcases m3 with rfl | rfl | rfl | rfl | rfl
      · exact ⟨1, rfl, by decide⟩
      · exact ⟨1, rfl, by decide⟩
      · exact ⟨2, rfl, by decide⟩
      · exact ⟨3, rfl, by decide⟩
      · exact ⟨6, rfl, by decide⟩
    have K3 : Kp b H H3 := K1.trans ((Kp.of (same_upd n2)).trans k3)
    refine ⟨_, rfl, (by show 6 ≤ sizeLine; decide), fun l4 n4 => ⟨b, c, .ref l4, rfl, B3.same (same_upd n4), .inl ⟨l4, _, rfl, B3.ne_new n4, upd_same, by simp, (by show 6 ≤ 1000; decide), fun v5 H5 m5 k5 B5 => ?_⟩⟩⟩
    obtain ⟨s', rfl, hs⟩ : ∃ n : Nat, v5 = .int (n : Int) ∧ n ≤ 360 := by
      simp only [List.mem_cons, List.not_mem_nil, or_false] at m5
      rcases m5 with rfl | rfl | rfl | rfl | rfl | rfl
      · exact ⟨0, rfl, by decide⟩
      · exact ⟨0, rfl, by decide⟩
      · exact ⟨1, rfl, by decide⟩
      · exact ⟨2, rfl, by decide⟩
      · exact ⟨6, rfl, by decide⟩
      · exact ⟨12, rfl, by decide⟩
    have K5 : Kp b H H5 := K3.trans ((Kp.of (same_upd n4)).trans k5)
    refine ⟨(by show 4 ≤ sizeLine; decide), fun T nT => ?_⟩
    have nT0 := kp_free K5 (B5.ne_new nT) nT
    exact q _ T d 0 s' 0 (K5.trans (Kp.of (same_upd nT))) (B5.same (same_upd nT)) nT0 (B5.ne_new nT) upd_same hd (by decide) hs (by decide)
  · rw [decide_eq_false z0]
    have hq : ((z : Int) / 2) = ((z / 2 : Nat) : Int) := (Int.natCast_ediv z 2).symm
    refine iteF ⟨_, rfl, _, rfl, _, rfl, _, rfl, _, _, rfl, rfl, ⟨by decide, by decide⟩, (by show 4 ≤ sizeLine; decide), fun l2 n2 => ⟨b, c, .ref l2, rfl, B1.same (same_upd n2), .inl ⟨l2, _, rfl, B1.ne_new n2, upd_same, by simp, (by show 4 ≤ 1000; decide), fun v3 H3 m3 k3 B3 => ?_⟩⟩⟩
    obtain ⟨s', rfl, hs⟩ : ∃ n : Nat, v3 = .int (n : Int) ∧ n ≤ 360 := by
      simp only [List.mem_cons, List.not_mem_nil, or_false] at m3
      rcases m3 with rfl | rfl | rfl | rfl
      · exact ⟨1, rfl, by decide⟩
      · exact ⟨2, rfl, by decide⟩
      · exact ⟨z, rfl, hz⟩
      · exact ⟨z / 2, congrArg V.int hq, by omega⟩
    have K3 : Kp b H H3 := K1.trans ((Kp.of (same_upd n2)).trans k3)
    refine ⟨_, rfl, _, rfl, _, rfl, _, rfl, _, _, rfl, rfl, ⟨by decide, by decide⟩, (by show 3 ≤ sizeLine; decide), fun l4 n4 => ⟨b, c, .ref l4, rfl, B3.same (same_upd n4), .inl ⟨l4, _, rfl, B3.ne_new n4, upd_same, by simp, (by show 3 ≤ 1000; decide), fun v5 H5 m5 k5 B5 => ?_⟩⟩⟩
    obtain ⟨t', rfl, ht⟩ : ∃ n : Nat, v5 = .int (n : Int) ∧ n ≤ 360 := by
      simp only [List.mem_cons, List.not_mem_nil, or_false] at m5
      rcases m5 with rfl | rfl | rfl
      · exact ⟨z, rfl, hz⟩
      · exact ⟨z, rfl, hz⟩
      · exact ⟨z / 2, congrArg V.int hq, by omega⟩
    have K5 : Kp b H H5 := K3.trans ((Kp.of (same_upd n4)).trans k5)
    refine ⟨(by show 4 ≤ sizeLine; decide), fun T nT => ?_⟩
    have nT0 := kp_free K5 (B5.ne_new nT) nT
    exact q _ T 1 z s' t' (K5.trans (Kp.of (same_upd nT))) (B5.same (same_upd nT)) nT0 (B5.ne_new nT) upd_same (.inl rfl) hz hs ht
end
end My
namespace My
open PySem PySem.Spec PyProof.Rows L2
/-! ### which field an error's code tells -/
abbrev cGiven : List V := [.str "InvalidNumber", .str "InvalidThing", .str "InvalidRing", .str "InvalidName", .str "InvalidOrder", .str "WrongCount"]
abbrev cAt : List V := [.str "InvalidTerm", .str "InvalidLine", .str "InvalidProduct", .str "InvalidCommand", .str "DegreeTooHigh", .str "NotWhole", .str "NotStraight", .str "NoUnit"]
abbrev cNumber : List V := [.str "NoInverse", .str "Unsound", .str "InUse", .str "Broken", .str "UnknownNumber"]
abbrev cName : List V := [.str "Unused", .str "DuplicateName", .str "UnknownName"]
abbrev cMost : List V := [.str "TooMany", .str "TooGreat", .str "Full"]
def fieldName (q : Str) : Option Str :=
  if inV (.str q) cGiven then some "given" else if inV (.str q) cAt then some "at" else if inV (.str q) cNumber then some "number" else if inV (.str q) cName then some "name" else if inV (.str q) cMost then some "most" else if q = "InvalidHead" then some "part" else if q = "InvalidTable" then some "rule" else if q = "InvalidText" then some "line" else none
/-- an error of an own class at C, its dict fs: its code, the field that the code tells -/
structure ErrAt (K : PySem.W.Frag) (cls : Value) (d : Option Addr) (H : Hp) (q : Str) (v : V) : Prop where
  ex : ∃ (C dd : Addr) (fs : List (Str × V)) (f : Str), cls = .ref C ∧ XfC K C ∧ d = some dd ∧ H dd = some (.xd fs) ∧ PySem.W.findIn K (.ref C) "code" = some none ∧ fs.lookup ("code" : Str) = some (V.str q) ∧
    fieldName q = some f ∧ PySem.W.findIn K (.ref C) f = some none ∧ fs.lookup f = some v
theorem ErrAt.same {K : PySem.W.Frag} {cls : Value} {d : Option Addr} {H H' : Hp} {q : Str} {v : V} (h : ErrAt K cls d H q v) (s : Same H H') : ErrAt K cls d H' q v := by
  obtain ⟨C, dd, fs, f, a, b, c, e, r⟩ := h.ex
  exact ⟨C, dd, fs, f, a, b, c, s _ _ e, r⟩
def spField (K : PySem.W.Frag) (p : Addr × Obj) : Sp := fun vs H Q _ => ∃ (cls : Value) (d : Option Addr) (q : Str) (v : V), vs = [.ref p.1] ∧ Zc cls d p.2 ∧ (∃ ws, p.2.data = .fields ws) ∧ ErrAt K cls d H q v ∧ ∀ H', Same H H' → Q v H'
section
variable {P : Program} {w : World} {K : PySem.W.Frag} {mg : Str → Option Value} {base : Heap}
theorem ok_field (F : Fn K mg "_law_field" s_l_field ["_law_e"]) : HasP P w K mg base 1 "_law_field" ["_law_e"] (spField K) := by
  obtain ⟨f, fd, F, m, b⟩ := F.ex
  refine ⟨f, fd, Fun.pinned F sc_l_field (fun p vs H Q E h => ?_) (fun cdv A outer s H vs Q p hr h => ?_), m, F.kp, b⟩
  · obtain ⟨cls, d, q, v, rfl, _⟩ := h
    rfl
  obtain ⟨cls, d, q, v, rfl, hz, hf, er, hq⟩ := h
  refine ⟨_, (pss_cons (ps_if (pt_cmpR op_in_seq (pe_xg (K := K) (List.mem_cons_self) hz hf (pv 0)) (pe_lst (pa_cons pe_str (pa_cons pe_str (pa_cons pe_str (pa_cons pe_str (pa_cons pe_str (pa_cons pe_str pa_nil))))))) rfl)
        (pss_one (ps_ret (pe_xg (K := K) (List.mem_cons_self) hz hf (pv 0))))
        pss_nil)
      (pss_cons (ps_if (pt_cmpR op_in_seq (pe_xg (K := K) (List.mem_cons_self) hz hf (pv 0)) (pe_lst (pa_cons pe_str (pa_cons pe_str (pa_cons pe_str (pa_cons pe_str (pa_cons pe_str (pa_cons pe_str (pa_cons pe_str (pa_cons pe_str pa_nil))))))))) rfl)
        (pss_one (ps_ret (pe_xg (K := K) (List.mem_cons_self) hz hf (pv 0))))
        pss_nil)
      (pss_cons (ps_if (pt_cmpR op_in_seq (pe_xg (K := K) (List.mem_cons_self) hz hf (pv 0)) (pe_lst (pa_cons pe_str (pa_cons pe_str (pa_cons pe_str (pa_cons pe_str (pa_cons pe_str pa_nil)))))) rfl)
        (pss_one (ps_ret (pe_xg (K := K) (List.mem_cons_self) hz hf (pv 0))))
        pss_nil)
      (pss_cons (ps_if (pt_cmpR op_in_seq (pe_xg (K := K) (List.mem_cons_self) hz hf (pv 0)) (pe_lst (pa_cons pe_str (pa_cons pe_str (pa_cons pe_str pa_nil)))) rfl)
        (pss_one (ps_ret (pe_xg (K := K) (List.mem_cons_self) hz hf (pv 0))))
        pss_nil)
      (pss_cons (ps_if (pt_cmpR op_in_seq (pe_xg (K := K) (List.mem_cons_self) hz hf (pv 0)) (pe_lst (pa_cons pe_str (pa_cons pe_str (pa_cons pe_str pa_nil)))) rfl)
        (pss_one (ps_ret (pe_xg (K := K) (List.mem_cons_self) hz hf (pv 0))))
        pss_nil)
      (pss_cons (ps_if (pt_cmpR op_eq (pe_xg (K := K) (List.mem_cons_self) hz hf (pv 0)) pe_str (nomark _))
        (pss_one (ps_ret (pe_tup (pa_cons (pe_xg (K := K) (List.mem_cons_self) hz hf (pv 0)) (pa_cons (pe_xg (K := K) (List.mem_cons_self) hz hf (pv 0)) pa_nil)))))
        pss_nil)
      (pss_cons (ps_if (pt_cmpR op_eq (pe_xg (K := K) (List.mem_cons_self) hz hf (pv 0)) pe_str (nomark _))
        (pss_one (ps_ret (pe_xg (K := K) (List.mem_cons_self) hz hf (pv 0))))
        pss_nil)
      (pss_cons (ps_if (pt_cmpR op_eq (pe_xg (K := K) (List.mem_cons_self) hz hf (pv 0)) pe_str (nomark _))
        (pss_one (ps_ret (pe_xg (K := K) (List.mem_cons_self) hz hf (pv 0))))
        pss_nil)
      (pss_one (ps_ret (pe_ifExp (pt_cmpR op_eq (pe_xg (K := K) (List.mem_cons_self) hz hf (pv 0)) pe_str (nomark _)) (pe_xg (K := K) (List.mem_cons_self) hz hf (pv 0)) pe_non))))))))))), ?_⟩
  obtain ⟨C, dd, fs, fn, rfl, T, rfl, hd, noC, lC, hfn, noF, lF⟩ := er.ex
  have step : ∀ {H' : Hp} {l : Addr} {o : HO}, H' dd = some (.xd fs) → H' l = none → upd H' l o dd = some (.xd fs) := fun e n => by rw [upd_ne (ne_of_none e n)]; exact e
  unfold fieldName at hfn
  refine ⟨_, rfl, rfl, C, dd, fs, _, rfl, T, noC, rfl, hd, lC, (by show 6 ≤ sizeLine; decide), fun l1 h1 => ⟨l1, cGiven, rfl, .inl (SqL.of upd_same), rfl, rfl, ?_⟩⟩
  have d1 := step (o := .lst cGiven) hd h1
  have m1 : Same H (upd H l1 (.lst cGiven)) := same_upd h1
  cases i1 : inV (.str q) cGiven with
  | true =>
    rw [i1] at hfn
    cases hfn
    exact ⟨_, rfl, iteT ⟨_, rfl, rfl, C, dd, fs, _, rfl, T, noF, rfl, d1, lF, hq _ m1⟩⟩
  | false =>
  rw [i1] at hfn
  refine ⟨_, rfl, iteF ?_⟩
  refine ⟨_, rfl, rfl, C, dd, fs, _, rfl, T, noC, rfl, d1, lC, (by show 8 ≤ sizeLine; decide), fun l2 h2 => ⟨l2, cAt, rfl, .inl (SqL.of upd_same), rfl, rfl, ?_⟩⟩
  have d2 := step (o := .lst cAt) d1 h2
  have m2 := m1.trans (same_upd (o := .lst cAt) h2)
  cases i2 : inV (.str q) cAt with
  | true =>
    rw [i2] at hfn
    cases hfn
    exact ⟨_, rfl, iteT ⟨_, rfl, rfl, C, dd, fs, _, rfl, T, noF, rfl, d2, lF, hq _ m2⟩⟩
  | false =>
  rw [i2] at hfn
  refine ⟨_, rfl, iteF ?_⟩
  refine ⟨_, rfl, rfl, C, dd, fs, _, rfl, T, noC, rfl, d2, lC, (by show 5 ≤ sizeLine; decide), fun l3 h3 => ⟨l3, cNumber, rfl, .inl (SqL.of upd_same), rfl, rfl, ?_⟩⟩
  have d3 := step (o := .lst cNumber) d2 h3
  have m3 := m2.trans (same_upd (o := .lst cNumber) h3)
  cases i3 : inV (.str q) cNumber with
  | true =>
    rw [i3] at hfn
    cases hfn
    exact ⟨_, rfl, iteT ⟨_, rfl, rfl, C, dd, fs, _, rfl, T, noF, rfl, d3, lF, hq _ m3⟩⟩
  | false =>
  rw [i3] at hfn
  refine ⟨_, rfl, iteF ?_⟩
  refine ⟨_, rfl, rfl, C, dd, fs, _, rfl, T, noC, rfl, d3, lC, (by show 3 ≤ sizeLine; decide), fun l4 h4 => ⟨l4, cName, rfl, .inl (SqL.of upd_same), rfl, rfl, ?_⟩⟩
  have d4 := step (o := .lst cName) d3 h4
  have m4 := m3.trans (same_upd (o := .lst cName) h4)
  cases i4 : inV (.str q) cName with
  | true =>
    rw [i4] at hfn
    cases hfn
    exact ⟨_, rfl, iteT ⟨_, rfl, rfl, C, dd, fs, _, rfl, T, noF, rfl, d4, lF, hq _ m4⟩⟩
  | false =>
  rw [i4] at hfn
  refine ⟨_, rfl, iteF ?_⟩
  refine ⟨_, rfl, rfl, C, dd, fs, _, rfl, T, noC, rfl, d4, lC, (by show 3 ≤ sizeLine; decide), fun l5 h5 => ⟨l5, cMost, rfl, .inl (SqL.of upd_same), rfl, rfl, ?_⟩⟩
  have d5 := step (o := .lst cMost) d4 h5
  have m5 := m4.trans (same_upd (o := .lst cMost) h5)
  cases i5 : inV (.str q) cMost with
  | true =>
    rw [i5] at hfn
    cases hfn
    exact ⟨_, rfl, iteT ⟨_, rfl, rfl, C, dd, fs, _, rfl, T, noF, rfl, d5, lF, hq _ m5⟩⟩
  | false =>
  rw [i5] at hfn
  have hfn : (if q = "InvalidHead" then some ("part" : Str) else if q = "InvalidTable" then some ("rule" : Str) else if q = "InvalidText" then some ("line" : Str) else none) = some fn := hfn
  have ev : ∀ z : Str, q ≠ z → (decide (V.str q = V.str z)) = false := fun z n => decide_eq_false fun e => n (V.str.inj e)
  refine ⟨_, rfl, iteF ?_⟩
  have nS : q ≠ "InvalidStep" := fun z => by
    subst z
    have : (none : Option Str) = some fn := hfn
    cases this
  refine ⟨_, rfl, rfl, C, dd, fs, _, rfl, T, noC, rfl, d5, lC, rfl, _, rfl, ite_no (by rw [ev _ nS]; decide) ?_⟩
  refine ⟨_, rfl, rfl, C, dd, fs, _, rfl, T, noC, rfl, d5, lC, rfl, _, rfl, ?_⟩
  by_cases z1 : q = "InvalidHead"
  · rw [if_pos z1] at hfn
    cases hfn
    exact ite_of (decide_eq_true (congrArg V.str z1)) ⟨_, rfl, rfl, C, dd, fs, _, rfl, T, noF, rfl, d5, lF, hq _ m5⟩
  rw [if_neg z1] at hfn
  refine ite_no (by rw [ev _ z1]; decide) ?_
  refine ⟨_, rfl, rfl, C, dd, fs, _, rfl, T, noC, rfl, d5, lC, rfl, _, rfl, ?_⟩
  by_cases z2 : q = "InvalidTable"
  · rw [if_pos z2] at hfn
    cases hfn
    exact ite_of (decide_eq_true (congrArg V.str z2)) ⟨_, rfl, rfl, C, dd, fs, _, rfl, T, noF, rfl, d5, lF, hq _ m5⟩
  rw [if_neg z2] at hfn
  refine ite_no (by rw [ev _ z2]; decide) ?_
  refine ⟨_, rfl, rfl, C, dd, fs, _, rfl, T, noC, rfl, d5, lC, rfl, _, rfl, ?_⟩
  by_cases z3 : q = "InvalidText"
  · rw [if_pos z3] at hfn
    cases hfn
    exact ite_of (decide_eq_true (congrArg V.str z3)) ⟨_, rfl, rfl, C, dd, fs, _, rfl, T, noF, rfl, d5, lF, hq _ m5⟩
  rw [if_neg z3] at hfn
  cases hfn
end
/-! ### ask and tell: a value with no code, or an error's code and field -/
/-- what is wished of the exceptions that ask() lets out -/
def ErrWish (K : PySem.W.Frag) (cs : List Value) (Q : VK) : XK := fun cls d H => PySem.W.exmAny K cls cs = some true ∧ ∃ (q : Str) (v : V), ErrAt K cls d H q v ∧ ∀ H2 p, Same H H2 → H2 p = none → Q (.ref p) (upd H2 p (.tup [.str q, v]))
def spField1 (K : PySem.W.Frag) (a : Addr) (cls : Value) (d : Option Addr) : Sp := fun vs H Q _ => ∃ (q : Str) (v : V), vs = [.ref a] ∧ ErrAt K cls d H q v ∧ ∀ H', Same H H' → Q v H'
theorem pe_fld {Y : Cx} (K : PySem.W.Frag) {a : Addr} {oe : Obj} {cls : Value} {d : Option Addr} {ps1 pos : Pos} {e : Expr} {es : List Expr} {t : TA} (G : HasP Y.prog Y.w Y.K Y.mg Y.base 1 "_law_field" ["_law_e"] (spField Y.K)) (hr : L2H.RoomH 1 Y.A) (hp : (a, oe) ∈ Y.pn)
    (hz : Zc cls d oe) (hf : ∃ vs, oe.data = .fields vs) (hg : Gl Y "_law_field") (ha : PA Y (e :: es) t) (hK : Y.K = K := by rfl) (he : starEach (e :: es) Y.env = (false, eval e Y.env) :: starEach es Y.env := by rfl) (hpl : (backTo pos (starEach es Y.env)).any (·.1) = false := by rfl) :
    PE Y (.Call (.Name "_law_field" ps1) (e :: es) [] pos) (tCall (spField1 K a cls d) [] E0 t) := by
  subst hK
  exact pe_ownP G hr hp (fun vs H Q ⟨q, v, e, r⟩ => ⟨cls, d, q, v, e, hz, hf, r⟩) hg ha (by decide) he hpl
def TGot (K : PySem.W.Frag) (cs : List Value) : (XK → Hp → VK → Prop) → Hp → VK → Prop := fun tl H Q => tl (ErrWish K cs Q) H fun v H1 => 2 ≤ sizeLine ∧ ∀ p, H1 p = none → Q (.ref p) (upd H1 p (.tup [.str "", v]))
section
variable {X : Cx}
theorem got_gives {g : Addr} {cdg : Value} {q : Str} {C1 C2 C3 : Value} {k : Nat} (hr : Room (k + 2) X.A) (G_l_field : HasP X.prog X.w X.K X.mg X.base 1 "_law_field" ["_law_e"] (spField X.K)) (m1 : X.mg "RingError" = some C1) (m2 : X.mg "Missing" = some C2) (m3 : X.mg "NothingLeft" = some C3) :
    LamX.GivesTo X N_l_got "_law_got" (defScope s_l_got) g cdg (defBody s_l_got) "_law_ask" q (TGot X.K [C1, C2, C3]) := by
  intro f c' s H Q tl act hc h
  have hr1 : Room (k + 1) (X.A.deeper (envOfC "_law_got" (defScope s_l_got) s.heap.objs.size g cdg)) := hr.deeper _
  have hr2 : ∀ a : Addr, L2H.RoomH 1 ((X.A.deeper (envOfC "_law_got" (defScope s_l_got) s.heap.objs.size g cdg)).mark (some (.ref a))) := fun a => by
    have r := hr1.mono (Nat.succ_le_succ (Nat.zero_le k))
    exact ⟨r.dp, r.un⟩
  refine ⟨_, pss_one (ps_try_tup3 (X := (cxOf C8.CX0 X.prog X.w X.K X.mg X.base N_l_got "_law_got" (defScope s_l_got) g cdg X.A X.stack s H C8.E0).nox) (i := 1) (c1 := C1) (c2 := C2) (c3 := C3)
      (tb := fun W D σ H => ∃ Ech : XK, (∀ cls d σ' H', Ech cls d H' → W cls d σ' H') ∧ σ[0]? = some (some (.ref f)) ∧ H c' = some (LamX.CodeO c' q) ∧ tl Ech H (fun v H1 => 2 ≤ sizeLine ∧ ∀ p, H1 p = none → D.rt (.ref p) (upd H1 p (.tup [.str "", v]))))
      rfl rfl sc_l_got.nd rfl rfl ⟨rfl, by decide, .inl m1⟩ ⟨rfl, by decide, .inl m2⟩ ⟨rfl, by decide, .inl m3⟩ (fun W pn xe tk _ => ?_) (fun a oe cls d pn hz hf => pss_one (ps_ret (pe_tup (pa_cons (pe_xg (K := X.K) (List.mem_cons_self) hz hf (pv 1)) (pa_cons (pe_fld (Y := Cx.suite (cxOf C8.CX0 X.prog X.w X.K X.mg X.base N_l_got "_law_got" (defScope s_l_got) g cdg X.A X.stack s H C8.E0).nox a ((a, oe) :: pn)) X.K G_l_field (hr2 a) (List.mem_cons_self) hz hf rfl (pa_cons (pv 1) pa_nil)) pa_nil)))))), ?_⟩
  · constructor
    intro pins s' σ H' D I h'
    obtain ⟨Ech, hW, h1, h2, h3⟩ := h'
    have hp := fun p1 p2 => act W pn xe Ech p1 p2 tk hW
    exact (pss_one (ps_ret (pe_tup (pa_cons pe_str (pa_cons (hp _ _) pa_nil))))).run pins s' σ H' D I ⟨h1, h2, h3⟩
  · refine ⟨ErrWish X.K [C1, C2, C3] Q, fun cls d σ' H' ⟨hm, qq, v, er, hQ⟩ => ⟨hm, fun a na hl => ?_⟩, rfl, hc, h⟩
    obtain ⟨C, dd, fs, fn, rfl, T, rfl, hd, noC, lC, hfn, noF, lF⟩ := er.ex
    have hv : (σ'.set 1 (some (.ref a)))[1]? = some (some (V.ref a)) := List.getElem?_set_self (by rw [hl]; show 1 < N_l_got.length; decide)
    exact ⟨_, hv, rfl, C, dd, fs, _, rfl, T, noC, rfl, hd, lC, _, hv, qq, v, rfl, er, fun H2 s2 => ⟨by show 2 ≤ sizeLine; decide, fun p hp => hQ H2 p s2 hp⟩⟩
end
end My
namespace My
open PySem PySem.Spec PyProof.Rows L2
theorem un1 {k : Nat} {A : Around} (r : Room k A) : A.units + 1 < cLine := by
  have := r.un
  omega
section
variable {X : Cx}
/-- _law_got(lambda: body) -/
theorem pe_got {c P : Addr} {k : Nat} {cs : List Value} {params : Arguments} {body : Expr} {scope : Scope} {t : XK → TE} {p lpos pos : Pos} (F : Fn X.K X.mg "_law_got" s_l_got ["_law_ask"])
    (GV : ∀ (g : Addr) (cdv : Value), LamX.GivesTo X N_l_got "_law_got" (defScope s_l_got) g cdv (defBody s_l_got) "_law_ask" (X.env.qual ++ "<lambda>") (TGot X.K cs))
    (TB : LamX.TabB X.base X.mg c P) (hcode : X.env.code = .ref c) (hr : Room (k + 2) X.A) (hg : Gl X "_law_got") (L : LamX.LamS X.env.scope scope) (hdef : defaultsOf params X.env = ([], []))
    (hbind : ∀ (q : Str) (cl : List (Str × Addr)) (pm cv ctv : Value), bindArgs (PySem.W.kla_fn "<lambda>" q params body scope cl pm cv ctv) ⟨[], []⟩ = pure [])
    (hbody : ∀ (A : Around) (outer : List Env) (s : Shared) (H : Hp) (E : XK) (f c' : Addr), Room k (A.deeper (LamX.lamEnv X scope s.heap.objs.size f c')) → PE (LamX.lamCx X A outer s H E scope f c') body (t E)) :
    PE X (.Call (.Name "_law_got" p) [.Lambda params body scope lpos] [] pos) (LamX.tLam [(P, X.env.qual ++ "<lambda>")] (TGot X.K cs) t) := by
  obtain ⟨g, fd, F, m, b⟩ := F.ex
  have kp := F.kp
  obtain ⟨oc, od, kV, doc, pm, an, cdv, ct, osl, rfl, lk, hcd⟩ := F.ex
  exact LamX.pe_lamcall hg m kp lk hcd b sc_l_got rfl (Or.inl rfl) (GV g cdv) TB hcode List.mem_cons_self (fun p hp _ => by rw [List.mem_singleton.mp hp]) hr L hdef hbind hbody
end
end My
/-! logs beside a bag and rows: what stays -/
namespace My
open PySem PySem.Spec PyProof.Rows L2
section
variable {CU CL CM : Addr} {H H' : Hp} {p a b u d : Addr} {ds : List VD} {n c : Nat} {l : List V} {N : RN} {v : VD}
theorem VAt.kpL {q : Addr} (h : VAt CM H q v) (e : H p = some (.lst l)) (k : Kp p H H') : VAt CM H' q v := by
  obtain ⟨r, h1, h2⟩ := h
  exact ⟨r, k _ _ (ne_of h1 e fun z => by cases z) h1, h2.kpL e k⟩
theorem StAt.kpL {st : V} (h : StAt CM H st ds n) (e : H p = some (.lst l)) (k : Kp p H H') : StAt CM H' st ds n := by
  obtain ⟨S, T, ps, rfl, h1, h2, h3⟩ := h
  exact ⟨S, T, ps, rfl, k _ _ (ne_of h1 e fun z => by cases z) h1, k _ _ (ne_of h2 e fun z => by cases z) h2, paired_mono (fun a v h => h.kpL e k) h3⟩
theorem UAt.kpL (h : UAt CU CL CM H a b u d ds n c) (e : H p = some (.lst l)) (k : Kp p H H') (pu : u ≠ p) (pd : d ≠ p) : UAt CU CL CM H' a b u d ds n c := by
  obtain ⟨dx, st, done, undone, h1, ⟨dl, h2, h3, h4, h5⟩, e1, h6, h7⟩ := h
  exact ⟨dx, st, done, undone, k _ _ (ne_of h1 e fun z => by cases z) h1, ⟨dl, k _ _ (ne_of h2 e fun z => by cases z) h2, k _ _ pu h3, k _ _ pd h4, h5⟩, e1.kpL e k, h6, h7⟩
theorem RAt.ext (h : RAt CM H p N) (e : LamX.ExtN H H') : RAt CM H' p N := by
  obtain ⟨dx, T, h1, h2⟩ := h
  exact ⟨dx, T, e _ _ h1 (fun ps z => by cases z), e _ _ h2 (fun ps z => by cases z)⟩
theorem VAt.ext (h : VAt CM H p v) (e : LamX.ExtN H H') : VAt CM H' p v := by
  obtain ⟨r, h1, h2⟩ := h
  exact ⟨r, e _ _ h1 (fun ps z => by cases z), h2.ext e⟩
theorem UAt.ext (h : UAt CU CL CM H a b u d ds n c) (e : LamX.ExtN H H') : UAt CU CL CM H' a b u d ds n c := by
  obtain ⟨dx, st, done, undone, h1, ⟨dl, h2, h3, h4, h5⟩, ⟨S, T, ps, rfl, e1, e2, e3⟩, h6, h7⟩ := h
  exact ⟨dx, _, done, undone, e _ _ h1 (fun ps z => by cases z), ⟨dl, e _ _ h2 (fun ps z => by cases z), e _ _ h3 (fun ps z => by cases z), e _ _ h4 (fun ps z => by cases z), h5⟩, ⟨S, T, ps, rfl, e _ _ e1 (fun ps z => by cases z), e _ _ e2 (fun ps z => by cases z), paired_mono (fun a v h => h.ext e) e3⟩, h6, h7⟩
theorem NumAt.ext (h : NumAt H p N) (e : LamX.ExtN H H') : NumAt H' p N := e _ _ h (fun ps z => by cases z)
theorem NumAt.kpL {q : Addr} (h : NumAt H q N) (e : H p = some (.lst l)) (k : Kp p H H') : NumAt H' q N := k _ _ (ne_of h e fun z => by cases z) h
theorem RowAt.ext (h : RowAt H p v) (e : LamX.ExtN H H') : RowAt H' p v := by
  obtain ⟨q, h1, h2⟩ := h
  exact ⟨q, e _ _ h1 (fun ps z => by cases z), h2.ext e⟩
theorem RowAt.kpL {q : Addr} (h : RowAt H q v) (e : H p = some (.lst l)) (k : Kp p H H') : RowAt H' q v := by
  obtain ⟨q', h1, h2⟩ := h
  exact ⟨q', k _ _ (ne_of h1 e fun z => by cases z) h1, h2.kpL e k⟩
theorem RowsAt.ext (h : RowsAt H p ds) (e : LamX.ExtN H H') : RowsAt H' p ds := by
  obtain ⟨ps, h1, h2⟩ := h
  exact ⟨ps, e _ _ h1 (fun ps z => by cases z), paired_mono (fun a v h => h.ext e) h2⟩
theorem RowsAt.kpL {q : Addr} (h : RowsAt H q ds) (e : H p = some (.lst l)) (k : Kp p H H') (ne : q ≠ p) : RowsAt H' q ds := by
  obtain ⟨ps, h1, h2⟩ := h
  exact ⟨ps, k _ _ ne h1, paired_mono (fun a v h => h.kpL e k) h2⟩
/-- a new row -/
theorem RowsAt.push {q r : Addr} (h : RowsAt H q ds) (hr : RowAt H r v) : ∃ ps : List Addr, H q = some (.lst (ps.map V.ref)) ∧ ps.length = ds.length ∧ RowsAt (upd H q (.lst (ps.map V.ref ++ [.ref r]))) q (ds ++ [v]) := by
  obtain ⟨ps, h1, h2⟩ := h
  have k : Kp q H (upd H q (.lst (ps.map V.ref ++ [.ref r]))) := Kp.upd
  exact ⟨ps, h1, pair_len h2, ps ++ [r], by rw [upd_same, List.map_append]; rfl, Paired.snoc (paired_mono (fun a v h => h.kpL h1 k) h2) (hr.kpL h1 k)⟩
section
variable {dl : Addr} {st : V}
theorem NumAt.kp2 {x : Addr} (h : NumAt H x N) (eb : H b = some (.ins CL dl [("state", st), ("_undone", .ref u), ("_done", .ref d)])) (ed : H d = some (.lst l)) (k : Kp2 b d H H') : NumAt H' x N := k _ _ (ne_of h eb fun z => by cases z) (ne_of h ed fun z => by cases z) h
theorem RowAt.kp2 {x : Addr} (h : RowAt H x v) (eb : H b = some (.ins CL dl [("state", st), ("_undone", .ref u), ("_done", .ref d)])) (ed : H d = some (.lst l)) (k : Kp2 b d H H') : RowAt H' x v := by
  obtain ⟨q', h1, h2⟩ := h
  exact ⟨q', k _ _ (ne_of h1 eb fun z => by cases z) (ne_of h1 ed fun z => by cases z) h1, h2.kp2 eb ed k⟩
theorem RowsAt.kp2 {x : Addr} (h : RowsAt H x ds) (eb : H b = some (.ins CL dl [("state", st), ("_undone", .ref u), ("_done", .ref d)])) (ed : H d = some (.lst l)) (k : Kp2 b d H H') (ne : x ≠ d) : RowsAt H' x ds := by
  obtain ⟨ps, h1, h2⟩ := h
  exact ⟨ps, k _ _ (ne_of h1 eb fun z => by cases z) ne h1, paired_mono (fun a v h => h.kp2 eb ed k) h2⟩
theorem bg_kp2 {x y : Addr} (h : Bg H x y) (eb : H b = some (.ins CL dl [("state", st), ("_undone", .ref u), ("_done", .ref d)])) (k : Kp2 b d H H') (dx : d ≠ x) (dy : d ≠ y) : Bg H' x y := by
  obtain ⟨ns, i, r, m, h⟩ := h
  exact ⟨ns, i, r, m, k _ _ (ne_of h.hb eb fun z => by cases z) dx.symm h.hb, k _ _ (ne_of h.hc eb fun z => by cases z) dy.symm h.hc, h.len, h.i0, h.r0, h.m0, h.m1⟩
theorem tab_kp2 {Pt : Addr} {q : Str} (h : LamX.TabS H Pt q) (eb : H b = some (.ins CL dl [("state", st), ("_undone", .ref u), ("_done", .ref d)])) (ed : H d = some (.lst l)) (k : Kp2 b d H H') : LamX.TabS H' Pt q := by
  obtain ⟨ps, h1, h2, h3⟩ := h
  refine ⟨ps, k _ _ (ne_of h1 eb fun z => by cases z) (ne_of h1 ed fun z => by cases z) h1, h2, fun pos cv hc => ?_⟩
  obtain ⟨c, e1, e2⟩ := h3 pos cv hc
  exact ⟨c, e1, k _ _ (ne_of e2 eb fun z => by cases z) (ne_of e2 ed fun z => by cases z) e2⟩
end
theorem tab_kp {Pt : Addr} {q : Str} (h : LamX.TabS H Pt q) (e : H p = some (.lst l)) (k : Kp p H H') : LamX.TabS H' Pt q := by
  obtain ⟨ps, h1, h2, h3⟩ := h
  refine ⟨ps, k _ _ (ne_of h1 e fun z => by cases z) h1, h2, fun pos cv hc => ?_⟩
  obtain ⟨c, e1, e2⟩ := h3 pos cv hc
  exact ⟨c, e1, k _ _ (ne_of e2 e fun z => by cases z) e2⟩
theorem bg_ext {x y : Addr} (h : Bg H x y) (e : LamX.ExtN H H') : Bg H' x y := by
  obtain ⟨ns, i, r, m, h⟩ := h
  exact ⟨ns, i, r, m, e _ _ h.hb (fun ps z => by cases z), e _ _ h.hc (fun ps z => by cases z), h.len, h.i0, h.r0, h.m0, h.m1⟩
end
/-! ### what is noted in a log -/
/-- the verdicts of a log that has been noted so: their numbers, realms in normal form over the primes of 6, some ring is left, in no wrong realm -/
structure GoodV (ds : List VD) : Prop where
  ok : OkV 6 ds
  nu : ∀ (i : Nat) v, ds[i]? = some v → v.1 = i + 1
  some : (meetL ds).2.1 ≠ 1
  out : ∀ v ∈ ds, v.2.2 = false → withinB (meetL ds) v.2.1 = false
theorem good_nil : GoodV [] := ⟨⟨by decide, by decide, by decide, by simp⟩, by simp, by decide, by simp⟩
theorem meetL_app {ds : List VD} {v : VD} : meetL (ds ++ [v]) = if v.2.2 = true then meetF (meetL ds) v.2.1 else meetL ds := by
  have h : (ds ++ [v])[ds.length]? = some v := by simp
  have e := meetL_snoc h
  rw [List.take_of_length_le (by simp), List.take_left] at e
  exact e
theorem find_none {α β : Type} {p : α → Bool} {f : α → β} {xs : List α} (h : (xs.find? p).map f = none) : ∀ x ∈ xs, p x = false := by
  cases e : xs.find? p with
  | some y => rw [e] at h; cases h
  | none => exact fun x hx => by simpa using List.find?_eq_none.mp e x hx
theorem GoodV.push {ds : List VD} {N : RN} {w : Bool} (h : GoodV ds) (bN : BndR 6 N) (l : ds.length < 30) (r : refF ds N w = none) : GoodV (ds ++ [(ds.length + 1, N, w)]) := by
  have okA : OkV 6 (ds ++ [(ds.length + 1, N, w)]) := ⟨by rw [List.length_append]; show ds.length + 1 ≤ 30; omega, by decide, by decide, fun v hv => by
    rcases List.mem_append.mp hv with hv | hv
    · exact h.ok.bd v hv
    · rw [List.mem_singleton.mp hv]
      exact bN⟩
  refine ⟨okA, fun i v e => ?_, ?_, ?_⟩
  · by_cases hi : i < ds.length
    · rw [List.getElem?_append_left hi] at e
      exact h.nu i v e
    · have hl := (List.getElem?_eq_some_iff.mp e).1
      rw [List.length_append] at hl
      have hl : i < ds.length + 1 := hl
      have : i = ds.length := by omega
      subst this
      rw [List.getElem?_append_right (Nat.le_refl _), Nat.sub_self] at e
      have e : (ds.length + 1, N, w) = v := by simpa using e
      rw [← e]
  · rw [meetL_app]
    unfold refF at r
    cases w with
    | false => exact h.some
    | true =>
      rw [if_pos rfl] at r ⊢
      unfold clash at r
      by_cases e : (meetF (meetL ds) N).2.1 = 1
      · rw [if_pos e] at r
        cases r
      · exact e
  · rw [meetL_app]
    unfold refF at r
    cases w with
    | false =>
      rw [if_neg (by decide)] at r
      show ∀ v ∈ ds ++ [(ds.length + 1, N, false)], v.2.2 = false → withinB (if false = true then _ else meetL ds) v.2.1 = false
      rw [if_neg (by decide)]
      have r0 : withinB (meetL ds) N = false := by
        cases e : withinB (meetL ds) N with
        | false => rfl
        | true => rw [e, if_pos rfl] at r; cases r
      intro v hv hw
      rcases List.mem_append.mp hv with hv | hv
      · exact h.out v hv hw
      · rw [List.mem_singleton.mp hv]
        exact r0
    | true =>
      rw [if_pos rfl] at r ⊢
      unfold clash at r
      by_cases e : (meetF (meetL ds) N).2.1 = 1
      · rw [if_pos e] at r
        cases r
      · rw [if_neg e] at r
        have f := find_none r
        intro v hv hw
        rcases List.mem_append.mp hv with hv | hv
        · have := f v hv
          rw [hw] at this
          simpa using this
        · rw [List.mem_singleton.mp hv] at hw
          cases hw
end My
/-! the law's log -/
namespace My
open PySem PySem.Spec PyProof.Rows L2
structure LogS (CU CL CM : Addr) (b cb Pt : Addr) (lq : Str) (H : Hp) (a l : Addr) (ds : List VD) : Prop where
  B : Bg H b cb
  T : LamX.TabS H Pt lq
  U : ∃ b' u d, UAt CU CL CM H a b' u d ds (ds.length + 1) ds.length ∧ u ≠ b ∧ d ≠ b ∧ u ≠ cb ∧ d ≠ cb ∧ u ≠ l ∧ d ≠ l
  R : RowsAt H l ds
  g : GoodV ds
  ne : l ≠ b
  nc : l ≠ cb
def spLog (CU CL CM Pt : Addr) : Sp := fun vs H Q _ => ∃ (b cb : Addr) (k : Nat), vs = [.ref b, .int (k : Nat)] ∧ Bg H b cb ∧ k ≤ 20 ∧ H Pt = some (.tbl #[]) ∧
  ∀ H' T a l lq ds, H' T = some (.tup [.ref a, .ref l]) → LogS CU CL CM b cb Pt lq H' a l ds → ds.length ≤ 20 → Q (.ref T) H'
section
variable {CU CL CM b cb Pt a l p : Addr} {lq : Str} {H H' : Hp} {ds : List VD}
theorem LogS.same (h : LogS CU CL CM b cb Pt lq H a l ds) (s : Same H H') : LogS CU CL CM b cb Pt lq H' a l ds := by
  obtain ⟨b', u, d, hU, e⟩ := h.U
  exact ⟨h.B.same s, h.T.ext s, ⟨b', u, d, hU.same s, e⟩, h.R.same s, h.g, h.ne, h.nc⟩
theorem LogS.bag (h : LogS CU CL CM b cb Pt lq H a l ds) (k : Kp b H H') (B : Bg H' b cb) : LogS CU CL CM b cb Pt lq H' a l ds := by
  obtain ⟨b', u, d, hU, e1, e2, e⟩ := h.U
  obtain ⟨_, hb⟩ := h.B.sel
  exact ⟨B, tab_kp h.T hb k, ⟨b', u, d, hU.kpL hb k e1 e2, e1, e2, e⟩, h.R.kpL hb k h.ne, h.g, h.ne, h.nc⟩
theorem LogS.ext (h : LogS CU CL CM b cb Pt lq H a l ds) (e : LamX.ExtN H H') (T : LamX.TabS H' Pt lq) : LogS CU CL CM b cb Pt lq H' a l ds := by
  obtain ⟨b', u, d, hU, e1⟩ := h.U
  exact ⟨bg_ext h.B e, T, ⟨b', u, d, hU.ext e, e1⟩, h.R.ext e, h.g, h.ne, h.nc⟩
theorem real_self {N X : RN} (h6 : N.1 ∣ 6) (ag : Nrm N.1 N.2.1 N.2.2.1 N.2.2.2 N.1 N.2.1 N.2.2.1 N.2.2.2) (h : Nrm (radL N.1) N.2.1 N.2.2.1 N.2.2.2 X.1 X.2.1 X.2.2.1 X.2.2.2) : X = N := by
  have e : radL N.1 = N.1 := by
    have le := Nat.le_of_dvd (by decide) h6
    generalize N.1 = z at h6 le
    have : z = 0 ∨ z = 1 ∨ z = 2 ∨ z = 3 ∨ z = 4 ∨ z = 5 ∨ z = 6 := by omega
    rcases this with rfl | rfl | rfl | rfl | rfl | rfl | rfl
    · exact absurd h6 (by decide)
    · decide +kernel
    · decide +kernel
    · decide +kernel
    · exact absurd h6 (by decide)
    · exact absurd h6 (by decide)
    · decide +kernel
  rw [e] at h
  obtain ⟨h1, h2, h3, h4⟩ := h.one ag
  exact Prod.ext h1 (Prod.ext h2 (Prod.ext h3 h4))
end
theorem bnd_settled {d o s t b : Nat} {N : RN} (d1 : 1 ≤ d) (db : d ∣ b) (ho : o ≤ 360) (hs : s ≤ 360) (ht : t ≤ 360) (h : Nrm d o s t N.1 N.2.1 N.2.2.1 N.2.2.2) : BndR b N := by
  have g1 : Nat.gcd o (2 * t) < 2 ^ 60 := gcd_small (by omega) (by omega)
  have g2 : Nat.gcd t (Nat.gcd o (2 * t)) < 2 ^ 60 := gcd_small (by omega) g1
  have g3 : Nat.gcd s (Nat.gcd t (Nat.gcd o (2 * t))) < 2 ^ 60 := gcd_small (by omega) g2
  refine ⟨norm_of d1 h, ?_, Nat.lt_of_le_of_lt h.eo.le g1, Nat.lt_of_le_of_lt h.es.le g3, Nat.lt_of_le_of_lt h.et.le g2⟩
  rw [h.ed]
  split
  · exact db
  · exact Nat.one_dvd _
section
variable {P : Program} {w : World} {K : PySem.W.Frag} {mg : Str → Option Value} {base : Heap} {CU CL CM : Addr} {mc : Value}
theorem ok_l_log {f c Pt CE : Addr} {C1 C2 C3 oc kV doc pm ct : Value} {an od : Option Addr} {osl : Array (Option Value)}
    (lk : K.lookup f = some ⟨oc, od, .func (PySem.W.fnOf "_law_log" "_law_log" (defArgs s_l_log) (defBody s_l_log) (defScope s_l_log) .none kV doc pm an (.ref c) ct), osl⟩) (hcd : PySem.W.codeIn K (.ref c) "_law_log" = true)
    (kp : PySem.W.keepIn K (.ref f) = true) (hm : mg "_law_log" = some (.ref f)) (bd : L2.Binds K (PySem.W.fnOf "_law_log" "_law_log" (defArgs s_l_log) (defBody s_l_log) (defScope s_l_log) .none kV doc pm an (.ref c) ct) ["_law_bag_here", "_law_many"] [])
    (TB : LamX.TabB base mg c Pt) (m1 : mg "RingError" = some C1) (m2 : mg "Missing" = some C2) (m3 : mg "NothingLeft" = some C3) (hm0 : PySem.W.exmAny K (.ref CE) [C1, C2, C3] = some true)
    (xf : XfC K CE) (noC : PySem.W.findIn K (.ref CE) "code" = some none) (noN : PySem.W.findIn K (.ref CE) "number" = some none)
    (B : Blt mg) (RU : UCls K CU) (MK_Unseen : HasCX P w K mg base 4 "Unseen" CU ["self"] (spUInit CU CL CM)) (M_note : HasMX P w K mg base 11 CU "note" ["self", "realm", "right"] (spNote CU CL CM CE))
    (G_l_draw : Has P w K mg base 1 "_law_draw" ["_law_bag_here", "_law_many"] spDraw) (G_l_wide_realm : Has P w K mg base 3 "_law_wide_realm" ["_law_bag_here"] spWide) (G_l_settle : Has P w K mg base 4 "_law_settle" ["_law_numbers"] spLSettle)
    (G_l_refusal : Has P w K mg base 6 "_law_refusal" ["_law_rows", "_law_numbers", "_law_way"] spRefusal) (G_l_realm : Has P w K mg base 6 "_law_realm" ["_law_numbers"] (spLRealm CM))
    (G_l_same : Has P w K mg base 4 "_law_same" ["_law_found", "_law_due"] (spSame 4)) (G_l_field : HasP P w K mg base 1 "_law_field" ["_law_e"] (spField K)) (F_got : Fn K mg "_law_got" s_l_got ["_law_ask"]) :
    Has P w K mg base 14 "_law_log" ["_law_bag_here", "_law_many"] (spLog CU CL CM Pt) := by
  refine ⟨f, _, fn_of lk hcd sc_l_log (fun vs H Q E h => ?_) (fun A outer s H vs Q E hr h => ?_), hm, kp, bd⟩
  · obtain ⟨b, cb, k, rfl, _⟩ := h
    rfl
  obtain ⟨b, cb, k, rfl, hB, hk, hP, q⟩ := h
  have cu := RU.cl
  have hcode : (cxOf CX0 P w K mg base N_l_log "_law_log" (defScope s_l_log) f (.ref c) A outer s H E).nox.env.code = .ref c := rfl
  have GV : ∀ (q : Str) (g : Addr) (cdv : Value), LamX.GivesTo (cxOf CX0 P w K mg base N_l_log "_law_log" (defScope s_l_log) f (.ref c) A outer s H E).nox N_l_got "_law_got" (defScope s_l_got) g cdv (defBody s_l_got) "_law_ask" q (TGot K [C1, C2, C3]) :=
    fun q g cdv => got_gives (k := 11) hr G_l_field m1 m2 m3
  have main : ∃ t, PSs (cxOf CX0 P w K mg base N_l_log "_law_log" (defScope s_l_log) f (.ref c) A outer s H E).nox (defBody s_l_log) t ∧ t { nx := fun _ H' => Q .non H', rt := Q } (L2.start N_l_log [.ref b, .int (k : Nat)]) H := by
    refine ⟨_, (pss_cons (ps_asg (pe_tup (pa_cons (pe_mkX0 MK_Unseen (hr.mono (by decide)) (by rfl)) (pa_cons (pe_lst pa_nil) pa_nil))) (pg_tup rfl (pgs_cons (pg_name (i := 2) sc_l_log.nd rfl (Or.inr rfl)) (pgs_cons (pg_name (i := 3) sc_l_log.nd rfl (Or.inl rfl)) pgs_nil))))
      (pss_cons (ps_for PassesOwn.never rfl (pi_range1 (by rfl) B.range (pa_cons (pv 1) pa_nil)) (pg_name (i := 4) sc_l_log.nd rfl (Or.inl rfl))
        (pss_cons (ps_asg (pe_tup (pa_cons (pe_own G_l_settle (hr.mono (by decide)) (by rfl) (pa_cons (pe_own G_l_wide_realm (hr.mono (by decide)) (by rfl) (pa_cons (pv 0) pa_nil)) pa_nil)) (pa_cons (pe_cmpR op_eq (pe_own G_l_draw (hr.mono (by decide)) (by rfl) (pa_cons (pv 0) (pa_cons pe_int pa_nil))) pe_int (nomark _)) pa_nil))) (pg_tup rfl (pgs_cons (pg_name (i := 5) sc_l_log.nd rfl (Or.inr rfl)) (pgs_cons (pg_name (i := 6) sc_l_log.nd rfl (Or.inr rfl)) pgs_nil))))
      (pss_cons (ps_set (i := 7) sc_l_log.nd rfl (Or.inl rfl) (pe_own G_l_refusal (hr.mono (by decide)) (by rfl) (pa_cons (pv 3) (pa_cons (pv 5) (pa_cons (pv 6) pa_nil)))))
      (pss_cons (ps_set (i := 8) sc_l_log.nd rfl (Or.inl rfl) (pe_got F_got (GV _) TB hcode (hr.mono (by decide)) (by rfl) (LamX.lamS_by (by rfl)) (by rfl) (fun _ _ _ _ _ => rfl) (fun A outer s H E f c' hr' => pe_ownME (by assumption) M_note (takes_of rfl rfl rfl rfl) hr' (pv 2) (pa_cons (pe_own G_l_realm (hr'.mono (by decide)) (by rfl) (pa_cons (pv 5) pa_nil)) (pa_cons (pv 6) pa_nil)))))
      (pss_one (ps_if (pt_cmp (pc_isN (pv 7)))
        (pss_cons (ps_expr (pe_bm PySem.F.plainAttrs_list PySem.F.slot_list_append PySem.F.type_list_append mt_append (pv 3) (pa_cons (pe_tup (pa_cons (pe_op op_add pe_int (pe_callB call_len (by rfl) B.len bb_len (pa_cons (pv 3) pa_nil))) (pa_cons (pv 5) (pa_cons (pv 6) pa_nil)))) pa_nil)))
      (pss_one (ps_if (pt_not (pt_val (pe_own G_l_same (hr.mono (by decide)) (by rfl) (pa_cons (pv 8) (pa_cons (pe_tup (pa_cons pe_str (pa_cons (pe_callB call_len (by rfl) B.len bb_len (pa_cons (pv 3) pa_nil)) pa_nil))) pa_nil)))))
        (pss_one (ps_ret pe_non))
        pss_nil)))
        (pss_one (ps_if (pt_not (pt_val (pe_own G_l_same (hr.mono (by decide)) (by rfl) (pa_cons (pv 8) (pa_cons (pe_tup (pa_cons pe_str (pa_cons (pv 7) pa_nil))) pa_nil)))))
        (pss_one (ps_ret pe_non))
        pss_nil))))))))
      (pss_one (ps_ret (pe_tup (pa_cons (pv 2) (pa_cons (pv 3) pa_nil))))))), ?_⟩
    obtain ⟨lq, hlq⟩ : ∃ lq : Str, lq = (cxOf CX0 P w K mg base N_l_log "_law_log" (defScope s_l_log) f (.ref c) A outer s H E).nox.env.qual ++ "<lambda>" := ⟨_, rfl⟩
    have T0 : LamX.TabS H Pt lq := LamX.TabS.nil hP
    obtain ⟨rb, hb⟩ := hB.sel
    have hcb : ∃ o, H cb = some o := by
      obtain ⟨ns, i, r, m, e⟩ := id hB
      exact ⟨_, e.hc⟩
    obtain ⟨ocb, hcb⟩ := hcb
    refine fun x dz nx ndz nz => ⟨x, dz, rfl, upd_same, fun H1 b1 u1 d1 k1 nb1 nu1 nd1 U1 => ⟨rfl, ?_⟩⟩
    have sm : Same H (upd (upd H dz (.own x)) x (.ins CU dz [])) := fun c o hc => by
      rw [upd_ne (ne_of_none hc nx), upd_ne (ne_of_none hc ndz)]
      exact hc
    have s1 : Same H H1 := fun c o hc => k1 c o (ne_of_none hc nx) (sm _ _ hc)
    have ub : u1 ≠ b := (ne_of_none (sm _ _ hb) nu1).symm
    have db : d1 ≠ b := (ne_of_none (sm _ _ hb) nd1).symm
    have uc : u1 ≠ cb := (ne_of_none (sm _ _ hcb) nu1).symm
    have dc : d1 ≠ cb := (ne_of_none (sm _ _ hcb) nd1).symm
    clear k1 nb1 nu1 nd1 sm nx ndz nz
    refine ⟨(by show 0 ≤ sizeLine; decide), fun l nl => ⟨(by show 2 ≤ sizeLine; decide), fun t nt => ⟨t, _, rfl, SqT.of upd_same, rfl, _, _, rfl, _, _, rfl, rfl, ?_⟩⟩⟩
    have c2 := (same_upd (o := .lst []) nl).trans (same_upd (o := .tup [.ref x, .ref l]) nt)
    have el := same_upd (o := .tup [.ref x, .ref l]) nt _ _ (upd_same (H := H1) (a := l) (o := .lst []))
    generalize upd (upd H1 l (.lst [])) t (.tup [.ref x, .ref l]) = H2 at c2 el ⊢
    have s2 := s1.trans c2
    obtain ⟨dxx, st, done, undone, g1, ⟨dl, g2, g3, g4, g5⟩, _⟩ := id U1
    have L0 : LogS CU CL CM b cb Pt lq H2 x l [] := ⟨hB.same s2, T0.ext s2, ⟨b1, u1, d1, U1.same c2, ub, db, uc, dc, ne_of_none g3 nl, ne_of_none g4 nl⟩, ⟨[], el, .nil⟩, good_nil, (ne_of_none (s1 _ _ hb) nl).symm, (ne_of_none (s1 _ _ hcb) nl).symm⟩
    clear g1 g2 g3 g4 g5 U1 el c2 s1 nl nt ub db uc dc T0
    refine ⟨_, rfl, (k : Nat), rfl, by omega, by omega, for_range (n := k) (fun i σ H' => ∃ ds y4 y5 y6 y7 y8, σ = [some (.ref b), some (.int (k : Nat)), some (.ref x), some (.ref l), y4, y5, y6, y7, y8] ∧ LogS CU CL CM b cb Pt lq H' x l ds ∧ ds.length ≤ i) ⟨[], _, _, _, _, _, rfl, L0, Nat.le_refl _⟩ ?_ ?_⟩
    · rintro i σ H3 hi ⟨ds, y4, y5, y6, y7, y8, rfl, L3, lds⟩
      refine ⟨_, rfl, b, cb, rfl, L3.B, fun H4 T4 dd oo ss tt k4 B4 nT4 T4b eT4 hd ho hs ht => ?_⟩
      refine ⟨T4, dd, oo, ss, tt, rfl, eT4, by omega, by omega, by omega, by omega, by omega, fun H5 T5 d' o' s' t' nX s5 nT5 eT5 => ?_⟩
      obtain ⟨N, hN⟩ : ∃ N : RN, N = (d', o', s', t') := ⟨_, rfl⟩
      have L4 := (L3.bag k4 B4).same s5
      refine ⟨_, rfl, b, cb, 2, rfl, L4.B, by decide, by decide, fun v6 H6 p0 p1 k6 B6 => ?_⟩
      have L6 := L4.bag k6 B6
      obtain ⟨wy, hwy⟩ : ∃ wy : Bool, wy = decide (V.int v6 = V.int 0) := ⟨_, rfl⟩
      have e56 : NumAt H6 T5 N := by
        obtain ⟨_, hb4⟩ := L4.B.sel
        have z : NumAt H5 T5 N := by rw [hN]; exact eT5
        exact z.kpL hb4 k6
      -- the numbers are in normal form
      have rl : 1 ≤ radL dd ∧ radL dd ∣ 6 := by
        rcases hd with rfl | rfl | rfl | rfl <;> exact ⟨by decide +kernel, by decide +kernel⟩
      have nN : NormR N := norm_of (X := N) rl.1 (by rw [hN]; exact nX)
      have bN : BndR 6 N := bnd_settled rl.1 rl.2 ho hs ht (by rw [hN]; exact nX)
      refine ⟨rfl, (by show 2 ≤ sizeLine; decide), fun t7 n7 => ⟨t7, _, rfl, SqT.of upd_same, rfl, _, _, rfl, _, _, rfl, rfl, ?_⟩⟩
      rw [← hwy]
      have c7 := same_upd (o := .tup [.ref T5, .bl wy]) n7
      have L7 := L6.same c7
      have e7 := e56.same c7
      generalize upd H6 t7 (.tup [.ref T5, .bl wy]) = H7 at L7 e7 ⊢
      clear c7 n7 e56 L6 B6 k6 L4 k4 B4 nT4 T4b eT4 nT5 eT5 s5 L3
      refine ⟨_, rfl, _, rfl, _, rfl, l, T5, ds, 6, N, wy, rfl, L7.R, e7, L7.g.ok, bN, by decide, fun H8 s8 => ?_⟩
      have L8 := L7.same s8
      have e8 := e7.same s8
      clear L7 e7 s8
      have ag : Nrm N.1 N.2.1 N.2.2.1 N.2.2.2 N.1 N.2.1 N.2.2.1 N.2.2.2 := by
        have z := nX.again
        rw [hN]
        exact z
      refine ⟨fun p hp => by
        have e : p = (Pt, lq) := (List.mem_singleton.mp hp).trans (congrArg (Prod.mk Pt) hlq.symm)
        rw [e]
        exact L8.T, fun H9 eN T9 => ?_⟩
      have L9 := L8.ext eN (by
        rw [hlq]
        exact T9 _ List.mem_cons_self)
      have e9 := e8.ext eN
      clear L8 e8 T9 eN
      obtain ⟨b9, u9, d9, U9, f1, f2, f3, f4, f5, f6⟩ := L9.U
      obtain ⟨dx9, st9, done9, undone9, g1, _⟩ := id U9
      refine ⟨_, rfl, x, dx9, _, rfl, g1, rfl, _, rfl, T5, N.1, N.2.1, N.2.2.1, N.2.2.2, rfl, e9, bN.nm.d1, Nat.le_trans (Nat.le_of_dvd (by decide) bN.dv) (by decide), bN.o, bN.s, bN.t, fun HA r X1 X2 X3 X4 nXX sA nr hr => ?_⟩
      have eX : ((X1, X2, X3, X4) : RN) = N := real_self bN.dv ag nXX
      have hrA : RAt CM HA r N := by
        rw [← eX]
        exact hr
      have LA := L9.same sA
      have UA := U9.same sA
      have eA := e9.same sA
      clear hr L9 U9 g1 nr e9 sA nXX
      refine ⟨_, rfl, x, b9, u9, d9, r, ds, ds.length + 1, ds.length, 6, N, wy, rfl, UA, hrA, LA.g.ok, bN, by omega, ?_⟩
      cases er : refF ds N wy with
      | some kk =>
        intro HB dd' sB nd'
        have LB := LA.same (sB.trans (same_upd (o := .xd (errD "number" "Unsound" (.int (kk : Nat)))) nd'))
        refine ⟨hm0, "Unsound", .int (kk : Nat), ⟨CE, dd', _, "number", rfl, xf, rfl, upd_same, noC, rfl, by decide +kernel, noN, rfl⟩, fun HC p sC np => ?_⟩
        have LC := LB.same (sC.trans (same_upd (o := .tup [.str "Unsound", .int (kk : Nat)]) np))
        have ep : upd HC p (.tup [.str "Unsound", .int (kk : Nat)]) p = some (.tup [.str "Unsound", .int (kk : Nat)]) := upd_same
        generalize upd HC p (.tup [.str "Unsound", .int (kk : Nat)]) = HD at LC ep ⊢
        refine ⟨_, rfl, _, rfl, iteF ⟨_, rfl, _, rfl, (by show 2 ≤ sizeLine; decide), fun p2 np2 => ?_⟩⟩
        have LE := LC.same (same_upd (o := .tup [.str "Unsound", optV (some kk)]) np2)
        have ep' := same_upd (o := .tup [.str "Unsound", optV (some kk)]) np2 _ _ ep
        have e2' : upd HD p2 (.tup [.str "Unsound", optV (some kk)]) p2 = some (.tup [.str "Unsound", optV (some kk)]) := upd_same
        generalize upd HD p2 (.tup [.str "Unsound", optV (some kk)]) = HE at LE ep' e2' ⊢
        refine ⟨_, _, rfl, Eqd.tup ep' e2' (by show 2 ≤ 1000; decide) (.cons (Eqd.leaf True.intro) (.cons (Eqd.leaf True.intro) .nil)), fun HF sF => ⟨_, rfl, iteF ⟨ds, _, _, _, _, _, rfl, LE.same sF, by omega⟩⟩⟩
      | none =>
        intro HB u' kB nu' UB
        obtain ⟨dxA, stA, doneA, undoneA, a1, ⟨dlA, a2, a3, a4, a5⟩, aS, a6, a7⟩ := id UA
        have BB : Bg HB b cb := bg_kp2 LA.B a2 kB f2 f4
        have TBB : LamX.TabS HB Pt lq := tab_kp2 LA.T a2 a4 kB
        have RB : RowsAt HB l ds := LA.R.kp2 a2 a4 kB f6.symm
        obtain ⟨rbA, hbA⟩ := LA.B.sel
        obtain ⟨nsA, iA, rA, mA, bgA⟩ := id LA.B
        obtain ⟨psA, hlA, _⟩ := id LA.R
        have ub : u' ≠ b := (ne_of_none hbA nu').symm
        have uc : u' ≠ cb := (ne_of_none bgA.hc nu').symm
        have ul : u' ≠ l := (ne_of_none hlA nu').symm
        have eT5 : NumAt HB T5 N := eA.kp2 a2 a4 kB
        have gP : GoodV (ds ++ [(ds.length + 1, N, wy)]) := LA.g.push bN (by omega) er
        refine ⟨(by show 2 ≤ sizeLine; decide), fun p np => ?_⟩
        have cC := same_upd (o := .tup [.str "", .int ((ds.length + 1 : Nat) : Int)]) np
        have ep : upd HB p (.tup [.str "", .int ((ds.length + 1 : Nat) : Int)]) p = some (.tup [.str "", .int ((ds.length + 1 : Nat) : Int)]) := upd_same
        generalize upd HB p (.tup [.str "", .int ((ds.length + 1 : Nat) : Int)]) = HC at cC ep ⊢
        refine ⟨_, rfl, _, rfl, iteT ?_⟩
        obtain ⟨psB, hlB, ppB⟩ := id RB
        have lps := pair_len ppB
        refine ⟨_, rfl, .inl ⟨rfl, _, SqL.of (cC _ _ hlB)⟩, _, rfl, _, _, rfl, .inl ⟨_, SqL.of (cC _ _ hlB), rfl⟩, _, _, rfl, rfl, _, rfl, _, rfl, (by show 3 ≤ sizeLine; decide), fun t4 n4 => ?_⟩
        have en : ((1 : Int) + ((psB.map V.ref).length : Nat)) = ((ds.length + 1 : Nat) : Int) := by
          rw [List.length_map, lps]
          omega
        dsimp only
        rw [en]
        have c4 := same_upd (o := .tup [.int ((ds.length + 1 : Nat) : Int), .ref T5, .bl wy]) n4
        have e4 : upd HC t4 (.tup [.int ((ds.length + 1 : Nat) : Int), .ref T5, .bl wy]) t4 = some (.tup [.int ((ds.length + 1 : Nat) : Int), .ref T5, .bl wy]) := upd_same
        generalize upd HC t4 (.tup [.int ((ds.length + 1 : Nat) : Int), .ref T5, .bl wy]) = HD at c4 e4 ⊢
        have sBD := cC.trans c4
        have rw4 : RowAt HD t4 (ds.length + 1, N, wy) := ⟨T5, e4, eT5.same sBD⟩
        obtain ⟨psD, hlD, lpD, RD⟩ := (RB.same sBD).push rw4
        refine ⟨l, psD.map V.ref, .ref t4, rfl, rfl, hlD, small1000 (by rw [List.length_map, lpD]; omega), ?_⟩
        have kE : Kp l HD (upd HD l (.lst (psD.map V.ref ++ [.ref t4]))) := Kp.upd
        have eE : upd HD l (.lst (psD.map V.ref ++ [.ref t4])) l = some (.lst (psD.map V.ref ++ [.ref t4])) := upd_same
        have LE : LogS CU CL CM b cb Pt lq (upd HD l (.lst (psD.map V.ref ++ [.ref t4]))) x l (ds ++ [(ds.length + 1, N, wy)]) := by
          refine ⟨(BB.same sBD).kp LA.ne LA.nc kE, tab_kp (TBB.ext sBD) hlD kE, ⟨b9, u', d9, ?_, ub, f2, uc, f4, ul, f6⟩, RD, gP, LA.ne, LA.nc⟩
          have z := (UB.same sBD).kpL hlD kE ul f6
          rw [List.length_append]
          exact z
        have epE := kE _ _ (ne_of (c4 _ _ ep) hlD fun z => by cases z) (c4 _ _ ep)
        generalize upd HD l (.lst (psD.map V.ref ++ [.ref t4])) = HE at LE eE epE ⊢
        refine ⟨_, rfl, _, rfl, _, _, rfl, .inl ⟨_, SqL.of eE, rfl⟩, (by show 2 ≤ sizeLine; decide), fun p2 np2 => ?_⟩
        have el2 : (psD.map V.ref ++ [V.ref t4]).length = ds.length + 1 := by
          rw [List.length_append, List.length_map, lpD]
          rfl
        rw [el2]
        have LF := LE.same (same_upd (o := .tup [.str "", .int ((ds.length + 1 : Nat) : Int)]) np2)
        have ep' := same_upd (o := .tup [.str "", .int ((ds.length + 1 : Nat) : Int)]) np2 _ _ epE
        have e2' : upd HE p2 (.tup [.str "", .int ((ds.length + 1 : Nat) : Int)]) p2 = some (.tup [.str "", .int ((ds.length + 1 : Nat) : Int)]) := upd_same
        generalize upd HE p2 (.tup [.str "", .int ((ds.length + 1 : Nat) : Int)]) = HF at LF ep' e2' ⊢
        refine ⟨_, _, rfl, Eqd.tup ep' e2' (by show 2 ≤ 1000; decide) (.cons (Eqd.leaf True.intro) (.cons (Eqd.leaf True.intro) .nil)), fun HG sG => ⟨_, rfl, iteF ⟨_, _, _, _, _, _, rfl, LF.same sG, by rw [List.length_append]; show ds.length + 1 ≤ _; omega⟩⟩⟩
    · rintro σ' H3 ⟨ds, y4, y5, y6, y7, y8, rfl, L3, lds⟩
      refine ⟨_, rfl, _, rfl, (by show 2 ≤ sizeLine; decide), fun T nT => ?_⟩
      exact q _ T x l lq ds upd_same (L3.same (same_upd nT)) (by omega)
  obtain ⟨t, h1, h2⟩ := main
  exact ⟨t, h1.nox, h2⟩
end
end My
/-! needless verdicts: the mathematics -/
namespace My
open PySem PySem.Spec PyProof.Rows L2
theorem le_meets {X : RN} (hX : NormR X) : ∀ {Ns : List RN} {Y : RN}, (∀ N ∈ Ns, NormR N) → NormR Y → (withinB X (Ns.foldl meetF Y) = true ↔ withinB X Y = true ∧ ∀ N ∈ Ns, withinB X N = true)
  | [], Y, _, hY => by simp
  | N :: Ns, Y, hN, hY => by
    have nN := hN N List.mem_cons_self
    have nM := meet_norm hY nN
    rw [List.foldl_cons, le_meets hX (fun M hM => hN M (List.mem_cons_of_mem _ hM)) nM]
    have le := meet_le hY nN
    constructor
    · rintro ⟨h1, h2⟩
      refine ⟨within_trans hY h1 le.1, fun M hM => ?_⟩
      rcases List.mem_cons.mp hM with rfl | hM
      · exact within_trans nN h1 le.2
      · exact h2 M hM
    · rintro ⟨h1, h2⟩
      exact ⟨le_meet hX hY nN h1 (h2 N List.mem_cons_self), fun M hM => h2 M (List.mem_cons_of_mem _ hM)⟩
theorem within_all {X : RN} (hX : NormR X) : withinB X allR = true := by
  rw [within_iff]
  by_cases o : X.2.1 = 0
  · exact .inl ⟨o, rfl, Nat.one_dvd _, Nat.dvd_zero _⟩
  · exact .inr ⟨o, Nat.coprime_one_left _, Nat.dvd_zero _, Nat.dvd_zero _, Nat.dvd_zero _⟩
theorem OkV.norms {m : Nat} {ds : List VD} (ok : OkV m ds) {w : Bool} : ∀ N ∈ realmsF w ds, NormR N := fun N hN => by
  obtain ⟨v, hv, rfl⟩ := realmsF_mem hN
  exact (ok.bd v hv).nm
theorem le_meetL {X : RN} {m : Nat} {ds : List VD} (ok : OkV m ds) (hX : NormR X) : withinB X (meetL ds) = true ↔ ∀ N ∈ realmsF true ds, withinB X N = true := by
  unfold meetL meetsF
  rw [le_meets hX ok.norms (bnd_all (b := 1)).nm]
  exact ⟨fun h => h.2, fun h => ⟨within_all hX, h⟩⟩
theorem mem_realmsF {w : Bool} {ds : List VD} {N : RN} : N ∈ realmsF w ds ↔ ∃ v ∈ ds, v.2.2 = w ∧ v.2.1 = N := by
  unfold realmsF
  rw [List.mem_map]
  constructor
  · rintro ⟨v, hv, e⟩
    obtain ⟨h1, h2⟩ := List.mem_filter.mp hv
    exact ⟨v, h1, by simpa using h2, e⟩
  · rintro ⟨v, hv, e1, e2⟩
    exact ⟨v, List.mem_filter.mpr ⟨hv, by simpa using e1⟩, e2⟩
/-- one verdict has one number -/
theorem GoodV.one {ds : List VD} (g : GoodV ds) {v x : VD} (hv : v ∈ ds) (hx : x ∈ ds) (e : x.1 = v.1) : x = v := by
  obtain ⟨i, hi, rfl⟩ := List.getElem_of_mem hv
  obtain ⟨j, hj, rfl⟩ := List.getElem_of_mem hx
  have h1 := g.nu i ds[i] (List.getElem?_eq_getElem hi)
  have h2 := g.nu j ds[j] (List.getElem?_eq_getElem hj)
  have : i = j := by omega
  subst this
  rfl
theorem mem_others {ds : List VD} {v x : VD} : x ∈ others ds v ↔ x ∈ ds ∧ x.1 ≠ v.1 := by
  unfold others
  rw [List.mem_filter]
  simp
/-- the realms of the other sort stay -/
theorem realmsF_others {ds : List VD} {v : VD} {w : Bool} (g : GoodV ds) (hv : v ∈ ds) (hw : v.2.2 ≠ w) : realmsF w (others ds v) = realmsF w ds := by
  unfold realmsF others
  rw [List.filter_filter]
  congr 1
  refine List.filter_congr fun x hx => ?_
  by_cases e : x.1 = v.1
  · have := g.one hv hx e
    subst this
    have e2 : (x.2.2 == w) = false := by simpa using hw
    simp [e2]
  · have e2 : (x.1 != v.1) = true := by simpa using e
    simp [e2]
theorem GoodV.late {ds : List VD} {v : VD} (g : GoodV ds) : OkV 6 (others ds v) := g.ok.others
/-- v's realm is judged alike without v, only if v is needless; then all realms are -/
theorem idle_all {ds : List VD} {v : VD} {R : RN} (g : GoodV ds) (hv : v ∈ ds) (hR : NormR R) (h : idleF ds v = true) : judgeF ds R = judgeF (others ds v) R := by
  have nv := (g.ok.bd v hv).nm
  have nm : NormR (meetL ds) := g.ok.meet.nm
  unfold idleF at h
  cases ev : v.2.2 with
  | true =>
    rw [ev, if_pos rfl] at h
    have h := of_decide_eq_true h
    unfold judgeF
    rw [h, realmsF_others g hv (w := false) (by rw [ev]; decide)]
  | false =>
    rw [ev, if_neg (by decide)] at h
    have em : meetL (others ds v) = meetL ds := by
      unfold meetL
      rw [realmsF_others g hv (w := true) (by rw [ev]; decide)]
    unfold judgeF
    rw [em]
    have np := meet_norm nm hR
    have lep := meet_le nm hR
    have hiff : ((meetF (meetL ds) R).2.1 = 1 ∨ ((realmsF false ds).any fun M => withinB (meetF (meetL ds) R) M) = true) ↔ ((meetF (meetL ds) R).2.1 = 1 ∨ ((realmsF false (others ds v)).any fun M => withinB (meetF (meetL ds) R) M) = true) := by
      constructor
      · rintro (e | e)
        · exact .inl e
        · obtain ⟨M, hM, w1⟩ := List.any_eq_true.mp e
          obtain ⟨x, hx, e1, rfl⟩ := mem_realmsF.mp hM
          by_cases exv : x.1 = v.1
          · have := g.one hv hx exv
            subst this
            have le1 := le_meet np nm nv lep.1 w1
            rcases Bool.or_eq_true_iff.mp h with h | h
            · exact .inl (le_empty le1 (of_decide_eq_true h))
            · obtain ⟨M', hM', w2⟩ := List.any_eq_true.mp h
              exact .inr (List.any_eq_true.mpr ⟨M', hM', within_trans (g.late.norms M' hM') le1 w2⟩)
          · exact .inr (List.any_eq_true.mpr ⟨x.2.1, mem_realmsF.mpr ⟨x, mem_others.mpr ⟨hx, exv⟩, e1, rfl⟩, w1⟩)
      · rintro (e | e)
        · exact .inl e
        · obtain ⟨M, hM, w1⟩ := List.any_eq_true.mp e
          obtain ⟨x, hx, e1, rfl⟩ := mem_realmsF.mp hM
          exact .inr (List.any_eq_true.mpr ⟨x.2.1, mem_realmsF.mpr ⟨x, (mem_others.mp hx).1, e1, rfl⟩, w1⟩)
    by_cases c : (meetF (meetL ds) R).2.1 = 1 ∨ ((realmsF false ds).any fun M => withinB (meetF (meetL ds) R) M) = true
    · rw [if_pos c, if_pos (hiff.mp c)]
    · rw [if_neg c, if_neg fun z => c (hiff.mpr z)]
theorem idle_only {ds : List VD} {v : VD} (g : GoodV ds) (hv : v ∈ ds) (h : idleF ds v = false) : judgeF ds v.2.1 ≠ judgeF (others ds v) v.2.1 := by
  have nv := (g.ok.bd v hv).nm
  have nm : NormR (meetL ds) := g.ok.meet.nm
  have nl : NormR (meetL (others ds v)) := g.late.meet.nm
  unfold idleF at h
  cases ev : v.2.2 with
  | true =>
    rw [ev, if_pos rfl] at h
    have h := of_decide_eq_false h
    have w1 : withinB (meetL ds) v.2.1 = true := (le_meetL g.ok nm).mp (within_refl nm) _ (mem_realmsF.mpr ⟨v, hv, ev, rfl⟩)
    have w2 : withinB (meetL (others ds v)) v.2.1 = false := by
      cases e : withinB (meetL (others ds v)) v.2.1 with
      | false => rfl
      | true =>
        refine absurd (within_anti nl nm ((le_meetL g.ok nl).mpr fun N hN => ?_) ((le_meetL g.late nm).mpr fun N hN => ?_)) h
        · obtain ⟨x, hx, e1, rfl⟩ := mem_realmsF.mp hN
          by_cases exv : x.1 = v.1
          · rw [g.one hv hx exv]
            exact e
          · exact (le_meetL g.late nl).mp (within_refl nl) _ (mem_realmsF.mpr ⟨x, mem_others.mpr ⟨hx, exv⟩, e1, rfl⟩)
        · obtain ⟨x, hx, e1, rfl⟩ := mem_realmsF.mp hN
          exact (le_meetL g.ok nm).mp (within_refl nm) _ (mem_realmsF.mpr ⟨x, (mem_others.mp hx).1, e1, rfl⟩)
    unfold judgeF
    rw [w1, w2, if_pos rfl, if_neg (by decide)]
    split <;> decide
  | false =>
    rw [ev, if_neg (by decide)] at h
    have em : meetL (others ds v) = meetL ds := by
      unfold meetL
      rw [realmsF_others g hv (w := true) (by rw [ev]; decide)]
    obtain ⟨h1, h2⟩ := Bool.or_eq_false_iff.mp h
    have h1 := of_decide_eq_false h1
    have w0 := g.out v hv ev
    have wp := (meet_le nm nv).2
    have p1 : (meetF (meetL ds) v.2.1).2.1 = 1 ∨ ((realmsF false ds).any fun M => withinB (meetF (meetL ds) v.2.1) M) = true := .inr (List.any_eq_true.mpr ⟨v.2.1, mem_realmsF.mpr ⟨v, hv, ev, rfl⟩, wp⟩)
    have p2 : ¬ ((meetF (meetL ds) v.2.1).2.1 = 1 ∨ ((realmsF false (others ds v)).any fun M => withinB (meetF (meetL ds) v.2.1) M) = true) := fun z => z.elim h1 fun y => by
      rw [h2] at y
      cases y
    unfold judgeF
    have f0 : ¬ (false = true) := by decide
    rw [em, w0, if_neg f0, if_pos p1, if_neg f0, if_neg p2]
    decide
theorem mem_idles {ds : List VD} {v : VD} (g : GoodV ds) (hv : v ∈ ds) : v.1 ∈ idles ds ↔ idleF ds v = true := by
  unfold idles
  rw [List.mem_map]
  constructor
  · rintro ⟨x, hx, e⟩
    obtain ⟨h1, h2⟩ := List.mem_filter.mp hx
    rw [g.one hv h1 e] at h2
    exact h2
  · intro h
    exact ⟨v, List.mem_filter.mpr ⟨hv, h⟩, rfl⟩
theorem good_sorted {ds : List VD} (g : GoodV ds) : ds.Pairwise fun x y => x.1 < y.1 := by
  rw [List.pairwise_iff_getElem]
  intro i j hi hj lt
  rw [g.nu i ds[i] (List.getElem?_eq_getElem hi), g.nu j ds[j] (List.getElem?_eq_getElem hj)]
  omega
theorem idles_sorted {ds : List VD} (g : GoodV ds) : (idles ds).Pairwise fun x y => x < y := by
  unfold idles
  rw [List.pairwise_map]
  exact (good_sorted g).filter _
end My
/-! the law of k75 -/
namespace My
open PySem PySem.Spec PyProof.Rows L2
def spLaw (K : PySem.W.Frag) (P : Addr) : Sp := fun vs H Q _ => ∃ (a : Addr) (ns : List Int), vs = [.ref a] ∧ SqL K H a (ns.map V.int) ∧ ns.length ≤ 63 ∧ H P = some (.tbl #[]) ∧ ∀ H', Q (.bl true) H'
theorem cut3 {rs : List Addr} : cutV (rs.map V.ref) none (some 3) = (rs.take 3).map V.ref := by
  unfold cutV
  rw [HT.sIx_none, show HT.sIx (rs.map V.ref).length (rs.map V.ref).length (some 3) = min 3 (rs.map V.ref).length from HT.sIx_nat (rs.map V.ref).length (rs.map V.ref).length 3, List.drop_zero, Nat.sub_zero, List.map_take]
  by_cases h : 3 ≤ (rs.map V.ref).length
  · rw [Nat.min_eq_left h]
  · rw [List.take_of_length_le (by omega), List.take_of_length_le (by omega)]
theorem pair_app {α β : Type} {R : α → β → Prop} : ∀ {xs xs' : List α} {ys ys' : List β}, Paired R xs ys → Paired R xs' ys' → Paired R (xs ++ xs') (ys ++ ys')
  | _, _, _, _, .nil, h => h
  | _, _, _, _, .cons r t, h => .cons r (pair_app t h)
section
variable {P : Program} {w : World} {K : PySem.W.Frag} {mg : Str → Option Value} {base : Heap} {CU CL CM : Addr} {mc : Value}
theorem ok_law {Pt fA fL f : Addr} {fdA fdL fd : FuncData} (F : Fun K "law" "law" s_law f fd)
    (B : Blt mg) (RU : UCls K CU) (R : RCls K CM mc) (G_l_bag : Has P w K mg base 1 "_law_bag" ["_law_script"] (spBag K)) (G_l_draw : Has P w K mg base 1 "_law_draw" ["_law_bag_here", "_law_many"] spDraw) (G_l_log : Has P w K mg base 14 "_law_log" ["_law_bag_here", "_law_many"] (spLog CU CL CM Pt))
    (G_l_wide_realm : Has P w K mg base 3 "_law_wide_realm" ["_law_bag_here"] spWide) (G_l_settle : Has P w K mg base 4 "_law_settle" ["_law_numbers"] spLSettle) (G_l_realm : Has P w K mg base 6 "_law_realm" ["_law_numbers"] (spLRealm CM))
    (M_needless : HasM P w K mg base 11 CU "needless" ["self"] (spNeedless CU CL CM)) (M_verdicts : HasM P w K mg base 1 CU "verdicts" ["self"] (spVerdicts CU CL CM)) (M_twin : HasM P w K mg base 6 CU "twin" ["self"] (spUTwin CU CL CM)) (M_withdraw : HasM P w K mg base 2 CU "withdraw" ["self", "number"] (spWithdraw CU CL CM))
    (M_meet : HasM P w K mg base 9 CU "meet" ["self"] (spUMeet CU CL CM)) (M_judge : HasM P w K mg base 10 CU "judge" ["self", "realm"] (spJudge CU CL CM))
    (ANS : OwO.Spc K CM "__and__" fA) (ANF : FnOk P w K mg base CX0 7 fA fdA ["self", "other"] (spAnd CM)) (ANb : L2.Binds K fdA ["self", "other"] []) (hSF : PySem.W.selfFirst K CM = true)
    (LNS : OwO.Spc K CU "__len__" fL) (LNF : FnOk P w K mg base CX0 1 fL fdL ["self"] (spULen CU CL CM)) (LNb : L2.Binds K fdL ["self"] []) :
    FnOk P w K mg base CX0 15 f fd ["_law_script"] (spLaw K Pt) := by
  refine F.ok sc_law (fun vs H Q E h => ?_) (fun cdv A outer s H vs Q E hr h => ?_)
  · obtain ⟨a, ns, rfl, _⟩ := h
    rfl
  obtain ⟨a, ns, rfl, hS, hl, hP, q⟩ := h
  have cu := RU.cl
  have cm := R.cl
  refine ⟨_, (pss_cons (ps_set (i := 1) sc_law.nd rfl (Or.inr rfl) (pe_own G_l_bag (hr.mono (by decide)) (by rfl) (pa_cons (pv 0) pa_nil)))
      (pss_cons (ps_set (i := 2) sc_law.nd rfl (Or.inl rfl) (pe_own G_l_log (hr.mono (by decide)) (by rfl) (pa_cons (pv 1) (pa_cons (pe_op op_add pe_int (pe_own G_l_draw (hr.mono (by decide)) (by rfl) (pa_cons (pv 1) (pa_cons pe_int pa_nil)))) pa_nil))))
      (pss_cons (ps_if (pt_cmp (pc_isN (pv 2)))
        (pss_one (ps_ret pe_bl))
        pss_nil)
      (pss_cons (ps_asg (pv 2) (pg_tup rfl (pgs_cons (pg_name (i := 3) sc_law.nd rfl (Or.inr rfl)) (pgs_cons (pg_name (i := 4) sc_law.nd rfl (Or.inl rfl)) pgs_nil))))
      (pss_cons (ps_set (i := 5) sc_law.nd rfl (Or.inl rfl) (pe_ownM0 (by assumption) M_needless (hr.mono (by decide)) (pv 3)))
      (pss_cons (ps_if (PW.pt (pw_or (pt_not (pt_val (pe_callB call_isi (by rfl) B.isinstance bb_isinstance (pa_cons (pv 5) (pa_cons (pe_bltn (v := .ty "list") (by rfl) B.list bb_list rfl) pa_nil))))) (pw_or1 (pt_cmpR (op_neDK K rfl (un64 hr)) (pv 5) (pe_callB cr_sorted (by rfl) B.sorted bb_sorted (pa_cons (pv 5) pa_nil)) (nomark _)))))
        (pss_one (ps_ret pe_bl))
        pss_nil)
      (pss_cons (ps_setLc (i := 6) (own := [("_law_k", 7)]) (g := gName 7) (tt := tYes) (by rfl) sc_law.nd rfl rfl (sw_true rfl rfl rfl (by decide +kernel)) (pi_range1 (by rfl) B.range (pa_cons pe_int pa_nil)) (blkOk_by (own := [("_law_k", 7)]) (N := N_law) (sc := defScope s_law) (by decide +kernel)) (fun _ _ _ _ _ => (pg_name (i := 7) sc_law.nd rfl (Or.inl rfl))) (fun _ _ _ _ _ => pts_nil) (fun _ _ _ _ _ => (pe_own G_l_realm (hr.mono (by decide)) (by rfl) (pa_cons (pe_own G_l_settle (hr.mono (by decide)) (by rfl) (pa_cons (pe_own G_l_wide_realm (hr.mono (by decide)) (by rfl) (pa_cons (pv 1) pa_nil)) pa_nil)) pa_nil))))
      (pss_cons (ps_for PassesOwn.never rfl (pi_list (pe_ownM0 (by assumption) M_verdicts (hr.mono (by decide)) (pv 3))) (pg_tup rfl (pgs_cons (pg_name (i := 8) sc_law.nd rfl (Or.inl rfl)) (pgs_cons (pg_name (i := 9) sc_law.nd rfl (Or.inl rfl)) (pgs_cons (pg_name (i := 10) sc_law.nd rfl (Or.inl rfl)) pgs_nil))))
        (pss_cons (ps_set (i := 11) sc_law.nd rfl (Or.inr rfl) (pe_ownM0 (by assumption) M_twin (hr.mono (by decide)) (pv 3)))
      (pss_cons (ps_expr (pe_ownM (by assumption) M_withdraw (hr.mono (by decide)) (pv 11) (pa_cons (pv 8) pa_nil)))
      (pss_cons (ps_set (i := 12) sc_law.nd rfl (Or.inl rfl) (pe_op op_cat (pe_op op_cat (pv 6) (pe_lst (pa_cons (pv 9) (pa_cons (pe_ownM0 (by assumption) M_meet (hr.mono (by decide)) (pv 3)) (pa_cons (pe_ownM0 (by assumption) M_meet (hr.mono (by decide)) (pv 11)) pa_nil))))) (pe_lc (own := [("_law_one", 13)]) (g := gName 13) (tt := tYes) (by rfl) sc_law.nd (pi_list (pe_slice sl_list (pv 6) po_none (po_some pe_int))) (blkOk_by (own := [("_law_one", 13)]) (N := N_law) (sc := defScope s_law) (by decide +kernel)) (fun _ _ _ _ _ => (pg_name (i := 13) sc_law.nd rfl (Or.inl rfl))) (fun _ _ _ _ _ => pts_nil) (fun _ _ _ _ _ => (pe_op (OwO.op_binO (K0 := K) rfl ANS ANF ANb hSF (hr.mono (by decide)) rfl) (pv 13) (pe_ownM0 (by assumption) M_meet (hr.mono (by decide)) (pv 11)))))))
      (pss_cons (ps_set (i := 14) sc_law.nd rfl (Or.inl rfl) (pe_callB (cr_all rfl) (by rfl) B.all bb_all (pa_cons (pe_lc (own := [("_law_one", 13)]) (g := gName 13) (tt := tYes) (by rfl) sc_law.nd (pi_list (pv 12)) (blkOk_by (own := [("_law_one", 13)]) (N := N_law) (sc := defScope s_law) (by decide +kernel)) (fun _ _ _ _ _ => (pg_name (i := 13) sc_law.nd rfl (Or.inl rfl))) (fun _ _ _ _ _ => pts_nil) (fun _ _ _ _ _ => (pe_cmpR op_eq (pe_ownM (by assumption) M_judge (hr.mono (by decide)) (pv 3) (pa_cons (pv 13) pa_nil)) (pe_ownM (by assumption) M_judge (hr.mono (by decide)) (pv 11) (pa_cons (pv 13) pa_nil)) (nomark _)))) pa_nil)))
      (pss_one (ps_if (pt_cmpR op_ne (pe_cmpR op_in_seq (pv 8) (pv 5) rfl) (pv 14) (nomark _))
        (pss_one (ps_ret pe_bl))
        pss_nil)))))))
      (pss_one (ps_ret (pe_cmpR op_eq (pe_callB (OwO.cr_len rfl LNS LNF LNb (hr.mono (by decide))) (by rfl) B.len bb_len (pa_cons (pv 3) pa_nil)) (pe_callB call_len (by rfl) B.len bb_len (pa_cons (pv 4) pa_nil)) (nomark _)))))))))))), ?_⟩
  refine ⟨_, rfl, a, ns, rfl, hS, hl, fun b cb H0 s0 nb B0 => ?_⟩
  obtain ⟨rb, hb0⟩ := B0.sel
  have hP0 := s0 _ _ hP
  refine ⟨_, rfl, _, rfl, b, cb, 7, rfl, B0, by decide, by decide, fun v H1 p0 p1 k1 B1 => ?_⟩
  obtain ⟨m, rfl⟩ : ∃ m : Nat, v = (m : Int) := ⟨v.toNat, by omega⟩
  have hP1 := k1 _ _ (ne_of hP0 hb0 fun z => by cases z) hP0
  have em : V.int (2 + (m : Int)) = V.int ((2 + m : Nat) : Int) := congrArg V.int (by omega)
  refine ⟨_, _, rfl, rfl, b, cb, 2 + m, by show [V.ref b, V.int (2 + (m : Int))] = _; rw [em], B1, by omega, hP1, fun H2 T a2 l lq ds eT L2s l20 => ?_⟩
  clear hP1 k1 hP0 s0 hS
  refine ⟨_, rfl, _, rfl, iteF ⟨_, rfl, T, _, rfl, SqT.of eT, rfl, _, _, rfl, _, _, rfl, rfl, ?_⟩⟩
  obtain ⟨b', u, d, U2, f1, f2, f3, f4, f5, f6⟩ := L2s.U
  obtain ⟨dx2, st2, do2, un2, g2, _⟩ := id U2
  refine ⟨_, rfl, a2, dx2, _, rfl, g2, rfl, a2, b', u, d, ds, _, _, 6, rfl, U2, L2s.g.ok, fun H3 l3 s3 n3 e3 => ?_⟩
  have L3 := L2s.same s3
  have U3 := U2.same s3
  have l3b : l3 ≠ b := by
    obtain ⟨_, hb⟩ := L2s.B.sel
    exact (ne_of_none hb n3).symm
  clear L2s U2 g2
  -- isinstance, sorted
  refine ⟨_, rfl, _, .ty "list", _, .type "list", true, rfl, .ty _, (Typ.lst e3).tyx, kit_ty (by decide +kernel), _, rfl, iteF ?_⟩
  have li : (idles ds).length ≤ 20 := by
    unfold idles
    rw [List.length_map]
    exact Nat.le_trans (List.length_filter_le _ _) l20
  have e3' : H3 l3 = some (.lst (((idles ds).map fun (k : Nat) => (k : Int)).map V.int)) := by
    rw [e3, List.map_map]
    rfl
  refine ⟨_, rfl, _, rfl, l3, (idles ds).map (fun (k : Nat) => (k : Int)), rfl, SqL.of e3', by rw [List.length_map]; omega, fun ns' p4 pm pw np4 => ?_⟩
  have ens : ns' = (idles ds).map fun (k : Nat) => (k : Int) := by
    refine pm.eq_of_pairwise (fun x y _ _ h1 h2 => Int.le_antisymm h1 h2) pw ?_
    rw [List.pairwise_map]
    exact (idles_sorted L3.g).imp fun h => by omega
  have c4 := same_upd (o := .lst (ns'.map V.int)) np4
  have e4 : upd H3 p4 (.lst (ns'.map V.int)) p4 = some (.lst ((idles ds).map fun (k : Nat) => V.int (k : Int))) := by
    rw [upd_same, ens, List.map_map]
    rfl
  generalize upd H3 p4 (.lst (ns'.map V.int)) = H4 at c4 e4 ⊢
  have e34 := c4 _ _ e3
  refine ⟨_, _, dp_natsL e34, dp_natsL e4, shapedL _, shapedL _, ?_⟩
  have eqq : PyData.eqv (.list (dNats (idles ds))) (.list (dNats (idles ds))) = true := by
    simp only [PyData.eqv]
    rw [eqvA_nats _ _ rfl]
    exact decide_eq_true rfl
  rw [eqq]
  refine ⟨_, rfl, iteF ?_⟩
  have L4 := L3.same c4
  have U4 := U3.same c4
  clear L3 U3 e3 e3' pm pw np4 c4 e4 ens ns'
  obtain ⟨rb4, hb4⟩ := L4.B.sel
  -- the drawn realms
  refine ⟨8, rfl, by decide, by decide, fun D nD => ?_⟩
  have nDb : D ≠ b := (ne_of_none hb4 nD).symm
  have nDc : D ≠ cb := by
    obtain ⟨ns5, i5, r5, m5, bg⟩ := id L4.B
    exact (ne_of_none bg.hc nD).symm
  refine lc_it (walk_range (n := 8)) (fun i Hz => Kp b H4 Hz ∧ Bg Hz b cb ∧ ∃ (rs : List Addr) (Ns : List RN), Hz D = some (.lst (rs.map V.ref)) ∧ Paired (RAt CM Hz) rs Ns ∧ Ns.length = i ∧ ∀ N ∈ Ns, BndR 6 N)
    ⟨Kp.of (same_upd nD), L4.B.same (same_upd nD), [], [], upd_same, .nil, rfl, by simp⟩ (fun _ _ _ _ => True.intro) ?_ ?_
  · rintro i v Ha Hb hi ⟨ka, Ba, rs, Ns, eD, pr, ln, bd⟩ ⟨rfl, hv⟩
    have hi : i < 8 := hi
    obtain ⟨rba, hba⟩ := Ba.sel
    refine ⟨rfl, tYes_ok ⟨_, rfl, b, cb, rfl, Ba, fun H6 T6 dd oo ss tt k6 B6 nT6 T6b eT6 hd ho hs ht => ?_⟩⟩
    have rl : 1 ≤ radL dd ∧ radL dd ∣ 6 := by
      rcases hd with rfl | rfl | rfl | rfl <;> exact ⟨by decide +kernel, by decide +kernel⟩
    refine ⟨T6, dd, oo, ss, tt, rfl, eT6, by omega, by omega, by omega, by omega, by omega, fun H7 T7 d' o' s' t' nX s7 nT7 eT7 => ?_⟩
    obtain ⟨N, hN⟩ : ∃ N : RN, N = (d', o', s', t') := ⟨_, rfl⟩
    have bN : BndR 6 N := bnd_settled rl.1 rl.2 ho hs ht (by rw [hN]; exact nX)
    have ag : Nrm N.1 N.2.1 N.2.2.1 N.2.2.2 N.1 N.2.1 N.2.2.1 N.2.2.2 := by
      have z := nX.again
      rw [hN]
      exact z
    have e7 : NumAt H7 T7 N := by rw [hN]; exact eT7
    refine ⟨T7, N.1, N.2.1, N.2.2.1, N.2.2.2, rfl, e7, bN.nm.d1, Nat.le_trans (Nat.le_of_dvd (by decide) bN.dv) (by decide), bN.o, bN.s, bN.t, fun H8 r X1 X2 X3 X4 nXX s8 nr hr => ?_⟩
    have eX : ((X1, X2, X3, X4) : RN) = N := real_self bN.dv ag nXX
    have hr8 : RAt CM H8 r N := by
      rw [← eX]
      exact hr
    have s68 := s7.trans s8
    have eD8 := s68 _ _ (k6 _ _ nDb eD)
    have k48 : Kp b H4 H8 := ka.trans (k6.trans (Kp.of s68))
    have kU : Kp D H8 (upd H8 D (.lst (rs.map V.ref ++ [V.ref r]))) := Kp.upd
    have pr8 : Paired (RAt CM H8) rs Ns := paired_mono (fun a N h => (h.kpL hba k6).same s68) pr
    refine ⟨_, eD8, small1000 (by rw [List.length_map, pair_len pr]; omega), fun c o nc hc => ?_, (B6.same s68).kp nDb nDc kU, rs ++ [r], Ns ++ [N], by rw [upd_same, List.map_append]; rfl, Paired.snoc (paired_mono (fun a N h => h.kpL eD8 kU) pr8) (hr8.kpL eD8 kU), by rw [List.length_append, ln]; rfl, fun M hM => ?_⟩
    · rw [upd_ne (ne_of_none hc nD)]
      exact k48 _ _ nc hc
    · rcases List.mem_append.mp hM with hM | hM
      · exact bd M hM
      · rw [List.mem_singleton.mp hM]
        exact bN
  rintro H5 ⟨k5, B5, rs, Ns, eD, pr, ln, bd⟩
  have U5 := U4.kpL hb4 k5 f1 f2
  have R5 := L4.R.kpL hb4 k5 L4.ne
  have e35 := k5 _ _ l3b e34
  have g := L4.g
  clear k5 B5 U4 L4 e34 nDb nDc nD hb4
  -- verdict by verdict
  obtain ⟨dx5, st5, do5, un5, g5, _⟩ := id U5
  refine ⟨_, rfl, a2, dx5, _, rfl, g5, rfl, a2, b', u, d, ds, _, _, rfl, U5, fun H9 l9 ps s9 n9 e9 p9 => ?_⟩
  have U9 := U5.same s9
  have eD9 := s9 _ _ eD
  have pr9 : Paired (RAt CM H9) rs Ns := paired_mono (fun a N h => h.same s9) pr
  have e39 := s9 _ _ e35
  have R9 := R5.same s9
  have g9 := s9 _ _ g5
  clear U5 eD pr e35 R5 s9 n9 g5
  refine ⟨l9, rfl, ⟨_, SqL.of e9⟩, for_list (xs := ps.map V.ref) (fun i σ H' => ∃ y8 y9 y10 y11 y12 y14, σ = [some (.ref a), some (.ref b), some (.ref T), some (.ref a2), some (.ref l), some (.ref l3), some (.ref D), none, y8, y9, y10, y11, y12, none, y14] ∧ Same H9 H') ⟨_, _, _, _, _, _, rfl, Same.refl _⟩ (fun i σ H' _ ⟨_, _, _, _, _, _, _, e⟩ => SqL.of (e _ _ e9)) ?_ ?_⟩
  · rintro i y σ Ha hv ⟨y8, y9, y10, y11, y12, y14, rfl, sa⟩
    obtain ⟨p, hp, rfl⟩ := at_map hv
    obtain ⟨v, hv2, r, k1, k2⟩ := paired_at p9 hp
    have hvm : v ∈ ds := List.mem_of_getElem? hv2
    refine ⟨p, _, rfl, SqT.of (sa _ _ k1), rfl, _, _, rfl, _, _, rfl, _, _, rfl, rfl, ?_⟩
    have Ua := U9.same sa
    refine ⟨_, rfl, a2, dx5, _, rfl, sa _ _ g9, rfl, a2, b', u, d, ds, _, _, rfl, Ua, by omega, fun HA x xb xu xd sA nx nxb nxu nxd UA => ?_⟩
    obtain ⟨dxA, stA, doA, unA, gA, _⟩ := id UA
    refine ⟨_, rfl, x, dxA, _, rfl, gA, rfl, _, rfl, x, xb, xu, xd, ds, v, _, _, rfl, UA, hvm, by omega, by omega, fun HB u' kB nu' UB => ?_⟩
    have sB : Same H9 HB := fun c o hc => kB c o (ne_of_none (sa _ _ hc) nxb) (ne_of_none (sa _ _ hc) nxd) (sA _ _ (sa _ _ hc))
    clear UA gA kB nu' Ua sA nx nxb nxu nxd
    have okO : OkV 6 (others ds v) := g.late
    have l100 : ds.length ≤ 100 := g.ok.l100
    -- the meets
    have U9B := U9.same sB
    obtain ⟨dxB, stB, doB, unB, gB, _⟩ := id UB
    refine ⟨_, rfl, _, rfl, _, rfl, a2, dx5, _, rfl, sB _ _ g9, rfl, a2, b', u, d, ds, _, _, 6, rfl, U9B, l100, by decide, by decide, g.ok.bd, fun HC mC sC nmC hmC => ?_⟩
    refine ⟨_, rfl, x, dxB, _, rfl, sC _ _ gB, rfl, x, xb, u', xd, others ds v, _, _, 6, rfl, UB.same sC, okO.l100, by decide, by decide, okO.bd, fun HE mE sE nmE hmE => ⟨(by show 3 ≤ sizeLine; decide), fun q1 nq1 => ?_⟩⟩
    have sBE := sC.trans sE
    have s9E := sB.trans sBE
    have hr : RAt CM HE r v.2.1 := k2.same s9E
    have hmE' : RAt CM HE mE (meetL (others ds v)) := hmE
    have hmC' : RAt CM HE mC (meetL ds) := RAt.same (N := meetL ds) hmC sE
    have c1 := same_upd (o := .lst [.ref r, .ref mC, .ref mE]) nq1
    have e1 : upd HE q1 (.lst [.ref r, .ref mC, .ref mE]) q1 = some (.lst [.ref r, .ref mC, .ref mE]) := upd_same
    generalize upd HE q1 (.lst [.ref r, .ref mC, .ref mE]) = HF at c1 e1 ⊢
    have s9F := s9E.trans c1
    have lrs : rs.length = 8 := by rw [pair_len pr9, ln]
    refine ⟨D, q1, _, _, rfl, rfl, s9F _ _ eD9, e1, Nat.le_of_lt (small1000 (by rw [List.length_map, lrs]; show 8 + 3 ≤ 1000; omega)), fun q2 nq2 => ?_⟩
    have c2 := same_upd (o := .lst (rs.map V.ref ++ [.ref r, .ref mC, .ref mE])) nq2
    have e2 : upd HF q2 (.lst (rs.map V.ref ++ [.ref r, .ref mC, .ref mE])) q2 = some (.lst (rs.map V.ref ++ [.ref r, .ref mC, .ref mE])) := upd_same
    generalize upd HF q2 (.lst (rs.map V.ref ++ [.ref r, .ref mC, .ref mE])) = HG at c2 e2 ⊢
    have s9G := s9F.trans c2
    refine ⟨_, rfl, 3, rfl, D, _, rfl, SqL.of (s9G _ _ eD9), fun q3 nq3 => ?_⟩
    rw [cut3]
    have c3 := same_upd (o := .lst ((rs.take 3).map V.ref)) nq3
    have e3 : upd HG q3 (.lst ((rs.take 3).map V.ref)) q3 = some (.lst ((rs.take 3).map V.ref)) := upd_same
    generalize upd HG q3 (.lst ((rs.take 3).map V.ref)) = HI at c3 e3 ⊢
    have s9I := s9G.trans c3
    have sEI := c1.trans (c2.trans c3)
    have sBI := sBE.trans sEI
    have e2I := c3 _ _ e2
    have prI : Paired (RAt CM HI) rs Ns := paired_mono (fun a N h => h.same s9I) pr9
    clear c1 c2 c3 nq1 nq2 nq3 e1 e2
    refine ⟨q3, rfl, ⟨_, SqL.of e3⟩, fun D6 nD6 => ?_⟩
    refine lc_it (walk_list (K := K) (xs := (rs.take 3).map V.ref)) (fun j Hz => Same HI Hz ∧ ∃ (ws : List Addr) (Ms : List RN), Hz D6 = some (.lst (ws.map V.ref)) ∧ Paired (RAt CM Hz) ws Ms ∧ Ms.length ≤ j ∧ ∀ M ∈ Ms, BndR 6 M) ⟨same_upd nD6, [], [], upd_same, .nil, Nat.le_refl _, by simp⟩ (fun j Hz _ e => SqL.of (e.1 _ _ e3)) ?_ ?_
    · rintro j y Hj Hk hj ⟨sj, ws, Ms, eW, pW, lW, bW⟩ ⟨rfl, hv⟩
      obtain ⟨z, hz, rfl⟩ := at_map hv
      have hz' : rs[j]? = some z := by
        rw [List.getElem?_take] at hz
        split at hz
        · exact hz
        · cases hz
      obtain ⟨N, hN, hrN⟩ := paired_at prI hz'
      have bN := bd N (List.mem_of_getElem? hN)
      have hj3 : j < 3 := by
        rw [List.length_map, List.length_take] at hj
        omega
      obtain ⟨dz, Tz, gz, _⟩ := id (hrN.same sj)
      refine ⟨rfl, tYes_ok ⟨_, rfl, _, rfl, x, dxB, _, rfl, sj _ _ (sBI _ _ gB), rfl, x, xb, u', xd, others ds v, _, _, 6, rfl, (UB.same sBI).same sj, okO.l100, by decide, by decide, okO.bd, fun HL mL sL nmL hmL => ?_⟩⟩
      have hmL : RAt CM HL mL (meetL (others ds v)) := hmL
      have hzL := (hrN.same sj).same sL
      obtain ⟨dmL, TmL, gmL, _⟩ := id hmL
      refine ⟨z, dz, _, mL, rfl, rfl, sL _ _ gz, R.ty gmL, z, mL, N, _, rfl, hzL, hmL, bN.sm (by decide) (by decide), okO.meet.sm (by decide) (by decide), fun HM wz X nX sM nw hw => ⟨wz, rfl, ?_⟩⟩
      have eX := meet_of nX
      subst eX
      have sjM := sL.trans sM
      have eWM := sjM _ _ eW
      have kU : Kp D6 HM (upd HM D6 (.lst (ws.map V.ref ++ [V.ref wz]))) := Kp.upd
      refine ⟨_, eWM, small1000 (by rw [List.length_map, pair_len pW]; omega), fun c o hc => ?_, ws ++ [wz], Ms ++ [meetF N (meetL (others ds v))], by rw [upd_same, List.map_append]; rfl, Paired.snoc (paired_mono (fun a N h => (h.same sjM).kpL eWM kU) pW) (RAt.kpL hw eWM kU), by rw [List.length_append]; show Ms.length + 1 ≤ _; omega, fun M hM => ?_⟩
      · rw [upd_ne (ne_of_none hc nD6)]
        exact sjM _ _ (sj _ _ hc)
      · rcases List.mem_append.mp hM with hM | hM
        · exact bW M hM
        · rw [List.mem_singleton.mp hM]
          exact bnd_meet bN okO.meet
    rintro HN ⟨sN, ws, Ms, eW, pW, lW, bW⟩
    have lW3 : Ms.length ≤ 3 := by
      rw [List.length_map, List.length_take] at lW
      omega
    refine ⟨q2, D6, _, _, rfl, rfl, sN _ _ e2I, eW, Nat.le_of_lt (small1000 (by rw [List.length_append, List.length_map, List.length_map, lrs, pair_len pW]; show 8 + 3 + Ms.length ≤ 1000; omega)), fun q5 nq5 => ?_⟩
    have c5 := same_upd (o := .lst (rs.map V.ref ++ [.ref r, .ref mC, .ref mE] ++ ws.map V.ref)) nq5
    have e5 : upd HN q5 (.lst (rs.map V.ref ++ [.ref r, .ref mC, .ref mE] ++ ws.map V.ref)) q5 = some (.lst ((rs ++ [r, mC, mE] ++ ws).map V.ref)) := by
      rw [upd_same, List.map_append, List.map_append]
      rfl
    generalize upd HN q5 (.lst (rs.map V.ref ++ [.ref r, .ref mC, .ref mE] ++ ws.map V.ref)) = HO at c5 e5 ⊢
    have sIO := sN.trans c5
    have pAll : Paired (RAt CM HO) (rs ++ [r, mC, mE] ++ ws) (Ns ++ [v.2.1, meetL ds, meetL (others ds v)] ++ Ms) := by
      refine pair_app (pair_app (paired_mono (fun a N h => h.same sIO) prI) (.cons ((hr.same sEI).same sIO) (.cons ((hmC'.same sEI).same sIO) (.cons ((hmE'.same sEI).same sIO) .nil)))) (paired_mono (fun a N h => h.same c5) pW)
    have bAll : ∀ N ∈ Ns ++ [v.2.1, meetL ds, meetL (others ds v)] ++ Ms, BndR 6 N := by
      intro N hN
      rcases List.mem_append.mp hN with hN | hN
      · rcases List.mem_append.mp hN with hN | hN
        · exact bd N hN
        · simp only [List.mem_cons, List.not_mem_nil, or_false] at hN
          rcases hN with rfl | rfl | rfl
          · exact g.ok.bd v hvm
          · exact g.ok.meet
          · exact okO.meet
      · exact bW N hN
    have lAll : (Ns ++ [v.2.1, meetL ds, meetL (others ds v)] ++ Ms).length ≤ 100 := by
      rw [List.length_append, List.length_append, ln]
      show 8 + 3 + Ms.length ≤ 100
      omega
    obtain ⟨as, has⟩ : ∃ as, as = rs ++ [r, mC, mE] ++ ws := ⟨_, rfl⟩
    obtain ⟨Rs, hRs⟩ : ∃ Rs, Rs = Ns ++ [v.2.1, meetL ds, meetL (others ds v)] ++ Ms := ⟨_, rfl⟩
    have hvR : v.2.1 ∈ Rs := by
      rw [hRs]
      simp
    rw [← has] at e5 pAll
    rw [← hRs] at bAll lAll pAll
    have sBO := sBI.trans sIO
    have s9O := sB.trans sBO
    refine ⟨_, rfl, q5, rfl, ⟨_, SqL.of e5⟩, fun D8 nD8 => ?_⟩
    refine lc_it (walk_list (K := K) (xs := as.map V.ref)) (fun j Hz => Same HO Hz ∧ Hz D8 = some (.lst (((Rs.take j).map fun R => decide (judgeF ds R = judgeF (others ds v) R)).map V.bl))) ⟨same_upd nD8, upd_same⟩ (fun j Hz _ e => SqL.of (e.1 _ _ e5)) ?_ ?_
    · rintro j y Hj Hk hj ⟨sj, eJ⟩ ⟨rfl, hv⟩
      obtain ⟨z, hz, rfl⟩ := at_map hv
      obtain ⟨N, hN, hrN⟩ := paired_at pAll hz
      have bN := bAll N (List.mem_of_getElem? hN)
      refine ⟨rfl, tYes_ok ⟨_, rfl, a2, dx5, _, rfl, sj _ _ (s9O _ _ g9), rfl, _, rfl, a2, b', u, d, z, ds, _, _, 6, N, rfl, (U9.same s9O).same sj, hrN.same sj, g.ok, bN, fun HP sP => ?_⟩⟩
      refine ⟨_, rfl, x, dxB, _, rfl, sP _ _ (sj _ _ (sBO _ _ gB)), rfl, _, rfl, x, xb, u', xd, z, others ds v, _, _, 6, N, rfl, ((UB.same sBO).same sj).same sP, (hrN.same sj).same sP, okO, bN, fun HR sR => ⟨rfl, ?_⟩⟩
      have eJR := sR _ _ (sP _ _ eJ)
      have dq : decide (V.str (judgeF ds N) = V.str (judgeF (others ds v) N)) = decide (judgeF ds N = judgeF (others ds v) N) := decide_eq_decide.mpr ⟨fun z => V.str.inj z, fun z => by rw [z]⟩
      rw [dq]
      refine ⟨_, eJR, small1000 (by rw [List.length_map, List.length_map]; exact Nat.le_trans (List.length_take_le' _ _) (by omega)), fun c o hc => ?_, ?_⟩
      · rw [upd_ne (ne_of_none hc nD8)]
        exact sR _ _ (sP _ _ (sj _ _ hc))
      · rw [upd_same, take_snoc hN, List.map_append, List.map_append]
        rfl
    rintro HS ⟨sS, eS⟩
    rw [List.length_map, pair_len pAll, List.take_length] at eS
    refine ⟨D8, _, rfl, SqL.of eS, ?_⟩
    have same : ((Rs.map fun R => decide (judgeF ds R = judgeF (others ds v) R)).all id) = idleF ds v := by
      rw [List.all_map, Bool.eq_iff_iff, List.all_eq_true]
      constructor
      · intro h
        have z := of_decide_eq_true (h v.2.1 hvR)
        cases ei : idleF ds v with
        | true => rfl
        | false => exact absurd z (idle_only g hvm ei)
      · intro h R hR
        exact decide_eq_true (idle_all g hvm (bAll R hR).nm h)
    rw [same]
    have s9S := s9O.trans sS
    have ein : inV (V.int (v.1 : Nat)) ((idles ds).map fun (k : Nat) => V.int (k : Int)) = idleF ds v := by
      unfold inV
      rw [List.any_map, Bool.eq_iff_iff, List.any_eq_true, ← mem_idles g hvm]
      constructor
      · rintro ⟨k, hk, e⟩
        have : k = v.1 := by
          have z : (k : Int) = (v.1 : Int) := by simpa [eqV] using e
          omega
        rw [← this]
        exact hk
      · intro h
        exact ⟨v.1, h, by simp [eqV]⟩
    refine ⟨_, rfl, _, rfl, l3, _, rfl, .inl (SqL.of (s9S _ _ e39)), rfl, by simp [flatV], _, rfl, rfl, _, rfl, ite_no ?_ ⟨_, _, _, _, _, _, rfl, s9S⟩⟩
    rw [if_neg (by decide), ein, decide_eq_true rfl]
    decide
  · rintro σ' H2 ⟨y8, y9, y10, y11, y12, y14, rfl, s2⟩
    obtain ⟨psl, hl9, ppl⟩ := id (R9.same s2)
    refine ⟨_, rfl, a2, dx5, _, rfl, s2 _ _ g9, a2, b', u, d, ds, _, _, rfl, U9.same s2, g.ok.l100, ds.length, rfl, by omega, _, rfl, _, _, rfl, .inl ⟨_, SqL.of hl9, rfl⟩, rfl, ?_⟩
    have el : (psl.map V.ref).length = ds.length := by rw [List.length_map, pair_len ppl]
    rw [el, decide_eq_true rfl]
    exact q H2
end
end My
namespace My
open PySem PySem.Spec PyProof.Rows L2
theorem all_mk {l : PySem.W.OpenLaw} {w : World} {K : PySem.W.Frag} {h : Heap} {mg : Str → Option Value} {fa : Addr} (X : K.In h) (G : h.Ns mainGlobals mg) (hfa : mg "law" = some (.ref fa))
    {f1 : Addr} {od1 an1 : Option Addr} {sl1 : Array (Option Value)} {oc1 kV1 dc1 pm1 cd1 ct1 : Value} {f2 : Addr} {od2 an2 : Option Addr} {sl2 : Array (Option Value)} {oc2 kV2 dc2 pm2 cd2 ct2 : Value} {f3 : Addr} {od3 an3 : Option Addr} {sl3 : Array (Option Value)} {oc3 kV3 dc3 pm3 cd3 ct3 : Value} {f4 : Addr} {od4 an4 : Option Addr} {sl4 : Array (Option Value)} {oc4 kV4 dc4 pm4 cd4 ct4 : Value} {f5 : Addr} {od5 an5 : Option Addr} {sl5 : Array (Option Value)} {oc5 kV5 dc5 pm5 cd5 ct5 : Value} {f6 : Addr} {od6 an6 : Option Addr} {sl6 : Array (Option Value)} {oc6 kV6 dc6 pm6 cd6 ct6 : Value} {f7 : Addr} {od7 an7 : Option Addr} {sl7 : Array (Option Value)} {oc7 kV7 dc7 pm7 cd7 ct7 : Value} {f8 : Addr} {od8 an8 : Option Addr} {sl8 : Array (Option Value)} {oc8 kV8 dc8 pm8 cd8 ct8 : Value} {f9 : Addr} {od9 an9 : Option Addr} {sl9 : Array (Option Value)} {oc9 kV9 dc9 pm9 cd9 ct9 : Value} {f10 : Addr} {od10 an10 : Option Addr} {sl10 : Array (Option Value)} {oc10 kV10 dc10 pm10 cd10 ct10 : Value} {T10 : Addr} {oT10 : Option Addr} {nT10 : Nat} {sT10 : Array (Option Value)} {ud10_0 : Tok} {f11 : Addr} {od11 an11 : Option Addr} {sl11 : Array (Option Value)} {oc11 kV11 dc11 pm11 cd11 ct11 : Value} {f12 : Addr} {od12 an12 : Option Addr} {sl12 : Array (Option Value)} {oc12 kV12 dc12 pm12 cd12 ct12 : Value} {f13 : Addr} {od13 an13 : Option Addr} {sl13 : Array (Option Value)} {oc13 kV13 dc13 pm13 cd13 ct13 : Value} {f14 : Addr} {od14 an14 : Option Addr} {sl14 : Array (Option Value)} {oc14 kV14 dc14 pm14 cd14 ct14 : Value} {f15 : Addr} {od15 an15 : Option Addr} {sl15 : Array (Option Value)} {oc15 kV15 dc15 pm15 cd15 ct15 : Value} {f16 : Addr} {od16 an16 : Option Addr} {sl16 : Array (Option Value)} {oc16 kV16 dc16 pm16 cd16 ct16 : Value} {f17 : Addr} {od17 an17 : Option Addr} {sl17 : Array (Option Value)} {oc17 kV17 dc17 pm17 cd17 ct17 : Value} {f18 : Addr} {od18 an18 : Option Addr} {sl18 : Array (Option Value)} {oc18 kV18 dc18 pm18 cd18 ct18 : Value} {f19 : Addr} {od19 an19 : Option Addr} {sl19 : Array (Option Value)} {oc19 kV19 dc19 pm19 cd19 ct19 : Value} {f20 : Addr} {od20 an20 : Option Addr} {sl20 : Array (Option Value)} {oc20 kV20 dc20 pm20 cd20 ct20 : Value} {f21 : Addr} {od21 an21 : Option Addr} {sl21 : Array (Option Value)} {oc21 kV21 dc21 pm21 cd21 ct21 : Value} {f22 : Addr} {od22 an22 : Option Addr} {sl22 : Array (Option Value)} {oc22 kV22 dc22 pm22 cd22 ct22 : Value} {f23 : Addr} {od23 an23 : Option Addr} {sl23 : Array (Option Value)} {oc23 kV23 dc23 pm23 cd23 ct23 : Value} {f24 : Addr} {od24 an24 : Option Addr} {sl24 : Array (Option Value)} {oc24 kV24 dc24 pm24 cd24 ct24 : Value} {f25 : Addr} {od25 an25 : Option Addr} {sl25 : Array (Option Value)} {oc25 kV25 dc25 pm25 cd25 ct25 : Value} {f26 : Addr} {od26 an26 : Option Addr} {sl26 : Array (Option Value)} {oc26 kV26 dc26 pm26 cd26 ct26 : Value} {f27 : Addr} {od27 an27 : Option Addr} {sl27 : Array (Option Value)} {oc27 kV27 dc27 pm27 cd27 ct27 : Value} {f28 : Addr} {od28 an28 : Option Addr} {sl28 : Array (Option Value)} {oc28 kV28 dc28 pm28 cd28 ct28 : Value} {f29 : Addr} {od29 an29 : Option Addr} {sl29 : Array (Option Value)} {oc29 kV29 dc29 pm29 cd29 ct29 : Value} {f30 : Addr} {od30 an30 : Option Addr} {sl30 : Array (Option Value)} {oc30 kV30 dc30 pm30 cd30 ct30 : Value} {f31 : Addr} {od31 an31 : Option Addr} {sl31 : Array (Option Value)} {oc31 kV31 dc31 pm31 cd31 ct31 : Value} {f32 : Addr} {od32 an32 : Option Addr} {sl32 : Array (Option Value)} {oc32 kV32 dc32 pm32 cd32 ct32 : Value} {f33 : Addr} {od33 an33 : Option Addr} {sl33 : Array (Option Value)} {oc33 kV33 dc33 pm33 cd33 ct33 : Value} {f34 : Addr} {od34 an34 : Option Addr} {sl34 : Array (Option Value)} {oc34 kV34 dc34 pm34 cd34 ct34 : Value} {f35 : Addr} {od35 an35 : Option Addr} {sl35 : Array (Option Value)} {oc35 kV35 dc35 pm35 cd35 ct35 : Value} {f36 : Addr} {od36 an36 : Option Addr} {sl36 : Array (Option Value)} {oc36 kV36 dc36 pm36 cd36 ct36 : Value} {f37 : Addr} {od37 an37 : Option Addr} {sl37 : Array (Option Value)} {oc37 kV37 dc37 pm37 cd37 ct37 : Value} {f38 : Addr} {od38 an38 : Option Addr} {sl38 : Array (Option Value)} {oc38 kV38 dc38 pm38 cd38 ct38 : Value} {f39 : Addr} {od39 an39 : Option Addr} {sl39 : Array (Option Value)} {oc39 kV39 dc39 pm39 cd39 ct39 : Value} {f40 : Addr} {od40 an40 : Option Addr} {sl40 : Array (Option Value)} {oc40 kV40 dc40 pm40 cd40 ct40 : Value} {f41 : Addr} {od41 an41 : Option Addr} {sl41 : Array (Option Value)} {oc41 kV41 dc41 pm41 cd41 ct41 : Value} {f42 : Addr} {od42 an42 : Option Addr} {sl42 : Array (Option Value)} {oc42 kV42 dc42 pm42 cd42 ct42 : Value} {f43 : Addr} {od43 an43 : Option Addr} {sl43 : Array (Option Value)} {oc43 kV43 dc43 pm43 cd43 ct43 : Value} {f44 : Addr} {od44 an44 : Option Addr} {sl44 : Array (Option Value)} {oc44 kV44 dc44 pm44 cd44 ct44 : Value} {f45 : Addr} {od45 an45 : Option Addr} {sl45 : Array (Option Value)} {oc45 kV45 dc45 pm45 cd45 ct45 : Value} {f46 : Addr} {od46 an46 : Option Addr} {sl46 : Array (Option Value)} {oc46 kV46 dc46 pm46 cd46 ct46 : Value} {f47 : Addr} {od47 an47 : Option Addr} {sl47 : Array (Option Value)} {oc47 kV47 dc47 pm47 cd47 ct47 : Value} {f48 : Addr} {od48 an48 : Option Addr} {sl48 : Array (Option Value)} {oc48 kV48 dc48 pm48 cd48 ct48 : Value} {f49 : Addr} {od49 an49 : Option Addr} {sl49 : Array (Option Value)} {oc49 kV49 dc49 pm49 cd49 ct49 : Value} {f50 : Addr} {od50 an50 : Option Addr} {sl50 : Array (Option Value)} {oc50 kV50 dc50 pm50 cd50 ct50 : Value} {f51 : Addr} {od51 an51 : Option Addr} {sl51 : Array (Option Value)} {oc51 kV51 dc51 pm51 cd51 ct51 : Value} {f52 : Addr} {od52 an52 : Option Addr} {sl52 : Array (Option Value)} {oc52 kV52 dc52 pm52 cd52 ct52 : Value} {u_MOST_RADICAL : Tok} {u_MOST_MODULUS : Tok} {u_MOST_PART : Tok} {u_MOST_NUMBER : Tok} {C_InvalidNumber f_InvalidNumber x_InvalidNumber d_InvalidNumber N_InvalidNumber : Addr} {nm_InvalidNumber qn_InvalidNumber ql_InvalidNumber ms_InvalidNumber fl_InvalidNumber : Str} {bs_InvalidNumber bm_InvalidNumber sub_InvalidNumber : List Value} {sn_InvalidNumber : List Str} {ab_InvalidNumber : Bool} {col_InvalidNumber : Option Bool} {dd_InvalidNumber od_InvalidNumber an_InvalidNumber cdd_InvalidNumber cld_InvalidNumber : Option Addr} {v0_InvalidNumber v1_InvalidNumber v2_InvalidNumber v3_InvalidNumber v5_InvalidNumber : Option Value} {oc_InvalidNumber dc_InvalidNumber pm_InvalidNumber ct_InvalidNumber ccl_InvalidNumber cl_InvalidNumber : Value} {os_InvalidNumber ccs_InvalidNumber csl_InvalidNumber : Array (Option Value)} {vs_InvalidNumber : Array Value} {tf_InvalidNumber : Tok} {n1_InvalidNumber n2_InvalidNumber : Nat} {p1_InvalidNumber p2_InvalidNumber a1_InvalidNumber a2_InvalidNumber a3_InvalidNumber a4_InvalidNumber a5_InvalidNumber a6_InvalidNumber b1_InvalidNumber b2_InvalidNumber b3_InvalidNumber b4_InvalidNumber c1_InvalidNumber c2_InvalidNumber c3_InvalidNumber c4_InvalidNumber : Pos} {C_Unsound f_Unsound x_Unsound d_Unsound N_Unsound : Addr} {nm_Unsound qn_Unsound ql_Unsound ms_Unsound fl_Unsound : Str} {bs_Unsound bm_Unsound sub_Unsound : List Value} {sn_Unsound : List Str} {ab_Unsound : Bool} {col_Unsound : Option Bool} {dd_Unsound od_Unsound an_Unsound cdd_Unsound cld_Unsound : Option Addr} {v0_Unsound v1_Unsound v2_Unsound v3_Unsound v5_Unsound : Option Value} {oc_Unsound dc_Unsound pm_Unsound ct_Unsound ccl_Unsound cl_Unsound : Value} {os_Unsound ccs_Unsound csl_Unsound : Array (Option Value)} {vs_Unsound : Array Value} {tf_Unsound : Tok} {n1_Unsound n2_Unsound : Nat} {p1_Unsound p2_Unsound a1_Unsound a2_Unsound a3_Unsound a4_Unsound a5_Unsound a6_Unsound b1_Unsound b2_Unsound b3_Unsound b4_Unsound c1_Unsound c2_Unsound c3_Unsound c4_Unsound : Pos} {C_Realm : Addr} {f_Realm_init : Addr} {od_Realm_init an_Realm_init : Option Addr} {sl_Realm_init : Array (Option Value)} {oc_Realm_init dc_Realm_init pm_Realm_init cd_Realm_init ct_Realm_init : Value} {kVRealm_init : Addr} {tk_Realm_init_inverse : Tok} {tk_Realm_init_ones : Tok} {tk_Realm_init_swaps : Tok} {tk_Realm_init_squares : Tok} {f_Realm_inverse : Addr} {od_Realm_inverse an_Realm_inverse : Option Addr} {sl_Realm_inverse : Array (Option Value)} {oc_Realm_inverse dc_Realm_inverse pm_Realm_inverse cd_Realm_inverse ct_Realm_inverse : Value} {kV_Realm_inverse : Value} {p_Realm_inverse : Addr} {rs_Realm_inverse : List Value} {f_Realm_ones : Addr} {od_Realm_ones an_Realm_ones : Option Addr} {sl_Realm_ones : Array (Option Value)} {oc_Realm_ones dc_Realm_ones pm_Realm_ones cd_Realm_ones ct_Realm_ones : Value} {kV_Realm_ones : Value} {p_Realm_ones : Addr} {rs_Realm_ones : List Value} {f_Realm_swaps : Addr} {od_Realm_swaps an_Realm_swaps : Option Addr} {sl_Realm_swaps : Array (Option Value)} {oc_Realm_swaps dc_Realm_swaps pm_Realm_swaps cd_Realm_swaps ct_Realm_swaps : Value} {kV_Realm_swaps : Value} {p_Realm_swaps : Addr} {rs_Realm_swaps : List Value} {f_Realm_squares : Addr} {od_Realm_squares an_Realm_squares : Option Addr} {sl_Realm_squares : Array (Option Value)} {oc_Realm_squares dc_Realm_squares pm_Realm_squares cd_Realm_squares ct_Realm_squares : Value} {kV_Realm_squares : Value} {p_Realm_squares : Addr} {rs_Realm_squares : List Value} {f_Realm_everywhere : Addr} {od_Realm_everywhere an_Realm_everywhere : Option Addr} {sl_Realm_everywhere : Array (Option Value)} {oc_Realm_everywhere dc_Realm_everywhere pm_Realm_everywhere cd_Realm_everywhere ct_Realm_everywhere : Value} {kV_Realm_everywhere : Value} {p_Realm_everywhere : Addr} {rs_Realm_everywhere : List Value} {f_Realm_eq : Addr} {od_Realm_eq an_Realm_eq : Option Addr} {sl_Realm_eq : Array (Option Value)} {oc_Realm_eq dc_Realm_eq pm_Realm_eq cd_Realm_eq ct_Realm_eq : Value} {kV_Realm_eq : Value} {f_Realm_and : Addr} {od_Realm_and an_Realm_and : Option Addr} {sl_Realm_and : Array (Option Value)} {oc_Realm_and dc_Realm_and pm_Realm_and cd_Realm_and ct_Realm_and : Value} {kV_Realm_and : Value} {f_Realm_bool : Addr} {od_Realm_bool an_Realm_bool : Option Addr} {sl_Realm_bool : Array (Option Value)} {oc_Realm_bool dc_Realm_bool pm_Realm_bool cd_Realm_bool ct_Realm_bool : Value} {kV_Realm_bool : Value} {f_Realm_within : Addr} {od_Realm_within an_Realm_within : Option Addr} {sl_Realm_within : Array (Option Value)} {oc_Realm_within dc_Realm_within pm_Realm_within cd_Realm_within ct_Realm_within : Value} {kV_Realm_within : Value} {C_Timeline : Addr} {f_Timeline_init : Addr} {od_Timeline_init an_Timeline_init : Option Addr} {sl_Timeline_init : Array (Option Value)} {oc_Timeline_init dc_Timeline_init pm_Timeline_init cd_Timeline_init ct_Timeline_init : Value} {kV_Timeline_init : Value} {f_Timeline_move : Addr} {od_Timeline_move an_Timeline_move : Option Addr} {sl_Timeline_move : Array (Option Value)} {oc_Timeline_move dc_Timeline_move pm_Timeline_move cd_Timeline_move ct_Timeline_move : Value} {kV_Timeline_move : Value} {f_Timeline_twin : Addr} {od_Timeline_twin an_Timeline_twin : Option Addr} {sl_Timeline_twin : Array (Option Value)} {oc_Timeline_twin dc_Timeline_twin pm_Timeline_twin cd_Timeline_twin ct_Timeline_twin : Value} {kV_Timeline_twin : Value} {C_Unseen : Addr} {f_Unseen_init : Addr} {od_Unseen_init an_Unseen_init : Option Addr} {sl_Unseen_init : Array (Option Value)} {oc_Unseen_init dc_Unseen_init pm_Unseen_init cd_Unseen_init ct_Unseen_init : Value} {kV_Unseen_init : Value} {f_Unseen_len : Addr} {od_Unseen_len an_Unseen_len : Option Addr} {sl_Unseen_len : Array (Option Value)} {oc_Unseen_len dc_Unseen_len pm_Unseen_len cd_Unseen_len ct_Unseen_len : Value} {kV_Unseen_len : Value} {f_Unseen_note : Addr} {od_Unseen_note an_Unseen_note : Option Addr} {sl_Unseen_note : Array (Option Value)} {oc_Unseen_note dc_Unseen_note pm_Unseen_note cd_Unseen_note ct_Unseen_note : Value} {kV_Unseen_note : Value} {f_Unseen__check_space : Addr} {od_Unseen__check_space an_Unseen__check_space : Option Addr} {sl_Unseen__check_space : Array (Option Value)} {oc_Unseen__check_space dc_Unseen__check_space pm_Unseen__check_space cd_Unseen__check_space ct_Unseen__check_space : Value} {kV_Unseen__check_space : Value} {f_Unseen__check_right : Addr} {od_Unseen__check_right an_Unseen__check_right : Option Addr} {sl_Unseen__check_right : Array (Option Value)} {oc_Unseen__check_right dc_Unseen__check_right pm_Unseen__check_right cd_Unseen__check_right ct_Unseen__check_right : Value} {kV_Unseen__check_right : Value} {f_Unseen_withdraw : Addr} {od_Unseen_withdraw an_Unseen_withdraw : Option Addr} {sl_Unseen_withdraw : Array (Option Value)} {oc_Unseen_withdraw dc_Unseen_withdraw pm_Unseen_withdraw cd_Unseen_withdraw ct_Unseen_withdraw : Value} {kV_Unseen_withdraw : Value} {f_Unseen_verdicts : Addr} {od_Unseen_verdicts an_Unseen_verdicts : Option Addr} {sl_Unseen_verdicts : Array (Option Value)} {oc_Unseen_verdicts dc_Unseen_verdicts pm_Unseen_verdicts cd_Unseen_verdicts ct_Unseen_verdicts : Value} {kV_Unseen_verdicts : Value} {f_Unseen_meet : Addr} {od_Unseen_meet an_Unseen_meet : Option Addr} {sl_Unseen_meet : Array (Option Value)} {oc_Unseen_meet dc_Unseen_meet pm_Unseen_meet cd_Unseen_meet ct_Unseen_meet : Value} {kV_Unseen_meet : Value} {f_Unseen_judge : Addr} {od_Unseen_judge an_Unseen_judge : Option Addr} {sl_Unseen_judge : Array (Option Value)} {oc_Unseen_judge dc_Unseen_judge pm_Unseen_judge cd_Unseen_judge ct_Unseen_judge : Value} {kV_Unseen_judge : Value} {f_Unseen_needless : Addr} {od_Unseen_needless an_Unseen_needless : Option Addr} {sl_Unseen_needless : Array (Option Value)} {oc_Unseen_needless dc_Unseen_needless pm_Unseen_needless cd_Unseen_needless ct_Unseen_needless : Value} {kV_Unseen_needless : Value} {f_Unseen__is_needless : Addr} {od_Unseen__is_needless an_Unseen__is_needless : Option Addr} {sl_Unseen__is_needless : Array (Option Value)} {oc_Unseen__is_needless dc_Unseen__is_needless pm_Unseen__is_needless cd_Unseen__is_needless ct_Unseen__is_needless : Value} {kV_Unseen__is_needless : Value} {f_Unseen_twin : Addr} {od_Unseen_twin an_Unseen_twin : Option Addr} {sl_Unseen_twin : Array (Option Value)} {oc_Unseen_twin dc_Unseen_twin pm_Unseen_twin cd_Unseen_twin ct_Unseen_twin : Value} {kV_Unseen_twin : Value} {g_RingError : Value} {g_Missing : Value} {g_NothingLeft : Value}
    {cL PL : Addr} {eL : Value} {ddL : Option Addr} {vsL : Array Value} {slL : Array (Option Value)} {uMO : Tok}
    (z_super : PySem.W.nsIn K mainGlobals "super" = some none) (opq : PySem.W.nsIn K PySem.cStatics "thirdparty.any" = some none) (topSuper : (l.prog.main.scope.names.lookup ("super" : Str)).isSome = false)
    (a1 : PySem.W.nsIn K mainGlobals "_wall" = some (some (.ref f1))) (l1 : K.lookup f1 = some ⟨oc1, od1, .func (PySem.W.fnOf "_wall" "_wall" (defArgs s__wall) (defBody s__wall) (defScope s__wall) .none kV1 dc1 pm1 an1 cd1 ct1), sl1⟩) (c1 : PySem.W.codeIn K cd1 "_wall" = true) (k1 : PySem.W.keepIn K (.ref f1) = true)
    (a2 : PySem.W.nsIn K mainGlobals "is_int" = some (some (.ref f2))) (l2 : K.lookup f2 = some ⟨oc2, od2, .func (PySem.W.fnOf "is_int" "is_int" (defArgs s_is_int) (defBody s_is_int) (defScope s_is_int) .none kV2 dc2 pm2 an2 cd2 ct2), sl2⟩) (c2 : PySem.W.codeIn K cd2 "is_int" = true) (k2 : PySem.W.keepIn K (.ref f2) = true)
    (a3 : PySem.W.nsIn K mainGlobals "is_between" = some (some (.ref f3))) (l3 : K.lookup f3 = some ⟨oc3, od3, .func (PySem.W.fnOf "is_between" "is_between" (defArgs s_is_between) (defBody s_is_between) (defScope s_is_between) .none kV3 dc3 pm3 an3 cd3 ct3), sl3⟩) (c3 : PySem.W.codeIn K cd3 "is_between" = true) (k3 : PySem.W.keepIn K (.ref f3) = true)
    (a4 : PySem.W.nsIn K mainGlobals "is_share" = some (some (.ref f4))) (l4 : K.lookup f4 = some ⟨oc4, od4, .func (PySem.W.fnOf "is_share" "is_share" (defArgs s_is_share) (defBody s_is_share) (defScope s_is_share) .none kV4 dc4 pm4 an4 cd4 ct4), sl4⟩) (c4 : PySem.W.codeIn K cd4 "is_share" = true) (k4 : PySem.W.keepIn K (.ref f4) = true)
    (a5 : PySem.W.nsIn K mainGlobals "common" = some (some (.ref f5))) (l5 : K.lookup f5 = some ⟨oc5, od5, .func (PySem.W.fnOf "common" "common" (defArgs s_common) (defBody s_common) (defScope s_common) .none kV5 dc5 pm5 an5 cd5 ct5), sl5⟩) (c5 : PySem.W.codeIn K cd5 "common" = true) (k5 : PySem.W.keepIn K (.ref f5) = true)
    (a6 : PySem.W.nsIn K mainGlobals "multiple" = some (some (.ref f6))) (l6 : K.lookup f6 = some ⟨oc6, od6, .func (PySem.W.fnOf "multiple" "multiple" (defArgs s_multiple) (defBody s_multiple) (defScope s_multiple) .none kV6 dc6 pm6 an6 cd6 ct6), sl6⟩) (c6 : PySem.W.codeIn K cd6 "multiple" = true) (k6 : PySem.W.keepIn K (.ref f6) = true)
    (a7 : PySem.W.nsIn K mainGlobals "divides" = some (some (.ref f7))) (l7 : K.lookup f7 = some ⟨oc7, od7, .func (PySem.W.fnOf "divides" "divides" (defArgs s_divides) (defBody s_divides) (defScope s_divides) .none kV7 dc7 pm7 an7 cd7 ct7), sl7⟩) (c7 : PySem.W.codeIn K cd7 "divides" = true) (k7 : PySem.W.keepIn K (.ref f7) = true)
    (a8 : PySem.W.nsIn K mainGlobals "stripped" = some (some (.ref f8))) (l8 : K.lookup f8 = some ⟨oc8, od8, .func (PySem.W.fnOf "stripped" "stripped" (defArgs s_stripped) (defBody s_stripped) (defScope s_stripped) .none kV8 dc8 pm8 an8 cd8 ct8), sl8⟩) (c8 : PySem.W.codeIn K cd8 "stripped" = true) (k8 : PySem.W.keepIn K (.ref f8) = true)
    (a9 : PySem.W.nsIn K mainGlobals "radical" = some (some (.ref f9))) (l9 : K.lookup f9 = some ⟨oc9, od9, .func (PySem.W.fnOf "radical" "radical" (defArgs s_radical) (defBody s_radical) (defScope s_radical) .none kV9 dc9 pm9 an9 cd9 ct9), sl9⟩) (c9 : PySem.W.codeIn K cd9 "radical" = true) (k9 : PySem.W.keepIn K (.ref f9) = true)
    (a10 : PySem.W.nsIn K mainGlobals "share" = some (some (.ref f10))) (l10 : K.lookup f10 = some ⟨oc10, od10, .func (PySem.W.fnOf "share" "share" (defArgs s_share) (defBody s_share) (defScope s_share) (.ref T10) kV10 dc10 pm10 an10 cd10 ct10), sl10⟩) (c10 : PySem.W.codeIn K cd10 "share" = true) (k10 : PySem.W.keepIn K (.ref f10) = true)
    (t10 : K.lookup T10 = some ⟨.type "tuple", oT10, .seq #[.int 1 ud10_0] nT10, sT10⟩)
    (a11 : PySem.W.nsIn K mainGlobals "sum_of_shares" = some (some (.ref f11))) (l11 : K.lookup f11 = some ⟨oc11, od11, .func (PySem.W.fnOf "sum_of_shares" "sum_of_shares" (defArgs s_sum_of_shares) (defBody s_sum_of_shares) (defScope s_sum_of_shares) .none kV11 dc11 pm11 an11 cd11 ct11), sl11⟩) (c11 : PySem.W.codeIn K cd11 "sum_of_shares" = true) (k11 : PySem.W.keepIn K (.ref f11) = true)
    (a12 : PySem.W.nsIn K mainGlobals "product_of_shares" = some (some (.ref f12))) (l12 : K.lookup f12 = some ⟨oc12, od12, .func (PySem.W.fnOf "product_of_shares" "product_of_shares" (defArgs s_product_of_shares) (defBody s_product_of_shares) (defScope s_product_of_shares) .none kV12 dc12 pm12 an12 cd12 ct12), sl12⟩) (c12 : PySem.W.codeIn K cd12 "product_of_shares" = true) (k12 : PySem.W.keepIn K (.ref f12) = true)
    (a13 : PySem.W.nsIn K mainGlobals "inverse_modulo" = some (some (.ref f13))) (l13 : K.lookup f13 = some ⟨oc13, od13, .func (PySem.W.fnOf "inverse_modulo" "inverse_modulo" (defArgs s_inverse_modulo) (defBody s_inverse_modulo) (defScope s_inverse_modulo) .none kV13 dc13 pm13 an13 cd13 ct13), sl13⟩) (c13 : PySem.W.codeIn K cd13 "inverse_modulo" = true) (k13 : PySem.W.keepIn K (.ref f13) = true)
    (a14 : PySem.W.nsIn K mainGlobals "written" = some (some (.ref f14))) (l14 : K.lookup f14 = some ⟨oc14, od14, .func (PySem.W.fnOf "written" "written" (defArgs s_written) (defBody s_written) (defScope s_written) .none kV14 dc14 pm14 an14 cd14 ct14), sl14⟩) (c14 : PySem.W.codeIn K cd14 "written" = true) (k14 : PySem.W.keepIn K (.ref f14) = true)
    (a15 : PySem.W.nsIn K mainGlobals "written_below" = some (some (.ref f15))) (l15 : K.lookup f15 = some ⟨oc15, od15, .func (PySem.W.fnOf "written_below" "written_below" (defArgs s_written_below) (defBody s_written_below) (defScope s_written_below) .none kV15 dc15 pm15 an15 cd15 ct15), sl15⟩) (c15 : PySem.W.codeIn K cd15 "written_below" = true) (k15 : PySem.W.keepIn K (.ref f15) = true)
    (a16 : PySem.W.nsIn K mainGlobals "depth_over" = some (some (.ref f16))) (l16 : K.lookup f16 = some ⟨oc16, od16, .func (PySem.W.fnOf "depth_over" "depth_over" (defArgs s_depth_over) (defBody s_depth_over) (defScope s_depth_over) .none kV16 dc16 pm16 an16 cd16 ct16), sl16⟩) (c16 : PySem.W.codeIn K cd16 "depth_over" = true) (k16 : PySem.W.keepIn K (.ref f16) = true)
    (a17 : PySem.W.nsIn K mainGlobals "check_bases" = some (some (.ref f17))) (l17 : K.lookup f17 = some ⟨oc17, od17, .func (PySem.W.fnOf "check_bases" "check_bases" (defArgs s_check_bases) (defBody s_check_bases) (defScope s_check_bases) .none kV17 dc17 pm17 an17 cd17 ct17), sl17⟩) (c17 : PySem.W.codeIn K cd17 "check_bases" = true) (k17 : PySem.W.keepIn K (.ref f17) = true)
    (a18 : PySem.W.nsIn K mainGlobals "check_number" = some (some (.ref f18))) (l18 : K.lookup f18 = some ⟨oc18, od18, .func (PySem.W.fnOf "check_number" "check_number" (defArgs s_check_number) (defBody s_check_number) (defScope s_check_number) .none kV18 dc18 pm18 an18 cd18 ct18), sl18⟩) (c18 : PySem.W.codeIn K cd18 "check_number" = true) (k18 : PySem.W.keepIn K (.ref f18) = true)
    (a19 : PySem.W.nsIn K mainGlobals "choices" = some (some (.ref f19))) (l19 : K.lookup f19 = some ⟨oc19, od19, .func (PySem.W.fnOf "choices" "choices" (defArgs s_choices) (defBody s_choices) (defScope s_choices) .none kV19 dc19 pm19 an19 cd19 ct19), sl19⟩) (c19 : PySem.W.codeIn K cd19 "choices" = true) (k19 : PySem.W.keepIn K (.ref f19) = true)
    (a20 : PySem.W.nsIn K mainGlobals "size_together" = some (some (.ref f20))) (l20 : K.lookup f20 = some ⟨oc20, od20, .func (PySem.W.fnOf "size_together" "size_together" (defArgs s_size_together) (defBody s_size_together) (defScope s_size_together) .none kV20 dc20 pm20 an20 cd20 ct20), sl20⟩) (c20 : PySem.W.codeIn K cd20 "size_together" = true) (k20 : PySem.W.keepIn K (.ref f20) = true)
    (a21 : PySem.W.nsIn K mainGlobals "normal_numbers" = some (some (.ref f21))) (l21 : K.lookup f21 = some ⟨oc21, od21, .func (PySem.W.fnOf "normal_numbers" "normal_numbers" (defArgs s_normal_numbers) (defBody s_normal_numbers) (defScope s_normal_numbers) .none kV21 dc21 pm21 an21 cd21 ct21), sl21⟩) (c21 : PySem.W.codeIn K cd21 "normal_numbers" = true) (k21 : PySem.W.keepIn K (.ref f21) = true)
    (a22 : PySem.W.nsIn K mainGlobals "realm_with" = some (some (.ref f22))) (l22 : K.lookup f22 = some ⟨oc22, od22, .func (PySem.W.fnOf "realm_with" "realm_with" (defArgs s_realm_with) (defBody s_realm_with) (defScope s_realm_with) .none kV22 dc22 pm22 an22 cd22 ct22), sl22⟩) (c22 : PySem.W.codeIn K cd22 "realm_with" = true) (k22 : PySem.W.keepIn K (.ref f22) = true)
    (a23 : PySem.W.nsIn K mainGlobals "listed" = some (some (.ref f23))) (l23 : K.lookup f23 = some ⟨oc23, od23, .func (PySem.W.fnOf "listed" "listed" (defArgs s_listed) (defBody s_listed) (defScope s_listed) .none kV23 dc23 pm23 an23 cd23 ct23), sl23⟩) (c23 : PySem.W.codeIn K cd23 "listed" = true) (k23 : PySem.W.keepIn K (.ref f23) = true)
    (a24 : PySem.W.nsIn K mainGlobals "joined_inverse" = some (some (.ref f24))) (l24 : K.lookup f24 = some ⟨oc24, od24, .func (PySem.W.fnOf "joined_inverse" "joined_inverse" (defArgs s_joined_inverse) (defBody s_joined_inverse) (defScope s_joined_inverse) .none kV24 dc24 pm24 an24 cd24 ct24), sl24⟩) (c24 : PySem.W.codeIn K cd24 "joined_inverse" = true) (k24 : PySem.W.keepIn K (.ref f24) = true)
    (a25 : PySem.W.nsIn K mainGlobals "endless_ring" = some (some (.ref f25))) (l25 : K.lookup f25 = some ⟨oc25, od25, .func (PySem.W.fnOf "endless_ring" "endless_ring" (defArgs s_endless_ring) (defBody s_endless_ring) (defScope s_endless_ring) .none kV25 dc25 pm25 an25 cd25 ct25), sl25⟩) (c25 : PySem.W.codeIn K cd25 "endless_ring" = true) (k25 : PySem.W.keepIn K (.ref f25) = true)
    (a26 : PySem.W.nsIn K mainGlobals "ring_of_ones" = some (some (.ref f26))) (l26 : K.lookup f26 = some ⟨oc26, od26, .func (PySem.W.fnOf "ring_of_ones" "ring_of_ones" (defArgs s_ring_of_ones) (defBody s_ring_of_ones) (defScope s_ring_of_ones) .none kV26 dc26 pm26 an26 cd26 ct26), sl26⟩) (c26 : PySem.W.codeIn K cd26 "ring_of_ones" = true) (k26 : PySem.W.keepIn K (.ref f26) = true)
    (a27 : PySem.W.nsIn K mainGlobals "meet_of" = some (some (.ref f27))) (l27 : K.lookup f27 = some ⟨oc27, od27, .func (PySem.W.fnOf "meet_of" "meet_of" (defArgs s_meet_of) (defBody s_meet_of) (defScope s_meet_of) .none kV27 dc27 pm27 an27 cd27 ct27), sl27⟩) (c27 : PySem.W.codeIn K cd27 "meet_of" = true) (k27 : PySem.W.keepIn K (.ref f27) = true)
    (a28 : PySem.W.nsIn K mainGlobals "realms_of" = some (some (.ref f28))) (l28 : K.lookup f28 = some ⟨oc28, od28, .func (PySem.W.fnOf "realms_of" "realms_of" (defArgs s_realms_of) (defBody s_realms_of) (defScope s_realms_of) .none kV28 dc28 pm28 an28 cd28 ct28), sl28⟩) (c28 : PySem.W.codeIn K cd28 "realms_of" = true) (k28 : PySem.W.keepIn K (.ref f28) = true)
    (a29 : PySem.W.nsIn K mainGlobals "lies_in_one" = some (some (.ref f29))) (l29 : K.lookup f29 = some ⟨oc29, od29, .func (PySem.W.fnOf "lies_in_one" "lies_in_one" (defArgs s_lies_in_one) (defBody s_lies_in_one) (defScope s_lies_in_one) .none kV29 dc29 pm29 an29 cd29 ct29), sl29⟩) (c29 : PySem.W.codeIn K cd29 "lies_in_one" = true) (k29 : PySem.W.keepIn K (.ref f29) = true)
    (a30 : PySem.W.nsIn K mainGlobals "_law_bag" = some (some (.ref f30))) (l30 : K.lookup f30 = some ⟨oc30, od30, .func (PySem.W.fnOf "_law_bag" "_law_bag" (defArgs s_l_bag) (defBody s_l_bag) (defScope s_l_bag) .none kV30 dc30 pm30 an30 cd30 ct30), sl30⟩) (c30 : PySem.W.codeIn K cd30 "_law_bag" = true) (k30 : PySem.W.keepIn K (.ref f30) = true)
    (a31 : PySem.W.nsIn K mainGlobals "_law_draw" = some (some (.ref f31))) (l31 : K.lookup f31 = some ⟨oc31, od31, .func (PySem.W.fnOf "_law_draw" "_law_draw" (defArgs s_l_draw) (defBody s_l_draw) (defScope s_l_draw) .none kV31 dc31 pm31 an31 cd31 ct31), sl31⟩) (c31 : PySem.W.codeIn K cd31 "_law_draw" = true) (k31 : PySem.W.keepIn K (.ref f31) = true)
    (a32 : PySem.W.nsIn K mainGlobals "_law_pick" = some (some (.ref f32))) (l32 : K.lookup f32 = some ⟨oc32, od32, .func (PySem.W.fnOf "_law_pick" "_law_pick" (defArgs s_l_pick) (defBody s_l_pick) (defScope s_l_pick) .none kV32 dc32 pm32 an32 cd32 ct32), sl32⟩) (c32 : PySem.W.codeIn K cd32 "_law_pick" = true) (k32 : PySem.W.keepIn K (.ref f32) = true)
    (a33 : PySem.W.nsIn K mainGlobals "_law_same" = some (some (.ref f33))) (l33 : K.lookup f33 = some ⟨oc33, od33, .func (PySem.W.fnOf "_law_same" "_law_same" (defArgs s_l_same) (defBody s_l_same) (defScope s_l_same) .none kV33 dc33 pm33 an33 cd33 ct33), sl33⟩) (c33 : PySem.W.codeIn K cd33 "_law_same" = true) (k33 : PySem.W.keepIn K (.ref f33) = true)
    (a34 : PySem.W.nsIn K mainGlobals "_law_field" = some (some (.ref f34))) (l34 : K.lookup f34 = some ⟨oc34, od34, .func (PySem.W.fnOf "_law_field" "_law_field" (defArgs s_l_field) (defBody s_l_field) (defScope s_l_field) .none kV34 dc34 pm34 an34 cd34 ct34), sl34⟩) (c34 : PySem.W.codeIn K cd34 "_law_field" = true) (k34 : PySem.W.keepIn K (.ref f34) = true)
    (a35 : PySem.W.nsIn K mainGlobals "_law_got" = some (some (.ref f35))) (l35 : K.lookup f35 = some ⟨oc35, od35, .func (PySem.W.fnOf "_law_got" "_law_got" (defArgs s_l_got) (defBody s_l_got) (defScope s_l_got) .none kV35 dc35 pm35 an35 cd35 ct35), sl35⟩) (c35 : PySem.W.codeIn K cd35 "_law_got" = true) (k35 : PySem.W.keepIn K (.ref f35) = true)
    (a36 : PySem.W.nsIn K mainGlobals "_law_gcd" = some (some (.ref f36))) (l36 : K.lookup f36 = some ⟨oc36, od36, .func (PySem.W.fnOf "_law_gcd" "_law_gcd" (defArgs s_l_gcd) (defBody s_l_gcd) (defScope s_l_gcd) .none kV36 dc36 pm36 an36 cd36 ct36), sl36⟩) (c36 : PySem.W.codeIn K cd36 "_law_gcd" = true) (k36 : PySem.W.keepIn K (.ref f36) = true)
    (a37 : PySem.W.nsIn K mainGlobals "_law_lcm" = some (some (.ref f37))) (l37 : K.lookup f37 = some ⟨oc37, od37, .func (PySem.W.fnOf "_law_lcm" "_law_lcm" (defArgs s_l_lcm) (defBody s_l_lcm) (defScope s_l_lcm) .none kV37 dc37 pm37 an37 cd37 ct37), sl37⟩) (c37 : PySem.W.codeIn K cd37 "_law_lcm" = true) (k37 : PySem.W.keepIn K (.ref f37) = true)
    (a38 : PySem.W.nsIn K mainGlobals "_law_divides" = some (some (.ref f38))) (l38 : K.lookup f38 = some ⟨oc38, od38, .func (PySem.W.fnOf "_law_divides" "_law_divides" (defArgs s_l_divides) (defBody s_l_divides) (defScope s_l_divides) .none kV38 dc38 pm38 an38 cd38 ct38), sl38⟩) (c38 : PySem.W.codeIn K cd38 "_law_divides" = true) (k38 : PySem.W.keepIn K (.ref f38) = true)
    (a39 : PySem.W.nsIn K mainGlobals "_law_strip" = some (some (.ref f39))) (l39 : K.lookup f39 = some ⟨oc39, od39, .func (PySem.W.fnOf "_law_strip" "_law_strip" (defArgs s_l_strip) (defBody s_l_strip) (defScope s_l_strip) .none kV39 dc39 pm39 an39 cd39 ct39), sl39⟩) (c39 : PySem.W.codeIn K cd39 "_law_strip" = true) (k39 : PySem.W.keepIn K (.ref f39) = true)
    (a40 : PySem.W.nsIn K mainGlobals "_law_radical" = some (some (.ref f40))) (l40 : K.lookup f40 = some ⟨oc40, od40, .func (PySem.W.fnOf "_law_radical" "_law_radical" (defArgs s_l_radical) (defBody s_l_radical) (defScope s_l_radical) .none kV40 dc40 pm40 an40 cd40 ct40), sl40⟩) (c40 : PySem.W.codeIn K cd40 "_law_radical" = true) (k40 : PySem.W.keepIn K (.ref f40) = true)
    (a41 : PySem.W.nsIn K mainGlobals "_law_product" = some (some (.ref f41))) (l41 : K.lookup f41 = some ⟨oc41, od41, .func (PySem.W.fnOf "_law_product" "_law_product" (defArgs s_l_product) (defBody s_l_product) (defScope s_l_product) .none kV41 dc41 pm41 an41 cd41 ct41), sl41⟩) (c41 : PySem.W.codeIn K cd41 "_law_product" = true) (k41 : PySem.W.keepIn K (.ref f41) = true)
    (a42 : PySem.W.nsIn K mainGlobals "_law_settled" = some (some (.ref f42))) (l42 : K.lookup f42 = some ⟨oc42, od42, .func (PySem.W.fnOf "_law_settled" "_law_settled" (defArgs s_l_settled) (defBody s_l_settled) (defScope s_l_settled) .none kV42 dc42 pm42 an42 cd42 ct42), sl42⟩) (c42 : PySem.W.codeIn K cd42 "_law_settled" = true) (k42 : PySem.W.keepIn K (.ref f42) = true)
    (a43 : PySem.W.nsIn K mainGlobals "_law_realm" = some (some (.ref f43))) (l43 : K.lookup f43 = some ⟨oc43, od43, .func (PySem.W.fnOf "_law_realm" "_law_realm" (defArgs s_l_realm) (defBody s_l_realm) (defScope s_l_realm) .none kV43 dc43 pm43 an43 cd43 ct43), sl43⟩) (c43 : PySem.W.codeIn K cd43 "_law_realm" = true) (k43 : PySem.W.keepIn K (.ref f43) = true)
    (a44 : PySem.W.nsIn K mainGlobals "_law_settle" = some (some (.ref f44))) (l44 : K.lookup f44 = some ⟨oc44, od44, .func (PySem.W.fnOf "_law_settle" "_law_settle" (defArgs s_l_settle) (defBody s_l_settle) (defScope s_l_settle) .none kV44 dc44 pm44 an44 cd44 ct44), sl44⟩) (c44 : PySem.W.codeIn K cd44 "_law_settle" = true) (k44 : PySem.W.keepIn K (.ref f44) = true)
    (a45 : PySem.W.nsIn K mainGlobals "_law_inside" = some (some (.ref f45))) (l45 : K.lookup f45 = some ⟨oc45, od45, .func (PySem.W.fnOf "_law_inside" "_law_inside" (defArgs s_l_inside) (defBody s_l_inside) (defScope s_l_inside) .none kV45 dc45 pm45 an45 cd45 ct45), sl45⟩) (c45 : PySem.W.codeIn K cd45 "_law_inside" = true) (k45 : PySem.W.keepIn K (.ref f45) = true)
    (a46 : PySem.W.nsIn K mainGlobals "_law_lies" = some (some (.ref f46))) (l46 : K.lookup f46 = some ⟨oc46, od46, .func (PySem.W.fnOf "_law_lies" "_law_lies" (defArgs s_l_lies) (defBody s_l_lies) (defScope s_l_lies) .none kV46 dc46 pm46 an46 cd46 ct46), sl46⟩) (c46 : PySem.W.codeIn K cd46 "_law_lies" = true) (k46 : PySem.W.keepIn K (.ref f46) = true)
    (a47 : PySem.W.nsIn K mainGlobals "_law_meet" = some (some (.ref f47))) (l47 : K.lookup f47 = some ⟨oc47, od47, .func (PySem.W.fnOf "_law_meet" "_law_meet" (defArgs s_l_meet) (defBody s_l_meet) (defScope s_l_meet) .none kV47 dc47 pm47 an47 cd47 ct47), sl47⟩) (c47 : PySem.W.codeIn K cd47 "_law_meet" = true) (k47 : PySem.W.keepIn K (.ref f47) = true)
    (a48 : PySem.W.nsIn K mainGlobals "_law_log" = some (some (.ref f48))) (l48 : K.lookup f48 = some ⟨oc48, od48, .func (PySem.W.fnOf "_law_log" "_law_log" (defArgs s_l_log) (defBody s_l_log) (defScope s_l_log) .none kV48 dc48 pm48 an48 cd48 ct48), sl48⟩) (c48 : PySem.W.codeIn K cd48 "_law_log" = true) (k48 : PySem.W.keepIn K (.ref f48) = true)
    (a49 : PySem.W.nsIn K mainGlobals "_law_wide_realm" = some (some (.ref f49))) (l49 : K.lookup f49 = some ⟨oc49, od49, .func (PySem.W.fnOf "_law_wide_realm" "_law_wide_realm" (defArgs s_l_wide_realm) (defBody s_l_wide_realm) (defScope s_l_wide_realm) .none kV49 dc49 pm49 an49 cd49 ct49), sl49⟩) (c49 : PySem.W.codeIn K cd49 "_law_wide_realm" = true) (k49 : PySem.W.keepIn K (.ref f49) = true)
    (a50 : PySem.W.nsIn K mainGlobals "_law_meets" = some (some (.ref f50))) (l50 : K.lookup f50 = some ⟨oc50, od50, .func (PySem.W.fnOf "_law_meets" "_law_meets" (defArgs s_l_meets) (defBody s_l_meets) (defScope s_l_meets) .none kV50 dc50 pm50 an50 cd50 ct50), sl50⟩) (c50 : PySem.W.codeIn K cd50 "_law_meets" = true) (k50 : PySem.W.keepIn K (.ref f50) = true)
    (a51 : PySem.W.nsIn K mainGlobals "_law_refusal" = some (some (.ref f51))) (l51 : K.lookup f51 = some ⟨oc51, od51, .func (PySem.W.fnOf "_law_refusal" "_law_refusal" (defArgs s_l_refusal) (defBody s_l_refusal) (defScope s_l_refusal) .none kV51 dc51 pm51 an51 cd51 ct51), sl51⟩) (c51 : PySem.W.codeIn K cd51 "_law_refusal" = true) (k51 : PySem.W.keepIn K (.ref f51) = true)
    (a52 : PySem.W.nsIn K mainGlobals "law" = some (some (.ref f52))) (l52 : K.lookup f52 = some ⟨oc52, od52, .func (PySem.W.fnOf "law" "law" (defArgs s_law) (defBody s_law) (defScope s_law) .none kV52 dc52 pm52 an52 cd52 ct52), sl52⟩) (c52 : PySem.W.codeIn K cd52 "law" = true) (k52 : PySem.W.keepIn K (.ref f52) = true)
    (z_IndexError : PySem.W.nsIn K mainGlobals "IndexError" = some none)
    (z_LookupError : PySem.W.nsIn K mainGlobals "LookupError" = some none)
    (z_ValueError : PySem.W.nsIn K mainGlobals "ValueError" = some none)
    (z_abs : PySem.W.nsIn K mainGlobals "abs" = some none)
    (z_all : PySem.W.nsIn K mainGlobals "all" = some none)
    (z_any : PySem.W.nsIn K mainGlobals "any" = some none)
    (z_bool : PySem.W.nsIn K mainGlobals "bool" = some none)
    (z_divmod : PySem.W.nsIn K mainGlobals "divmod" = some none)
    (z_enumerate : PySem.W.nsIn K mainGlobals "enumerate" = some none)
    (z_int : PySem.W.nsIn K mainGlobals "int" = some none)
    (z_isinstance : PySem.W.nsIn K mainGlobals "isinstance" = some none)
    (z_len : PySem.W.nsIn K mainGlobals "len" = some none)
    (z_list : PySem.W.nsIn K mainGlobals "list" = some none)
    (z_max : PySem.W.nsIn K mainGlobals "max" = some none)
    (z_range : PySem.W.nsIn K mainGlobals "range" = some none)
    (z_sorted : PySem.W.nsIn K mainGlobals "sorted" = some none)
    (z_str : PySem.W.nsIn K mainGlobals "str" = some none)
    (z_tuple : PySem.W.nsIn K mainGlobals "tuple" = some none)
    (z_zip : PySem.W.nsIn K mainGlobals "zip" = some none)
    (m_gcd : PySem.W.nsIn K mainGlobals "gcd" = some (some (.builtin "math.gcd")))
    (m_lcm : PySem.W.nsIn K mainGlobals "lcm" = some (some (.builtin "math.lcm")))
    (m_MOST_RADICAL : PySem.W.nsIn K mainGlobals "MOST_RADICAL" = some (some (.int 1000000 u_MOST_RADICAL)))
    (m_MOST_MODULUS : PySem.W.nsIn K mainGlobals "MOST_MODULUS" = some (some (.int 1000000000 u_MOST_MODULUS)))
    (m_MOST_PART : PySem.W.nsIn K mainGlobals "MOST_PART" = some (some (.int 1000000 u_MOST_PART)))
    (m_MOST_NUMBER : PySem.W.nsIn K mainGlobals "MOST_NUMBER" = some (some (.int 1000000 u_MOST_NUMBER)))
    (ea_InvalidNumber : PySem.W.nsIn K mainGlobals "InvalidNumber" = some (some (.ref C_InvalidNumber)))
    (eb_InvalidNumber : K.lookup C_InvalidNumber = some (excClassObj nm_InvalidNumber qn_InvalidNumber C_InvalidNumber N_InvalidNumber bs_InvalidNumber bm_InvalidNumber true sn_InvalidNumber sub_InvalidNumber ab_InvalidNumber col_InvalidNumber dd_InvalidNumber v0_InvalidNumber v1_InvalidNumber v2_InvalidNumber v3_InvalidNumber v5_InvalidNumber "ValueError.__new__"))
    (ec_InvalidNumber : PySem.HandSPX.refsVE bm_InvalidNumber = true)
    (ed_InvalidNumber : PySem.W.alongIn K "__init__" bm_InvalidNumber = some (some (.builtin "ValueError.__init__")))
    (ee_InvalidNumber : PySem.W.findIn K (.ref C_InvalidNumber) "__setattr__" = some (some (.builtin "object.__setattr__")))
    (ef_InvalidNumber : PySem.W.findIn K (.ref C_InvalidNumber) "__getattribute__" = some (some (.builtin "BaseException.__getattribute__")))
    (eg_InvalidNumber : PySem.W.findIn K (.ref C_InvalidNumber) "__getattr__" = some none)
    (eh_InvalidNumber : PySem.W.findIn K (.ref C_InvalidNumber) "given" = some none)
    (ei_InvalidNumber : PySem.W.findIn K (.ref C_InvalidNumber) "code" = some none)
    (ej_InvalidNumber : PySem.W.findIn K (.ref C_InvalidNumber) "__init__" = some (some (.ref f_InvalidNumber)))
    (ek_InvalidNumber : PySem.W.typeIn K (.ref f_InvalidNumber) = some (.type "function"))
    (el_InvalidNumber : PySem.W.keepIn K (.ref C_InvalidNumber) = true)
    (em_InvalidNumber : PySem.W.subIn K (.ref C_InvalidNumber) (.type "BaseException") = some true)
    (en_InvalidNumber : PySem.W.subIn K (.ref C_InvalidNumber) (.type "ValueError") = some true)
    (eo_InvalidNumber : PySem.W.mroIn K C_InvalidNumber (.ref C_InvalidNumber) = some true)
    (ep_InvalidNumber : PySem.W.typeIn K (.ref C_InvalidNumber) = some (.type "type"))
    (eq_InvalidNumber : PySem.W.hasDictIn K C_InvalidNumber = true)
    (er_InvalidNumber : K.lookup f_InvalidNumber = some ⟨oc_InvalidNumber, od_InvalidNumber, .func (PySem.W.ksFn "__init__" ql_InvalidNumber (PySem.ErrX.eArgs "given" p1_InvalidNumber p2_InvalidNumber) (PySem.ErrX.eBody "given" ms_InvalidNumber "InvalidNumber" n1_InvalidNumber n2_InvalidNumber a1_InvalidNumber a2_InvalidNumber a3_InvalidNumber a4_InvalidNumber a5_InvalidNumber a6_InvalidNumber b1_InvalidNumber b2_InvalidNumber b3_InvalidNumber b4_InvalidNumber c1_InvalidNumber c2_InvalidNumber c3_InvalidNumber c4_InvalidNumber) (PySem.ErrX.eScope "given") .none .none dc_InvalidNumber pm_InvalidNumber an_InvalidNumber (.ref d_InvalidNumber) ct_InvalidNumber x_InvalidNumber), os_InvalidNumber⟩)
    (es_InvalidNumber : PySem.W.codeIn K (.ref d_InvalidNumber) ql_InvalidNumber = true)
    (et_InvalidNumber : K.lookup x_InvalidNumber = some ⟨cl_InvalidNumber, cld_InvalidNumber, .cell (some (.ref C_InvalidNumber)), csl_InvalidNumber⟩)
    (eu_InvalidNumber : K.lookup d_InvalidNumber = some ⟨ccl_InvalidNumber, cdd_InvalidNumber, .fields vs_InvalidNumber, ccs_InvalidNumber⟩)
    (ev_InvalidNumber : vs_InvalidNumber[2]? = some (.str fl_InvalidNumber tf_InvalidNumber))
    (ex_InvalidNumber : PySem.ErrX.InitEval ms_InvalidNumber n1_InvalidNumber a1_InvalidNumber a2_InvalidNumber a3_InvalidNumber a4_InvalidNumber a5_InvalidNumber)
    (ew_InvalidNumber : ((l.prog.main.file : Str) == fl_InvalidNumber) = true)
    (ea_Unsound : PySem.W.nsIn K mainGlobals "Unsound" = some (some (.ref C_Unsound)))
    (eb_Unsound : K.lookup C_Unsound = some (excClassObj nm_Unsound qn_Unsound C_Unsound N_Unsound bs_Unsound bm_Unsound true sn_Unsound sub_Unsound ab_Unsound col_Unsound dd_Unsound v0_Unsound v1_Unsound v2_Unsound v3_Unsound v5_Unsound "ValueError.__new__"))
    (ec_Unsound : PySem.HandSPX.refsVE bm_Unsound = true)
    (ed_Unsound : PySem.W.alongIn K "__init__" bm_Unsound = some (some (.builtin "ValueError.__init__")))
    (ee_Unsound : PySem.W.findIn K (.ref C_Unsound) "__setattr__" = some (some (.builtin "object.__setattr__")))
    (ef_Unsound : PySem.W.findIn K (.ref C_Unsound) "__getattribute__" = some (some (.builtin "BaseException.__getattribute__")))
    (eg_Unsound : PySem.W.findIn K (.ref C_Unsound) "__getattr__" = some none)
    (eh_Unsound : PySem.W.findIn K (.ref C_Unsound) "number" = some none)
    (ei_Unsound : PySem.W.findIn K (.ref C_Unsound) "code" = some none)
    (ej_Unsound : PySem.W.findIn K (.ref C_Unsound) "__init__" = some (some (.ref f_Unsound)))
    (ek_Unsound : PySem.W.typeIn K (.ref f_Unsound) = some (.type "function"))
    (el_Unsound : PySem.W.keepIn K (.ref C_Unsound) = true)
    (em_Unsound : PySem.W.subIn K (.ref C_Unsound) (.type "BaseException") = some true)
    (en_Unsound : PySem.W.subIn K (.ref C_Unsound) (.type "ValueError") = some true)
    (eo_Unsound : PySem.W.mroIn K C_Unsound (.ref C_Unsound) = some true)
    (ep_Unsound : PySem.W.typeIn K (.ref C_Unsound) = some (.type "type"))
    (eq_Unsound : PySem.W.hasDictIn K C_Unsound = true)
    (er_Unsound : K.lookup f_Unsound = some ⟨oc_Unsound, od_Unsound, .func (PySem.W.ksFn "__init__" ql_Unsound (PySem.ErrX.eArgs "number" p1_Unsound p2_Unsound) (PySem.ErrX.eBody "number" ms_Unsound "Unsound" n1_Unsound n2_Unsound a1_Unsound a2_Unsound a3_Unsound a4_Unsound a5_Unsound a6_Unsound b1_Unsound b2_Unsound b3_Unsound b4_Unsound c1_Unsound c2_Unsound c3_Unsound c4_Unsound) (PySem.ErrX.eScope "number") .none .none dc_Unsound pm_Unsound an_Unsound (.ref d_Unsound) ct_Unsound x_Unsound), os_Unsound⟩)
    (es_Unsound : PySem.W.codeIn K (.ref d_Unsound) ql_Unsound = true)
    (et_Unsound : K.lookup x_Unsound = some ⟨cl_Unsound, cld_Unsound, .cell (some (.ref C_Unsound)), csl_Unsound⟩)
    (eu_Unsound : K.lookup d_Unsound = some ⟨ccl_Unsound, cdd_Unsound, .fields vs_Unsound, ccs_Unsound⟩)
    (ev_Unsound : vs_Unsound[2]? = some (.str fl_Unsound tf_Unsound))
    (ex_Unsound : PySem.ErrX.InitEval ms_Unsound n1_Unsound a1_Unsound a2_Unsound a3_Unsound a4_Unsound a5_Unsound)
    (ew_Unsound : ((l.prog.main.file : Str) == fl_Unsound) = true)
    (cg_Realm : PySem.W.nsIn K mainGlobals "Realm" = some (some (.ref C_Realm)))
    (c1_Realm : PySem.W.plainGet K C_Realm Str.empty = true)
    (c2_Realm : PySem.W.hasDictIn K C_Realm = true)
    (c3_Realm : PySem.W.plainOver K C_Realm = true)
    (c4_Realm : PySem.W.findIn K (.ref C_Realm) "__setattr__" = some (some (.builtin "object.__setattr__")))
    (c5_Realm : PySem.W.readsIn K C_Realm (.type "type") = true)
    (c6_Realm : PySem.W.specialIn K (.ref C_Realm) "__getattribute__" = some (some (.builtin "type.__getattribute__")))
    (ia_Realm : PySem.W.findIn K (.ref C_Realm) "__class__" = some (some (.builtin "object.__class__")))
    (ib_Realm : PySem.W.specialIn K (.builtin "object.__class__") "__get__" = some (some (.builtin "getset_descriptor.__get__")))
    (ic_Realm : PySem.W.takesIn K (.builtin "object.__class__") = some true)
    (id_Realm : PySem.W.mroIn K C_Realm (.type "object") = some true)
    (no_Realm__normal : PySem.W.findIn K (.ref C_Realm) "_normal" = some none)
    (ff0_Realm : PySem.W.kitOne K (.ref C_Realm) (.ref C_Realm) = some true)
    (ff1_Realm : PySem.W.kitOne K (.type "int") (.ref C_Realm) = some false)
    (ff2_Realm : PySem.W.notFirst K C_Realm (.type "int") = true)
    (ff3_Realm : PySem.W.selfFirst K C_Realm = true)
    (ma_Realm_init : PySem.W.findIn K (.ref C_Realm) "__init__" = some (some (.ref f_Realm_init)))
    (mb_Realm_init : PySem.W.isFn K (.ref f_Realm_init) = true)
    (l_Realm_init : K.lookup f_Realm_init = some ⟨oc_Realm_init, od_Realm_init, .func (PySem.W.fnOf "__init__" "Realm.__init__" (defArgs s_Realm_init) (defBody s_Realm_init) (defScope s_Realm_init) .none (.ref kVRealm_init) dc_Realm_init pm_Realm_init an_Realm_init cd_Realm_init ct_Realm_init), sl_Realm_init⟩)
    (c_Realm_init : PySem.W.codeIn K cd_Realm_init "Realm.__init__" = true)
    (k_Realm_init : PySem.W.keepIn K (.ref f_Realm_init) = true)
    (kw_Realm_init_inverse : PySem.W.nsIn K kVRealm_init "inverse" = some (some (.int 1 tk_Realm_init_inverse)))
    (kw_Realm_init_ones : PySem.W.nsIn K kVRealm_init "ones" = some (some (.int 0 tk_Realm_init_ones)))
    (kw_Realm_init_swaps : PySem.W.nsIn K kVRealm_init "swaps" = some (some (.int 0 tk_Realm_init_swaps)))
    (kw_Realm_init_squares : PySem.W.nsIn K kVRealm_init "squares" = some (some (.int 0 tk_Realm_init_squares)))
    (mk_Realm : PySem.W.makesIn K C_Realm = true)
    (kc_Realm : PySem.W.keepIn K (.ref C_Realm) = true)
    (pa_Realm_inverse : PySem.W.findIn K (.ref C_Realm) "inverse" = some (some (.ref p_Realm_inverse)))
    (pb_Realm_inverse : PySem.W.specialIn K (.ref p_Realm_inverse) "__get__" = some (some (.builtin "property.__get__")))
    (pc_Realm_inverse : PySem.W.takesIn K (.ref p_Realm_inverse) = some true)
    (pd_Realm_inverse : PySem.W.recIn K p_Realm_inverse "property" = some (.ref f_Realm_inverse :: rs_Realm_inverse))
    (l_Realm_inverse : K.lookup f_Realm_inverse = some ⟨oc_Realm_inverse, od_Realm_inverse, .func (PySem.W.fnOf "inverse" "Realm.inverse" (defArgs s_Realm_inverse) (defBody s_Realm_inverse) (defScope s_Realm_inverse) .none kV_Realm_inverse dc_Realm_inverse pm_Realm_inverse an_Realm_inverse cd_Realm_inverse ct_Realm_inverse), sl_Realm_inverse⟩)
    (c_Realm_inverse : PySem.W.codeIn K cd_Realm_inverse "Realm.inverse" = true)
    (k_Realm_inverse : PySem.W.keepIn K (.ref f_Realm_inverse) = true)
    (pa_Realm_ones : PySem.W.findIn K (.ref C_Realm) "ones" = some (some (.ref p_Realm_ones)))
    (pb_Realm_ones : PySem.W.specialIn K (.ref p_Realm_ones) "__get__" = some (some (.builtin "property.__get__")))
    (pc_Realm_ones : PySem.W.takesIn K (.ref p_Realm_ones) = some true)
    (pd_Realm_ones : PySem.W.recIn K p_Realm_ones "property" = some (.ref f_Realm_ones :: rs_Realm_ones))
    (l_Realm_ones : K.lookup f_Realm_ones = some ⟨oc_Realm_ones, od_Realm_ones, .func (PySem.W.fnOf "ones" "Realm.ones" (defArgs s_Realm_ones) (defBody s_Realm_ones) (defScope s_Realm_ones) .none kV_Realm_ones dc_Realm_ones pm_Realm_ones an_Realm_ones cd_Realm_ones ct_Realm_ones), sl_Realm_ones⟩)
    (c_Realm_ones : PySem.W.codeIn K cd_Realm_ones "Realm.ones" = true)
    (k_Realm_ones : PySem.W.keepIn K (.ref f_Realm_ones) = true)
    (pa_Realm_swaps : PySem.W.findIn K (.ref C_Realm) "swaps" = some (some (.ref p_Realm_swaps)))
    (pb_Realm_swaps : PySem.W.specialIn K (.ref p_Realm_swaps) "__get__" = some (some (.builtin "property.__get__")))
    (pc_Realm_swaps : PySem.W.takesIn K (.ref p_Realm_swaps) = some true)
    (pd_Realm_swaps : PySem.W.recIn K p_Realm_swaps "property" = some (.ref f_Realm_swaps :: rs_Realm_swaps))
    (l_Realm_swaps : K.lookup f_Realm_swaps = some ⟨oc_Realm_swaps, od_Realm_swaps, .func (PySem.W.fnOf "swaps" "Realm.swaps" (defArgs s_Realm_swaps) (defBody s_Realm_swaps) (defScope s_Realm_swaps) .none kV_Realm_swaps dc_Realm_swaps pm_Realm_swaps an_Realm_swaps cd_Realm_swaps ct_Realm_swaps), sl_Realm_swaps⟩)
    (c_Realm_swaps : PySem.W.codeIn K cd_Realm_swaps "Realm.swaps" = true)
    (k_Realm_swaps : PySem.W.keepIn K (.ref f_Realm_swaps) = true)
    (pa_Realm_squares : PySem.W.findIn K (.ref C_Realm) "squares" = some (some (.ref p_Realm_squares)))
    (pb_Realm_squares : PySem.W.specialIn K (.ref p_Realm_squares) "__get__" = some (some (.builtin "property.__get__")))
    (pc_Realm_squares : PySem.W.takesIn K (.ref p_Realm_squares) = some true)
    (pd_Realm_squares : PySem.W.recIn K p_Realm_squares "property" = some (.ref f_Realm_squares :: rs_Realm_squares))
    (l_Realm_squares : K.lookup f_Realm_squares = some ⟨oc_Realm_squares, od_Realm_squares, .func (PySem.W.fnOf "squares" "Realm.squares" (defArgs s_Realm_squares) (defBody s_Realm_squares) (defScope s_Realm_squares) .none kV_Realm_squares dc_Realm_squares pm_Realm_squares an_Realm_squares cd_Realm_squares ct_Realm_squares), sl_Realm_squares⟩)
    (c_Realm_squares : PySem.W.codeIn K cd_Realm_squares "Realm.squares" = true)
    (k_Realm_squares : PySem.W.keepIn K (.ref f_Realm_squares) = true)
    (sa_Realm_everywhere : PySem.W.findCls K (.ref C_Realm) (.type "type") "everywhere" = some (.get (.builtin "staticmethod.__get__") (.ref p_Realm_everywhere) .none (.ref C_Realm)))
    (sb_Realm_everywhere : PySem.W.recIn K p_Realm_everywhere "staticmethod" = some (.ref f_Realm_everywhere :: rs_Realm_everywhere))
    (l_Realm_everywhere : K.lookup f_Realm_everywhere = some ⟨oc_Realm_everywhere, od_Realm_everywhere, .func (PySem.W.fnOf "everywhere" "Realm.everywhere" (defArgs s_Realm_everywhere) (defBody s_Realm_everywhere) (defScope s_Realm_everywhere) .none kV_Realm_everywhere dc_Realm_everywhere pm_Realm_everywhere an_Realm_everywhere cd_Realm_everywhere ct_Realm_everywhere), sl_Realm_everywhere⟩)
    (c_Realm_everywhere : PySem.W.codeIn K cd_Realm_everywhere "Realm.everywhere" = true)
    (k_Realm_everywhere : PySem.W.keepIn K (.ref f_Realm_everywhere) = true)
    (ma_Realm_eq : PySem.W.findIn K (.ref C_Realm) "__eq__" = some (some (.ref f_Realm_eq)))
    (mb_Realm_eq : PySem.W.isFn K (.ref f_Realm_eq) = true)
    (l_Realm_eq : K.lookup f_Realm_eq = some ⟨oc_Realm_eq, od_Realm_eq, .func (PySem.W.fnOf "__eq__" "Realm.__eq__" (defArgs s_Realm_eq) (defBody s_Realm_eq) (defScope s_Realm_eq) .none kV_Realm_eq dc_Realm_eq pm_Realm_eq an_Realm_eq cd_Realm_eq ct_Realm_eq), sl_Realm_eq⟩)
    (c_Realm_eq : PySem.W.codeIn K cd_Realm_eq "Realm.__eq__" = true)
    (k_Realm_eq : PySem.W.keepIn K (.ref f_Realm_eq) = true)
    (ma_Realm_and : PySem.W.findIn K (.ref C_Realm) "__and__" = some (some (.ref f_Realm_and)))
    (mb_Realm_and : PySem.W.isFn K (.ref f_Realm_and) = true)
    (l_Realm_and : K.lookup f_Realm_and = some ⟨oc_Realm_and, od_Realm_and, .func (PySem.W.fnOf "__and__" "Realm.__and__" (defArgs s_Realm_and) (defBody s_Realm_and) (defScope s_Realm_and) .none kV_Realm_and dc_Realm_and pm_Realm_and an_Realm_and cd_Realm_and ct_Realm_and), sl_Realm_and⟩)
    (c_Realm_and : PySem.W.codeIn K cd_Realm_and "Realm.__and__" = true)
    (k_Realm_and : PySem.W.keepIn K (.ref f_Realm_and) = true)
    (ma_Realm_bool : PySem.W.findIn K (.ref C_Realm) "__bool__" = some (some (.ref f_Realm_bool)))
    (mb_Realm_bool : PySem.W.isFn K (.ref f_Realm_bool) = true)
    (l_Realm_bool : K.lookup f_Realm_bool = some ⟨oc_Realm_bool, od_Realm_bool, .func (PySem.W.fnOf "__bool__" "Realm.__bool__" (defArgs s_Realm_bool) (defBody s_Realm_bool) (defScope s_Realm_bool) .none kV_Realm_bool dc_Realm_bool pm_Realm_bool an_Realm_bool cd_Realm_bool ct_Realm_bool), sl_Realm_bool⟩)
    (c_Realm_bool : PySem.W.codeIn K cd_Realm_bool "Realm.__bool__" = true)
    (k_Realm_bool : PySem.W.keepIn K (.ref f_Realm_bool) = true)
    (ma_Realm_within : PySem.W.findIn K (.ref C_Realm) "within" = some (some (.ref f_Realm_within)))
    (mb_Realm_within : PySem.W.isFn K (.ref f_Realm_within) = true)
    (l_Realm_within : K.lookup f_Realm_within = some ⟨oc_Realm_within, od_Realm_within, .func (PySem.W.fnOf "within" "Realm.within" (defArgs s_Realm_within) (defBody s_Realm_within) (defScope s_Realm_within) .none kV_Realm_within dc_Realm_within pm_Realm_within an_Realm_within cd_Realm_within ct_Realm_within), sl_Realm_within⟩)
    (c_Realm_within : PySem.W.codeIn K cd_Realm_within "Realm.within" = true)
    (k_Realm_within : PySem.W.keepIn K (.ref f_Realm_within) = true)
    (cg_Timeline : PySem.W.nsIn K mainGlobals "Timeline" = some (some (.ref C_Timeline)))
    (c1_Timeline : PySem.W.plainGet K C_Timeline Str.empty = true)
    (c2_Timeline : PySem.W.hasDictIn K C_Timeline = true)
    (c3_Timeline : PySem.W.plainOver K C_Timeline = true)
    (c4_Timeline : PySem.W.findIn K (.ref C_Timeline) "__setattr__" = some (some (.builtin "object.__setattr__")))
    (c5_Timeline : PySem.W.readsIn K C_Timeline (.type "type") = true)
    (c6_Timeline : PySem.W.specialIn K (.ref C_Timeline) "__getattribute__" = some (some (.builtin "type.__getattribute__")))
    (ia_Timeline : PySem.W.findIn K (.ref C_Timeline) "__class__" = some (some (.builtin "object.__class__")))
    (ib_Timeline : PySem.W.specialIn K (.builtin "object.__class__") "__get__" = some (some (.builtin "getset_descriptor.__get__")))
    (ic_Timeline : PySem.W.takesIn K (.builtin "object.__class__") = some true)
    (id_Timeline : PySem.W.mroIn K C_Timeline (.type "object") = some true)
    (no_Timeline_state : PySem.W.findIn K (.ref C_Timeline) "state" = some none)
    (no_Timeline__undone : PySem.W.findIn K (.ref C_Timeline) "_undone" = some none)
    (no_Timeline__done : PySem.W.findIn K (.ref C_Timeline) "_done" = some none)
    (ma_Timeline_init : PySem.W.findIn K (.ref C_Timeline) "__init__" = some (some (.ref f_Timeline_init)))
    (mb_Timeline_init : PySem.W.isFn K (.ref f_Timeline_init) = true)
    (l_Timeline_init : K.lookup f_Timeline_init = some ⟨oc_Timeline_init, od_Timeline_init, .func (PySem.W.fnOf "__init__" "Timeline.__init__" (defArgs s_Timeline_init) (defBody s_Timeline_init) (defScope s_Timeline_init) .none kV_Timeline_init dc_Timeline_init pm_Timeline_init an_Timeline_init cd_Timeline_init ct_Timeline_init), sl_Timeline_init⟩)
    (c_Timeline_init : PySem.W.codeIn K cd_Timeline_init "Timeline.__init__" = true)
    (k_Timeline_init : PySem.W.keepIn K (.ref f_Timeline_init) = true)
    (mk_Timeline : PySem.W.makesIn K C_Timeline = true)
    (kc_Timeline : PySem.W.keepIn K (.ref C_Timeline) = true)
    (ma_Timeline_move : PySem.W.findIn K (.ref C_Timeline) "move" = some (some (.ref f_Timeline_move)))
    (mb_Timeline_move : PySem.W.isFn K (.ref f_Timeline_move) = true)
    (l_Timeline_move : K.lookup f_Timeline_move = some ⟨oc_Timeline_move, od_Timeline_move, .func (PySem.W.fnOf "move" "Timeline.move" (defArgs s_Timeline_move) (defBody s_Timeline_move) (defScope s_Timeline_move) .none kV_Timeline_move dc_Timeline_move pm_Timeline_move an_Timeline_move cd_Timeline_move ct_Timeline_move), sl_Timeline_move⟩)
    (c_Timeline_move : PySem.W.codeIn K cd_Timeline_move "Timeline.move" = true)
    (k_Timeline_move : PySem.W.keepIn K (.ref f_Timeline_move) = true)
    (ma_Timeline_twin : PySem.W.findIn K (.ref C_Timeline) "twin" = some (some (.ref f_Timeline_twin)))
    (mb_Timeline_twin : PySem.W.isFn K (.ref f_Timeline_twin) = true)
    (l_Timeline_twin : K.lookup f_Timeline_twin = some ⟨oc_Timeline_twin, od_Timeline_twin, .func (PySem.W.fnOf "twin" "Timeline.twin" (defArgs s_Timeline_twin) (defBody s_Timeline_twin) (defScope s_Timeline_twin) .none kV_Timeline_twin dc_Timeline_twin pm_Timeline_twin an_Timeline_twin cd_Timeline_twin ct_Timeline_twin), sl_Timeline_twin⟩)
    (c_Timeline_twin : PySem.W.codeIn K cd_Timeline_twin "Timeline.twin" = true)
    (k_Timeline_twin : PySem.W.keepIn K (.ref f_Timeline_twin) = true)
    (cg_Unseen : PySem.W.nsIn K mainGlobals "Unseen" = some (some (.ref C_Unseen)))
    (c1_Unseen : PySem.W.plainGet K C_Unseen Str.empty = true)
    (c2_Unseen : PySem.W.hasDictIn K C_Unseen = true)
    (c3_Unseen : PySem.W.plainOver K C_Unseen = true)
    (c4_Unseen : PySem.W.findIn K (.ref C_Unseen) "__setattr__" = some (some (.builtin "object.__setattr__")))
    (c5_Unseen : PySem.W.readsIn K C_Unseen (.type "type") = true)
    (c6_Unseen : PySem.W.specialIn K (.ref C_Unseen) "__getattribute__" = some (some (.builtin "type.__getattribute__")))
    (ia_Unseen : PySem.W.findIn K (.ref C_Unseen) "__class__" = some (some (.builtin "object.__class__")))
    (ib_Unseen : PySem.W.specialIn K (.builtin "object.__class__") "__get__" = some (some (.builtin "getset_descriptor.__get__")))
    (ic_Unseen : PySem.W.takesIn K (.builtin "object.__class__") = some true)
    (id_Unseen : PySem.W.mroIn K C_Unseen (.type "object") = some true)
    (no_Unseen__line : PySem.W.findIn K (.ref C_Unseen) "_line" = some none)
    (ma_Unseen_init : PySem.W.findIn K (.ref C_Unseen) "__init__" = some (some (.ref f_Unseen_init)))
    (mb_Unseen_init : PySem.W.isFn K (.ref f_Unseen_init) = true)
    (l_Unseen_init : K.lookup f_Unseen_init = some ⟨oc_Unseen_init, od_Unseen_init, .func (PySem.W.fnOf "__init__" "Unseen.__init__" (defArgs s_Unseen_init) (defBody s_Unseen_init) (defScope s_Unseen_init) .none kV_Unseen_init dc_Unseen_init pm_Unseen_init an_Unseen_init cd_Unseen_init ct_Unseen_init), sl_Unseen_init⟩)
    (c_Unseen_init : PySem.W.codeIn K cd_Unseen_init "Unseen.__init__" = true)
    (k_Unseen_init : PySem.W.keepIn K (.ref f_Unseen_init) = true)
    (mk_Unseen : PySem.W.makesIn K C_Unseen = true)
    (kc_Unseen : PySem.W.keepIn K (.ref C_Unseen) = true)
    (ma_Unseen_len : PySem.W.findIn K (.ref C_Unseen) "__len__" = some (some (.ref f_Unseen_len)))
    (mb_Unseen_len : PySem.W.isFn K (.ref f_Unseen_len) = true)
    (l_Unseen_len : K.lookup f_Unseen_len = some ⟨oc_Unseen_len, od_Unseen_len, .func (PySem.W.fnOf "__len__" "Unseen.__len__" (defArgs s_Unseen_len) (defBody s_Unseen_len) (defScope s_Unseen_len) .none kV_Unseen_len dc_Unseen_len pm_Unseen_len an_Unseen_len cd_Unseen_len ct_Unseen_len), sl_Unseen_len⟩)
    (c_Unseen_len : PySem.W.codeIn K cd_Unseen_len "Unseen.__len__" = true)
    (k_Unseen_len : PySem.W.keepIn K (.ref f_Unseen_len) = true)
    (ma_Unseen_note : PySem.W.findIn K (.ref C_Unseen) "note" = some (some (.ref f_Unseen_note)))
    (mb_Unseen_note : PySem.W.isFn K (.ref f_Unseen_note) = true)
    (l_Unseen_note : K.lookup f_Unseen_note = some ⟨oc_Unseen_note, od_Unseen_note, .func (PySem.W.fnOf "note" "Unseen.note" (defArgs s_Unseen_note) (defBody s_Unseen_note) (defScope s_Unseen_note) .none kV_Unseen_note dc_Unseen_note pm_Unseen_note an_Unseen_note cd_Unseen_note ct_Unseen_note), sl_Unseen_note⟩)
    (c_Unseen_note : PySem.W.codeIn K cd_Unseen_note "Unseen.note" = true)
    (k_Unseen_note : PySem.W.keepIn K (.ref f_Unseen_note) = true)
    (ma_Unseen__check_space : PySem.W.findIn K (.ref C_Unseen) "_check_space" = some (some (.ref f_Unseen__check_space)))
    (mb_Unseen__check_space : PySem.W.isFn K (.ref f_Unseen__check_space) = true)
    (l_Unseen__check_space : K.lookup f_Unseen__check_space = some ⟨oc_Unseen__check_space, od_Unseen__check_space, .func (PySem.W.fnOf "_check_space" "Unseen._check_space" (defArgs s_Unseen__check_space) (defBody s_Unseen__check_space) (defScope s_Unseen__check_space) .none kV_Unseen__check_space dc_Unseen__check_space pm_Unseen__check_space an_Unseen__check_space cd_Unseen__check_space ct_Unseen__check_space), sl_Unseen__check_space⟩)
    (c_Unseen__check_space : PySem.W.codeIn K cd_Unseen__check_space "Unseen._check_space" = true)
    (k_Unseen__check_space : PySem.W.keepIn K (.ref f_Unseen__check_space) = true)
    (ma_Unseen__check_right : PySem.W.findIn K (.ref C_Unseen) "_check_right" = some (some (.ref f_Unseen__check_right)))
    (mb_Unseen__check_right : PySem.W.isFn K (.ref f_Unseen__check_right) = true)
    (l_Unseen__check_right : K.lookup f_Unseen__check_right = some ⟨oc_Unseen__check_right, od_Unseen__check_right, .func (PySem.W.fnOf "_check_right" "Unseen._check_right" (defArgs s_Unseen__check_right) (defBody s_Unseen__check_right) (defScope s_Unseen__check_right) .none kV_Unseen__check_right dc_Unseen__check_right pm_Unseen__check_right an_Unseen__check_right cd_Unseen__check_right ct_Unseen__check_right), sl_Unseen__check_right⟩)
    (c_Unseen__check_right : PySem.W.codeIn K cd_Unseen__check_right "Unseen._check_right" = true)
    (k_Unseen__check_right : PySem.W.keepIn K (.ref f_Unseen__check_right) = true)
    (ma_Unseen_withdraw : PySem.W.findIn K (.ref C_Unseen) "withdraw" = some (some (.ref f_Unseen_withdraw)))
    (mb_Unseen_withdraw : PySem.W.isFn K (.ref f_Unseen_withdraw) = true)
    (l_Unseen_withdraw : K.lookup f_Unseen_withdraw = some ⟨oc_Unseen_withdraw, od_Unseen_withdraw, .func (PySem.W.fnOf "withdraw" "Unseen.withdraw" (defArgs s_Unseen_withdraw) (defBody s_Unseen_withdraw) (defScope s_Unseen_withdraw) .none kV_Unseen_withdraw dc_Unseen_withdraw pm_Unseen_withdraw an_Unseen_withdraw cd_Unseen_withdraw ct_Unseen_withdraw), sl_Unseen_withdraw⟩)
    (c_Unseen_withdraw : PySem.W.codeIn K cd_Unseen_withdraw "Unseen.withdraw" = true)
    (k_Unseen_withdraw : PySem.W.keepIn K (.ref f_Unseen_withdraw) = true)
    (ma_Unseen_verdicts : PySem.W.findIn K (.ref C_Unseen) "verdicts" = some (some (.ref f_Unseen_verdicts)))
    (mb_Unseen_verdicts : PySem.W.isFn K (.ref f_Unseen_verdicts) = true)
    (l_Unseen_verdicts : K.lookup f_Unseen_verdicts = some ⟨oc_Unseen_verdicts, od_Unseen_verdicts, .func (PySem.W.fnOf "verdicts" "Unseen.verdicts" (defArgs s_Unseen_verdicts) (defBody s_Unseen_verdicts) (defScope s_Unseen_verdicts) .none kV_Unseen_verdicts dc_Unseen_verdicts pm_Unseen_verdicts an_Unseen_verdicts cd_Unseen_verdicts ct_Unseen_verdicts), sl_Unseen_verdicts⟩)
    (c_Unseen_verdicts : PySem.W.codeIn K cd_Unseen_verdicts "Unseen.verdicts" = true)
    (k_Unseen_verdicts : PySem.W.keepIn K (.ref f_Unseen_verdicts) = true)
    (ma_Unseen_meet : PySem.W.findIn K (.ref C_Unseen) "meet" = some (some (.ref f_Unseen_meet)))
    (mb_Unseen_meet : PySem.W.isFn K (.ref f_Unseen_meet) = true)
    (l_Unseen_meet : K.lookup f_Unseen_meet = some ⟨oc_Unseen_meet, od_Unseen_meet, .func (PySem.W.fnOf "meet" "Unseen.meet" (defArgs s_Unseen_meet) (defBody s_Unseen_meet) (defScope s_Unseen_meet) .none kV_Unseen_meet dc_Unseen_meet pm_Unseen_meet an_Unseen_meet cd_Unseen_meet ct_Unseen_meet), sl_Unseen_meet⟩)
    (c_Unseen_meet : PySem.W.codeIn K cd_Unseen_meet "Unseen.meet" = true)
    (k_Unseen_meet : PySem.W.keepIn K (.ref f_Unseen_meet) = true)
    (ma_Unseen_judge : PySem.W.findIn K (.ref C_Unseen) "judge" = some (some (.ref f_Unseen_judge)))
    (mb_Unseen_judge : PySem.W.isFn K (.ref f_Unseen_judge) = true)
    (l_Unseen_judge : K.lookup f_Unseen_judge = some ⟨oc_Unseen_judge, od_Unseen_judge, .func (PySem.W.fnOf "judge" "Unseen.judge" (defArgs s_Unseen_judge) (defBody s_Unseen_judge) (defScope s_Unseen_judge) .none kV_Unseen_judge dc_Unseen_judge pm_Unseen_judge an_Unseen_judge cd_Unseen_judge ct_Unseen_judge), sl_Unseen_judge⟩)
    (c_Unseen_judge : PySem.W.codeIn K cd_Unseen_judge "Unseen.judge" = true)
    (k_Unseen_judge : PySem.W.keepIn K (.ref f_Unseen_judge) = true)
    (ma_Unseen_needless : PySem.W.findIn K (.ref C_Unseen) "needless" = some (some (.ref f_Unseen_needless)))
    (mb_Unseen_needless : PySem.W.isFn K (.ref f_Unseen_needless) = true)
    (l_Unseen_needless : K.lookup f_Unseen_needless = some ⟨oc_Unseen_needless, od_Unseen_needless, .func (PySem.W.fnOf "needless" "Unseen.needless" (defArgs s_Unseen_needless) (defBody s_Unseen_needless) (defScope s_Unseen_needless) .none kV_Unseen_needless dc_Unseen_needless pm_Unseen_needless an_Unseen_needless cd_Unseen_needless ct_Unseen_needless), sl_Unseen_needless⟩)
    (c_Unseen_needless : PySem.W.codeIn K cd_Unseen_needless "Unseen.needless" = true)
    (k_Unseen_needless : PySem.W.keepIn K (.ref f_Unseen_needless) = true)
    (ma_Unseen__is_needless : PySem.W.findIn K (.ref C_Unseen) "_is_needless" = some (some (.ref f_Unseen__is_needless)))
    (mb_Unseen__is_needless : PySem.W.isFn K (.ref f_Unseen__is_needless) = true)
    (l_Unseen__is_needless : K.lookup f_Unseen__is_needless = some ⟨oc_Unseen__is_needless, od_Unseen__is_needless, .func (PySem.W.fnOf "_is_needless" "Unseen._is_needless" (defArgs s_Unseen__is_needless) (defBody s_Unseen__is_needless) (defScope s_Unseen__is_needless) .none kV_Unseen__is_needless dc_Unseen__is_needless pm_Unseen__is_needless an_Unseen__is_needless cd_Unseen__is_needless ct_Unseen__is_needless), sl_Unseen__is_needless⟩)
    (c_Unseen__is_needless : PySem.W.codeIn K cd_Unseen__is_needless "Unseen._is_needless" = true)
    (k_Unseen__is_needless : PySem.W.keepIn K (.ref f_Unseen__is_needless) = true)
    (ma_Unseen_twin : PySem.W.findIn K (.ref C_Unseen) "twin" = some (some (.ref f_Unseen_twin)))
    (mb_Unseen_twin : PySem.W.isFn K (.ref f_Unseen_twin) = true)
    (l_Unseen_twin : K.lookup f_Unseen_twin = some ⟨oc_Unseen_twin, od_Unseen_twin, .func (PySem.W.fnOf "twin" "Unseen.twin" (defArgs s_Unseen_twin) (defBody s_Unseen_twin) (defScope s_Unseen_twin) .none kV_Unseen_twin dc_Unseen_twin pm_Unseen_twin an_Unseen_twin cd_Unseen_twin ct_Unseen_twin), sl_Unseen_twin⟩)
    (c_Unseen_twin : PySem.W.codeIn K cd_Unseen_twin "Unseen.twin" = true)
    (k_Unseen_twin : PySem.W.keepIn K (.ref f_Unseen_twin) = true)
    (m_RingError : PySem.W.nsIn K mainGlobals "RingError" = some (some g_RingError))
    (m_Missing : PySem.W.nsIn K mainGlobals "Missing" = some (some g_Missing))
    (m_NothingLeft : PySem.W.nsIn K mainGlobals "NothingLeft" = some (some g_NothingLeft))
    (mo : PySem.W.findIn K (.ref C_Unseen) "MOST" = some (some (.int 40 uMO))) (mp : PySem.W.specialIn K (.int 40 uMO) "__get__" = some none)
    (lcd : cd48 = .ref cL) (lC : K.lookup cL = some ⟨eL, ddL, .fields vsL, slL⟩) (lT : vsL[11]? = some (.ref PL)) (lP : h.get? PL = some { cls := .none, data := .fields #[] }) (lN : K.lookup PL = none) (lH : PySem.W.codeHdIn K cL PL = true) (hm : PySem.W.exmAny K (.ref C_Unsound) [g_RingError, g_Missing, g_NothingLeft] = some true) :
    LamX.LawAtS l w K CX0 15 63 "_law_script" mg fa h := by
  have F__wall := fun_mk (st := s__wall) l1 c1 k1
  have b__wall := F__wall.binds (ps := ["k"]) fun _ _ _ _ _ _ us hl => match us, hl with | [_], _ => rfl
  have A__wall : Fn K mg "_wall" s__wall ["k"] := ⟨_, _, F__wall, PySem.W.mg_of X G a1, b__wall⟩
  have F_is_int := fun_mk (st := s_is_int) l2 c2 k2
  have b_is_int := F_is_int.binds (ps := ["value"]) fun _ _ _ _ _ _ us hl => match us, hl with | [_], _ => rfl
  have A_is_int : Fn K mg "is_int" s_is_int ["value"] := ⟨_, _, F_is_int, PySem.W.mg_of X G a2, b_is_int⟩
  have F_is_between := fun_mk (st := s_is_between) l3 c3 k3
  have b_is_between := F_is_between.binds (ps := ["value", "least", "most"]) fun _ _ _ _ _ _ us hl => match us, hl with | [_, _, _], _ => rfl
  have A_is_between : Fn K mg "is_between" s_is_between ["value", "least", "most"] := ⟨_, _, F_is_between, PySem.W.mg_of X G a3, b_is_between⟩
  have F_is_share := fun_mk (st := s_is_share) l4 c4 k4
  have b_is_share := F_is_share.binds (ps := ["value"]) fun _ _ _ _ _ _ us hl => match us, hl with | [_], _ => rfl
  have A_is_share : Fn K mg "is_share" s_is_share ["value"] := ⟨_, _, F_is_share, PySem.W.mg_of X G a4, b_is_share⟩
  have F_common := fun_mk (st := s_common) l5 c5 k5
  have mgf_common : mg "common" = some (.ref f5) := PySem.W.mg_of X G a5
  have F_multiple := fun_mk (st := s_multiple) l6 c6 k6
  have mgf_multiple : mg "multiple" = some (.ref f6) := PySem.W.mg_of X G a6
  have F_divides := fun_mk (st := s_divides) l7 c7 k7
  have b_divides := F_divides.binds (ps := ["one", "other"]) fun _ _ _ _ _ _ us hl => match us, hl with | [_, _], _ => rfl
  have A_divides : Fn K mg "divides" s_divides ["one", "other"] := ⟨_, _, F_divides, PySem.W.mg_of X G a7, b_divides⟩
  have F_stripped := fun_mk (st := s_stripped) l8 c8 k8
  have b_stripped := F_stripped.binds (ps := ["number", "base"]) fun _ _ _ _ _ _ us hl => match us, hl with | [_, _], _ => rfl
  have A_stripped : Fn K mg "stripped" s_stripped ["number", "base"] := ⟨_, _, F_stripped, PySem.W.mg_of X G a8, b_stripped⟩
  have F_radical := fun_mk (st := s_radical) l9 c9 k9
  have b_radical := F_radical.binds (ps := ["number"]) fun _ _ _ _ _ _ us hl => match us, hl with | [_], _ => rfl
  have A_radical : Fn K mg "radical" s_radical ["number"] := ⟨_, _, F_radical, PySem.W.mg_of X G a9, b_radical⟩
  have D_share : FunD K "share" "share" (defArgs s_share) (defBody s_share) (defScope s_share) [.int 1] [] f10 _ := ⟨⟨_, _, _, _, _, _, _, _, _, _, rfl, l10, c10, .inr ⟨by simp, T10, _, _, _, rfl, t10, rfl, (.cons ⟨_, rfl⟩ .nil)⟩, .inl rfl⟩, k10⟩
  have F_sum_of_shares := fun_mk (st := s_sum_of_shares) l11 c11 k11
  have b_sum_of_shares := F_sum_of_shares.binds (ps := ["x", "y"]) fun _ _ _ _ _ _ us hl => match us, hl with | [_, _], _ => rfl
  have A_sum_of_shares : Fn K mg "sum_of_shares" s_sum_of_shares ["x", "y"] := ⟨_, _, F_sum_of_shares, PySem.W.mg_of X G a11, b_sum_of_shares⟩
  have F_product_of_shares := fun_mk (st := s_product_of_shares) l12 c12 k12
  have b_product_of_shares := F_product_of_shares.binds (ps := ["x", "y"]) fun _ _ _ _ _ _ us hl => match us, hl with | [_, _], _ => rfl
  have A_product_of_shares : Fn K mg "product_of_shares" s_product_of_shares ["x", "y"] := ⟨_, _, F_product_of_shares, PySem.W.mg_of X G a12, b_product_of_shares⟩
  have F_inverse_modulo := fun_mk (st := s_inverse_modulo) l13 c13 k13
  have b_inverse_modulo := F_inverse_modulo.binds (ps := ["number", "modulus"]) fun _ _ _ _ _ _ us hl => match us, hl with | [_, _], _ => rfl
  have A_inverse_modulo : Fn K mg "inverse_modulo" s_inverse_modulo ["number", "modulus"] := ⟨_, _, F_inverse_modulo, PySem.W.mg_of X G a13, b_inverse_modulo⟩
  have F_written := fun_mk (st := s_written) l14 c14 k14
  have b_written := F_written.binds (ps := ["number"]) fun _ _ _ _ _ _ us hl => match us, hl with | [_], _ => rfl
  have A_written : Fn K mg "written" s_written ["number"] := ⟨_, _, F_written, PySem.W.mg_of X G a14, b_written⟩
  have F_written_below := fun_mk (st := s_written_below) l15 c15 k15
  have b_written_below := F_written_below.binds (ps := ["number", "powers"]) fun _ _ _ _ _ _ us hl => match us, hl with | [_, _], _ => rfl
  have A_written_below : Fn K mg "written_below" s_written_below ["number", "powers"] := ⟨_, _, F_written_below, PySem.W.mg_of X G a15, b_written_below⟩
  have F_depth_over := fun_mk (st := s_depth_over) l16 c16 k16
  have b_depth_over := F_depth_over.binds (ps := ["bases"]) fun _ _ _ _ _ _ us hl => match us, hl with | [_], _ => rfl
  have A_depth_over : Fn K mg "depth_over" s_depth_over ["bases"] := ⟨_, _, F_depth_over, PySem.W.mg_of X G a16, b_depth_over⟩
  have F_check_bases := fun_mk (st := s_check_bases) l17 c17 k17
  have mgf_check_bases : mg "check_bases" = some (.ref f17) := PySem.W.mg_of X G a17
  have F_check_number := fun_mk (st := s_check_number) l18 c18 k18
  have b_check_number := F_check_number.binds (ps := ["value", "least", "most"]) fun _ _ _ _ _ _ us hl => match us, hl with | [_, _, _], _ => rfl
  have A_check_number : Fn K mg "check_number" s_check_number ["value", "least", "most"] := ⟨_, _, F_check_number, PySem.W.mg_of X G a18, b_check_number⟩
  have F_choices := fun_mk (st := s_choices) l19 c19 k19
  have b_choices := F_choices.binds (ps := ["lists"]) fun _ _ _ _ _ _ us hl => match us, hl with | [_], _ => rfl
  have A_choices : Fn K mg "choices" s_choices ["lists"] := ⟨_, _, F_choices, PySem.W.mg_of X G a19, b_choices⟩
  have F_size_together := fun_mk (st := s_size_together) l20 c20 k20
  have b_size_together := F_size_together.binds (ps := ["sizes"]) fun _ _ _ _ _ _ us hl => match us, hl with | [_], _ => rfl
  have A_size_together : Fn K mg "size_together" s_size_together ["sizes"] := ⟨_, _, F_size_together, PySem.W.mg_of X G a20, b_size_together⟩
  have F_normal_numbers := fun_mk (st := s_normal_numbers) l21 c21 k21
  have b_normal_numbers := F_normal_numbers.binds (ps := ["inverse", "ones", "swaps", "squares"]) fun _ _ _ _ _ _ us hl => match us, hl with | [_, _, _, _], _ => rfl
  have A_normal_numbers : Fn K mg "normal_numbers" s_normal_numbers ["inverse", "ones", "swaps", "squares"] := ⟨_, _, F_normal_numbers, PySem.W.mg_of X G a21, b_normal_numbers⟩
  have F_realm_with := fun_mk (st := s_realm_with) l22 c22 k22
  have b_realm_with := F_realm_with.binds (ps := ["inverse", "ones", "swaps", "squares"]) fun _ _ _ _ _ _ us hl => match us, hl with | [_, _, _, _], _ => rfl
  have A_realm_with : Fn K mg "realm_with" s_realm_with ["inverse", "ones", "swaps", "squares"] := ⟨_, _, F_realm_with, PySem.W.mg_of X G a22, b_realm_with⟩
  have F_listed := fun_mk (st := s_listed) l23 c23 k23
  have b_listed := F_listed.binds (ps := ["numbers"]) fun _ _ _ _ _ _ us hl => match us, hl with | [_], _ => rfl
  have A_listed : Fn K mg "listed" s_listed ["numbers"] := ⟨_, _, F_listed, PySem.W.mg_of X G a23, b_listed⟩
  have F_joined_inverse := fun_mk (st := s_joined_inverse) l24 c24 k24
  have b_joined_inverse := F_joined_inverse.binds (ps := ["one", "other"]) fun _ _ _ _ _ _ us hl => match us, hl with | [_, _], _ => rfl
  have A_joined_inverse : Fn K mg "joined_inverse" s_joined_inverse ["one", "other"] := ⟨_, _, F_joined_inverse, PySem.W.mg_of X G a24, b_joined_inverse⟩
  have F_endless_ring := fun_mk (st := s_endless_ring) l25 c25 k25
  have b_endless_ring := F_endless_ring.binds (ps := ["inverse", "swaps"]) fun _ _ _ _ _ _ us hl => match us, hl with | [_, _], _ => rfl
  have A_endless_ring : Fn K mg "endless_ring" s_endless_ring ["inverse", "swaps"] := ⟨_, _, F_endless_ring, PySem.W.mg_of X G a25, b_endless_ring⟩
  have F_ring_of_ones := fun_mk (st := s_ring_of_ones) l26 c26 k26
  have b_ring_of_ones := F_ring_of_ones.binds (ps := ["ones", "swaps", "squares"]) fun _ _ _ _ _ _ us hl => match us, hl with | [_, _, _], _ => rfl
  have A_ring_of_ones : Fn K mg "ring_of_ones" s_ring_of_ones ["ones", "swaps", "squares"] := ⟨_, _, F_ring_of_ones, PySem.W.mg_of X G a26, b_ring_of_ones⟩
  have F_meet_of := fun_mk (st := s_meet_of) l27 c27 k27
  have b_meet_of := F_meet_of.binds (ps := ["realms"]) fun _ _ _ _ _ _ us hl => match us, hl with | [_], _ => rfl
  have A_meet_of : Fn K mg "meet_of" s_meet_of ["realms"] := ⟨_, _, F_meet_of, PySem.W.mg_of X G a27, b_meet_of⟩
  have F_realms_of := fun_mk (st := s_realms_of) l28 c28 k28
  have b_realms_of := F_realms_of.binds (ps := ["verdicts", "right"]) fun _ _ _ _ _ _ us hl => match us, hl with | [_, _], _ => rfl
  have A_realms_of : Fn K mg "realms_of" s_realms_of ["verdicts", "right"] := ⟨_, _, F_realms_of, PySem.W.mg_of X G a28, b_realms_of⟩
  have F_lies_in_one := fun_mk (st := s_lies_in_one) l29 c29 k29
  have b_lies_in_one := F_lies_in_one.binds (ps := ["realm", "others"]) fun _ _ _ _ _ _ us hl => match us, hl with | [_, _], _ => rfl
  have A_lies_in_one : Fn K mg "lies_in_one" s_lies_in_one ["realm", "others"] := ⟨_, _, F_lies_in_one, PySem.W.mg_of X G a29, b_lies_in_one⟩
  have F_l_bag := fun_mk (st := s_l_bag) l30 c30 k30
  have b_l_bag := F_l_bag.binds (ps := ["_law_script"]) fun _ _ _ _ _ _ us hl => match us, hl with | [_], _ => rfl
  have A_l_bag : Fn K mg "_law_bag" s_l_bag ["_law_script"] := ⟨_, _, F_l_bag, PySem.W.mg_of X G a30, b_l_bag⟩
  have F_l_draw := fun_mk (st := s_l_draw) l31 c31 k31
  have b_l_draw := F_l_draw.binds (ps := ["_law_bag_here", "_law_many"]) fun _ _ _ _ _ _ us hl => match us, hl with | [_, _], _ => rfl
  have A_l_draw : Fn K mg "_law_draw" s_l_draw ["_law_bag_here", "_law_many"] := ⟨_, _, F_l_draw, PySem.W.mg_of X G a31, b_l_draw⟩
  have F_l_pick := fun_mk (st := s_l_pick) l32 c32 k32
  have b_l_pick := F_l_pick.binds (ps := ["_law_bag_here", "_law_some"]) fun _ _ _ _ _ _ us hl => match us, hl with | [_, _], _ => rfl
  have A_l_pick : Fn K mg "_law_pick" s_l_pick ["_law_bag_here", "_law_some"] := ⟨_, _, F_l_pick, PySem.W.mg_of X G a32, b_l_pick⟩
  have F_l_same := fun_mk (st := s_l_same) l33 c33 k33
  have b_l_same := F_l_same.binds (ps := ["_law_found", "_law_due"]) fun _ _ _ _ _ _ us hl => match us, hl with | [_, _], _ => rfl
  have A_l_same : Fn K mg "_law_same" s_l_same ["_law_found", "_law_due"] := ⟨_, _, F_l_same, PySem.W.mg_of X G a33, b_l_same⟩
  have F_l_field := fun_mk (st := s_l_field) l34 c34 k34
  have b_l_field := F_l_field.binds (ps := ["_law_e"]) fun _ _ _ _ _ _ us hl => match us, hl with | [_], _ => rfl
  have A_l_field : Fn K mg "_law_field" s_l_field ["_law_e"] := ⟨_, _, F_l_field, PySem.W.mg_of X G a34, b_l_field⟩
  have F_l_got := fun_mk (st := s_l_got) l35 c35 k35
  have b_l_got := F_l_got.binds (ps := ["_law_ask"]) fun _ _ _ _ _ _ us hl => match us, hl with | [_], _ => rfl
  have A_l_got : Fn K mg "_law_got" s_l_got ["_law_ask"] := ⟨_, _, F_l_got, PySem.W.mg_of X G a35, b_l_got⟩
  have F_l_gcd := fun_mk (st := s_l_gcd) l36 c36 k36
  have b_l_gcd := F_l_gcd.binds (ps := ["_law_a", "_law_b"]) fun _ _ _ _ _ _ us hl => match us, hl with | [_, _], _ => rfl
  have A_l_gcd : Fn K mg "_law_gcd" s_l_gcd ["_law_a", "_law_b"] := ⟨_, _, F_l_gcd, PySem.W.mg_of X G a36, b_l_gcd⟩
  have F_l_lcm := fun_mk (st := s_l_lcm) l37 c37 k37
  have b_l_lcm := F_l_lcm.binds (ps := ["_law_a", "_law_b"]) fun _ _ _ _ _ _ us hl => match us, hl with | [_, _], _ => rfl
  have A_l_lcm : Fn K mg "_law_lcm" s_l_lcm ["_law_a", "_law_b"] := ⟨_, _, F_l_lcm, PySem.W.mg_of X G a37, b_l_lcm⟩
  have F_l_divides := fun_mk (st := s_l_divides) l38 c38 k38
  have b_l_divides := F_l_divides.binds (ps := ["_law_a", "_law_b"]) fun _ _ _ _ _ _ us hl => match us, hl with | [_, _], _ => rfl
  have A_l_divides : Fn K mg "_law_divides" s_l_divides ["_law_a", "_law_b"] := ⟨_, _, F_l_divides, PySem.W.mg_of X G a38, b_l_divides⟩
  have F_l_strip := fun_mk (st := s_l_strip) l39 c39 k39
  have b_l_strip := F_l_strip.binds (ps := ["_law_number", "_law_base"]) fun _ _ _ _ _ _ us hl => match us, hl with | [_, _], _ => rfl
  have A_l_strip : Fn K mg "_law_strip" s_l_strip ["_law_number", "_law_base"] := ⟨_, _, F_l_strip, PySem.W.mg_of X G a39, b_l_strip⟩
  have F_l_radical := fun_mk (st := s_l_radical) l40 c40 k40
  have b_l_radical := F_l_radical.binds (ps := ["_law_number"]) fun _ _ _ _ _ _ us hl => match us, hl with | [_], _ => rfl
  have A_l_radical : Fn K mg "_law_radical" s_l_radical ["_law_number"] := ⟨_, _, F_l_radical, PySem.W.mg_of X G a40, b_l_radical⟩
  have F_l_product := fun_mk (st := s_l_product) l41 c41 k41
  have b_l_product := F_l_product.binds (ps := ["_law_numbers"]) fun _ _ _ _ _ _ us hl => match us, hl with | [_], _ => rfl
  have A_l_product : Fn K mg "_law_product" s_l_product ["_law_numbers"] := ⟨_, _, F_l_product, PySem.W.mg_of X G a41, b_l_product⟩
  have F_l_settled := fun_mk (st := s_l_settled) l42 c42 k42
  have b_l_settled := F_l_settled.binds (ps := ["_law_d", "_law_o", "_law_s", "_law_t"]) fun _ _ _ _ _ _ us hl => match us, hl with | [_, _, _, _], _ => rfl
  have A_l_settled : Fn K mg "_law_settled" s_l_settled ["_law_d", "_law_o", "_law_s", "_law_t"] := ⟨_, _, F_l_settled, PySem.W.mg_of X G a42, b_l_settled⟩
  have F_l_realm := fun_mk (st := s_l_realm) l43 c43 k43
  have b_l_realm := F_l_realm.binds (ps := ["_law_numbers"]) fun _ _ _ _ _ _ us hl => match us, hl with | [_], _ => rfl
  have A_l_realm : Fn K mg "_law_realm" s_l_realm ["_law_numbers"] := ⟨_, _, F_l_realm, PySem.W.mg_of X G a43, b_l_realm⟩
  have F_l_settle := fun_mk (st := s_l_settle) l44 c44 k44
  have b_l_settle := F_l_settle.binds (ps := ["_law_numbers"]) fun _ _ _ _ _ _ us hl => match us, hl with | [_], _ => rfl
  have A_l_settle : Fn K mg "_law_settle" s_l_settle ["_law_numbers"] := ⟨_, _, F_l_settle, PySem.W.mg_of X G a44, b_l_settle⟩
  have F_l_inside := fun_mk (st := s_l_inside) l45 c45 k45
  have b_l_inside := F_l_inside.binds (ps := ["_law_ring_z", "_law_realm_z"]) fun _ _ _ _ _ _ us hl => match us, hl with | [_, _], _ => rfl
  have A_l_inside : Fn K mg "_law_inside" s_l_inside ["_law_ring_z", "_law_realm_z"] := ⟨_, _, F_l_inside, PySem.W.mg_of X G a45, b_l_inside⟩
  have F_l_lies := fun_mk (st := s_l_lies) l46 c46 k46
  have b_l_lies := F_l_lies.binds (ps := ["_law_one", "_law_two"]) fun _ _ _ _ _ _ us hl => match us, hl with | [_, _], _ => rfl
  have A_l_lies : Fn K mg "_law_lies" s_l_lies ["_law_one", "_law_two"] := ⟨_, _, F_l_lies, PySem.W.mg_of X G a46, b_l_lies⟩
  have F_l_meet := fun_mk (st := s_l_meet) l47 c47 k47
  have b_l_meet := F_l_meet.binds (ps := ["_law_one", "_law_two"]) fun _ _ _ _ _ _ us hl => match us, hl with | [_, _], _ => rfl
  have A_l_meet : Fn K mg "_law_meet" s_l_meet ["_law_one", "_law_two"] := ⟨_, _, F_l_meet, PySem.W.mg_of X G a47, b_l_meet⟩
  have F_l_log := fun_mk (st := s_l_log) l48 c48 k48
  have b_l_log := F_l_log.binds (ps := ["_law_bag_here", "_law_many"]) fun _ _ _ _ _ _ us hl => match us, hl with | [_, _], _ => rfl
  have A_l_log : Fn K mg "_law_log" s_l_log ["_law_bag_here", "_law_many"] := ⟨_, _, F_l_log, PySem.W.mg_of X G a48, b_l_log⟩
  have F_l_wide_realm := fun_mk (st := s_l_wide_realm) l49 c49 k49
  have b_l_wide_realm := F_l_wide_realm.binds (ps := ["_law_bag_here"]) fun _ _ _ _ _ _ us hl => match us, hl with | [_], _ => rfl
  have A_l_wide_realm : Fn K mg "_law_wide_realm" s_l_wide_realm ["_law_bag_here"] := ⟨_, _, F_l_wide_realm, PySem.W.mg_of X G a49, b_l_wide_realm⟩
  have F_l_meets := fun_mk (st := s_l_meets) l50 c50 k50
  have b_l_meets := F_l_meets.binds (ps := ["_law_rows"]) fun _ _ _ _ _ _ us hl => match us, hl with | [_], _ => rfl
  have A_l_meets : Fn K mg "_law_meets" s_l_meets ["_law_rows"] := ⟨_, _, F_l_meets, PySem.W.mg_of X G a50, b_l_meets⟩
  have F_l_refusal := fun_mk (st := s_l_refusal) l51 c51 k51
  have b_l_refusal := F_l_refusal.binds (ps := ["_law_rows", "_law_numbers", "_law_way"]) fun _ _ _ _ _ _ us hl => match us, hl with | [_, _, _], _ => rfl
  have A_l_refusal : Fn K mg "_law_refusal" s_l_refusal ["_law_rows", "_law_numbers", "_law_way"] := ⟨_, _, F_l_refusal, PySem.W.mg_of X G a51, b_l_refusal⟩
  have F_law := fun_mk (st := s_law) l52 c52 k52
  have b_law := F_law.binds (ps := ["_law_script"]) fun _ _ _ _ _ _ us hl => match us, hl with | [_], _ => rfl
  have A_law : Fn K mg "law" s_law ["_law_script"] := ⟨_, _, F_law, PySem.W.mg_of X G a52, b_law⟩
  have B : Blt mg := ⟨PySem.W.mg_none_of X G z_IndexError, PySem.W.mg_none_of X G z_LookupError, PySem.W.mg_none_of X G z_ValueError, PySem.W.mg_none_of X G z_abs, PySem.W.mg_none_of X G z_all, PySem.W.mg_none_of X G z_any, PySem.W.mg_none_of X G z_bool, PySem.W.mg_none_of X G z_divmod, PySem.W.mg_none_of X G z_enumerate, PySem.W.mg_none_of X G z_int, PySem.W.mg_none_of X G z_isinstance, PySem.W.mg_none_of X G z_len, PySem.W.mg_none_of X G z_list, PySem.W.mg_none_of X G z_max, PySem.W.mg_none_of X G z_range, PySem.W.mg_none_of X G z_sorted, PySem.W.mg_none_of X G z_str, PySem.W.mg_none_of X G z_tuple, PySem.W.mg_none_of X G z_zip⟩
  have E_InvalidNumber : PySem.ErrX.ErrTxt l.prog K mg "InvalidNumber" "given" "InvalidNumber" C_InvalidNumber f_InvalidNumber x_InvalidNumber d_InvalidNumber := ⟨PySem.W.mg_of X G ea_InvalidNumber, PySem.W.mg_none_of X G z_super, ⟨_, _, _, _, _, _, _, _, _, _, _, _, _, _, _, eb_InvalidNumber, ec_InvalidNumber, ed_InvalidNumber⟩, ee_InvalidNumber, ef_InvalidNumber, eg_InvalidNumber, eh_InvalidNumber, ei_InvalidNumber, ej_InvalidNumber, ek_InvalidNumber, el_InvalidNumber, em_InvalidNumber, en_InvalidNumber, eo_InvalidNumber, ep_InvalidNumber, eq_InvalidNumber, opq, ⟨_, _, _, et_InvalidNumber⟩, ⟨_, _, _, _, _, _, eu_InvalidNumber, ev_InvalidNumber, ew_InvalidNumber⟩, topSuper, ⟨_, _, _, _, _, _, _, _, _, _, _, _, _, _, _, _, _, _, _, _, _, _, _, _, _, _, _, er_InvalidNumber, es_InvalidNumber, fun s a b => .of_eq rfl, ex_InvalidNumber⟩, by decide, by decide, by decide, by decide, by decide⟩
  have xf_InvalidNumber : XfC K C_InvalidNumber := ⟨ef_InvalidNumber, eg_InvalidNumber, em_InvalidNumber, eq_InvalidNumber⟩
  have E_Unsound : PySem.ErrX.ErrTxt l.prog K mg "Unsound" "number" "Unsound" C_Unsound f_Unsound x_Unsound d_Unsound := ⟨PySem.W.mg_of X G ea_Unsound, PySem.W.mg_none_of X G z_super, ⟨_, _, _, _, _, _, _, _, _, _, _, _, _, _, _, eb_Unsound, ec_Unsound, ed_Unsound⟩, ee_Unsound, ef_Unsound, eg_Unsound, eh_Unsound, ei_Unsound, ej_Unsound, ek_Unsound, el_Unsound, em_Unsound, en_Unsound, eo_Unsound, ep_Unsound, eq_Unsound, opq, ⟨_, _, _, et_Unsound⟩, ⟨_, _, _, _, _, _, eu_Unsound, ev_Unsound, ew_Unsound⟩, topSuper, ⟨_, _, _, _, _, _, _, _, _, _, _, _, _, _, _, _, _, _, _, _, _, _, _, _, _, _, _, er_Unsound, es_Unsound, fun s a b => .of_eq rfl, ex_Unsound⟩, by decide, by decide, by decide, by decide, by decide⟩
  have xf_Unsound : XfC K C_Unsound := ⟨ef_Unsound, eg_Unsound, em_Unsound, eq_Unsound⟩
  have gC_Realm : mg "Realm" = some (.ref C_Realm) := PySem.W.mg_of X G cg_Realm
  have cl_Realm : Cls K C_Realm := ⟨c1_Realm, c2_Realm, c3_Realm, c4_Realm⟩
  have rd_Realm : ClX.CRead K C_Realm (.type "type") := ⟨c5_Realm, c6_Realm⟩
  have D_Realm_init : FunD K "__init__" "Realm.__init__" (defArgs s_Realm_init) (defBody s_Realm_init) (defScope s_Realm_init) [] [("inverse", .int 1), ("ones", .int 0), ("swaps", .int 0), ("squares", .int 0)] f_Realm_init _ := ⟨⟨_, _, _, _, _, _, _, _, _, _, rfl, l_Realm_init, c_Realm_init, .inl ⟨rfl, rfl⟩, .inr ⟨_, rfl, fun q hq => match q, hq with | _, .head _ => ⟨_, kw_Realm_init_inverse, ⟨_, rfl⟩⟩ | _, .tail _ (.head _) => ⟨_, kw_Realm_init_ones, ⟨_, rfl⟩⟩ | _, .tail _ (.tail _ (.head _)) => ⟨_, kw_Realm_init_swaps, ⟨_, rfl⟩⟩ | _, .tail _ (.tail _ (.tail _ (.head _))) => ⟨_, kw_Realm_init_squares, ⟨_, rfl⟩⟩⟩⟩, k_Realm_init⟩
  have mk1_Realm : Mk K C_Realm f_Realm_init := ⟨mk_Realm, ma_Realm_init, mb_Realm_init, kc_Realm⟩
  have F_Realm_inverse := fun_mk (st := s_Realm_inverse) l_Realm_inverse c_Realm_inverse k_Realm_inverse
  have b_Realm_inverse := F_Realm_inverse.binds (ps := ["self"]) fun _ _ _ _ _ _ us hl => match us, hl with | [_], _ => rfl
  have po_Realm_inverse : PropOf K C_Realm "inverse" p_Realm_inverse f_Realm_inverse := ⟨pa_Realm_inverse, pb_Realm_inverse, pc_Realm_inverse, ⟨_, pd_Realm_inverse⟩⟩
  have F_Realm_ones := fun_mk (st := s_Realm_ones) l_Realm_ones c_Realm_ones k_Realm_ones
  have b_Realm_ones := F_Realm_ones.binds (ps := ["self"]) fun _ _ _ _ _ _ us hl => match us, hl with | [_], _ => rfl
  have po_Realm_ones : PropOf K C_Realm "ones" p_Realm_ones f_Realm_ones := ⟨pa_Realm_ones, pb_Realm_ones, pc_Realm_ones, ⟨_, pd_Realm_ones⟩⟩
  have F_Realm_swaps := fun_mk (st := s_Realm_swaps) l_Realm_swaps c_Realm_swaps k_Realm_swaps
  have b_Realm_swaps := F_Realm_swaps.binds (ps := ["self"]) fun _ _ _ _ _ _ us hl => match us, hl with | [_], _ => rfl
  have po_Realm_swaps : PropOf K C_Realm "swaps" p_Realm_swaps f_Realm_swaps := ⟨pa_Realm_swaps, pb_Realm_swaps, pc_Realm_swaps, ⟨_, pd_Realm_swaps⟩⟩
  have F_Realm_squares := fun_mk (st := s_Realm_squares) l_Realm_squares c_Realm_squares k_Realm_squares
  have b_Realm_squares := F_Realm_squares.binds (ps := ["self"]) fun _ _ _ _ _ _ us hl => match us, hl with | [_], _ => rfl
  have po_Realm_squares : PropOf K C_Realm "squares" p_Realm_squares f_Realm_squares := ⟨pa_Realm_squares, pb_Realm_squares, pc_Realm_squares, ⟨_, pd_Realm_squares⟩⟩
  have F_Realm_everywhere := fun_mk (st := s_Realm_everywhere) l_Realm_everywhere c_Realm_everywhere k_Realm_everywhere
  have b_Realm_everywhere := F_Realm_everywhere.binds (ps := []) fun _ _ _ _ _ _ us hl => match us, hl with | [], _ => rfl
  have st_Realm_everywhere : OwO.CStat K C_Realm (.type "type") "everywhere" p_Realm_everywhere f_Realm_everywhere := ⟨sa_Realm_everywhere, ⟨_, sb_Realm_everywhere⟩⟩
  have F_Realm_eq := fun_mk (st := s_Realm_eq) l_Realm_eq c_Realm_eq k_Realm_eq
  have b_Realm_eq := F_Realm_eq.binds (ps := ["self", "other"]) fun _ _ _ _ _ _ us hl => match us, hl with | [_, _], _ => rfl
  have sp_Realm_eq : OwO.Spc K C_Realm "__eq__" f_Realm_eq := ⟨ma_Realm_eq, mb_Realm_eq⟩
  have F_Realm_and := fun_mk (st := s_Realm_and) l_Realm_and c_Realm_and k_Realm_and
  have b_Realm_and := F_Realm_and.binds (ps := ["self", "other"]) fun _ _ _ _ _ _ us hl => match us, hl with | [_, _], _ => rfl
  have sp_Realm_and : OwO.Spc K C_Realm "__and__" f_Realm_and := ⟨ma_Realm_and, mb_Realm_and⟩
  have F_Realm_bool := fun_mk (st := s_Realm_bool) l_Realm_bool c_Realm_bool k_Realm_bool
  have b_Realm_bool := F_Realm_bool.binds (ps := ["self"]) fun _ _ _ _ _ _ us hl => match us, hl with | [_], _ => rfl
  have sp_Realm_bool : OwO.Spc K C_Realm "__bool__" f_Realm_bool := ⟨ma_Realm_bool, mb_Realm_bool⟩
  have F_Realm_within := fun_mk (st := s_Realm_within) l_Realm_within c_Realm_within k_Realm_within
  have b_Realm_within := F_Realm_within.binds (ps := ["self", "other"]) fun _ _ _ _ _ _ us hl => match us, hl with | [_, _], _ => rfl
  have me_Realm_within : Meth K C_Realm "within" f_Realm_within := ⟨ma_Realm_within, mb_Realm_within, k_Realm_within⟩
  have gC_Timeline : mg "Timeline" = some (.ref C_Timeline) := PySem.W.mg_of X G cg_Timeline
  have cl_Timeline : Cls K C_Timeline := ⟨c1_Timeline, c2_Timeline, c3_Timeline, c4_Timeline⟩
  have rd_Timeline : ClX.CRead K C_Timeline (.type "type") := ⟨c5_Timeline, c6_Timeline⟩
  have F_Timeline_init := fun_mk (st := s_Timeline_init) l_Timeline_init c_Timeline_init k_Timeline_init
  have b_Timeline_init := F_Timeline_init.binds (ps := ["self", "state"]) fun _ _ _ _ _ _ us hl => match us, hl with | [_, _], _ => rfl
  have mk1_Timeline : Mk K C_Timeline f_Timeline_init := ⟨mk_Timeline, ma_Timeline_init, mb_Timeline_init, kc_Timeline⟩
  have F_Timeline_move := fun_mk (st := s_Timeline_move) l_Timeline_move c_Timeline_move k_Timeline_move
  have b_Timeline_move := F_Timeline_move.binds (ps := ["self", "state"]) fun _ _ _ _ _ _ us hl => match us, hl with | [_, _], _ => rfl
  have me_Timeline_move : Meth K C_Timeline "move" f_Timeline_move := ⟨ma_Timeline_move, mb_Timeline_move, k_Timeline_move⟩
  have F_Timeline_twin := fun_mk (st := s_Timeline_twin) l_Timeline_twin c_Timeline_twin k_Timeline_twin
  have b_Timeline_twin := F_Timeline_twin.binds (ps := ["self"]) fun _ _ _ _ _ _ us hl => match us, hl with | [_], _ => rfl
  have me_Timeline_twin : Meth K C_Timeline "twin" f_Timeline_twin := ⟨ma_Timeline_twin, mb_Timeline_twin, k_Timeline_twin⟩
  have gC_Unseen : mg "Unseen" = some (.ref C_Unseen) := PySem.W.mg_of X G cg_Unseen
  have cl_Unseen : Cls K C_Unseen := ⟨c1_Unseen, c2_Unseen, c3_Unseen, c4_Unseen⟩
  have rd_Unseen : ClX.CRead K C_Unseen (.type "type") := ⟨c5_Unseen, c6_Unseen⟩
  have F_Unseen_init := fun_mk (st := s_Unseen_init) l_Unseen_init c_Unseen_init k_Unseen_init
  have b_Unseen_init := F_Unseen_init.binds (ps := ["self"]) fun _ _ _ _ _ _ us hl => match us, hl with | [_], _ => rfl
  have mk1_Unseen : Mk K C_Unseen f_Unseen_init := ⟨mk_Unseen, ma_Unseen_init, mb_Unseen_init, kc_Unseen⟩
  have F_Unseen_len := fun_mk (st := s_Unseen_len) l_Unseen_len c_Unseen_len k_Unseen_len
  have b_Unseen_len := F_Unseen_len.binds (ps := ["self"]) fun _ _ _ _ _ _ us hl => match us, hl with | [_], _ => rfl
  have sp_Unseen_len : OwO.Spc K C_Unseen "__len__" f_Unseen_len := ⟨ma_Unseen_len, mb_Unseen_len⟩
  have F_Unseen_note := fun_mk (st := s_Unseen_note) l_Unseen_note c_Unseen_note k_Unseen_note
  have b_Unseen_note := F_Unseen_note.binds (ps := ["self", "realm", "right"]) fun _ _ _ _ _ _ us hl => match us, hl with | [_, _, _], _ => rfl
  have me_Unseen_note : Meth K C_Unseen "note" f_Unseen_note := ⟨ma_Unseen_note, mb_Unseen_note, k_Unseen_note⟩
  have F_Unseen__check_space := fun_mk (st := s_Unseen__check_space) l_Unseen__check_space c_Unseen__check_space k_Unseen__check_space
  have b_Unseen__check_space := F_Unseen__check_space.binds (ps := ["self"]) fun _ _ _ _ _ _ us hl => match us, hl with | [_], _ => rfl
  have me_Unseen__check_space : Meth K C_Unseen "_check_space" f_Unseen__check_space := ⟨ma_Unseen__check_space, mb_Unseen__check_space, k_Unseen__check_space⟩
  have F_Unseen__check_right := fun_mk (st := s_Unseen__check_right) l_Unseen__check_right c_Unseen__check_right k_Unseen__check_right
  have b_Unseen__check_right := F_Unseen__check_right.binds (ps := ["self", "realm"]) fun _ _ _ _ _ _ us hl => match us, hl with | [_, _], _ => rfl
  have me_Unseen__check_right : Meth K C_Unseen "_check_right" f_Unseen__check_right := ⟨ma_Unseen__check_right, mb_Unseen__check_right, k_Unseen__check_right⟩
  have F_Unseen_withdraw := fun_mk (st := s_Unseen_withdraw) l_Unseen_withdraw c_Unseen_withdraw k_Unseen_withdraw
  have b_Unseen_withdraw := F_Unseen_withdraw.binds (ps := ["self", "number"]) fun _ _ _ _ _ _ us hl => match us, hl with | [_, _], _ => rfl
  have me_Unseen_withdraw : Meth K C_Unseen "withdraw" f_Unseen_withdraw := ⟨ma_Unseen_withdraw, mb_Unseen_withdraw, k_Unseen_withdraw⟩
  have F_Unseen_verdicts := fun_mk (st := s_Unseen_verdicts) l_Unseen_verdicts c_Unseen_verdicts k_Unseen_verdicts
  have b_Unseen_verdicts := F_Unseen_verdicts.binds (ps := ["self"]) fun _ _ _ _ _ _ us hl => match us, hl with | [_], _ => rfl
  have me_Unseen_verdicts : Meth K C_Unseen "verdicts" f_Unseen_verdicts := ⟨ma_Unseen_verdicts, mb_Unseen_verdicts, k_Unseen_verdicts⟩
  have F_Unseen_meet := fun_mk (st := s_Unseen_meet) l_Unseen_meet c_Unseen_meet k_Unseen_meet
  have b_Unseen_meet := F_Unseen_meet.binds (ps := ["self"]) fun _ _ _ _ _ _ us hl => match us, hl with | [_], _ => rfl
  have me_Unseen_meet : Meth K C_Unseen "meet" f_Unseen_meet := ⟨ma_Unseen_meet, mb_Unseen_meet, k_Unseen_meet⟩
  have F_Unseen_judge := fun_mk (st := s_Unseen_judge) l_Unseen_judge c_Unseen_judge k_Unseen_judge
  have b_Unseen_judge := F_Unseen_judge.binds (ps := ["self", "realm"]) fun _ _ _ _ _ _ us hl => match us, hl with | [_, _], _ => rfl
  have me_Unseen_judge : Meth K C_Unseen "judge" f_Unseen_judge := ⟨ma_Unseen_judge, mb_Unseen_judge, k_Unseen_judge⟩
  have F_Unseen_needless := fun_mk (st := s_Unseen_needless) l_Unseen_needless c_Unseen_needless k_Unseen_needless
  have b_Unseen_needless := F_Unseen_needless.binds (ps := ["self"]) fun _ _ _ _ _ _ us hl => match us, hl with | [_], _ => rfl
  have me_Unseen_needless : Meth K C_Unseen "needless" f_Unseen_needless := ⟨ma_Unseen_needless, mb_Unseen_needless, k_Unseen_needless⟩
  have F_Unseen__is_needless := fun_mk (st := s_Unseen__is_needless) l_Unseen__is_needless c_Unseen__is_needless k_Unseen__is_needless
  have b_Unseen__is_needless := F_Unseen__is_needless.binds (ps := ["self", "verdict"]) fun _ _ _ _ _ _ us hl => match us, hl with | [_, _], _ => rfl
  have me_Unseen__is_needless : Meth K C_Unseen "_is_needless" f_Unseen__is_needless := ⟨ma_Unseen__is_needless, mb_Unseen__is_needless, k_Unseen__is_needless⟩
  have F_Unseen_twin := fun_mk (st := s_Unseen_twin) l_Unseen_twin c_Unseen_twin k_Unseen_twin
  have b_Unseen_twin := F_Unseen_twin.binds (ps := ["self"]) fun _ _ _ _ _ _ us hl => match us, hl with | [_], _ => rfl
  have me_Unseen_twin : Meth K C_Unseen "twin" f_Unseen_twin := ⟨ma_Unseen_twin, mb_Unseen_twin, k_Unseen_twin⟩
  have T : Txt mg := ⟨⟨_, PySem.W.mg_of X G m_MOST_RADICAL⟩, PySem.W.mg_of X G m_gcd⟩
  have TM : TxtM mg := ⟨PySem.W.mg_of X G m_lcm⟩
  have e := hfa.symm.trans (PySem.W.mg_of X G a52)
  cases e
  have R : RCls K C_Realm (.type "type") := ⟨cl_Realm, no_Realm__normal, rd_Realm, ia_Realm, ib_Realm, ic_Realm, id_Realm, ff0_Realm, ff1_Realm, ff2_Realm⟩
  have RL : TCls K C_Timeline := ⟨cl_Timeline, no_Timeline_state, no_Timeline__undone, no_Timeline__done⟩
  have RU : UCls K C_Unseen := ⟨cl_Unseen, no_Unseen__line⟩
  refine ⟨PySem.W.fnOf "law" "law" (defArgs s_law) (defBody s_law) (defScope s_law) .none kV52 dc52 pm52 an52 cd52 ct52, [(cL, PL)], spLaw K PL, fun p hp => ?_, fun p hp => ?_, fun p hp => ?_, fun s v => .of_eq rfl, fun H a ns hl _ hT hS => ⟨a, ns, rfl, hS, hl, hT _ List.mem_cons_self, fun _ => rfl⟩, fun base _ _ hB => ?_⟩
  · rw [List.mem_singleton.mp hp]
    exact lP
  · rw [List.mem_singleton.mp hp]
    exact lN
  · rw [List.mem_singleton.mp hp]
    exact PySem.W.codeHd_of_K X lH
  subst lcd
  have G1 := ok_draw (P := l.prog) (w := w) (base := base) A_l_draw B
  have G2 := ok_pick A_l_pick B G1
  have G3 := ok_is_int (P := l.prog) (w := w) (base := base) A_is_int B
  have G4 := ok_stripped (P := l.prog) (w := w) (base := base) A_stripped T
  have G5 := ok_radical A_radical T E_InvalidNumber (ok_is_between A_is_between G3) G4
  have G8 := ok_common (P := l.prog) (w := w) (base := base) ⟨_, _, F_common, mgf_common⟩ T
  have G8m := ok_multiple (P := l.prog) (w := w) (base := base) ⟨_, _, F_multiple, mgf_multiple⟩ TM
  have G9 := ok_normal A_normal_numbers B G8 G4
  have GD := ok_divides (P := l.prog) (w := w) (base := base) A_divides
  have MK := ok_init D_Realm_init mk1_Realm gC_Realm R E_InvalidNumber G5 G3 G9
  have P1 := ok_inverse (P := l.prog) (w := w) (mg := mg) (base := base) R F_Realm_inverse po_Realm_inverse b_Realm_inverse
  have P2 := ok_ones (P := l.prog) (w := w) (mg := mg) (base := base) R F_Realm_ones po_Realm_ones b_Realm_ones
  have P3 := ok_swaps (P := l.prog) (w := w) (mg := mg) (base := base) R F_Realm_swaps po_Realm_swaps b_Realm_swaps
  have P4 := ok_squares (P := l.prog) (w := w) (mg := mg) (base := base) R F_Realm_squares po_Realm_squares b_Realm_squares
  have E1 := ok_eqR (P := l.prog) (w := w) (base := base) R gC_Realm B F_Realm_eq
  have BL := ok_boolR (P := l.prog) (w := w) (base := base) R B F_Realm_bool P2
  have WI : HasM l.prog w K mg base 3 C_Realm "within" ["self", "other"] (spWithin C_Realm) := ⟨ok_within ⟨_, _, F_Realm_within, me_Realm_within, b_Realm_within⟩ R B GD G8 P1 P2 P3 P4⟩
  have RW := ok_realm_with A_realm_with R MK G9
  have AN := ok_and F_Realm_and R gC_Realm B RW G8m G8 P1 P2 P3 P4
  have EV := ok_everywhere MK F_Realm_everywhere st_Realm_everywhere b_Realm_everywhere
  have RO := ok_realms_of (P := l.prog) (w := w) (base := base) (C := C_Realm) A_realms_of
  have MO := ok_meet_of A_meet_of R gC_Realm EV sp_Realm_and AN b_Realm_and ff3_Realm
  have LI := ok_lies A_lies_in_one R B WI
  have LI0 := ok_line_init (P := l.prog) (w := w) (mg := mg) (base := base) F_Timeline_init RL
  have MKT : HasCX l.prog w K mg base 2 "Timeline" C_Timeline ["self", "state"] (spLineInit C_Timeline) := ⟨_, _, mk1_Timeline, LI0, gC_Timeline, b_Timeline_init⟩
  have MV := ok_move (P := l.prog) (w := w) (mg := mg) (base := base) ⟨_, _, F_Timeline_move, me_Timeline_move, b_Timeline_move⟩ RL
  have LT := ok_ltwin ⟨_, _, F_Timeline_twin, me_Timeline_twin, b_Timeline_twin⟩ RL B MKT
  have UI := ok_uinit (CM := C_Realm) F_Unseen_init RU MKT
  have MKU : HasCX l.prog w K mg base 4 "Unseen" C_Unseen ["self"] (spUInit C_Unseen C_Timeline C_Realm) := ⟨_, _, mk1_Unseen, UI, gC_Unseen, b_Unseen_init⟩
  have VE := ok_verdicts (P := l.prog) (w := w) (base := base) (CM := C_Realm) ⟨_, _, F_Unseen_verdicts, me_Unseen_verdicts, b_Unseen_verdicts⟩ RU RL B
  have ME := ok_umeet ⟨_, _, F_Unseen_meet, me_Unseen_meet, b_Unseen_meet⟩ RU RL MO RO
  have LN := ok_ulen (P := l.prog) (w := w) (base := base) (CM := C_Realm) F_Unseen_len RU RL B
  have CN : Con K C_Unseen "MOST" (.int 40) (.int 40 uMO) := ⟨mo, ⟨_, rfl⟩, mp, by decide +kernel⟩
  have SPC := ok_space ⟨_, _, F_Unseen__check_space, me_Unseen__check_space, b_Unseen__check_space⟩ RU B sp_Unseen_len LN b_Unseen_len CN
  have JU := ok_judge ⟨_, _, F_Unseen_judge, me_Unseen_judge, b_Unseen_judge⟩ RU RL R ME WI LI RO sp_Realm_and AN b_Realm_and ff3_Realm sp_Realm_bool BL b_Realm_bool
  have IN := ok_is_needless ⟨_, _, F_Unseen__is_needless, me_Unseen__is_needless, b_Unseen__is_needless⟩ RU RL R ME LI MO RO sp_Realm_and AN b_Realm_and ff3_Realm sp_Realm_bool BL b_Realm_bool sp_Realm_eq E1 b_Realm_eq
  have NE := ok_needless ⟨_, _, F_Unseen_needless, me_Unseen_needless, b_Unseen_needless⟩ RU RL IN
  have CH := ok_check ⟨_, _, F_Unseen__check_right, me_Unseen__check_right, b_Unseen__check_right⟩ RU RL R E_Unsound ME WI sp_Realm_and AN b_Realm_and ff3_Realm sp_Realm_bool BL b_Realm_bool
  have NO := ok_note ⟨_, _, F_Unseen_note, me_Unseen_note, b_Unseen_note⟩ RU RL R E_Unsound ME WI SPC CH MV
  have WD := ok_withdraw (CM := C_Realm) ⟨_, _, F_Unseen_withdraw, me_Unseen_withdraw, b_Unseen_withdraw⟩ RU RL B G3 MV
  have TW := ok_utwin ⟨_, _, F_Unseen_twin, me_Unseen_twin, b_Unseen_twin⟩ RU RL LT MKU
  have gc := ok_gcd (P := l.prog) (w := w) (base := base) A_l_gcd B
  have G6 := ok_l_strip A_l_strip gc
  have G7 := ok_l_radical A_l_radical B (ok_l_product (P := l.prog) (w := w) (base := base) A_l_product)
  have SD := ok_l_settled A_l_settled gc G6
  have SE := ok_l_settle A_l_settle G7 SD
  have LR := ok_l_realm A_l_realm MK
  have DV := ok_l_dvd (P := l.prog) (w := w) (base := base) A_l_divides B
  have LL := ok_l_lies A_l_lies gc DV (ok_l_inside A_l_inside B DV)
  have LM := ok_l_meet A_l_meet gc (ok_l_lcm A_l_lcm B gc) SD
  have RF := ok_l_refusal A_l_refusal (ok_l_meets A_l_meets LM) LM LL
  have WR := ok_l_wide A_l_wide_realm G2
  have LG := ok_l_log l48 c48 k48 (PySem.W.mg_of X G a48) b_l_log (hB _ List.mem_cons_self) (PySem.W.mg_of X G m_RingError) (PySem.W.mg_of X G m_Missing) (PySem.W.mg_of X G m_NothingLeft) hm xf_Unsound ei_Unsound eh_Unsound B RU MKU NO G1 WR SE RF LR (all_same A_l_same B 4) (ok_field A_l_field) A_l_got
  exact ok_law F_law B RU R (ok_bag A_l_bag B) G1 LG WR SE LR NE VE TW WD ME JU sp_Realm_and AN b_Realm_and ff3_Realm sp_Unseen_len LN b_Unseen_len
end My
open PySem PySem.W PySem.Calls PyProof.Rows
set_option maxRecDepth 100000 in
set_option maxHeartbeats 0 in
theorem PySem.Challenge.cw_numbertypes_k75_whole_needless_verdicts_holds : PySem.Challenge.rw_numbertypes_k75_whole_needless_verdicts.Holds := by
  w_on; o_law
  refine My.head_imp (r := My.rowT) (q := My.viewT) (K := My.fragK) (as := My.asK) (ek := fun _ => by kernel_rfl) (N := 60000) (loose := My.looseT) (d := My.defT) (kwd := []) My.runK (by kernel_rfl) (by kernel_rfl) (by kernel_rfl) (by rfl) (by first | assumption | decide +kernel) (by decide +kernel) ⟨rfl, rfl, rfl, rfl, rfl, by decide +kernel⟩ ?hw ?hc
  (case hw => w_witness2)
  k_fill
  refine LamX.walk_ofTs (l := PySem.Challenge.rw_numbertypes_k75_whole_needless_verdicts) (n := 63) (k := 15) (x := "_law_script") (CX := fun _ => L2.CX0) rfl (by decide) (by kernel_rfl) ⟨rfl, by decide, by decide⟩ (fun w h Y => My.in_tail Y (by kernel_rfl)) ?F (fun _ _ _ _ _ h => h)
  case F =>
    intro w mg fa h Y KX G hmg0
    have hmg : mg ("law" : PySem.Str) = some (.ref fa) := by
      have e : My.defT.name = ("law" : PySem.Str) := by kernel_rfl
      rw [← e]
      exact hmg0
    refine' My.all_mk KX G hmg ?z_super ?opq ?topSuper ?a1 ?l1 ?c1 ?k1 ?a2 ?l2 ?c2 ?k2 ?a3 ?l3 ?c3 ?k3 ?a4 ?l4 ?c4 ?k4 ?a5 ?l5 ?c5 ?k5 ?a6 ?l6 ?c6 ?k6 ?a7 ?l7 ?c7 ?k7 ?a8 ?l8 ?c8 ?k8 ?a9 ?l9 ?c9 ?k9 ?a10 ?l10 ?c10 ?k10 ?t10 ?a11 ?l11 ?c11 ?k11 ?a12 ?l12 ?c12 ?k12 ?a13 ?l13 ?c13 ?k13 ?a14 ?l14 ?c14 ?k14 ?a15 ?l15 ?c15 ?k15 ?a16 ?l16 ?c16 ?k16 ?a17 ?l17 ?c17 ?k17 ?a18 ?l18 ?c18 ?k18 ?a19 ?l19 ?c19 ?k19 ?a20 ?l20 ?c20 ?k20 ?a21 ?l21 ?c21 ?k21 ?a22 ?l22 ?c22 ?k22 ?a23 ?l23 ?c23 ?k23 ?a24 ?l24 ?c24 ?k24 ?a25 ?l25 ?c25 ?k25 ?a26 ?l26 ?c26 ?k26 ?a27 ?l27 ?c27 ?k27 ?a28 ?l28 ?c28 ?k28 ?a29 ?l29 ?c29 ?k29 ?a30 ?l30 ?c30 ?k30 ?a31 ?l31 ?c31 ?k31 ?a32 ?l32 ?c32 ?k32 ?a33 ?l33 ?c33 ?k33 ?a34 ?l34 ?c34 ?k34 ?a35 ?l35 ?c35 ?k35 ?a36 ?l36 ?c36 ?k36 ?a37 ?l37 ?c37 ?k37 ?a38 ?l38 ?c38 ?k38 ?a39 ?l39 ?c39 ?k39 ?a40 ?l40 ?c40 ?k40 ?a41 ?l41 ?c41 ?k41 ?a42 ?l42 ?c42 ?k42 ?a43 ?l43 ?c43 ?k43 ?a44 ?l44 ?c44 ?k44 ?a45 ?l45 ?c45 ?k45 ?a46 ?l46 ?c46 ?k46 ?a47 ?l47 ?c47 ?k47 ?a48 ?l48 ?c48 ?k48 ?a49 ?l49 ?c49 ?k49 ?a50 ?l50 ?c50 ?k50 ?a51 ?l51 ?c51 ?k51 ?a52 ?l52 ?c52 ?k52 ?z_IndexError ?z_LookupError ?z_ValueError ?z_abs ?z_all ?z_any ?z_bool ?z_divmod ?z_enumerate ?z_int ?z_isinstance ?z_len ?z_list ?z_max ?z_range ?z_sorted ?z_str ?z_tuple ?z_zip ?m_gcd ?m_lcm ?m_MOST_RADICAL ?m_MOST_MODULUS ?m_MOST_PART ?m_MOST_NUMBER ?ea_InvalidNumber ?eb_InvalidNumber ?ec_InvalidNumber ?ed_InvalidNumber ?ee_InvalidNumber ?ef_InvalidNumber ?eg_InvalidNumber ?eh_InvalidNumber ?ei_InvalidNumber ?ej_InvalidNumber ?ek_InvalidNumber ?el_InvalidNumber ?em_InvalidNumber ?en_InvalidNumber ?eo_InvalidNumber ?ep_InvalidNumber ?eq_InvalidNumber ?er_InvalidNumber ?es_InvalidNumber ?et_InvalidNumber ?eu_InvalidNumber ?ev_InvalidNumber ?ex_InvalidNumber ?ew_InvalidNumber ?ea_Unsound ?eb_Unsound ?ec_Unsound ?ed_Unsound ?ee_Unsound ?ef_Unsound ?eg_Unsound ?eh_Unsound ?ei_Unsound ?ej_Unsound ?ek_Unsound ?el_Unsound ?em_Unsound ?en_Unsound ?eo_Unsound ?ep_Unsound ?eq_Unsound ?er_Unsound ?es_Unsound ?et_Unsound ?eu_Unsound ?ev_Unsound ?ex_Unsound ?ew_Unsound ?cg_Realm ?c1_Realm ?c2_Realm ?c3_Realm ?c4_Realm ?c5_Realm ?c6_Realm ?ia_Realm ?ib_Realm ?ic_Realm ?id_Realm ?no_Realm__normal ?ff0_Realm ?ff1_Realm ?ff2_Realm ?ff3_Realm ?ma_Realm_init ?mb_Realm_init ?l_Realm_init ?c_Realm_init ?k_Realm_init ?kw_Realm_init_inverse ?kw_Realm_init_ones ?kw_Realm_init_swaps ?kw_Realm_init_squares ?mk_Realm ?kc_Realm ?pa_Realm_inverse ?pb_Realm_inverse ?pc_Realm_inverse ?pd_Realm_inverse ?l_Realm_inverse ?c_Realm_inverse ?k_Realm_inverse ?pa_Realm_ones ?pb_Realm_ones ?pc_Realm_ones ?pd_Realm_ones ?l_Realm_ones ?c_Realm_ones ?k_Realm_ones ?pa_Realm_swaps ?pb_Realm_swaps ?pc_Realm_swaps ?pd_Realm_swaps ?l_Realm_swaps ?c_Realm_swaps ?k_Realm_swaps ?pa_Realm_squares ?pb_Realm_squares ?pc_Realm_squares ?pd_Realm_squares ?l_Realm_squares ?c_Realm_squares ?k_Realm_squares ?sa_Realm_everywhere ?sb_Realm_everywhere ?l_Realm_everywhere ?c_Realm_everywhere ?k_Realm_everywhere ?ma_Realm_eq ?mb_Realm_eq ?l_Realm_eq ?c_Realm_eq ?k_Realm_eq ?ma_Realm_and ?mb_Realm_and ?l_Realm_and ?c_Realm_and ?k_Realm_and ?ma_Realm_bool ?mb_Realm_bool ?l_Realm_bool ?c_Realm_bool ?k_Realm_bool ?ma_Realm_within ?mb_Realm_within ?l_Realm_within ?c_Realm_within ?k_Realm_within ?cg_Timeline ?c1_Timeline ?c2_Timeline ?c3_Timeline ?c4_Timeline ?c5_Timeline ?c6_Timeline ?ia_Timeline ?ib_Timeline ?ic_Timeline ?id_Timeline ?no_Timeline_state ?no_Timeline__undone ?no_Timeline__done ?ma_Timeline_init ?mb_Timeline_init ?l_Timeline_init ?c_Timeline_init ?k_Timeline_init ?mk_Timeline ?kc_Timeline ?ma_Timeline_move ?mb_Timeline_move ?l_Timeline_move ?c_Timeline_move ?k_Timeline_move ?ma_Timeline_twin ?mb_Timeline_twin ?l_Timeline_twin ?c_Timeline_twin ?k_Timeline_twin ?cg_Unseen ?c1_Unseen ?c2_Unseen ?c3_Unseen ?c4_Unseen ?c5_Unseen ?c6_Unseen ?ia_Unseen ?ib_Unseen ?ic_Unseen ?id_Unseen ?no_Unseen__line ?ma_Unseen_init ?mb_Unseen_init ?l_Unseen_init ?c_Unseen_init ?k_Unseen_init ?mk_Unseen ?kc_Unseen ?ma_Unseen_len ?mb_Unseen_len ?l_Unseen_len ?c_Unseen_len ?k_Unseen_len ?ma_Unseen_note ?mb_Unseen_note ?l_Unseen_note ?c_Unseen_note ?k_Unseen_note ?ma_Unseen__check_space ?mb_Unseen__check_space ?l_Unseen__check_space ?c_Unseen__check_space ?k_Unseen__check_space ?ma_Unseen__check_right ?mb_Unseen__check_right ?l_Unseen__check_right ?c_Unseen__check_right ?k_Unseen__check_right ?ma_Unseen_withdraw ?mb_Unseen_withdraw ?l_Unseen_withdraw ?c_Unseen_withdraw ?k_Unseen_withdraw ?ma_Unseen_verdicts ?mb_Unseen_verdicts ?l_Unseen_verdicts ?c_Unseen_verdicts ?k_Unseen_verdicts ?ma_Unseen_meet ?mb_Unseen_meet ?l_Unseen_meet ?c_Unseen_meet ?k_Unseen_meet ?ma_Unseen_judge ?mb_Unseen_judge ?l_Unseen_judge ?c_Unseen_judge ?k_Unseen_judge ?ma_Unseen_needless ?mb_Unseen_needless ?l_Unseen_needless ?c_Unseen_needless ?k_Unseen_needless ?ma_Unseen__is_needless ?mb_Unseen__is_needless ?l_Unseen__is_needless ?c_Unseen__is_needless ?k_Unseen__is_needless ?ma_Unseen_twin ?mb_Unseen_twin ?l_Unseen_twin ?c_Unseen_twin ?k_Unseen_twin ?m_RingError ?m_Missing ?m_NothingLeft ?mo ?mp ?lcd ?lC ?lT ?lP ?lN ?lH ?hm
    (case z_super => k_is)
    (case opq => k_is)
    (case a1 => k_is)
    (case l1 => k_is)
    (case c1 => k_is)
    (case k1 => k_is)
    (case a2 => k_is)
    (case l2 => k_is)
    (case c2 => k_is)
    (case k2 => k_is)
    (case a3 => k_is)
    (case l3 => k_is)
    (case c3 => k_is)
    (case k3 => k_is)
    (case a4 => k_is)
    (case l4 => k_is)
    (case c4 => k_is)
    (case k4 => k_is)
    (case a5 => k_is)
    (case l5 => k_is)
    (case c5 => k_is)
    (case k5 => k_is)
    (case a6 => k_is)
    (case l6 => k_is)
    (case c6 => k_is)
    (case k6 => k_is)
    (case a7 => k_is)
    (case l7 => k_is)
    (case c7 => k_is)
    (case k7 => k_is)
    (case a8 => k_is)
    (case l8 => k_is)
    (case c8 => k_is)
    (case k8 => k_is)
    (case a9 => k_is)
    (case l9 => k_is)
    (case c9 => k_is)
    (case k9 => k_is)
    (case a10 => k_is)
    (case l10 => k_is)
    (case c10 => k_is)
    (case k10 => k_is)
    (case t10 => k_is)
    (case a11 => k_is)
    (case l11 => k_is)
    (case c11 => k_is)
    (case k11 => k_is)
    (case a12 => k_is)
    (case l12 => k_is)
    (case c12 => k_is)
    (case k12 => k_is)
    (case a13 => k_is)
    (case l13 => k_is)
    (case c13 => k_is)
    (case k13 => k_is)
    (case a14 => k_is)
    (case l14 => k_is)
    (case c14 => k_is)
    (case k14 => k_is)
    (case a15 => k_is)
    (case l15 => k_is)
    (case c15 => k_is)
    (case k15 => k_is)
    (case a16 => k_is)
    (case l16 => k_is)
    (case c16 => k_is)
    (case k16 => k_is)
    (case a17 => k_is)
    (case l17 => k_is)
    (case c17 => k_is)
    (case k17 => k_is)
    (case a18 => k_is)
    (case l18 => k_is)
    (case c18 => k_is)
    (case k18 => k_is)
    (case a19 => k_is)
    (case l19 => k_is)
    (case c19 => k_is)
    (case k19 => k_is)
    (case a20 => k_is)
    (case l20 => k_is)
    (case c20 => k_is)
    (case k20 => k_is)
    (case a21 => k_is)
    (case l21 => k_is)
    (case c21 => k_is)
    (case k21 => k_is)
    (case a22 => k_is)
    (case l22 => k_is)
    (case c22 => k_is)
    (case k22 => k_is)
    (case a23 => k_is)
    (case l23 => k_is)
    (case c23 => k_is)
    (case k23 => k_is)
    (case a24 => k_is)
    (case l24 => k_is)
    (case c24 => k_is)
    (case k24 => k_is)
    (case a25 => k_is)
    (case l25 => k_is)
    (case c25 => k_is)
    (case k25 => k_is)
    (case a26 => k_is)
    (case l26 => k_is)
    (case c26 => k_is)
    (case k26 => k_is)
    (case a27 => k_is)
    (case l27 => k_is)
    (case c27 => k_is)
    (case k27 => k_is)
    (case a28 => k_is)
    (case l28 => k_is)
    (case c28 => k_is)
    (case k28 => k_is)
    (case a29 => k_is)
    (case l29 => k_is)
    (case c29 => k_is)
    (case k29 => k_is)
    (case a30 => k_is)
    (case l30 => k_is)
    (case c30 => k_is)
    (case k30 => k_is)
    (case a31 => k_is)
    (case l31 => k_is)
    (case c31 => k_is)
    (case k31 => k_is)
    (case a32 => k_is)
    (case l32 => k_is)
    (case c32 => k_is)
    (case k32 => k_is)
    (case a33 => k_is)
    (case l33 => k_is)
    (case c33 => k_is)
    (case k33 => k_is)
    (case a34 => k_is)
    (case l34 => k_is)
    (case c34 => k_is)
    (case k34 => k_is)
    (case a35 => k_is)
    (case l35 => k_is)
    (case c35 => k_is)
    (case k35 => k_is)
    (case a36 => k_is)
    (case l36 => k_is)
    (case c36 => k_is)
    (case k36 => k_is)
    (case a37 => k_is)
    (case l37 => k_is)
    (case c37 => k_is)
    (case k37 => k_is)
    (case a38 => k_is)
    (case l38 => k_is)
    (case c38 => k_is)
    (case k38 => k_is)
    (case a39 => k_is)
    (case l39 => k_is)
    (case c39 => k_is)
    (case k39 => k_is)
    (case a40 => k_is)
    (case l40 => k_is)
    (case c40 => k_is)
    (case k40 => k_is)
    (case a41 => k_is)
    (case l41 => k_is)
    (case c41 => k_is)
    (case k41 => k_is)
    (case a42 => k_is)
    (case l42 => k_is)
    (case c42 => k_is)
    (case k42 => k_is)
    (case a43 => k_is)
    (case l43 => k_is)
    (case c43 => k_is)
    (case k43 => k_is)
    (case a44 => k_is)
    (case l44 => k_is)
    (case c44 => k_is)
    (case k44 => k_is)
    (case a45 => k_is)
    (case l45 => k_is)
    (case c45 => k_is)
    (case k45 => k_is)
    (case a46 => k_is)
    (case l46 => k_is)
    (case c46 => k_is)
    (case k46 => k_is)
    (case a47 => k_is)
    (case l47 => k_is)
    (case c47 => k_is)
    (case k47 => k_is)
    (case a48 => k_is)
    (case l48 => k_is)
    (case c48 => k_is)
    (case k48 => k_is)
    (case a49 => k_is)
    (case l49 => k_is)
    (case c49 => k_is)
    (case k49 => k_is)
    (case a50 => k_is)
    (case l50 => k_is)
    (case c50 => k_is)
    (case k50 => k_is)
    (case a51 => k_is)
    (case l51 => k_is)
    (case c51 => k_is)
    (case k51 => k_is)
    (case a52 => k_is)
    (case l52 => k_is)
    (case c52 => k_is)
    (case k52 => k_is)
    (case z_IndexError => k_is)
    (case z_LookupError => k_is)
    (case z_ValueError => k_is)
    (case z_abs => k_is)
    (case z_all => k_is)
    (case z_any => k_is)
    (case z_bool => k_is)
    (case z_divmod => k_is)
    (case z_enumerate => k_is)
    (case z_int => k_is)
    (case z_isinstance => k_is)
    (case z_len => k_is)
    (case z_list => k_is)
    (case z_max => k_is)
    (case z_range => k_is)
    (case z_sorted => k_is)
    (case z_str => k_is)
    (case z_tuple => k_is)
    (case z_zip => k_is)
    (case m_gcd => k_is)
    (case m_lcm => k_is)
    (case m_MOST_RADICAL => k_is)
    (case m_MOST_MODULUS => k_is)
    (case m_MOST_PART => k_is)
    (case m_MOST_NUMBER => k_is)
    (case m_RingError => k_is)
    (case m_Missing => k_is)
    (case m_NothingLeft => k_is)
    (case topSuper => kernel_rfl)
    (case ea_InvalidNumber => k_is)
    (case eb_InvalidNumber => k_is)
    (case ec_InvalidNumber => first | rfl | kernel_rfl)
    (case ed_InvalidNumber => kernel_rfl)
    (case ee_InvalidNumber => k_is)
    (case ef_InvalidNumber => k_is)
    (case eg_InvalidNumber => k_is)
    (case eh_InvalidNumber => k_is)
    (case ei_InvalidNumber => k_is)
    (case ej_InvalidNumber => k_is)
    (case ek_InvalidNumber => k_is)
    (case el_InvalidNumber => k_is)
    (case em_InvalidNumber => k_is)
    (case en_InvalidNumber => k_is)
    (case eo_InvalidNumber => k_is)
    (case ep_InvalidNumber => k_is)
    (case eq_InvalidNumber => k_is)
    (case er_InvalidNumber => k_is)
    (case es_InvalidNumber => k_is)
    (case et_InvalidNumber => k_is)
    (case eu_InvalidNumber => k_is)
    (case ev_InvalidNumber => rfl)
    (case ex_InvalidNumber => exact ⟨_, fun env => rfl⟩)
    (case ew_InvalidNumber => kernel_rfl)
    (case ea_Unsound => k_is)
    (case eb_Unsound => k_is)
    (case ec_Unsound => first | rfl | kernel_rfl)
    (case ed_Unsound => kernel_rfl)
    (case ee_Unsound => k_is)
    (case ef_Unsound => k_is)
    (case eg_Unsound => k_is)
    (case eh_Unsound => k_is)
    (case ei_Unsound => k_is)
    (case ej_Unsound => k_is)
    (case ek_Unsound => k_is)
    (case el_Unsound => k_is)
    (case em_Unsound => k_is)
    (case en_Unsound => k_is)
    (case eo_Unsound => k_is)
    (case ep_Unsound => k_is)
    (case eq_Unsound => k_is)
    (case er_Unsound => k_is)
    (case es_Unsound => k_is)
    (case et_Unsound => k_is)
    (case eu_Unsound => k_is)
    (case ev_Unsound => rfl)
    (case ex_Unsound => exact ⟨_, fun env => rfl⟩)
    (case ew_Unsound => kernel_rfl)
    (case cg_Realm => k_is)
    (case c1_Realm => k_is)
    (case c2_Realm => k_is)
    (case c3_Realm => k_is)
    (case c4_Realm => k_is)
    (case c5_Realm => k_is)
    (case c6_Realm => k_is)
    (case ia_Realm => k_is)
    (case ib_Realm => k_is)
    (case ic_Realm => k_is)
    (case id_Realm => k_is)
    (case no_Realm__normal => k_is)
    (case ff0_Realm => first | kernel_rfl | rfl)
    (case ff1_Realm => first | kernel_rfl | rfl)
    (case ff2_Realm => first | k_is | kernel_rfl | rfl)
    (case ff3_Realm => first | k_is | kernel_rfl | rfl)
    (case ma_Realm_init => k_is)
    (case mb_Realm_init => k_is)
    (case l_Realm_init => k_is)
    (case c_Realm_init => k_is)
    (case k_Realm_init => k_is)
    (case kw_Realm_init_inverse => k_is)
    (case kw_Realm_init_ones => k_is)
    (case kw_Realm_init_swaps => k_is)
    (case kw_Realm_init_squares => k_is)
    (case mk_Realm => k_is)
    (case kc_Realm => k_is)
    (case pa_Realm_inverse => k_is)
    (case pb_Realm_inverse => k_is)
    (case pc_Realm_inverse => k_is)
    (case pd_Realm_inverse => k_is)
    (case l_Realm_inverse => k_is)
    (case c_Realm_inverse => k_is)
    (case k_Realm_inverse => k_is)
    (case pa_Realm_ones => k_is)
    (case pb_Realm_ones => k_is)
    (case pc_Realm_ones => k_is)
    (case pd_Realm_ones => k_is)
    (case l_Realm_ones => k_is)
    (case c_Realm_ones => k_is)
    (case k_Realm_ones => k_is)
    (case pa_Realm_swaps => k_is)
    (case pb_Realm_swaps => k_is)
    (case pc_Realm_swaps => k_is)
    (case pd_Realm_swaps => k_is)
    (case l_Realm_swaps => k_is)
    (case c_Realm_swaps => k_is)
    (case k_Realm_swaps => k_is)
    (case pa_Realm_squares => k_is)
    (case pb_Realm_squares => k_is)
    (case pc_Realm_squares => k_is)
    (case pd_Realm_squares => k_is)
    (case l_Realm_squares => k_is)
    (case c_Realm_squares => k_is)
    (case k_Realm_squares => k_is)
    (case sa_Realm_everywhere => k_is)
    (case sb_Realm_everywhere => k_is)
    (case l_Realm_everywhere => k_is)
    (case c_Realm_everywhere => k_is)
    (case k_Realm_everywhere => k_is)
    (case ma_Realm_eq => k_is)
    (case mb_Realm_eq => k_is)
    (case l_Realm_eq => k_is)
    (case c_Realm_eq => k_is)
    (case k_Realm_eq => k_is)
    (case ma_Realm_and => k_is)
    (case mb_Realm_and => k_is)
    (case l_Realm_and => k_is)
    (case c_Realm_and => k_is)
    (case k_Realm_and => k_is)
    (case ma_Realm_bool => k_is)
    (case mb_Realm_bool => k_is)
    (case l_Realm_bool => k_is)
    (case c_Realm_bool => k_is)
    (case k_Realm_bool => k_is)
    (case ma_Realm_within => k_is)
    (case mb_Realm_within => k_is)
    (case l_Realm_within => k_is)
    (case c_Realm_within => k_is)
    (case k_Realm_within => k_is)
    (case cg_Timeline => k_is)
    (case c1_Timeline => k_is)
    (case c2_Timeline => k_is)
    (case c3_Timeline => k_is)
    (case c4_Timeline => k_is)
    (case c5_Timeline => k_is)
    (case c6_Timeline => k_is)
    (case ia_Timeline => k_is)
    (case ib_Timeline => k_is)
    (case ic_Timeline => k_is)
    (case id_Timeline => k_is)
    (case no_Timeline_state => k_is)
    (case no_Timeline__undone => k_is)
    (case no_Timeline__done => k_is)
    (case ma_Timeline_init => k_is)
    (case mb_Timeline_init => k_is)
    (case l_Timeline_init => k_is)
    (case c_Timeline_init => k_is)
    (case k_Timeline_init => k_is)
    (case mk_Timeline => k_is)
    (case kc_Timeline => k_is)
    (case ma_Timeline_move => k_is)
    (case mb_Timeline_move => k_is)
    (case l_Timeline_move => k_is)
    (case c_Timeline_move => k_is)
    (case k_Timeline_move => k_is)
    (case ma_Timeline_twin => k_is)
    (case mb_Timeline_twin => k_is)
    (case l_Timeline_twin => k_is)
    (case c_Timeline_twin => k_is)
    (case k_Timeline_twin => k_is)
    (case cg_Unseen => k_is)
    (case c1_Unseen => k_is)
    (case c2_Unseen => k_is)
    (case c3_Unseen => k_is)
    (case c4_Unseen => k_is)
    (case c5_Unseen => k_is)
    (case c6_Unseen => k_is)
    (case ia_Unseen => k_is)
    (case ib_Unseen => k_is)
    (case ic_Unseen => k_is)
    (case id_Unseen => k_is)
    (case no_Unseen__line => k_is)
    (case ma_Unseen_init => k_is)
    (case mb_Unseen_init => k_is)
    (case l_Unseen_init => k_is)
    (case c_Unseen_init => k_is)
    (case k_Unseen_init => k_is)
    (case mk_Unseen => k_is)
    (case kc_Unseen => k_is)
    (case ma_Unseen_len => k_is)
    (case mb_Unseen_len => k_is)
    (case l_Unseen_len => k_is)
    (case c_Unseen_len => k_is)
    (case k_Unseen_len => k_is)
    (case ma_Unseen_note => k_is)
    (case mb_Unseen_note => k_is)
    (case l_Unseen_note => k_is)
    (case c_Unseen_note => k_is)
    (case k_Unseen_note => k_is)
    (case ma_Unseen__check_space => k_is)
    (case mb_Unseen__check_space => k_is)
    (case l_Unseen__check_space => k_is)
    (case c_Unseen__check_space => k_is)
    (case k_Unseen__check_space => k_is)
    (case ma_Unseen__check_right => k_is)
    (case mb_Unseen__check_right => k_is)
    (case l_Unseen__check_right => k_is)
    (case c_Unseen__check_right => k_is)
    (case k_Unseen__check_right => k_is)
    (case ma_Unseen_withdraw => k_is)
    (case mb_Unseen_withdraw => k_is)
    (case l_Unseen_withdraw => k_is)
    (case c_Unseen_withdraw => k_is)
    (case k_Unseen_withdraw => k_is)
    (case ma_Unseen_verdicts => k_is)
    (case mb_Unseen_verdicts => k_is)
    (case l_Unseen_verdicts => k_is)
    (case c_Unseen_verdicts => k_is)
    (case k_Unseen_verdicts => k_is)
    (case ma_Unseen_meet => k_is)
    (case mb_Unseen_meet => k_is)
    (case l_Unseen_meet => k_is)
    (case c_Unseen_meet => k_is)
    (case k_Unseen_meet => k_is)
    (case ma_Unseen_judge => k_is)
    (case mb_Unseen_judge => k_is)
    (case l_Unseen_judge => k_is)
    (case c_Unseen_judge => k_is)
    (case k_Unseen_judge => k_is)
    (case ma_Unseen_needless => k_is)
    (case mb_Unseen_needless => k_is)
    (case l_Unseen_needless => k_is)
    (case c_Unseen_needless => k_is)
    (case k_Unseen_needless => k_is)
    (case ma_Unseen__is_needless => k_is)
    (case mb_Unseen__is_needless => k_is)
    (case l_Unseen__is_needless => k_is)
    (case c_Unseen__is_needless => k_is)
    (case k_Unseen__is_needless => k_is)
    (case ma_Unseen_twin => k_is)
    (case mb_Unseen_twin => k_is)
    (case l_Unseen_twin => k_is)
    (case c_Unseen_twin => k_is)
    (case k_Unseen_twin => k_is)
    (case mo => k_is)
    (case mp => k_is)
    (case lcd => rfl)
    (case lC => k_is)
    (case lT => rfl)
    (case lP => exact My.in_head Y)
    (case lN => kernel_rfl)
    (case lH => kernel_rfl)
    (case hm => kernel_rfl)

